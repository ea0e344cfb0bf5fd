import PyProof.Rows.All
import Wide.All
import OpenK.AllK
import Wide.FinOn
import Lean
import PyProof.EqAt
import PyProof.EqKinds
import PyProof.TupleCall
import PyProof.Draws
import PyProof.WalksMore
import PyProof.EnumMake
import PyProof.FitsBits
import KE.KSortTup
import PySem.Challenge.RW_platecuts_k81_tellings_told
set_option Elab.async false
set_option linter.all false
set_option maxRecDepth 100000
namespace L2
open PySem PySem.Spec PyProof.Rows
abbrev Key:=Sum Int Str
def oU:Key→Value→Bool
 | .inl k,v=>Value.isInt k v
 | .inr x,v=>Value.isStrOf x v
def zh (w:World):Key→Int
 | .inl k=>hashInt k
 | .inr x=>hashStr w x
theorem aS:∀ {k:Key} {v:Value},oU k v=true→(∃i t,k=Sum.inl i∧v=Value.int i t)∨(∃x t,k=Sum.inr x∧v=Value.str x t)
 | .inl i,v,h=>by
  obtain ⟨t,e⟩:=Value.isInt_shape (k:=i) (v:=v) h
  exact .inl ⟨i,t,rfl,e⟩
 | .inr x,v,h=>by
  obtain ⟨t,e⟩:=Value.isStrOf_shape (x:=x) (v:=v) h
  exact .inr ⟨x,t,rfl,e⟩
theorem pF (a b:Int):decide ((Sum.inl a:Key)=Sum.inl b)=(a == b):=by
 by_cases e:a=b
 ·subst e; simp
 ·have h:¬ (Sum.inl a:Key)=Sum.inl b:=fun q=>e (Sum.inl.inj q)
  rw [decide_eq_false h]
  exact (beq_eq_false_iff_ne.mpr e).symm
theorem pG (a b:Str):decide ((Sum.inr a:Key)=Sum.inr b)=decide (a=b):=by
 by_cases e:a=b
 ·subst e; simp
 ·have h:¬ (Sum.inr a:Key)=Sum.inr b:=fun q=>e (Sum.inr.inj q)
  rw [decide_eq_false h,decide_eq_false e]
theorem pH (a:Int) (b:Str):decide ((Sum.inl a:Key)=Sum.inr b)=false:=decide_eq_false (fun q=>nomatch q)
theorem pI (a:Str) (b:Int):decide ((Sum.inr a:Key)=Sum.inl b)=false:=decide_eq_false (fun q=>nomatch q)
def fT (prog:Program) (w:World):PySem.KeyKind prog w Key where
 is:=oU
 hash:=zh w
 inj:=fun v a b ha hb=>by
  rcases aS ha with ⟨i,t,rfl,rfl⟩ | ⟨x,t,rfl,rfl⟩
  ·rcases aS hb with ⟨j,u,rfl,e⟩ | ⟨y,u,rfl,e⟩
   ·injection e with e1 _; rw [e1]
   ·exact nomatch e
  ·rcases aS hb with ⟨j,u,rfl,e⟩ | ⟨y,u,rfl,e⟩
   ·exact nomatch e
   ·injection e with e1 _; rw [e1]
 byValue:=fun k v h=>by
  rcases aS h with ⟨i,t,rfl,rfl⟩ | ⟨x,t,rfl,rfl⟩ <;> rfl
 pyHash:=fun hv h=>by
  rcases aS hv with ⟨i,t,rfl,rfl⟩ | ⟨x,t,rfl,rfl⟩
  ·exact wpAny_pyHash_int h
  ·exact wpAny_pyHash_str h
 eqBool:=fun hu hv h=>by
  rcases aS hu with ⟨i,t,rfl,rfl⟩ | ⟨x,t,rfl,rfl⟩
  ·rcases aS hv with ⟨j,u,rfl,rfl⟩ | ⟨y,u,rfl,rfl⟩
   ·rw [pF] at h; exact wpAny_eqBool_int h
   ·rw [pH] at h; exact SeqAt.EqAt.int_str i t y u _ _ _ _ h
  ·rcases aS hv with ⟨j,u,rfl,rfl⟩ | ⟨y,u,rfl,rfl⟩
   ·rw [pI] at h; exact SeqAt.EqAt.str_int x t j u _ _ _ _ h
   ·rw [pG] at h; exact wpAny_eqBool_str h
 «strs» := fun k x t v h=>by
  rcases aS h with ⟨i,u,rfl,e⟩ | ⟨y,u,rfl,e⟩
  ·exact nomatch e
  ·injection e with e1 _
   subst e1
   cases v <;> rfl
end L2
namespace L2
open PySem PySem.Spec PyProof.Rows
inductive V where
 | non | bl (b:Bool) | int (i:Int) | str (x:Str) | byt (b:Array UInt8) | flt (b:UInt64) | ref (a:Addr) | ty (n:String)
 deriving DecidableEq
def RelV:V→Value→Prop
 | .non,u=>u=Value.none
 | .bl b,u=>u=Value.bool b
 | .int i,u=>∃t,u=Value.int i t
 | .str x,u=>∃t,u=Value.str x t
 | .byt b,u=>∃t,u=Value.bytes b t
 | .flt b,u=>∃t,u=Value.float b t
 | .ref a,u=>u=Value.ref a
 | .ty n,u=>u=Value.type n
abbrev Vals:List V→List Value→Prop:=Paired RelV
theorem Vals.length {xs:List V} {us:List Value} (r:Vals xs us):xs.length=us.length:=Paired.length r
theorem Vals.get:∀ {xs:List V} {us:List Value} {i:Nat} {x:V},Vals xs us→xs[i]? = some x→∃u,us[i]? = some u∧RelV x u
 | _,_,_,_,.nil,e=>by simp at e
 | _,_,0,_,.cons r _,e=>by simp at e; subst e; exact ⟨_,rfl,r⟩
 | _,_,i + 1,x,.cons _ t,e=>by
  obtain ⟨u,h1,h2⟩:=Vals.get (i:=i) (x:=x) t (by simpa using e)
  exact ⟨u,by simpa using h1,h2⟩
theorem Vals.set {x:V} {u:Value} (r:RelV x u):∀ {xs:List V} {us:List Value} (i:Nat),Vals xs us→Vals (xs.set i x) (us.set i u)
 | _,_,_,.nil=>.nil
 | _,_,0,.cons _ t=>.cons r t
 | _,_,i + 1,.cons q t=>.cons q (Vals.set r i t)
theorem Vals.append:∀ {xs ys:List V} {us ws:List Value},Vals xs us→Vals ys ws→Vals (xs ++ ys) (us ++ ws)
 | _,_,_,_,.nil,s=>s
 | _,_,_,_,.cons r t,s=>.cons r (Vals.append t s)
theorem Vals.take:∀ {xs:List V} {us:List Value} (n:Nat),Vals xs us→Vals (xs.take n) (us.take n)
 | _,_,0,_=>.nil
 | _,_,_ + 1,.nil=>.nil
 | _,_,n + 1,.cons r t=>.cons r (Vals.take n t)
theorem Vals.drop:∀ {xs:List V} {us:List Value} (n:Nat),Vals xs us→Vals (xs.drop n) (us.drop n)
 | _,_,0,r=>r
 | _,_,_ + 1,.nil=>.nil
 | _,_,n + 1,.cons _ t=>Vals.drop n t
def RelO:Option V→Option Value→Prop
 | some v,some u=>RelV v u
 | none,none=>True
 | _,_=>False
def KV {κ:Type}:List (κ×V)→List (κ×Value)→Prop:=Paired fun (p:κ×V) (q:κ×Value)=>p.1=q.1∧RelV p.2 q.2
def kV:Key→V
 | .inl i=>.int i
 | .inr x=>.str x
inductive HO where
 | lst (xs:List V)
 | tup (xs:List V)
 | dK (kvs:List (Key×V)) | dT (kvs:List (List Key×V))
 | set (S:Int→Bool) (n:Nat)
 | ins (C dx:Addr) (fs:List (Str×V))
 | own (x:Addr)
 | xd (fs:List (Str×V))
 | met (f x:Addr)
 | rng (lo hi:Int)
 | frz (o:Obj) (u:HO)
 | tbl (ps:Array Value)
 | ext (φ:Heap→Prop)
abbrev Hp:=Addr→Option HO
def upd (H:Hp) (a:Addr) (o:HO):Hp:=fun b=>if b=a then some o else H b
theorem af {H:Hp} {a:Addr} {o:HO}:upd H a o a=some o:=by unfold upd; rw [if_pos rfl]
theorem aj {H:Hp} {a b:Addr} {o:HO} (h:b≠a):upd H a o b=H b:=by unfold upd; rw [if_neg h]
theorem ah {H:Hp} {a b:Addr} {o:HO} (h:H a=some o) (h':H b=none):a≠b:=by
 intro e; subst e; rw [h] at h'; cases h'
section
variable (P:Program) (w:World)
def ObjOk (H:Hp) (h:Heap) (a:Addr):HO→Prop
 | .lst xs=>xs.length≤sizeLine∧∃ (its:List Value) (n:Nat),Vals xs its∧h.get? a=some { cls:=.type "list",data:=.seq its.toArray n }
 | .tup xs=>xs.length≤sizeLine∧∃its:List Value,Vals xs its∧IsTup h a its.toArray
 | .dK kvs=>kvs.length≤sizeLine∧(a == sysModules)=false∧∃vs,KV kvs vs∧h.DictOf (fT P w) a vs
 | .dT kvs=>kvs.length≤sizeLine∧(a == sysModules)=false∧∃xs:List (List Key×Addr×Value),
   Paired (fun (p:List Key×V) (q:List Key×Addr×Value)=>p.1=q.1∧H q.2.1=some (.tup (p.1.map kV))∧RelV p.2 q.2.2) kvs xs ∧
   ∃o es ep,h.get? a=some o∧o.ExactDict∧o.data=.dict es ep∧es.toList=xs.map (entryOfKey (tupleKind (fT P w)))∧(xs.map (·.1)).Nodup
 | .set S n=>h.SetOf (intKind P w) a S n
 | .ins C dx fs=>H dx=some (.own a)∧fs.length≤1000∧dx≠a∧h.get? a=some (PySem.W.instObj C dx) ∧
   ∃mA,h.Ns1 dx mA∧(∀f,RelO (fs.lookup f) (mA f))∧PySem.Within mA (fs.map (·.1))
 | .own _=>∃o,h.get? a=some o
 | .xd fs=>∃mA,h.Ns1 a mA∧∀f,RelO (fs.lookup f) (mA f)
 | .rng lo hi=>∃t u v,h.get? a=some { cls:=.type "range",data:=.fields #[.int lo t,.int hi u,.int 1 v] }
 | .frz o u=>h.get? a=some o∧ObjOk H h a u
 | .tbl ps=>h.get? a=some { cls:=.none,data:=.fields ps }
 | .met f x=>h.get? a=some (PySem.W.methodObj (.ref f) (.ref x))
 | .ext φ=>φ h∧(∃o,h.get? a=some o)∧∀h1 h2:Heap,φ h1→(∀o,h1.get? a=some o→h2.get? a=some o)→φ h2
def HOk (H:Hp) (h:Heap):Prop:=∀a o,H a=some o→ObjOk P w H h a o
end
section
variable {P:Program} {w:World} {H H':Hp} {h h':Heap} {a:Addr} {o:HO}
theorem ObjOk.lt (x:ObjOk P w H h a o):a < h.objs.size:=by
 cases o with
 | lst xs=>obtain ⟨_,_,_,_,e⟩:=x; exact Heap.lt_size e
 | tup xs=>obtain ⟨_,_,_,p⟩:=x; exact p.lt
 | dK kvs=>obtain ⟨_,_,_,_,o,_,_,e,_⟩:=x; exact Heap.lt_size e
 | dT kvs=>obtain ⟨_,_,_,_,o,_,_,e,_⟩:=x; exact Heap.lt_size e
 | set S n=>obtain ⟨o,_,_,_,e,_⟩:=x; exact Heap.lt_size e
 | ins C dx fs=>obtain ⟨_,_,_,e,_⟩:=x; exact Heap.lt_size e
 | own y=>obtain ⟨_,e⟩:=x; exact Heap.lt_size e
 | xd fs=>obtain ⟨_,⟨_,_,_,e,_⟩,_⟩:=x; exact Heap.lt_size e
 | rng lo hi=>obtain ⟨_,_,_,e⟩:=x; exact Heap.lt_size e
 | frz ob u=>obtain ⟨e,_⟩:=x; exact Heap.lt_size e
 | tbl ps=>exact Heap.lt_size (show h.get? a=some _ from x)
 | met f y=>exact Heap.lt_size (show h.get? a=some _ from x)
 | ext φ=>obtain ⟨_,⟨_,e⟩,_⟩:=x; exact Heap.lt_size e
theorem Paired.mapP {α β:Type} {F G:α→β→Prop}:∀ {l₁:List α} {l₂:List β},Paired F l₁ l₂→(∀a b,F a b→G a b)→Paired G l₁ l₂
 | _,_,.nil,_=>.nil
 | _,_,.cons r t,f=>.cons (f _ _ r) (Paired.mapP t f)
theorem ObjOk.stay (x:ObjOk P w H h a o) (k:∀b u,(b=a∨H b=some (.own a))→h.get? b=some u→h'.get? b=some u)
  (ho:∀b,H b=some (.own a)→H' b=some (.own a)) (ht:∀b xs,H b=some (.tup xs)→H' b=some (.tup xs)):ObjOk P w H' h' a o:=by
 induction o with
 | lst xs=>obtain ⟨z,its,n,r,e⟩:=x; exact ⟨z,its,n,r,k _ _ (.inl rfl) e⟩
 | tup xs=>obtain ⟨z,its,r,ob,e,c⟩:=x; exact ⟨z,its,r,ob,k _ _ (.inl rfl) e,c⟩
 | dK kvs=>obtain ⟨z,y,vs,r,ob,es,ep,e,c⟩:=x; exact ⟨z,y,vs,r,ob,es,ep,k _ _ (.inl rfl) e,c⟩
 | dT kvs =>
  obtain ⟨z,y,xs,r,ob,es,ep,e,c⟩:=x
  exact ⟨z,y,xs,Paired.mapP r fun p q z=>⟨z.1,ht _ _ z.2.1,z.2.2⟩,ob,es,ep,k _ _ (.inl rfl) e,c⟩
 | set S n=>obtain ⟨ob,es,ep,t,e,c⟩:=x; exact ⟨ob,es,ep,t,k _ _ (.inl rfl) e,c⟩
 | ins C dx fs =>
  obtain ⟨d,z,ne,e,mA,⟨od,es,ep,e2,c⟩,r⟩:=x
  exact ⟨ho _ d,z,ne,k _ _ (.inl rfl) e,mA,⟨od,es,ep,k _ _ (.inr d) e2,c⟩,r⟩
 | own y=>obtain ⟨ob,e⟩:=x; exact ⟨ob,k _ _ (.inl rfl) e⟩
 | xd fs=>obtain ⟨mA,⟨od,es,ep,e,c⟩,r⟩:=x; exact ⟨mA,⟨od,es,ep,k _ _ (.inl rfl) e,c⟩,r⟩
 | rng lo hi=>obtain ⟨t,u,v,e⟩:=x; exact ⟨t,u,v,k _ _ (.inl rfl) e⟩
 | frz ob u ih=>obtain ⟨e,q⟩:=x; exact ⟨k _ _ (.inl rfl) e,ih q⟩
 | tbl ps =>
  have e:h.get? a=some { cls:=.none,data:=.fields ps }:=x
  show h'.get? a=some { cls:=.none,data:=.fields ps }
  exact k a _ (.inl rfl) e
 | met f y =>
  have e:h.get? a=some (PySem.W.methodObj (.ref f) (.ref y)):=x
  show h'.get? a=some (PySem.W.methodObj (.ref f) (.ref y))
  exact k a _ (.inl rfl) e
 | ext φ=>obtain ⟨p,⟨o,e⟩,st⟩:=x; exact ⟨st _ _ p fun o q=>k _ _ (.inl rfl) q,⟨o,k _ _ (.inl rfl) e⟩,st⟩
theorem HOk.lt (x:HOk P w H h) (e:H a=some o):a < h.objs.size:=(x a o e).lt
theorem HOk.fresh (x:HOk P w H h) (e:h.objs.size≤a):H a=none:=by
 cases q:H a with
 | none=>rfl
 | some u=>exact absurd (Nat.lt_of_lt_of_le (x.lt q) e) (Nat.lt_irrefl _)
theorem HOk.kept (x:HOk P w H h) (k:∀b u,h.get? b=some u→h'.get? b=some u):HOk P w H h':=fun a o e =>
 (x a o e).stay (fun b u _ q=>k b u q) (fun _ q=>q) fun _ _ q=>q
theorem HOk.laid (x:HOk P w H h) (k:∀b u,h.get? b=some u→h'.get? b=some u) (hp:h.objs.size≤a) (new:ObjOk P w (upd H a o) h' a o):HOk P w (upd H a o) h':=fun b u e=>by
 have hn:=x.fresh hp
 by_cases hb:b=a
 ·subst hb; rw [af] at e; cases e; exact new
 ·rw [aj hb] at e
  exact (x b u e).stay (fun c v _ q=>k c v q) (fun c q=>by rw [aj (ah q hn)]; exact q) fun c xs q=>by rw [aj (ah q hn)]; exact q
end
def Rd (H:Hp) (a:Addr) (u:HO):Prop:=H a=some u∨∃o,H a=some (.frz o u)
theorem Rd.ok {P:Program} {w:World} {H:Hp} {h:Heap} {a:Addr} {u:HO} (r:Rd H a u) (x:HOk P w H h):ObjOk P w H h a u:=by
 rcases r with r | ⟨o,r⟩
 ·exact x a u r
 ·obtain ⟨_,q⟩:=x a _ r
  exact q
def Mut:Option HO→Prop
 | some (.lst _)=>True
 | some (.dK _)=>True
 | some (.dT _)=>True
 | some (.set _ _)=>True
 | some (.ins _ _ _)=>True
 | some (.ext _)=>True
 | _=>False
section
variable {P:Program} {w:World} {H:Hp} {h h':Heap} {x e:Addr} {o':HO}
theorem HOk.write (ok:HOk P w H h) (mu:Mut (H x)) (he:e=x∨H e=some (.own x)) (k:∀b u,b≠e→h.get? b=some u→h'.get? b=some u) (heo:∃u,h'.get? e=some u)
  (new:ObjOk P w (upd H x o') h' x o'):HOk P w (upd H x o') h':=fun b u q=>by
 have nown:∀c y,H c=some (.own y)→c≠x:=fun c y r z=>by subst z; rw [r] at mu; exact mu
 have ntup:∀c xs,H c=some (.tup xs)→c≠x:=fun c xs r z=>by subst z; rw [r] at mu; exact mu
 by_cases hb:b=x
 ·subst hb; rw [af] at q; cases q; exact new
 ·rw [aj hb] at q
  by_cases hbe:b=e
  ·have q':H b=some (.own x):=by
    rcases he with z | z
    ·exact absurd (hbe.trans z) hb
    ·rw [hbe]; exact z
   rw [q] at q'; cases q'
   obtain ⟨v,hv⟩:=heo
   exact ⟨v,by rw [hbe]; exact hv⟩
  ·refine (ok b u q).stay (fun c v hc r=>k c v ?_ r) (fun c r=>by rw [aj (nown c b r)]; exact r) fun c xs r=>by rw [aj (ntup c xs r)]; exact r
   rcases hc with rfl | hc
   ·exact hbe
   ·rintro rfl
    rcases he with z | z
    ·exact nown c b hc z
    ·rw [hc] at z; cases z; exact hb rfl
end
structure Un (fs ex:List Addr) (H H':Hp) (h h':Heap):Prop where
 keep:∀b o,h.get? b=some o→H b=none→b∉fs→b∉ex→h'.get? b=some o
 slot:∀b o,h.get? b=some o→H b=none→b∈fs→b∉ex→∃sl,h'.get? b=some { o with slots:=sl }
 free:∀b o,h.get? b=some o→H b=none→b∉ex→H' b=none
 there:∀b o,h.get? b=some o→b∉ex→∃o',h'.get? b=some o'
 tups:∀b xs,H b=some (.tup xs)→H' b=some (.tup xs)
 frzs:∀b o u,H b=some (.frz o u)→H' b=some (.frz o u)
 tbls:∀b ps,H b=some (.tbl ps)→∃more,H' b=some (.tbl (ps ++ more))
section
variable {fs fs' ex ex':List Addr} {H H1 H2:Hp} {h h1 h2 h':Heap} {a x e:Addr} {o:HO}
theorem Un.any (u:Un fs ex H H1 h h1) {b:Addr} {ob:Obj} (q:h.get? b=some ob) (n:H b=none) (hx:b∉ex):∃sl,h1.get? b=some { ob with slots:=sl }:=by
 by_cases hb:b∈fs
 ·exact u.slot b ob q n hb hx
 ·exact ⟨ob.slots,u.keep b ob q n hb hx⟩
theorem Un.kept (k:∀b u,h.get? b=some u→h'.get? b=some u):Un fs ex H H h h' :=
 ⟨fun b ob q _ _ _=>k b ob q,fun b ob q _ _ _=>⟨ob.slots,k b ob q⟩,fun _ _ _ n _=>n,fun b ob q _=>⟨ob,k b ob q⟩,fun _ _ q=>q,fun _ _ _ q=>q,fun _ ps q=>⟨#[],by rw [q]; simp⟩⟩
theorem Un.refl:Un fs ex H H h h:=Un.kept fun _ _ q=>q
theorem Un.laid (k:∀b u,h.get? b=some u→h'.get? b=some u) (hp:h.objs.size≤a) (hn:H a=none):Un fs ex H (upd H a o) h h' where
 keep:=fun b u q _ _ _=>k b u q
 slot:=fun b u q _ _ _=>⟨u.slots,k b u q⟩
 free:=fun b u q n _=>by rw [aj (Nat.ne_of_lt (Nat.lt_of_lt_of_le (Heap.lt_size q) hp))]; exact n
 there:=fun b u q _=>⟨u,k b u q⟩
 tups:=fun b xs q=>by rw [aj (ah q hn)]; exact q
 frzs:=fun b u xs q=>by rw [aj (ah q hn)]; exact q
 tbls:=fun b ps q=>⟨#[],by rw [aj (ah q hn),q]; simp⟩
theorem Un.write (mu:Mut (H x)) (he:e=x∨H e=some (.own x)) (k:∀b u,b≠e→h.get? b=some u→h'.get? b=some u) (heo:∃u,h'.get? e=some u):Un fs ex H (upd H x o) h h':=by
 have hx:∀b,H b=none→b≠x:=fun b n z=>by subst z; rw [n] at mu; exact mu
 have hb:∀b,H b=none→b≠e:=fun b n z=>by
  subst z
  rcases he with r | r
  ·exact hx b n r
  ·rw [n] at r; cases r
 have hm:∀b u,H b=some u→¬ Mut (some u)→b≠x:=fun b u q nm z=>by subst z; rw [q] at mu; exact nm mu
 refine ⟨fun b u q n _ _=>k b u (hb b n) q,fun b u q n _ _=>⟨u.slots,k b u (hb b n) q⟩,fun b u q n _=>by rw [aj (hx b n)]; exact n,fun b u q _=>?_,
  fun b xs q=>by rw [aj (hm b _ q fun z=>z)]; exact q,fun b u xs q=>by rw [aj (hm b _ q fun z=>z)]; exact q,fun b ps q=>⟨#[],by rw [aj (hm b _ q fun z=>z),q]; simp⟩⟩
 by_cases hbe:b=e
 ·subst hbe; exact heo
 ·exact ⟨u,k b u hbe q⟩
end
def trk (h:Heap) (H:Hp):List Addr:=(List.range h.objs.size).filter fun a=>(H a).isSome
def fU (h:Heap) (H:Hp):Heap:=PySem.W.hideAll h (trk h H)
theorem jO (h:Heap) (H:Hp):(fU h H).objs.size=h.objs.size:=PySem.W.hideAll_size _ _
theorem lF {h:Heap} {H:Hp} {b:Addr} {o:Obj} (e:h.get? b=some o) (n:H b=none):(fU h H).get? b=some o :=
 PySem.W.hideAll_get _ e fun hm=>by
  have q:(H b).isSome=true:=(List.mem_filter.mp hm).2
  rw [n] at q; simp at q
theorem nI {h:Heap} {H:Hp} {b:Addr} {o:Obj} (e:(fU h H).get? b=some o):h.get? b=some o∧H b=none:=by
 have e':h.get? b=some o:=PySem.W.of_hideAll (trk h H) e
 refine ⟨e',?_⟩
 cases q:H b with
 | none=>rfl
 | some x =>
  have hm:b∈trk h H:=List.mem_filter.mpr ⟨List.mem_range.mpr (Heap.lt_size e'),by simp [q]⟩
  have z:(fU h H).get? b=none:=PySem.W.hideAll_none (trk h H) hm
  rw [z] at e; cases e
def nJ (g h:Heap) (L:Addr):List (Addr×Obj):=(List.range h.objs.size).filterMap fun a=>if a=L∨(g.get? a).isSome=true then none else (h.get? a).map fun o=>(a,o)
def rest (g h:Heap) (L d:Addr):List (Addr×Obj):=(nJ g h L).filter fun p=>decide (p.1≠d)
end L2
namespace L2
open PySem PySem.Spec PyProof.Rows
structure Mod (K:PySem.W.Frag) (mg:Str→Option Value) (base:Heap):Prop where
 kin:K.In base
 glob:base.Ns mainGlobals mg
 blt:∃mb,base.Ns builtinsNs mb∧∀x:Str,x ≠ "__name__" → mb x=bootBuiltins x
 nolimit:base.NoLimit
/-- the context: a def's body (or a comprehension's block) running. base: fixed through the aL law; s₀,H₀: the entry; outer: the frames whose slots others may change (a def's callers); stack: all frames that run;
   ex: iterators that were made ahead of the entry and are walked here (a comprehension's); fn: the names whose cells were made at the entry (a def: all; a comprehension's block: its own); calm: not within an except suite; pn: pins that every state bears; xe: what is wanted of an exception that leaves the code -/
structure Cx where
 prog:Program
 w:World
 K:PySem.W.Frag
 mg:Str→Option Value
 base:Heap
 A:Around
 N:List Str
 s₀:Shared
 H₀:Hp
 env:Env
 outer:List Env
 stack:List Env
 ex:List Addr
 fn:Str→Bool
 calm:Bool
 pn:List (Addr×Obj)
 xe:Value→Shared→Prop
def frs (l:List Env):List Addr:=l.filterMap (·.frame)
abbrev Cx.fs (X:Cx):List Addr:=frs X.outer
def Vis (sc:Scope) (x:Str):Prop:=sc.names.lookup x=some .local∨sc.names.lookup x=some .cell∨sc.names.lookup x=some .free
def Loc (sc:Scope) (x:Str):Prop:=sc.names.lookup x=some .local∨sc.names.lookup x=some .cell
def zi (env:Env) (h:Heap) (m:Str→Option Value) (x:Str) (u:Value):Prop :=
 (env.kindOf x=some .local∧m x=some u)∨((env.kindOf x=some .cell∨env.kindOf x=some .free)∧∃c,env.cells.lookup x=some c∧h.IsCell c (some u))
structure Cx.Ok (X:Cx):Prop where
 mod:Mod X.K X.mg X.base
 kind:X.env.scope.kind=.function
 glob:X.env.globals=mainGlobals
 blt:X.env.builtins=builtinsNs
 above:X.s₀.heap.objs.size≤X.env.locals
 inj:∀x y c,X.env.cells.lookup x=some c→X.env.cells.lookup y=some c→x=y
 has:∀x,(X.env.kindOf x=some .cell∨X.env.kindOf x=some .free)→∃c,X.env.cells.lookup x=some c
 cab:∀x c,X.fn x=true→X.env.cells.lookup x=some c→X.s₀.heap.objs.size≤c
 hd:X.calm=true→X.A.handled=none
 frames:X.A.frames=some X.stack
 stk:X.stack=X.outer∨(X.stack=X.env :: X.outer∧X.env.frame=some X.env.locals)
 exf:∀b∈X.ex,b≠X.env.locals∧∀x c,X.env.cells.lookup x=some c→c≠b
 bs:∀b o,X.base.get? b=some o→X.s₀.heap.get? b=some o∧X.H₀ b=none
 bsz:X.base.objs.size≤X.s₀.heap.objs.size
 noex:∀b o,X.base.get? b=some o→b∉X.ex
 exfs:∀b∈X.ex,b∉X.fs
 funs:X.s₀.heap.FunFrames X.base X.outer
 frf:∀b∈X.fs,X.H₀ b=none
structure Inv (X:Cx) (pins:List (Addr×Obj)) (σ:List (Option V)) (H:Hp) (s:Shared):Prop where
 ok:X.Ok
 os:s.os=X.s₀.os
 bare:AllBare s.gens
 base:Un X.fs X.ex X.H₀ H X.s₀.heap s.heap
 loc:∃m,s.heap.Ns X.env.locals m∧∀ (i:Nat) (x:Str) (v:V),X.N[i]? = some x→σ[i]? = some (some v)→Vis X.env.scope x→∃u,RelV v u∧zi X.env s.heap m x u
 cell:∀x c,X.env.cells.lookup x=some c→∃v,s.heap.IsCell c v
 free:H X.env.locals=none
 freeC:∀x c,X.env.cells.lookup x=some c→H c=none
 pin:∀p∈X.pn ++ pins,s.heap.get? p.1=some p.2∧H p.1=none∧p.1≠X.env.locals∧p.1∉X.fs∧∀v,p.2.data≠.cell v
 hok:HOk X.prog X.w H s.heap
 len:σ.length=X.N.length
section
variable {X:Cx} {pins:List (Addr×Obj)} {σ:List (Option V)} {H H':Hp} {s:Shared} {h':Heap}
theorem Cx.Ok.nofr (ok:X.Ok) {b:Addr} {o:Obj} (e:X.base.get? b=some o):b∉X.fs:=fun hb=>by
 have:=(ok.funs.mem hb).1
 rw [e] at this; cases this
theorem Inv.bs (I:Inv X pins σ H s):∀b o,X.base.get? b=some o→s.heap.get? b=some o∧H b=none:=fun b o e =>
 ⟨I.base.keep b o (I.ok.bs b o e).1 (I.ok.bs b o e).2 (I.ok.nofr e) (I.ok.noex b o e),I.base.free b o (I.ok.bs b o e).1 (I.ok.bs b o e).2 (I.ok.noex b o e)⟩
theorem Inv.bk (I:Inv X pins σ H s):∀b o,X.base.get? b=some o→s.heap.get? b=some o:=fun b o e=>(I.bs b o e).1
theorem Inv.mod (I:Inv X pins σ H s):Mod X.K X.mg X.base:=I.ok.mod
theorem Inv.kIn (I:Inv X pins σ H s):X.K.In s.heap:=I.ok.mod.kin.keeps I.bk
theorem Inv.fr (I:Inv X pins σ H s):∃m,Fr X.base X.env.locals s.heap m :=
 let ⟨m,hn,_⟩:=I.loc
 ⟨m,hn,I.bk,Nat.le_trans I.ok.bsz I.ok.above⟩
theorem Inv.lt (I:Inv X pins σ H s):X.env.locals < s.heap.objs.size:=let ⟨_,hn,_⟩:=I.loc; hn.lt
theorem Inv.sz (I:Inv X pins σ H s):X.s₀.heap.objs.size≤s.heap.objs.size:=Nat.le_trans I.ok.above (Nat.le_of_lt I.lt)
theorem Inv.nofs (I:Inv X pins σ H s) {a:Addr} (h:s.heap.objs.size≤a):a∉X.fs:=fun hb=>by
 obtain ⟨_,o,ho,_⟩:=I.ok.funs.mem hb
 exact absurd (Nat.lt_of_lt_of_le (Heap.lt_size ho) (Nat.le_trans I.sz h)) (Nat.lt_irrefl _)
theorem Inv.cne (I:Inv X pins σ H s):∀x c,X.env.cells.lookup x=some c→c≠X.env.locals:=fun x c e z=>by
 obtain ⟨v,o,ho,hd⟩:=I.cell x c e
 obtain ⟨m,⟨o',es,ep,ho',hd',_⟩,_⟩:=I.loc
 rw [z,ho'] at ho; cases ho; rw [hd'] at hd; cases hd
theorem Inv.funs (I:Inv X pins σ H s):s.heap.FunFrames X.base X.outer:=by
 have all:∀ (l:List Env),(∀b∈frs l,b∈X.fs)→X.s₀.heap.FunFrames X.base l→s.heap.FunFrames X.base l:=by
  intro l
  induction l with
  | nil=>intro _ _; trivial
  | cons env r ih =>
   intro hs hl
   obtain ⟨hk,⟨L,o,hf,hn,ho,hd⟩,hr⟩:=hl
   have hL:L∈X.fs:=hs L (by unfold frs; rw [List.filterMap_cons,hf]; exact List.mem_cons_self)
   obtain ⟨sl,e⟩:=I.base.slot L o ho (I.ok.frf L hL) hL fun z=>I.ok.exfs L z hL
   exact ⟨hk,⟨L,_,hf,hn,e,hd⟩,ih (fun b hb=>hs b (by unfold frs; rw [List.filterMap_cons,hf]; exact List.mem_cons_of_mem _ hb)) hr⟩
 exact all X.outer (fun _ hb=>hb) I.ok.funs
theorem Inv.stack (I:Inv X pins σ H s):s.heap.FunFrames X.base X.stack:=by
 rcases I.ok.stk with e | ⟨e,hf⟩
 ·rw [e]; exact I.funs
 ·rw [e]
  obtain ⟨m,hn,_⟩:=I.loc
  refine .cons (by rw [I.ok.kind]; decide) hf hn ?_ I.funs
  exact Heap.get?_none_of_le (Nat.le_trans I.ok.bsz I.ok.above)
theorem Inv.stkSub (I:Inv X pins σ H s):∀b∈frs X.stack,b∈X.env.locals :: X.fs:=fun b hb=>by
 rcases I.ok.stk with e | ⟨e,hf⟩
 ·rw [e] at hb; exact List.mem_cons_of_mem _ hb
 ·rw [e] at hb
  unfold frs at hb
  rw [List.filterMap_cons,hf] at hb
  exact hb
theorem Inv.stkFree (I:Inv X pins σ H s):∀b∈frs X.stack,H b=none:=fun b hb=>by
 rcases List.mem_cons.mp (I.stkSub b hb) with e | hb
 ·rw [e]; exact I.free
 ·obtain ⟨_,o,ho,_⟩:=I.ok.funs.mem hb
  exact I.base.free b o ho (I.ok.frf b hb) fun z=>I.ok.exfs b z hb
theorem Inv.step {g':Array GenState} {t':Nat} {d':Drawn} {ch:List Addr} (I:Inv X pins σ H s)
  (hch:∀b∈ch,(b∈X.ex∨X.s₀.heap.objs.size≤b)∧b≠X.env.locals∧(∀x c,X.env.cells.lookup x=some c→c≠b)∧∀p∈X.pn ++ pins,p.1≠b)
  (keep:∀b o,b≠X.env.locals→b∉X.fs→b∉ch→s.heap.get? b=some o→H b=none→h'.get? b=some o)
  (slot:∀b o,b≠X.env.locals→b∈X.fs→b∉ch→s.heap.get? b=some o→H b=none→∃sl,h'.get? b=some { o with slots:=sl }) (free:∀b o,b∉ch→s.heap.get? b=some o→H b=none→H' b=none)
  (there:∀b o,b∉ch→s.heap.get? b=some o→∃o',h'.get? b=some o')
  (tups:∀b xs,H b=some (.tup xs)→H' b=some (.tup xs)) (frzs:∀b o u,H b=some (.frz o u)→H' b=some (.frz o u)) (tbls:∀b ps,H b=some (.tbl ps)→∃more,H' b=some (.tbl (ps ++ more)))
  (ns:∀m,s.heap.Ns X.env.locals m→h'.Ns X.env.locals m) (hok:HOk X.prog X.w H' h') (hg:AllBare g') :
  Inv X pins σ H' { s with heap:=h',gens:=g',drawn:=d',toks:=t' }:=by
 have neL:∀b o,X.s₀.heap.get? b=some o→b≠X.env.locals:=fun b o e=>Nat.ne_of_lt (Nat.lt_of_lt_of_le (Heap.lt_size e) I.ok.above)
 have neC:∀b o,X.s₀.heap.get? b=some o→b∉X.ex→b∉ch:=fun b o e hx hb=>by
  rcases (hch b hb).1 with z | z
  ·exact hx z
  ·exact absurd (Nat.lt_of_lt_of_le (Heap.lt_size e) z) (Nat.lt_irrefl _)
 have cellK:∀x c,X.env.cells.lookup x=some c→∀v,s.heap.IsCell c v→h'.IsCell c v:=fun x c e v ⟨o,ho,hd⟩=>by
  have nch:c∉ch:=fun z=>(hch c z).2.2.1 x c e rfl
  by_cases hc:c∈X.fs
  ·obtain ⟨sl,q⟩:=slot c o (I.cne x c e) hc nch ho (I.freeC x c e)
   exact ⟨_,q,hd⟩
  ·exact ⟨o,keep c o (I.cne x c e) hc nch ho (I.freeC x c e),hd⟩
 refine ⟨I.ok,I.os,hg,⟨fun b o e n hb hx=>?_,fun b o e n hb hx=>?_,fun b o e n hx=>?_,fun b o e hx=>?_,fun b xs e=>tups b xs (I.base.tups b xs e),fun b o xs e=>frzs b o xs (I.base.frzs b o xs e),fun b ps e=>?_⟩,?_,fun x c e=>?_,?_,fun x c e=>?_,fun p hp=>?_,hok,I.len⟩
 ·exact keep b o (neL b o e) hb (neC b o e hx) (I.base.keep b o e n hb hx) (I.base.free b o e n hx)
 ·obtain ⟨sl,e1⟩:=I.base.slot b o e n hb hx
  obtain ⟨sl',e2⟩:=slot b _ (neL b o e) hb (neC b o e hx) e1 (I.base.free b o e n hx)
  exact ⟨sl',e2⟩
 ·obtain ⟨o',e1⟩:=I.base.there b o e hx
  exact free b o' (neC b o e hx) e1 (I.base.free b o e n hx)
 ·obtain ⟨o',e1⟩:=I.base.there b o e hx
  exact there b o' (neC b o e hx) e1
 ·obtain ⟨m1,e1⟩:=I.base.tbls b ps e
  obtain ⟨m2,e2⟩:=tbls b _ e1
  exact ⟨m1 ++ m2,by rw [e2,Array.append_assoc]⟩
 ·obtain ⟨m,hn,hl⟩:=I.loc
  refine ⟨m,ns m hn,fun i x v e1 e2 e3=>?_⟩
  obtain ⟨u,r,l⟩:=hl i x v e1 e2 e3
  refine ⟨u,r,?_⟩
  rcases l with l | ⟨k,c,e,z⟩
  ·exact .inl l
  ·exact .inr ⟨k,c,e,cellK x c e _ z⟩
 ·obtain ⟨v,z⟩:=I.cell x c e
  exact ⟨v,cellK x c e v z⟩
 ·obtain ⟨m,⟨o,_,_,ho,_⟩,_⟩:=I.loc
  exact free _ o (fun z=>(hch _ z).2.1 rfl) ho I.free
 ·obtain ⟨v,o,ho,hd⟩:=I.cell x c e
  exact free c o (fun z=>(hch c z).2.2.1 x c e rfl) ho (I.freeC x c e)
 ·obtain ⟨e,n,ne,nf,d⟩:=I.pin p hp
  have nch:p.1∉ch:=fun z=>(hch p.1 z).2.2.2 p hp rfl
  exact ⟨keep p.1 p.2 ne nf nch e n,free p.1 p.2 nch e n,ne,nf,d⟩
theorem Inv.un {t':Nat} (I:Inv X pins σ H s) (u:Un X.fs [] H H' s.heap h') (hok:HOk X.prog X.w H' h'):Inv X pins σ H' { s with heap:=h',toks:=t' }:=by
 obtain ⟨m,⟨o,es,ep,ho,r⟩,_⟩:=id I.loc
 obtain ⟨sl,hL⟩:=u.any ho I.free (by simp)
 exact I.step (g':=s.gens) (d':=s.drawn) (ch:=[]) (fun _ z=>nomatch z) (fun b o _ hb _ e n=>u.keep b o e n hb (by simp)) (fun b o _ hb _ e n=>u.slot b o e n hb (by simp)) (fun b o _ e n=>u.free b o e n (by simp)) (fun b o _ e=>u.there b o e (by simp)) u.tups u.frzs u.tbls (fun m' hm=>by
  obtain ⟨o',es',ep',ho',r'⟩:=hm
  rw [ho] at ho'; cases ho'
  exact ⟨_,es',ep',hL,r'⟩) hok I.bare
theorem Inv.call {g':Array GenState} {t':Nat} {d':Drawn} {ch:List Addr} (I:Inv X pins σ H s) (u:Un (frs X.stack) ch H H' s.heap h') (hok:HOk X.prog X.w H' h') (hg:AllBare g')
  (hch:∀b∈ch,(b∈X.ex∨X.s₀.heap.objs.size≤b)∧b≠X.env.locals∧(∀x c,X.env.cells.lookup x=some c→c≠b)∧∀p∈X.pn ++ pins,p.1≠b) :
  Inv X pins σ H' { s with heap:=h',gens:=g',drawn:=d',toks:=t' }:=by
 obtain ⟨m,⟨o,es,ep,ho,r⟩,_⟩:=id I.loc
 obtain ⟨sl,hL⟩:=u.any ho I.free fun z=>(hch _ z).2.1 rfl
 exact I.step (ch:=ch) hch (fun b o hL hb hc e n=>u.keep b o e n (fun z=>(List.mem_cons.mp (I.stkSub b z)).elim hL hb) hc) (fun b o _ _ hc e n=>u.any e n hc) (fun b o hc e n=>u.free b o e n hc) (fun b o hc e=>u.there b o e hc) u.tups u.frzs u.tbls (fun m' hm=>by
  obtain ⟨o',es',ep',ho',r'⟩:=hm
  rw [ho] at ho'; cases ho'
  exact ⟨_,es',ep',hL,r'⟩) hok hg
theorem Inv.turned {t':Nat} {it:Addr} (I:Inv X pins σ H s) (k:∀b o,b≠it→s.heap.get? b=some o→h'.get? b=some o) (hn:H it=none) (hL:it≠X.env.locals)
  (h1:it∈X.ex∨X.s₀.heap.objs.size≤it) (h2:∀x c,X.env.cells.lookup x=some c→c≠it) (h3:∀p∈X.pn ++ pins,p.1≠it):Inv X pins σ H { s with heap:=h',toks:=t' }:=by
 have nit:∀b u,H b=some u→b≠it:=fun b u e z=>by rw [z,hn] at e; cases e
 refine I.step (g':=s.gens) (d':=s.drawn) (ch:=[it]) (fun b hb=>?_) (fun b o _ _ hc e _=>k b o (fun z=>hc (by simp [z])) e) (fun b o _ _ hc e _=>⟨o.slots,k b o (fun z=>hc (by simp [z])) e⟩) (fun _ _ _ _ n=>n)
  (fun b o hc e=>⟨o,k b o (fun z=>hc (by simp [z])) e⟩) (fun _ _ e=>e) (fun _ _ _ e=>e) (fun b ps e=>⟨#[],by rw [e]; simp⟩) (fun m hm=>?_) (fun b u e=>?_) I.bare
 ·have e:b=it:=by simpa using hb
  subst e
  exact ⟨h1,hL,h2,h3⟩
 ·obtain ⟨o,es,ep,ho,r⟩:=hm
  exact ⟨o,es,ep,k _ o (Ne.symm hL) ho,r⟩
 ·refine (I.hok b u e).stay (fun c v hc q=>k c v ?_ q) (fun _ q=>q) fun _ _ q=>q
  rcases hc with z | z
  ·rw [z]; exact nit b u e
  ·exact nit c _ z
theorem Inv.tok (I:Inv X pins σ H s) (t:Nat):Inv X pins σ H { s with toks:=t }:=I.un (h':=s.heap) (t':=t) Un.refl I.hok
theorem Inv.kept {t':Nat} (I:Inv X pins σ H s) (k:∀b u,s.heap.get? b=some u→h'.get? b=some u):Inv X pins σ H { s with heap:=h',toks:=t' }:=I.un (Un.kept k) (I.hok.kept k)
theorem Inv.laid {a:Addr} {o:HO} {t':Nat} (I:Inv X pins σ H s) (k:∀b u,s.heap.get? b=some u→h'.get? b=some u) (hp:s.heap.objs.size≤a) (new:ObjOk X.prog X.w (upd H a o) h' a o) :
  Inv X pins σ (upd H a o) { s with heap:=h',toks:=t' }:=I.un (Un.laid k hp (I.hok.fresh hp)) (I.hok.laid k hp new)
theorem Inv.write {x e:Addr} {o:HO} {t':Nat} (I:Inv X pins σ H s) (mu:Mut (H x)) (he:e=x∨H e=some (.own x)) (k:∀b u,b≠e→s.heap.get? b=some u→h'.get? b=some u) (heo:∃u,h'.get? e=some u)
  (new:ObjOk X.prog X.w (upd H x o) h' x o):Inv X pins σ (upd H x o) { s with heap:=h',toks:=t' }:=I.un (Un.write mu he k heo) (I.hok.write mu he k heo new)
theorem Inv.weak {σ':List (Option V)} (I:Inv X pins σ H s) (hl:σ'.length=σ.length) (w:∀ (i:Nat) v,σ'[i]? = some (some v)→σ[i]? = some (some v)):Inv X pins σ' H s :=
 ⟨I.ok,I.os,I.bare,I.base,let ⟨m,hn,hl'⟩:=I.loc; ⟨m,hn,fun i x v e1 e2 e3=>hl' i x v e1 (w i v e2) e3⟩,I.cell,I.free,I.freeC,I.pin,I.hok,hl.trans I.len⟩
theorem Inv.pins_of {pins':List (Addr×Obj)} (I:Inv X pins σ H s) (h:∀p∈pins',s.heap.get? p.1=some p.2∧H p.1=none∧p.1≠X.env.locals∧p.1∉X.fs∧∀v,p.2.data≠.cell v):Inv X pins' σ H s :=
 ⟨I.ok,I.os,I.bare,I.base,I.loc,I.cell,I.free,I.freeC,fun p hp=>(List.mem_append.mp hp).elim (fun z=>I.pin p (List.mem_append_left _ z)) (h p),I.hok,I.len⟩
theorem gB {N:List Str} (hN:N.Nodup) {i j:Nat} {x:Str} (a:N[i]? = some x) (b:N[j]? = some x):i=j:=by
 obtain ⟨h1,e1⟩:=List.getElem?_eq_some_iff.mp a
 obtain ⟨h2,e2⟩:=List.getElem?_eq_some_iff.mp b
 exact (List.getElem_inj hN).mp (e1.trans e2.symm)
theorem jP {M:Model} {A:Around} {E:Value→Shared→Prop} {i:Nat} {x:Str} {v:V} {u:Value} {Q:Unit→Shared→Prop} (I:Inv X pins σ H s) (hN:X.N.Nodup) (hi:X.N[i]? = some x) (hx:Loc X.env.scope x) (r:RelV v u)
  (h:∀s',Inv X pins (σ.set i (some v)) H s'→(∃a,Heap.SameBut a s.heap s'.heap∧(a=X.env.locals∨X.env.cells.lookup x=some a))→Q () s') (hf:X.fn x=true∨X.env.scope.names.lookup x=some .local:=by first | exact .inl rfl | exact .inr rfl | assumption):wpAny M A (storeName X.env x u) Q E s:=by
 obtain ⟨m,hn,hl⟩:=id I.loc
 have hcls:(X.env.scope.kind == .class || (X.env.scope.kind == .module && X.env.locals != X.env.globals))=false:=by rw [I.ok.kind]; rfl
 have hiσ:i < σ.length:=by rw [I.len]; exact (List.getElem?_eq_some_iff.mp hi).1
 have cne:=I.cne
 have tracked:∀ {a:Addr} {h':Heap},(∃o,s.heap.get? a=some o∧H a=none)→Heap.SameBut a s.heap h'→HOk X.prog X.w H h':=fun {a h'} ha hs b ob e=>by
  obtain ⟨_,_,hfree⟩:=ha
  refine (I.hok b ob e).stay (fun c w' hc q=>(hs.2 c ?_).trans q) (fun _ q=>q) fun _ _ q=>q
  rintro rfl
  rcases hc with rfl | hc
  ·rw [hfree] at e; cases e
  ·rw [hfree] at hc; cases hc
 rcases hx with hk | hk
 ·refine wpAny_storeName_local hk hn (fun h' hn' hs=>?_) hcls
  obtain ⟨oL,_,_,hoL,_⟩:=id hn
  refine h _ ⟨I.ok,I.os,I.bare,⟨fun b o e n hb hx=>?_,fun b o e n hb hx=>?_,I.base.free,fun b o e hx=>?_,I.base.tups,I.base.frzs,I.base.tbls⟩,⟨_,hn',fun j y v' e1 e2 e3=>?_⟩,fun y c e=>?_,I.free,I.freeC,fun p hp=>?_,tracked ⟨oL,hoL,I.free⟩ hs,by simpa using I.len⟩ ⟨_,hs,.inl rfl⟩
  ·exact (hs.2 b (Nat.ne_of_lt (Nat.lt_of_lt_of_le (Heap.lt_size e) I.ok.above))).trans (I.base.keep b o e n hb hx)
  ·obtain ⟨sl,e1⟩:=I.base.slot b o e n hb hx
   exact ⟨sl,(hs.2 b (Nat.ne_of_lt (Nat.lt_of_lt_of_le (Heap.lt_size e) I.ok.above))).trans e1⟩
  ·obtain ⟨o',e1⟩:=I.base.there b o e hx
   exact ⟨o',(hs.2 b (Nat.ne_of_lt (Nat.lt_of_lt_of_le (Heap.lt_size e) I.ok.above))).trans e1⟩
  ·by_cases hj:j=i
   ·subst hj
    rw [hi] at e1; cases e1
    rw [List.getElem?_set_self hiσ] at e2
    cases e2
    exact ⟨u,r,.inl ⟨hk,by simp⟩⟩
   ·rw [List.getElem?_set_ne (Ne.symm hj)] at e2
    obtain ⟨u',r',q⟩:=hl j y v' e1 e2 e3
    refine ⟨u',r',?_⟩
    rcases q with ⟨k,e⟩ | ⟨k,c,e,z⟩
    ·refine .inl ⟨k,?_⟩
     have:y≠x:=fun e=>hj (gB hN e1 (e ▸ hi))
     simp [this,e]
    ·exact .inr ⟨k,c,e,z.sameBut hs (cne y c e)⟩
  ·obtain ⟨w',z⟩:=I.cell y c e
   exact ⟨w',z.sameBut hs (cne y c e)⟩
  ·obtain ⟨e,n,ne,nf,d⟩:=I.pin p hp
   exact ⟨(hs.2 p.1 ne).trans e,n,ne,nf,d⟩
 ·have hfn:X.fn x=true:=by
   rcases hf with z | z
   ·exact z
   ·rw [z] at hk; cases hk
  obtain ⟨c,hc⟩:=I.ok.has x (.inl hk)
  obtain ⟨w',z⟩:=I.cell x c hc
  refine wpAny_storeName_cell I.ok.kind hk hc z (fun h' hc' hs=>?_)
  obtain ⟨oc,hoc,hocd⟩:=id z
  refine h { s with heap:=h' } ⟨I.ok,I.os,I.bare,⟨fun b o e n hb hx=>?_,fun b o e n hb hx=>?_,I.base.free,fun b o e hx=>?_,I.base.tups,I.base.frzs,I.base.tbls⟩,⟨m,hn.sameBut hs (Ne.symm (cne x c hc)),fun j y v' e1 e2 e3=>?_⟩,fun y c' e=>?_,I.free,I.freeC,fun p hp=>?_,tracked ⟨oc,hoc,I.freeC x c hc⟩ hs,by simpa using I.len⟩ ⟨c,hs,.inr hc⟩
  ·exact (hs.2 b (Nat.ne_of_lt (Nat.lt_of_lt_of_le (Heap.lt_size e) (I.ok.cab x c hfn hc)))).trans (I.base.keep b o e n hb hx)
  ·obtain ⟨sl,e1⟩:=I.base.slot b o e n hb hx
   exact ⟨sl,(hs.2 b (Nat.ne_of_lt (Nat.lt_of_lt_of_le (Heap.lt_size e) (I.ok.cab x c hfn hc)))).trans e1⟩
  ·obtain ⟨o',e1⟩:=I.base.there b o e hx
   exact ⟨o',(hs.2 b (Nat.ne_of_lt (Nat.lt_of_lt_of_le (Heap.lt_size e) (I.ok.cab x c hfn hc)))).trans e1⟩
  ·by_cases hj:j=i
   ·subst hj
    rw [hi] at e1; cases e1
    rw [List.getElem?_set_self hiσ] at e2
    cases e2
    exact ⟨u,r,.inr ⟨.inl hk,c,hc,hc'⟩⟩
   ·rw [List.getElem?_set_ne (Ne.symm hj)] at e2
    obtain ⟨u',r',q⟩:=hl j y v' e1 e2 e3
    refine ⟨u',r',?_⟩
    rcases q with q | ⟨k,c',e,z'⟩
    ·exact .inl q
    ·refine .inr ⟨k,c',e,z'.sameBut hs ?_⟩
     rintro rfl
     exact hj (gB hN e1 (I.ok.inj _ _ _ e hc ▸ hi))
  ·by_cases hcc:c'=c
   ·subst hcc; exact ⟨_,hc'⟩
   ·obtain ⟨w2,z2⟩:=I.cell y c' e
    exact ⟨w2,z2.sameBut hs hcc⟩
  ·obtain ⟨e,n,ne,nf,d⟩:=I.pin p hp
   refine ⟨(hs.2 p.1 ?_).trans e,n,ne,nf,d⟩
   intro q
   rw [q,hoc] at e
   have q':oc=p.2:=Option.some.inj e
   exact d w' (by rw [← q']; exact hocd)
theorem cU {M:Model} {A:Around} {E:Value→Shared→Prop} {i:Nat} {x:Str} {v:V} {u:Value} {Q:Unit→Shared→Prop} (I:Inv X pins σ H s) (hN:X.N.Nodup) (hi:X.N[i]? = some x) (hx:Loc X.env.scope x) (r:RelV v u)
  (h:∀s',Inv X pins (σ.set i (some v)) H s'→Q () s') (hf:X.fn x=true∨X.env.scope.names.lookup x=some .local:=by first | exact .inl rfl | exact .inr rfl | assumption):wpAny M A (storeName X.env x u) Q E s :=
 jP I hN hi hx r (fun s' I' _=>h s' I') hf
theorem Inv.call' {s':Shared} {ch:List Addr} (I:Inv X pins σ H s) (ho:s'.os=s.os) (u:Un (frs X.stack) ch H H' s.heap s'.heap) (hok:HOk X.prog X.w H' s'.heap) (hg:AllBare s'.gens)
  (hch:∀b∈ch,(b∈X.ex∨X.s₀.heap.objs.size≤b)∧b≠X.env.locals∧(∀x c,X.env.cells.lookup x=some c→c≠b)∧∀p∈X.pn ++ pins,p.1≠b):Inv X pins σ H' s':=by
 obtain ⟨h',g',d',t',o'⟩:=s'
 have e:o'=s.os:=ho
 subst e
 exact I.call (g':=g') (t':=t') (d':=d') u hok hg hch
end
abbrev XK:=Value→Option Addr→Hp→Prop
abbrev St:=List (Option V)
abbrev VK:=V→Hp→Prop
abbrev TE:=St→Hp→VK→Prop
abbrev TT:=St→Hp→(Bool→Hp→Prop)→Prop
abbrev TA:=St→Hp→(List V→Hp→Prop)→Prop
structure Ends where
 nx:St→Hp→Prop
 rt:VK
 bk:St→Hp→Prop:=fun _ _=>False
 ct:St→Hp→Prop:=fun _ _=>False
abbrev TS:=Ends→St→Hp→Prop
def EP (X:Cx) (pins:List (Addr×Obj)) (σ:St) (Q:VK) (u:Value) (s':Shared):Prop:=∃v H',Inv X pins σ H' s'∧RelV v u∧Q v H'
def TP (X:Cx) (pins:List (Addr×Obj)) (σ:St) (Q:Bool→Hp→Prop) (b:Bool) (s':Shared):Prop:=∃H',Inv X pins σ H' s'∧Q b H'
def AP (X:Cx) (pins:List (Addr×Obj)) (σ:St) (Q:List V→Hp→Prop) (us:List Value) (s':Shared):Prop:=∃vs H',Inv X pins σ H' s'∧Vals vs us∧Q vs H'
def SP (X:Cx) (pins:List (Addr×Obj)) (D:Ends) (f:Flow) (s':Shared):Prop :=
 match f with
 | .next=>∃σ' H',Inv X pins σ' H' s'∧D.nx σ' H'
 | .brk=>∃σ' H',Inv X pins σ' H' s'∧D.bk σ' H'
 | .cont=>∃σ' H',Inv X pins σ' H' s'∧D.ct σ' H'
 | .ret u=>∃v σ' H',Inv X pins σ' H' s'∧RelV v u∧D.rt v H'
def PE (X:Cx) (e:Expr) (t:TE):Prop :=
 ∀ (pins:List (Addr×Obj)) (s:Shared) (σ:St) (H:Hp) (Q:VK),Inv X pins σ H s→t σ H Q→wpAny (model X.prog X.w) X.A (eval e X.env) (EP X pins σ Q) X.xe s
def PT (X:Cx) (e:Expr) (t:TT):Prop :=
 ∀ (pins:List (Addr×Obj)) (s:Shared) (σ:St) (H:Hp) (Q:Bool→Hp→Prop),Inv X pins σ H s→t σ H Q→wpAny (model X.prog X.w) X.A (isTrue e X.env (eval e X.env)) (TP X pins σ Q) X.xe s
def PW (X:Cx) (e:Expr) (t:TT):Prop :=
 ∀ (aL:Sem Value) (pins:List (Addr×Obj)) (s:Shared) (σ:St) (H:Hp) (Q:Bool→Hp→Prop),Inv X pins σ H s→t σ H Q→wpAny (model X.prog X.w) X.A (isTrue e X.env aL) (TP X pins σ Q) X.xe s
theorem PW.pt {X:Cx} {e:Expr} {t:TT} (h:PW X e t):PT X e t:=h _
def PA (X:Cx) (es:List Expr) (t:TA):Prop :=
 ∀ (pos:Pos) (pins:List (Addr×Obj)) (s:Shared) (σ:St) (H:Hp) (Q:List V→Hp→Prop),Inv X pins σ H s→t σ H Q→wpAny (model X.prog X.w) X.A (spliced (backTo pos (starEach es X.env))) (AP X pins σ Q) X.xe s
def PS (X:Cx) (st:Stmt) (t:TS):Prop :=
 ∀ (pins:List (Addr×Obj)) (s:Shared) (σ:St) (H:Hp) (D:Ends),Inv X pins σ H s→t D σ H→wpAny (model X.prog X.w) X.A (exec st X.env) (SP X pins D) X.xe s
def PSs (X:Cx) (st:List Stmt) (t:TS):Prop :=
 ∀ (pins:List (Addr×Obj)) (s:Shared) (σ:St) (H:Hp) (D:Ends),Inv X pins σ H s→t D σ H→wpAny (model X.prog X.w) X.A (execs st X.env) (SP X pins D) X.xe s
theorem thn {α:Type} {t:Sem α} {Q Q':α→Shared→Prop} {M:Model} {A:Around} {E:Value→Shared→Prop} {s:Shared} (h:wpAny M A t Q E s) (hQ:∀a s,Q a s→Q' a s):wpAny M A t Q' E s:=wpAny_mono h hQ fun _ _ x=>x
end L2
namespace L2
open PySem PySem.Spec PyProof.Rows
section
variable {X:Cx}
theorem bin {a b:Expr} {ta tb:TE} (ha:PE X a ta) (hb:PE X b tb) {pins:List (Addr×Obj)} {s:Shared} {σ:St} {H:Hp} {R:V→V→Hp→Prop} (I:Inv X pins σ H s) (h:ta σ H fun x H1=>tb σ H1 fun y H2=>R x y H2)
  {α:Type} {Q:α→Shared→Prop} {f:Value→Value→Sem α}
  (hf:∀v u s2 x y H2,Inv X pins σ H2 s2→RelV x v→RelV y u→R x y H2→wpAny (model X.prog X.w) X.A (f v u) Q X.xe s2) :
  wpAny (model X.prog X.w) X.A (eval a X.env) (fun v s₁=>wpAny (model X.prog X.w) X.A (eval b X.env) (fun u s₂=>wpAny (model X.prog X.w) X.A (f v u) Q X.xe s₂) X.xe s₁) X.xe s:=by
 refine thn (ha pins s σ H _ I h) fun v s1 ⟨x,H1,I1,r1,q1⟩=>?_
 refine thn (hb pins s1 σ H1 _ I1 q1) fun u s2 ⟨y,H2,I2,r2,q2⟩=>?_
 exact hf v u s2 x y H2 I2 r1 r2 q2
inductive tVar (i:Nat) (σ:St) (H:Hp) (Q:VK):Prop
 | mk (v:V) (e_0:σ[i]? = some (some v)) (e_1:Q v H):tVar i σ H Q
def tC (v:V):TE:=fun _ H Q=>Q v H
theorem pJ {i:Nat} {x:Str} {pos:Pos} (hN:X.N[i]? = some x) (hv:Vis X.env.scope x) (hd:(x == ("__debug__" : Str))=false:=by decide) (hcd:(x == ("__classdict__" : Str))=false:=by decide):PE X (.Name x pos) (tVar i):=by
 intro pins s σ H Q I h
 obtain ⟨v,e,h⟩:=h
 obtain ⟨m,hn,hl⟩:=I.loc
 obtain ⟨u,r,l⟩:=hl i x v hN e hv
 have fin:EP X pins σ Q u s:=⟨v,H,I,r,h⟩
 rcases l with ⟨hk,hm⟩ | ⟨hk,c,hc,hcell⟩
 ·exact wpAny_Name (wpAny_loadName_local I.ok.kind hk hn hm fin) hd
 ·rcases hk with hk | hk
  ·exact wpAny_Name (wpAny_loadName_cell I.ok.kind hk hc hcell fin) hd
  ·exact wpAny_Name (wpAny_loadName_free I.ok.kind hk hc hcell fin hcd) hd
theorem ad {i j pos}:PE X (.Constant (.int i) j pos) (tC (.int i)):=fun _ _ _ H _ I h=>wpAny_Constant_int ⟨.int i,H,I.tok _,⟨_,rfl⟩,h⟩
theorem bX {b j pos}:PE X (.Constant (.bool b) j pos) (tC (.bl b)):=fun _ _ _ H _ I h=>Constant_bool ⟨.bl b,H,I,rfl,h⟩
theorem bo {x j pos}:PE X (.Constant (.str x) j pos) (tC (.str x)):=fun _ _ _ H _ I h=>Calls.Constant_str ⟨.str x,H,I.tok _,⟨_,rfl⟩,h⟩
def Gl (X:Cx) (x:Str):Prop:=X.env.kindOf x=some .globalImplicit
theorem fV {E:Value→Shared→Prop} {pins:List (Addr×Obj)} {s:Shared} {σ:St} {H:Hp} {x:Str} {u:Value} {pos:Pos} {Q:Value→Shared→Prop} (I:Inv X pins σ H s) (hg:Gl X x) (hm:X.mg x=some u) (h:Q u s)
  (hd:(x == ("__debug__" : Str))=false:=by decide):wpAny (model X.prog X.w) X.A (eval (.Name x pos) X.env) Q E s :=
 Calls.Name_function_global I.ok.kind hg (Calls.loadGlobal_global (by rw [I.ok.glob]; exact I.mod.glob.keeps I.bk) hm h) hd
theorem eJ {E:Value→Shared→Prop} {pins:List (Addr×Obj)} {s:Shared} {σ:St} {H:Hp} {x:Str} {u:Value} {pos:Pos} {Q:Value→Shared→Prop} (I:Inv X pins σ H s) (hg:Gl X x) (hm:X.mg x=none) (hv:bootBuiltins x=some u) (h:Q u s)
  (hn:x ≠ "__name__" := by decide) (hd:(x == ("__debug__" : Str))=false:=by decide):wpAny (model X.prog X.w) X.A (eval (.Name x pos) X.env) Q E s:=by
 obtain ⟨mb,h1,h2⟩:=I.mod.blt
 exact Calls.Name_function_global I.ok.kind hg (Calls.loadGlobal_builtin (by rw [I.ok.glob]; exact I.mod.glob.keeps I.bk) hm (by rw [I.ok.blt]; exact h1.keeps I.bk) ((h2 x hn).trans hv) h) hd
theorem bf {x:Str} {v:V} {u:Value} {pos:Pos} (hg:Gl X x) (hm:X.mg x=some u) (r:RelV v u) (hd:(x == ("__debug__" : Str))=false:=by decide):PE X (.Name x pos) (tC v) :=
 fun _ _ _ H _ I h=>fV I hg hm ⟨v,H,I,r,h⟩ hd
theorem bR {x:Str} {v:V} {u:Value} {pos:Pos} (hg:Gl X x) (hm:X.mg x=none) (hv:bootBuiltins x=some u) (r:RelV v u) (hn:x ≠ "__name__" := by decide) (hd:(x == ("__debug__" : Str))=false:=by decide):PE X (.Name x pos) (tC v) :=
 fun _ _ _ H _ I h=>eJ I hg hm hv ⟨v,H,I,r,h⟩ hn hd
variable {a b:Expr} {ta tb:TE} {pos:Pos}
def PC (X:Cx) (op:CmpOp) (a b:Expr) (t:TE):Prop :=
 ∀ (pins:List (Addr×Obj)) (s:Shared) (σ:St) (H:Hp) (Q:VK),Inv X pins σ H s→t σ H Q →
  wpAny (model X.prog X.w) X.A (eval a X.env) (fun v s₁=>wpAny (model X.prog X.w) X.A (eval b X.env) (fun u s₂=>wpAny (model X.prog X.w) X.A (compareOp op v u) (EP X pins σ Q) X.xe s₂) X.xe s₁) X.xe s
inductive IsB (x:V) (Q:Bool→Prop):Prop
 | mk (c:Bool) (e:x=.bl c) (q:Q c):IsB x Q
def tB (t:TE):TT:=fun σ H Q=>t σ H fun x H1=>IsB x fun c=>Q c H1
theorem zj {op:CmpOp} {t:TE} (h:PC X op a b t) (h1:behindInMarks op b=false:=by first | exact nobehind _ (by decide) (by decide) | rfl):PT X (.Compare a [op] [b] pos) (tB t):=by
 intro pins s σ H Q I hw
 refine wpAny_isTrue_Compare1 (thn (h pins s σ H _ I hw) fun v s1 h1=>thn h1 fun u s2 h2=>thn h2 fun c s3 ⟨x,H1,I1,r1,q1⟩=>?_) h1
 obtain ⟨d,rfl,q⟩:=q1
 cases r1
 exact wpAny_truthy_bool ⟨H1,I1,q⟩
theorem aP {e:Expr} {t:TE} (h:PE X e t) (he:∀aL,isTrue e X.env aL=(do let v←aL; standAt e.pos; holding [v] (truthy v)):=by intro _; rfl):PT X e (tB t):=by
 intro pins s σ H Q I hw
 refine isTrue_plain (thn (h pins s σ H _ I hw) fun v s1 ⟨x,H1,I1,r1,q1⟩=>?_) (he _)
 obtain ⟨d,rfl,q⟩:=q1
 cases r1
 exact wpAny_truthy_bool ⟨H1,I1,q⟩
variable {tA tB':TT} {rest:List Expr}
def zk (t u:TT):TT:=fun σ H Q=>t σ H fun c H1=>if c=true then u σ H1 Q else Q false H1
def tOr (t u:TT):TT:=fun σ H Q=>t σ H fun c H1=>if c=true then Q true H1 else u σ H1 Q
def zm (t:TT):TT:=fun σ H Q=>t σ H fun c H1=>Q (!c) H1
theorem jb (ha:PT X a tA):PW X (.BoolOp .And [a] pos) tA:=by
 intro wh pins s σ H Q I h
 refine isTrue_and (thn (ha pins s σ H Q I h) fun c s1 e=>?_)
 cases c with
 | true=>exact isTrue_and_nil e
 | false=>exact e
theorem bB (ha:PT X a tA):PW X (.BoolOp .Or [a] pos) tA:=by
 intro wh pins s σ H Q I h
 refine isTrue_or (thn (ha pins s σ H Q I h) fun c s1 e=>?_)
 cases c with
 | false=>exact isTrue_or_nil e
 | true=>exact e
theorem lG (ha:PT X a tA) (hb:PW X (.BoolOp .And (b :: rest) pos) tB'):PW X (.BoolOp .And (a :: b :: rest) pos) (zk tA tB'):=by
 intro wh pins s σ H Q I h
 refine isTrue_and (thn (ha pins s σ H _ I h) fun c s1 ⟨H1,I1,q1⟩=>?_)
 cases c with
 | true=>exact hb wh pins s1 σ H1 Q I1 q1
 | false=>exact ⟨H1,I1,q1⟩
theorem bF (ha:PT X a tA) (hb:PW X (.BoolOp .Or (b :: rest) pos) tB'):PW X (.BoolOp .Or (a :: b :: rest) pos) (tOr tA tB'):=by
 intro wh pins s σ H Q I h
 refine isTrue_or (thn (ha pins s σ H _ I h) fun c s1 ⟨H1,I1,q1⟩=>?_)
 cases c with
 | true=>exact ⟨H1,I1,q1⟩
 | false=>exact hb wh pins s1 σ H1 Q I1 q1
theorem aX (ha:PT X a tA):PT X (.UnaryOp .Not a pos) (zm tA):=by
 intro pins s σ H Q I h
 exact isTrue_not (ha pins s σ H (fun c H1=>Q (!c) H1) I h)
def sH (ta tb:TE):TE:=fun σ H Q=>ta σ H fun x H1=>IsB x fun c=>if c=true then tb σ H1 Q else Q (.bl false) H1
def zn (ta tb:TE):TE:=fun σ H Q=>ta σ H fun x H1=>IsB x fun c=>if c=true then Q (.bl true) H1 else tb σ H1 Q
def sI (ta:TE):TE:=fun σ H Q=>ta σ H fun x H1=>IsB x fun c=>Q (.bl (!c)) H1
theorem cM {op} {t:TE} (h:PE X a t):PE X (.BoolOp op [a] pos) t:=fun pins s σ H Q I hw=>BoolOp_one (h pins s σ H Q I hw)
theorem cq (ha:PE X a ta) (hb:PE X (.BoolOp .And (b :: rest) pos) tb):PE X (.BoolOp .And (a :: b :: rest) pos) (sH ta tb):=by
 intro pins s σ H Q I h
 refine BoolOp_and (thn (ha pins s σ H _ I h) fun v s1 ⟨x,H1,I1,r1,q1⟩=>?_)
 obtain ⟨c,rfl,q1⟩:=q1
 cases r1
 refine wpAny_truthy_bool ?_
 cases c with
 | true=>exact hb pins s1 σ H1 Q I1 q1
 | false=>exact ⟨.bl false,H1,I1,rfl,q1⟩
theorem sJ (ha:PE X a ta) (hb:PE X (.BoolOp .Or (b :: rest) pos) tb):PE X (.BoolOp .Or (a :: b :: rest) pos) (zn ta tb):=by
 intro pins s σ H Q I h
 refine BoolOp_or (thn (ha pins s σ H _ I h) fun v s1 ⟨x,H1,I1,r1,q1⟩=>?_)
 obtain ⟨c,rfl,q1⟩:=q1
 cases r1
 refine wpAny_truthy_bool ?_
 cases c with
 | false=>exact hb pins s1 σ H1 Q I1 q1
 | true=>exact ⟨.bl true,H1,I1,rfl,q1⟩
theorem lH (ha:PE X a ta):PE X (.UnaryOp .Not a pos) (sI ta):=by
 intro pins s σ H Q I h
 refine UnaryOp_ (thn (ha pins s σ H _ I h) fun v s1 ⟨x,H1,I1,r1,q1⟩=>?_)
 obtain ⟨c,rfl,q1⟩:=q1
 cases r1
 exact not_of (wpAny_truthy_bool ⟨.bl (!c),H1,I1,rfl,q1⟩)
def tIf (t:TT) (ta tb:TE):TE:=fun σ H Q=>t σ H fun c H1=>if c=true then ta σ H1 Q else tb σ H1 Q
theorem eK {c:Expr} (hc:PT X c tA) (ha:PE X a ta) (hb:PE X b tb):PE X (.IfExp c a b pos) (tIf tA ta tb):=by
 intro pins s σ H Q I h
 refine wpAny_IfExp (thn (hc pins s σ H _ I h) fun d s1 ⟨H1,I1,q1⟩=>?_)
 cases d with
 | true=>exact ha pins s1 σ H1 Q I1 q1
 | false=>exact hb pins s1 σ H1 Q I1 q1
end
end L2
namespace L2
open PySem PySem.Spec PyProof.Rows
def SqL (K:PySem.W.Frag) (H:Hp) (a:Addr) (xs:List V):Prop :=
 Rd H a (.lst xs) ∨
  ∃ (o:Obj) (its:Array Value) (n:Nat),K.lookup a=some o∧o.cls=.type "list" ∧ o.dict=none∧o.data=.seq its n∧its.size≤sizeLine∧Vals xs its.toList
def SqT (K:PySem.W.Frag) (H:Hp) (a:Addr) (xs:List V):Prop :=
 Rd H a (.tup xs) ∨
  ∃ (o:Obj) (its:Array Value) (n:Nat),K.lookup a=some o∧o.cls=.type "tuple" ∧ o.data=.seq its n∧its.size≤sizeLine∧Vals xs its.toList
def zo:Value→Option V
 | .none=>some .non
 | .bool b=>some (.bl b)
 | .int i _=>some (.int i)
 | .str x _=>some (.str x)
 | .bytes b _=>some (.byt b)
 | .float b _=>some (.flt b)
 | .ref a=>some (.ref a)
 | .type n=>some (.ty n)
 | _=>none
theorem RelV.abs {x:V} {u:Value} (r:RelV x u):zo u=some x:=by
 cases x with
 | non=>cases r; rfl
 | bl _=>cases r; rfl
 | int _=>obtain ⟨t,rfl⟩:=r; rfl
 | str _=>obtain ⟨t,rfl⟩:=r; rfl
 | byt _=>obtain ⟨t,rfl⟩:=r; rfl
 | flt _=>obtain ⟨t,rfl⟩:=r; rfl
 | ref _=>cases r; rfl
 | ty _=>cases r; rfl
theorem RelV.inj {x y:V} {u:Value} (r:RelV x u) (q:RelV y u):x=y:=Option.some.inj (r.abs.symm.trans q.abs)
theorem Vals.inj:∀ {xs ys:List V} {us:List Value},Vals xs us→Vals ys us→xs=ys
 | _,_,_,.nil,.nil=>rfl
 | _,_,_,.cons r t,.cons r' t'=>by rw [r.inj r',Vals.inj t t']
section
variable {X:Cx} {pins:List (Addr×Obj)} {σ:St} {H:Hp} {s:Shared} {a:Addr} {xs ys:List V}
theorem SqL.of {K:PySem.W.Frag} (h:H a=some (.lst xs)):SqL K H a xs:=.inl (.inl h)
theorem SqT.of {K:PySem.W.Frag} (h:H a=some (.tup xs)):SqT K H a xs:=.inl (.inl h)
theorem Inv.list (I:Inv X pins σ H s) (h:SqL X.K H a xs):∃its:List Value,Vals xs its∧PlainL s.heap a its.toArray∧xs.length≤sizeLine:=by
 rcases h with h | ⟨o,its,n,hk,hc,hd,hs,hz,r⟩
 ·obtain ⟨z,its,n,r,e⟩:=h.ok I.hok
  exact ⟨its,r,⟨_,n,e,rfl,rfl,rfl⟩,z⟩
 ·refine ⟨its.toList,r,⟨o,n,I.kIn a o hk,hc,hd,by simpa using hs⟩,?_⟩
  have e:=r.length
  simp only [Array.length_toList] at e
  omega
theorem Inv.tuple (I:Inv X pins σ H s) (h:SqT X.K H a xs):∃its:List Value,Vals xs its∧IsTup s.heap a its.toArray∧xs.length≤sizeLine:=by
 rcases h with h | ⟨o,its,n,hk,hc,hs,hz,r⟩
 ·obtain ⟨z,its,r,p⟩:=h.ok I.hok
  exact ⟨its,r,p,z⟩
 ·refine ⟨its.toList,r,⟨o,I.kIn a o hk,hc,n,by simpa using hs⟩,?_⟩
  have e:=r.length
  simp only [Array.length_toList] at e
  omega
theorem Inv.list_inj (I:Inv X pins σ H s) (h:SqL X.K H a xs) (h':SqL X.K H a ys):xs=ys:=by
 obtain ⟨its,r,⟨o,n,e,_,_,d⟩,_⟩:=I.list h
 obtain ⟨its',r',⟨o',n',e',_,_,d'⟩,_⟩:=I.list h'
 rw [e] at e'; cases e'
 rw [d] at d'
 injection d' with d1 _
 have:its=its':=by simpa using congrArg Array.toList d1
 subst this
 exact r.inj r'
theorem Inv.tuple_inj (I:Inv X pins σ H s) (h:SqT X.K H a xs) (h':SqT X.K H a ys):xs=ys:=by
 obtain ⟨its,r,⟨o,e,_,n,d⟩,_⟩:=I.tuple h
 obtain ⟨its',r',⟨o',e',_,n',d'⟩,_⟩:=I.tuple h'
 rw [e] at e'; cases e'
 rw [d] at d'
 injection d' with d1 _
 have:its=its':=by simpa using congrArg Array.toList d1
 subst this
 exact r.inj r'
end
abbrev Cx.wish (X:Cx) (E:Value→Shared→Prop):Cx:={ X with xe:=E }
abbrev Cx.nox (X:Cx):Cx:=X.wish fun _ _=>False
theorem Cx.Ok.wish {X:Cx} (ok:X.Ok) (E:Value→Shared→Prop):(X.wish E).Ok :=
 ⟨ok.mod,ok.kind,ok.glob,ok.blt,ok.above,ok.inj,ok.has,ok.cab,ok.hd,ok.frames,ok.stk,ok.exf,ok.bs,ok.bsz,ok.noex,ok.exfs,ok.funs,ok.frf⟩
theorem Cx.Ok.unwish {X:Cx} {E:Value→Shared→Prop} (ok:(X.wish E).Ok):X.Ok :=
 ⟨ok.mod,ok.kind,ok.glob,ok.blt,ok.above,ok.inj,ok.has,ok.cab,ok.hd,ok.frames,ok.stk,ok.exf,ok.bs,ok.bsz,ok.noex,ok.exfs,ok.funs,ok.frf⟩
section
variable {X:Cx} {pins:List (Addr×Obj)} {σ:St} {H:Hp} {s:Shared} {E:Value→Shared→Prop}
theorem Inv.wish (I:Inv X pins σ H s) (E:Value→Shared→Prop):Inv (X.wish E) pins σ H s:=⟨I.ok.wish E,I.os,I.bare,I.base,I.loc,I.cell,I.free,I.freeC,I.pin,I.hok,I.len⟩
theorem Inv.unwish (I:Inv (X.wish E) pins σ H s):Inv X pins σ H s:=⟨I.ok.unwish,I.os,I.bare,I.base,I.loc,I.cell,I.free,I.freeC,I.pin,I.hok,I.len⟩
theorem SP.unwish {D:Ends} {f:Flow} {s':Shared} (h:SP (X.wish E) pins D f s'):SP X pins D f s':=by
 cases f with
 | next=>obtain ⟨σ',H',I,q⟩:=h; exact ⟨σ',H',I.unwish,q⟩
 | brk=>obtain ⟨σ',H',I,q⟩:=h; exact ⟨σ',H',I.unwish,q⟩
 | cont=>obtain ⟨σ',H',I,q⟩:=h; exact ⟨σ',H',I.unwish,q⟩
 | ret u=>obtain ⟨v,σ',H',I,r,q⟩:=h; exact ⟨v,σ',H',I.unwish,r,q⟩
theorem PSs.nox {st:List Stmt} {t:TS} (h:PSs X.nox st t):PSs X st t:=fun pins s σ H D I hw =>
 wpAny_mono (h pins s σ H D (I.wish _) hw) (fun _ _ q=>q.unwish) fun _ _ z=>False.elim z
end
section
variable {X:Cx} {st:Stmt} {rest:List Stmt} {t u:TS} {e:Expr} {te:TE} {pos:Pos}
def sK:TS:=fun D σ H=>D.nx σ H
def sL (t u:TS):TS:=fun D σ H=>t { D with nx:=u D } σ H
theorem aE:PSs X [] sK:=fun _ _ σ H _ I h=>wpAny_execs_nil ⟨σ,H,I,h⟩
theorem ae (h1:PS X st t) (h2:PSs X rest u):PSs X (st :: rest) (sL t u):=by
 intro pins s σ H D I h
 refine wpAny_execs_cons (thn (h1 pins s σ H { D with nx:=u D } I h) fun f s1 q=>?_)
 cases f with
 | next =>
  obtain ⟨σ',H',I',q⟩:=q
  exact h2 pins s1 σ' H' D I' q
 | ret v=>exact q
 | brk=>exact q
 | cont=>exact q
theorem ag (h1:PS X st t):PSs X [st] t:=by
 intro pins s σ H D I h
 refine wpAny_execs_cons (thn (h1 pins s σ H D I h) fun f s1 q=>?_)
 cases f with
 | next=>exact wpAny_execs_nil q
 | ret v=>exact q
 | brk=>exact q
 | cont=>exact q
theorem Inv.quiet {pins:List (Addr×Obj)} {σ:St} {H:Hp} {s:Shared} (I:Inv X pins σ H s):interactive X.env=false:=by simp [interactive,I.ok.kind]
def sM (te:TE):TS:=fun D σ H=>te σ H fun _ H1=>D.nx σ H1
theorem bp (he:PE X e te) (hs:swapsWith e none pos.line X.env=pure false:=by rfl):PS X (.Expr e pos) (sM te):=by
 intro pins s σ H D I h
 exact wpAny_Expr_any (thn (he pins s σ H _ I h) fun v s1 ⟨x,H1,I1,r1,q1⟩=>⟨σ,H1,I1,q1⟩) I.quiet hs
def zp (te:TE):TS:=fun D σ H=>te σ H D.rt
theorem au (he:PE X e te):PS X (.Return (some e) pos) (zp te):=by
 intro pins s σ H D I h
 exact wpAny_Return_some (thn (he pins s σ H _ I h) fun v s1 ⟨x,H1,I1,r1,q1⟩=>⟨x,σ,H1,I1,r1,q1⟩)
def zq (c:TT) (t u:TS):TS:=fun D σ H=>c σ H fun b H1=>if b=true then t D σ H1 else u D σ H1
theorem aK {c:Expr} {a b:List Stmt} {tc:TT} (hc:PT X c tc) (ha:PSs X a t) (hb:PSs X b u):PS X (.If c a b pos) (zq tc t u):=by
 intro pins s σ H D I h
 refine wpAny_If (thn (hc pins s σ H _ I h) fun d s1 ⟨H1,I1,q1⟩=>?_)
 cases d with
 | true=>exact ha pins s1 σ H1 D I1 q1
 | false=>exact hb pins s1 σ H1 D I1 q1
def lI:TS:=fun _ _ _=>False
theorem eL:PS X st lI:=fun _ _ _ _ _ _ h=>h.elim
theorem dk {sts:List Stmt}:PSs X sts lI:=fun _ _ _ _ _ _ h=>h.elim
end
abbrev TG:=V→St→Hp→(St→Hp→Prop)→Prop
abbrev TGs:=List V→St→Hp→(St→Hp→Prop)→Prop
def PG (X:Cx) (target:Expr) (t:TG):Prop :=
 ∀ (pins:List (Addr×Obj)) (s:Shared) (σ:St) (H:Hp) (v:V) (u:Value) (Q:St→Hp→Prop),Inv X pins σ H s→RelV v u→t v σ H Q →
  wpAny (model X.prog X.w) X.A (assign target X.env u) (fun _ s'=>∃σ' H',Inv X pins σ' H' s'∧Q σ' H') X.xe s
def PGs (X:Cx) (ts:List Expr) (t:TGs):Prop :=
 ∀ (pins:List (Addr×Obj)) (s:Shared) (σ:St) (H:Hp) (vs:List V) (us:List Value) (Q:St→Hp→Prop),Inv X pins σ H s→Vals vs us→t vs σ H Q →
  wpAny (model X.prog X.w) X.A (assignInOrder ((assignEach ts X.env).map (·.2)) us) (fun _ s'=>∃σ' H',Inv X pins σ' H' s'∧Q σ' H') X.xe s
abbrev pK:=V→V→V→Hp→(Hp→Prop)→Prop
def sN (X:Cx) (t:pK):Prop :=
 ∀ (pins:List (Addr×Obj)) (s:Shared) (σ:St) (H:Hp) (o i v:V) (ov iv u:Value) (Q:Hp→Prop),Inv X pins σ H s→RelV o ov→RelV i iv→RelV v u→t o i v H Q →
  wpAny (model X.prog X.w) X.A (setItem ov iv u) (fun _ s'=>∃H',Inv X pins σ H' s'∧Q H') X.xe s
section
variable {X:Cx} {pos:Pos}
def oV (i:Nat):TG:=fun v σ H Q=>Q (σ.set i (some v)) H
theorem am {i:Nat} {x:Str} (hN:X.N.Nodup) (hi:X.N[i]? = some x) (hx:Loc X.env.scope x) (hf:X.fn x=true∨X.env.scope.names.lookup x=some .local:=by first | exact .inl rfl | exact .inr rfl | assumption):PG X (.Name x pos) (oV i):=by
 intro pins s σ H v u Q I r h
 exact wpAny_assign_Name (cU I hN hi hx r (fun s' I'=>⟨_,H,I',h⟩) hf)
def zr:TGs:=fun vs σ H Q=>vs=[]∧Q σ H
inductive gCons (t:TG) (u:TGs) (vs:List V) (σ:St) (H:Hp) (Q:St→Hp→Prop):Prop
 | mk (v:V) (r:List V) (e_0:vs=v :: r) (e_1:t v σ H fun σ' H'=>u r σ' H' Q):gCons t u vs σ H Q
theorem aN:PGs X [] zr:=by
 intro pins s σ H vs us Q I r h
 obtain ⟨e,h⟩:=h
 subst e
 cases r
 exact assignInOrder_nil ⟨σ,H,I,h⟩
theorem ai {e:Expr} {es:List Expr} {t:TG} {u:TGs} (h1:PG X e t) (h2:PGs X es u)
  (hs:(assignEach (e :: es) X.env).map (·.2)=assign e X.env :: (assignEach es X.env).map (·.2):=by rfl):PGs X (e :: es) (gCons t u):=by
 intro pins s σ H vs us Q I r h
 obtain ⟨v,vr,e1,h⟩:=h
 subst e1
 cases r with
 | cons r rr =>
  rw [hs]
  refine assignInOrder_cons (thn (h1 pins s σ H _ _ _ I r h) fun _ s1 ⟨σ1,H1,I1,q1⟩=>?_)
  exact h2 pins s1 σ1 H1 _ _ Q I1 rr q1
inductive gTup (K:PySem.W.Frag) (n:Nat) (t:TGs) (v:V) (σ:St) (H:Hp) (Q:St→Hp→Prop):Prop
 | mk (a:Addr) (xs:List V) (e_0:v=.ref a) (e_1:SqT K H a xs) (e_2:xs.length=n) (e_3:t xs σ H Q):gTup K n t v σ H Q
theorem aY {es:List Expr} {k:Nat} {t:TGs} {n:Nat} (hc:X.calm=true) (h:PGs X es t)
  (hn:(assignEach es X.env).length=n:=by rfl) (hst:(assignEach es X.env).findIdx? (·.1)=none:=by rfl):PG X (.Tuple es k pos) (gTup X.K n t):=by
 intro pins s σ H v u Q I r hw
 obtain ⟨a,xs,e1,hq,hl,hw⟩:=hw
 subst e1
 cases r
 obtain ⟨its,rv,ht,hz⟩:=I.tuple hq
 refine assign_Tuple_tuple (I.ok.hd hc) ht (by simp [hn,← hl,rv.length]) hst fun h' hx=>?_
 have I1:Inv X pins σ H { s with heap:=h' }:=I.kept (t':=s.toks) fun b o e=>hx b o (Nat.ne_of_lt (Heap.lt_size e)) e
 exact h pins _ σ H xs _ Q I1 (by simpa using rv) hw
def zt (to ti:TE) (t:pK):TG:=fun v σ H Q=>to σ H fun o H1=>ti σ H1 fun i H2=>t o i v H2 fun H3=>Q σ H3
theorem hW {o i:Expr} {to ti:TE} {t:pK} (ho:PE X o to) (hi:PE X i ti) (hs:sN X t)
  (ha:∀v,assign (.Subscript o i pos) X.env v=(do
   let ov←holding [v] (eval o X.env)
   let iv←holding [v,ov] (eval i X.env)
   standAt pos
   holding [v,ov,iv] (setItem ov iv v)
   release [v,ov,iv] []):=by intro _; rfl):PG X (.Subscript o i pos) (zt to ti t):=by
 intro pins s σ H v u Q I r h
 rw [ha]
 refine wpAny_bind (wpAny_holding (thn (ho pins s σ H _ I h) fun ov s1 ⟨x,H1,I1,r1,q1⟩=>?_))
 refine wpAny_bind (wpAny_holding (thn (hi pins s1 σ H1 _ I1 q1) fun iv s2 ⟨y,H2,I2,r2,q2⟩=>?_))
 refine wpAny_bind (wpAny_standAt (wpAny_bind (wpAny_holding (thn (hs pins s2 σ H2 x y v ov iv u _ I2 r1 r2 r q2) fun _ s3 ⟨H3,I3,q3⟩=>?_))))
 exact wpAny_release ⟨σ,H3,I3,q3⟩
def sO (te:TE) (g:TG):TS:=fun D σ H=>te σ H fun x H1=>g x σ H1 D.nx
theorem aZ {tg e:Expr} {te:TE} {g:TG} (he:PE X e te) (hg:PG X tg g) (hs:swapsWithSole [tg] e pos.line X.env=pure false:=by rfl) (hw:swappedStores [tg] e X.env=pure none:=by rfl)
  (h1:(assignEach [tg] X.env).map (·.2)=[assign tg X.env]:=by rfl):PS X (.Assign [tg] e pos) (sO te g):=by
 intro pins s σ H D I h
 refine wpAny_Assign_stores (thn (he pins s σ H _ I h) fun v s1 ⟨x,H1,I1,r1,q1⟩=>?_) hs hw
 rw [h1]
 exact thn (hg pins s1 σ H1 x v _ I1 r1 q1) fun _ s2 q=>q
theorem ay {i:Nat} {x:Str} {e:Expr} {te:TE} {pos':Pos} (hN:X.N.Nodup) (hi:X.N[i]? = some x) (hx:Loc X.env.scope x) (he:PE X e te) (hs:swapsWith e (some (.Name x pos')) pos.line X.env=pure false:=by rfl) (hf:X.fn x=true∨X.env.scope.names.lookup x=some .local:=by first | exact .inl rfl | exact .inr rfl | assumption) :
  PS X (.Assign [.Name x pos'] e pos) (sO te (oV i)):=by
 intro pins s σ H D I h
 refine wpAny_Assign_Name (thn (he pins s σ H _ I h) fun v s1 ⟨y,H1,I1,r1,q1⟩=>?_) hs
 exact cU I1 hN hi hx r1 (fun s2 I2=>⟨_,H1,I2,q1⟩) hf
def zu (i j:Nat) (ta:TA):TS:=fun D σ H=>ta σ H fun vs H1=>∃v w,vs=[v,w]∧D.nx ((σ.set i (some v)).set j (some w)) H1
theorem hX {i j:Nat} {x y:Str} {a b:Expr} {ta:TA} {px py pt:Pos} {kt k2 pt2} (hc:X.calm=true) (hN:X.N.Nodup) (hi:X.N[i]? = some x) (hj:X.N[j]? = some y) (hij:i≠j)
  (hx:X.env.scope.names.lookup x=some .local) (hy:X.env.scope.names.lookup y=some .local) (ha:PA X [a,b] ta)
  (hw:swappedStores [.Tuple [.Name x px,.Name y py] kt pt] (.Tuple [a,b] k2 pt2) X.env=pure (some [x,y]))
  (hs:swapsWithSole [.Tuple [.Name x px,.Name y py] kt pt] (.Tuple [a,b] k2 pt2) pos.line X.env=pure false:=by rfl) :
  PS X (.Assign [.Tuple [.Name x px,.Name y py] kt pt] (.Tuple [a,b] k2 pt2) pos) (zu i j ta):=by
 intro pins s σ H D I h
 rw [exec_Assign_arm]
 refine wpAny_bind (wpAny_standAt ?_)
 rw [hs]
 refine wpAny_bind (wpAny_pure ?_)
 rw [if_neg (by decide)]
 refine wpAny_bind (Tuple_ (thn (ha _ pins s σ H _ I h) fun us s1 ⟨vs,H1,I1,r1,q1⟩=>?_))
 obtain ⟨v,w,e1,q1⟩:=q1
 subst e1
 obtain ⟨u1,u2,rfl,rv,rw'⟩:∃u1 u2,us=[u1,u2]∧RelV v u1∧RelV w u2:=by
  cases r1 with
  | cons p q =>
   cases q with
   | cons p' q' =>
    cases q'
    exact ⟨_,_,rfl,p,p'⟩
 refine wpAny_newObj_type ?_ (by show 2≤sizeLine; decide)
 have I2:Inv X pins σ H1 { s1 with heap:=s1.heap.push { cls:=.type "tuple", data:=.seq [u1, u2].toArray } }:=I1.kept (t':=s1.toks) fun b o e=>Heap.get?_push_of_some _ e
 rw [hw]
 refine wpAny_bind (wpAny_pure ?_)
 show wpAny (model X.prog X.w) X.A (do rule "assign.swapped-stores"; let items←unpackItems (.ref s1.heap.objs.size) 2 none; assignInOrder [fun v=>bindName X.env y v,fun v=>bindName X.env x v] items.reverse; pure Flow.next) _ _ _
 refine wpAny_bind (wpAny_rule (wpAny_bind (unpackItems_tuple (items:=#[u1,u2]) (I.ok.hd hc) (IsTup.new s1.heap _) fun h' hx'=>?_)))
 have I3:=I2.kept (h':=h') (t':=s1.toks) fun b o e=>hx' b o (Nat.ne_of_lt (Heap.lt_size e)) e
 show wpAny _ _ (assignInOrder [fun v=>bindName X.env y v,fun v=>bindName X.env x v] [u2,u1] >>= fun _=>pure Flow.next) _ _ _
 refine wpAny_bind (assignInOrder_cons (wpAny_bindName (cU I3 hN hj (.inl hy) rw' (fun s2 I4=>?_) (.inr hy))))
 refine assignInOrder_cons (wpAny_bindName (cU I4 hN hi (.inl hx) rv (fun s3 I5=>assignInOrder_nil (wpAny_pure ?_)) (.inr hx)))
 rw [List.set_comm _ _ (Ne.symm hij)] at I5
 exact ⟨_,H1,I5,q1⟩
end
section
variable {X:Cx} {pos:Pos}
def pL (c:TT) (tb:TS):TS:=fun D σ H=>∃W:Nat→St→Hp→Prop,(∃m,W m σ H)∧∀m σ H,W m σ H →
 c σ H fun b H1=>if b=true then ∃N:St→Hp→Prop,(∀σ' H',N σ' H'→∃m',m' < m∧W m' σ' H')∧tb { D with nx:=N,ct:=N,bk:=D.nx } σ H1 else D.nx σ H1
theorem eM {c:Expr} {body:List Stmt} {tc:TT} {tb:TS} (hp:PassesOwn (model X.prog X.w) X.A X.env X.xe) (hc:PT X c tc) (hb:PSs X body tb):PS X (.While c body [] pos) (pL tc tb):=by
 intro pins s σ H D I h
 obtain ⟨W,⟨m0,w0⟩,turn⟩:=h
 refine wpAny_While (codeAny_whileLoop (fun n s'=>∃σ' H',Inv X pins σ' H' s'∧W n σ' H') ?_ m0 ⟨σ,H,I,w0⟩)
 rintro n s1 ⟨σ1,H1,I1,w1⟩
 refine wpAny_passesOwn hp (thn (hc pins s1 σ1 H1 _ I1 (turn n σ1 H1 w1)) fun b s2 ⟨H2,I2,q2⟩=>?_)
 cases b with
 | true =>
  obtain ⟨N,hN,q2⟩:=q2
  rw [if_pos rfl]
  refine wpAny_passesOwn hp (thn (hb pins s2 σ1 H2 _ I2 q2) fun f s3 q3=>?_)
  cases f with
  | next =>
   obtain ⟨σ3,H3,I3,n3⟩:=q3
   obtain ⟨m',hm,w3⟩:=hN σ3 H3 n3
   exact ⟨m',hm,σ3,H3,I3,w3⟩
  | cont =>
   obtain ⟨σ3,H3,I3,n3⟩:=q3
   obtain ⟨m',hm,w3⟩:=hN σ3 H3 n3
   exact ⟨m',hm,σ3,H3,I3,w3⟩
  | brk=>exact q3
  | ret v=>exact q3
 | false =>
  rw [if_neg Bool.false_ne_true]
  exact wpAny_execs_nil ⟨σ1,H2,I2,q2⟩
end
structure It where
 go:Nat→Hp→Prop
 yld:Nat→Hp→V→Hp→Prop
 stop:Nat→Hp→Prop
def dq (X:Cx) (pins:List (Addr×Obj)) (H:Hp) (b:Addr):Prop :=
 H b=none∧b≠X.env.locals∧b∉X.fs∧(b∈X.ex∨X.s₀.heap.objs.size≤b)∧(∀x c,X.env.cells.lookup x=some c→c≠b)∧∀p∈X.pn ++ pins,p.1≠b
theorem Inv.fpOk {X:Cx} {pins:List (Addr×Obj)} {σ:St} {H H':Hp} {s:Shared} {b:Addr} (I:Inv X pins σ H s) (hb:s.heap.objs.size≤b) (hn:H' b=none):dq X pins H' b:=by
 refine ⟨hn,Nat.ne_of_gt (Nat.lt_of_lt_of_le I.lt hb),I.nofs hb,.inr (Nat.le_trans I.sz hb),fun x c e z=>?_,fun p hp z=>?_⟩
 ·obtain ⟨v,q⟩:=I.cell x c e
  exact absurd (Nat.lt_of_lt_of_le q.lt (by rw [z]; exact hb)) (Nat.lt_irrefl _)
 ·exact absurd (Nat.lt_of_lt_of_le (Heap.lt_size (I.pin p hp).1) (by rw [z]; exact hb)) (Nat.lt_irrefl _)
structure Turn (P:Program) (w:World) (K:PySem.W.Frag) (tg:Expr) (J:It) (fp:List Addr) (it:Addr) (tn:Nat→Heap→Prop):Prop where
 mem:it∈fp
 obj:∀i h,tn i h→∀b∈fp,∃o,h.get? b=some o∧∀v,o.data≠.cell v
 keep:∀i h h',tn i h→(∀b∈fp,∀o,h.get? b=some o→h'.get? b=some o)→tn i h'
 item:∀ (X:Cx),X.prog=P→X.w=w→X.K=K→X.calm=true→∀ (i:Nat) (pins:List (Addr×Obj)) (s:Shared) (σ:St) (H:Hp) (E:Value→Shared→Prop),Inv X pins σ H s→(∀b∈fp,dq X pins H b)→tn i s.heap→J.go i H →
  wpAny (model P w) X.A (pyNext (.ref it)) (fun r s1=>∃u,r=some u ∧
   wpAny (model P w) X.A (letOwnedTupleGo tg (.ref it) u) (fun _ s2=>∃x H',Inv X pins σ H' s2∧RelV x u∧J.yld i H x H'∧tn (i + 1) s2.heap∧∀b∈fp,H' b=none) E s1) E s
 done:∀ (X:Cx),X.prog=P→X.w=w→X.K=K→X.calm=true→∀ (i:Nat) (pins:List (Addr×Obj)) (s:Shared) (σ:St) (H:Hp) (E:Value→Shared→Prop),Inv X pins σ H s→(∀b∈fp,dq X pins H b)→tn i s.heap→J.stop i H →
  wpAny (model P w) X.A (pyNext (.ref it)) (fun r s1=>r=none∧Inv X pins σ H s1) E s
 self:∀ (A:Around) (i:Nat) (s:Shared) (Q:Value→Shared→Prop) (E:Value→Shared→Prop),tn i s.heap→Q (.ref it) s→wpAny (model P w) A (pyIter (.ref it)) Q E s
abbrev TI:=St→Hp→(It→Hp→Prop)→Prop
def PIE (X:Cx) (pins:List (Addr×Obj)) (σ:St) (tg:Expr) (R:It→Hp→Prop) (itv:Value) (s2:Shared):Prop :=
 ∃ (it:Addr) (fp:List Addr) (tn:Nat→Heap→Prop) (J:It) (H':Hp),itv=.ref it∧Inv X pins σ H' s2∧Turn X.prog X.w X.K tg J fp it tn∧tn 0 s2.heap∧(∀b∈fp,dq X pins H' b)∧R J H'
def PI (X:Cx) (tg iter:Expr) (wi:TI):Prop :=
 ∀ (pins:List (Addr×Obj)) (s:Shared) (σ:St) (H:Hp) (R:It→Hp→Prop),Inv X pins σ H s→wi σ H R →
  wpAny (model X.prog X.w) X.A (eval iter X.env) (fun v s1=>wpAny (model X.prog X.w) X.A (pyIter v) (PIE X pins σ tg R) X.xe s1) X.xe s
theorem lJ {M:Model} {A:Around} {E:Value→Shared→Prop} {s:Shared} {tg:Expr} {it:Addr} {u:Value} {o:Obj} {n:String} {vs:Array Value} {Q:Unit→Shared→Prop} (ho:s.heap.get? it=some o) (hc:o.cls=.type n) (hd:o.data=.fields vs)
    (hn:["enumerate","zip","dict_itemiterator","dict_reverseitemiterator","odict_iterator","itertools.zip_longest","itertools.pairwise"].contains n=false) (hQ:Q () s):wpAny M A (letOwnedTupleGo tg (.ref it) u) Q E s:=by
  unfold letOwnedTupleGo
  cases tg <;> first
    | exact wpAny_pure hQ
    | (cases u <;> first
        | exact wpAny_pure hQ
        | (refine wpAny_bind (wpAny_load ho ?_)
           rw [hc,hd]
           show wpAny M A (if (["enumerate","zip","dict_itemiterator","dict_reverseitemiterator","odict_iterator","itertools.zip_longest","itertools.pairwise"].contains n && vs[0]? == some (rawInt _))=true then _ else _) Q E s
           rw [if_neg (by intro h; rw [hn,Bool.false_and] at h; cases h)]
           exact wpAny_pure hQ))
def Itl (K:PySem.W.Frag) (a:Addr):It :=
 ⟨fun i H=>∃xs x,SqL K H a xs∧xs[i]? = some x,fun i H x H'=>H'=H∧∀xs,SqL K H a xs→xs[i]? = some x,fun i H=>∃xs,SqL K H a xs∧xs.length≤i⟩
def Itt (K:PySem.W.Frag) (a:Addr):It :=
 ⟨fun i H=>∃xs x,SqT K H a xs∧xs[i]? = some x,fun i H x H'=>H'=H∧∀xs,SqT K H a xs→xs[i]? = some x,fun i H=>∃xs,SqT K H a xs∧xs.length≤i⟩
def Itr (lo:Int) (n:Nat):It:=⟨fun i _=>i < n,fun i H x H'=>H'=H∧x=.int (lo + i),fun i _=>n≤i⟩
theorem jQ {P:Program} {w:World} {K:PySem.W.Frag} {tg:Expr} (a it:Addr):Turn P w K tg (Itl K a) [it] it (fun i h=>h.IsListIter it a i) where
 mem:=by simp
 obj:=fun i h st b hb=>by
  have e:b=it:=by simpa using hb
  subst e
  obtain ⟨o,e,c,d⟩:=st
  exact ⟨o,e,fun v z=>by rw [d] at z; cases z⟩
 keep:=fun i h h' st k=>st.at fun o e=>k it (by simp) o e
 item:=by
  intro X hP hw hK hc i pins s σ H E I hf st hg
  subst hP hw hK
  obtain ⟨xs,x,hq,hx⟩:=hg
  obtain ⟨its,rv,p,hz⟩:=I.list hq
  obtain ⟨u,hu,ru⟩:=rv.get hx
  obtain ⟨f0,f1,f2,f3,f4,f5⟩:=hf it (by simp)
  refine wpAny_pyNext_list_item st p.isList (x:=u) (by simpa using hu) fun h' st' sb=>?_
  have I1:Inv X pins σ H { s with heap:=h' }:=I.turned (t':=s.toks) (fun b o hb e=>(sb.2 b hb).trans e) f0 f1 f3 f4 f5
  obtain ⟨o,e,c,d⟩:=id st'
  exact ⟨u,rfl,lJ (s:={ s with heap:=h' }) e c d (by decide) ⟨x,H,I1,ru,⟨rfl,fun ys hy=>by rw [I.list_inj hy hq]; exact hx⟩,st',fun b hb=>(hf b hb).1⟩⟩
 done:=by
  intro X hP hw hK hc i pins s σ H E I hf st hg
  subst hP hw hK
  obtain ⟨xs,hq,hx⟩:=hg
  obtain ⟨its,rv,p,hz⟩:=I.list hq
  obtain ⟨f0,f1,f2,f3,f4,f5⟩:=hf it (by simp)
  have hl:=rv.length
  exact wpAny_pyNext_list_end (I.ok.hd hc) st p.isList (by simp; omega) fun h' eb=>⟨rfl,I.turned (t':=s.toks) (fun b o hb e=>eb b o hb e) f0 f1 f3 f4 f5⟩
 self:=fun _ _ _ _ _ st h=>wpAny_pyIter_listiter st h
theorem hZ {P:Program} {w:World} {K:PySem.W.Frag} {tg:Expr} (a it:Addr):Turn P w K tg (Itt K a) [it] it (fun i h=>h.IsTupleIter it a i) where
 mem:=by simp
 obj:=fun i h st b hb=>by
  have e:b=it:=by simpa using hb
  subst e
  obtain ⟨o,e,c,d⟩:=st
  exact ⟨o,e,fun v z=>by rw [d] at z; cases z⟩
 keep:=fun i h h' st k=>st.at fun o e=>k it (by simp) o e
 item:=by
  intro X hP hw hK hc i pins s σ H E I hf st hg
  subst hP hw hK
  obtain ⟨xs,x,hq,hx⟩:=hg
  obtain ⟨its,rv,p,hz⟩:=I.tuple hq
  obtain ⟨u,hu,ru⟩:=rv.get hx
  obtain ⟨f0,f1,f2,f3,f4,f5⟩:=hf it (by simp)
  refine wpAny_pyNext_tuple_item st (show s.heap.IsTuple a its.toArray from p) (x:=u) (by simpa using hu) fun h' st' sb=>?_
  have I1:Inv X pins σ H { s with heap:=h' }:=I.turned (t':=s.toks) (fun b o hb e=>(sb.2 b hb).trans e) f0 f1 f3 f4 f5
  obtain ⟨o,e,c,d⟩:=id st'
  exact ⟨u,rfl,lJ (s:={ s with heap:=h' }) e c d (by decide) ⟨x,H,I1,ru,⟨rfl,fun ys hy=>by rw [I.tuple_inj hy hq]; exact hx⟩,st',fun b hb=>(hf b hb).1⟩⟩
 done:=by
  intro X hP hw hK hc i pins s σ H E I hf st hg
  subst hP hw hK
  obtain ⟨xs,hq,hx⟩:=hg
  obtain ⟨its,rv,p,hz⟩:=I.tuple hq
  obtain ⟨f0,f1,f2,f3,f4,f5⟩:=hf it (by simp)
  have hl:=rv.length
  exact wpAny_pyNext_tuple_end (I.ok.hd hc) st (show s.heap.IsTuple a its.toArray from p) (by simp; omega) fun h' eb=>⟨rfl,I.turned (t':=s.toks) (fun b o hb e=>eb b o hb e) f0 f1 f3 f4 f5⟩
 self:=fun _ _ _ _ _ st h=>wpAny_pyIter_tupleiter st h
theorem ia {P:Program} {w:World} {K:PySem.W.Frag} {tg:Expr} (it:Addr) (lo:Int) (n:Nat):Turn P w K tg (Itr lo n) [it] it (fun i h=>IsRangeIter h it (lo + (i:Nat) * 1) ((n:Int) - (i:Nat)) 1) where
 mem:=by simp
 obj:=fun i h st b hb=>by
  have e:b=it:=by simpa using hb
  subst e
  exact ⟨_,st,fun v z=>by
   have z':Data.fields _=Data.cell v:=z
   cases z'⟩
 keep:=fun i h h' st k=>k it (by simp) _ st
 item:=by
  intro X hP hw hK hc i pins s σ H E I hf st hg
  subst hP hw hK
  obtain ⟨f0,f1,f2,f3,f4,f5⟩:=hf it (by simp)
  have W:=Walks.range (prog:=X.prog) (w:=X.w) (I.ok.hd hc) it lo 1 n
  refine W.item i s _ _ hg st fun v h' tk hv st' kk=>?_
  obtain ⟨t,rfl⟩:=hv
  have I1:Inv X pins σ H { s with heap:=h',toks:=tk }:=I.turned (fun b o hb e=>kk b o (by simpa using hb) e) f0 f1 f3 f4 f5
  refine ⟨_, rfl, lJ (s:={ s with heap:=h', toks:=tk }) (n := "range_iterator") st' rfl rfl (by decide) ⟨.int (lo + i), H, I1, ⟨t, ?_⟩, ⟨rfl, rfl⟩, st', fun b hb=>(hf b hb).1⟩⟩
  rw [Int.mul_one]
 done:=by
  intro X hP hw hK hc i pins s σ H E I hf st hg
  subst hP hw hK
  obtain ⟨f0,f1,f2,f3,f4,f5⟩:=hf it (by simp)
  exact wpAny_pyNext_range_end (I.ok.hd hc) st (by have:n≤i:=hg; omega) fun h' eb=>⟨rfl,I.turned (t':=s.toks) (fun b o hb e=>eb b o hb e) f0 f1 f3 f4 f5⟩
 self:=fun _ _ _ _ _ st h=>wpAny_pyIter_rangeiter st h
end L2
namespace L2
open PySem PySem.Spec PyProof.Rows
section
variable {X:Cx} {tg:Expr}
inductive iListA (K:PySem.W.Frag) (R:It→Hp→Prop) (x:V) (H1:Hp):Prop
 | mk (a:Addr) (e_0:x=.ref a) (e_1:(∃xs,SqL K H1 a xs)) (e_2:R (Itl K a) H1):iListA K R x H1
def oW (K:PySem.W.Frag) (tl:TE):TI:=fun σ H R=>tl σ H fun x H1=>iListA K R x H1
inductive iTupA (K:PySem.W.Frag) (R:It→Hp→Prop) (x:V) (H1:Hp):Prop
 | mk (a:Addr) (e_0:x=.ref a) (e_1:(∃xs,SqT K H1 a xs)) (e_2:R (Itt K a) H1):iTupA K R x H1
def sP (K:PySem.W.Frag) (tl:TE):TI:=fun σ H R=>tl σ H fun x H1=>iTupA K R x H1
theorem jc {l:Expr} {tl:TE} (hl:PE X l tl):PI X tg l (oW X.K tl):=by
 intro pins s σ H R I h
 refine thn (hl pins s σ H _ I h) fun v s1 ⟨x,H1,I1,r1,q1⟩=>?_
 obtain ⟨a,e,⟨xs,hq⟩,q⟩:=q1
 subst e
 cases r1
 obtain ⟨its,rv,p,hz⟩:=I1.list hq
 refine wpAny_pyIter_list p.isList ?_
 refine ⟨s1.heap.objs.size,[s1.heap.objs.size],_,_,H1,rfl,I1.kept (t':=s1.toks) fun b o e=>Heap.get?_push_of_some _ e,jQ a _,⟨_,Heap.get?_push_size _ rfl,rfl,rfl⟩,fun b hb=>?_,q⟩
 have e:b=s1.heap.objs.size:=by simpa using hb
 subst e
 exact I1.fpOk (Nat.le_refl _) (I1.hok.fresh (Nat.le_refl _))
theorem ib {l:Expr} {tl:TE} (hl:PE X l tl):PI X tg l (sP X.K tl):=by
 intro pins s σ H R I h
 refine thn (hl pins s σ H _ I h) fun v s1 ⟨x,H1,I1,r1,q1⟩=>?_
 obtain ⟨a,e,⟨xs,hq⟩,q⟩:=q1
 subst e
 cases r1
 obtain ⟨its,rv,p,hz⟩:=I1.tuple hq
 refine wpAny_pyIter_tuple (show s1.heap.IsTuple a its.toArray from p) ?_
 refine ⟨s1.heap.objs.size,[s1.heap.objs.size],_,_,H1,rfl,I1.kept (t':=s1.toks) fun b o e=>Heap.get?_push_of_some _ e,hZ a _,⟨_,Heap.get?_push_size _ rfl,rfl,rfl⟩,fun b hb=>?_,q⟩
 have e:b=s1.heap.objs.size:=by simpa using hb
 subst e
 exact I1.fpOk (Nat.le_refl _) (I1.hok.fresh (Nat.le_refl _))
theorem lK {pins:List (Addr×Obj)} {σ:St} {H:Hp} {s:Shared} {R:It→Hp→Prop} {E:Value→Shared→Prop} {lo hi:Int} {t u v:Tok} {tk:Nat} (I:Inv X pins σ H s) (h1:-(2 ^ 62)≤lo) (h2:lo < 2 ^ 62) (h3:-(2 ^ 62)≤hi) (h4:hi < 2 ^ 62)
  (q:R (Itr lo (hi - lo).toNat) H):wpAny (model X.prog X.w) X.A (pyIter (.ref s.heap.objs.size)) (PIE X pins σ tg R) E { s with heap:=s.heap.push { cls:=.type "range",data:=.fields #[.int lo t,.int hi u,.int 1 v] },toks:=tk }:=by
 refine wpAny_pyIter_range (IsRange.new ..) (small_one h1 h2 h3 h4) ?_
 have I1:Inv X pins σ H { s with heap:=s.heap.push { cls:=.type "range",data:=.fields #[.int lo t,.int hi u,.int 1 v] },toks:=tk }:=I.kept fun b o e=>Heap.get?_push_of_some _ e
 refine ⟨(s.heap.push { cls:=.type "range",data:=.fields #[.int lo t,.int hi u,.int 1 v] }).objs.size,[(s.heap.push { cls:=.type "range",data:=.fields #[.int lo t,.int hi u,.int 1 v] }).objs.size],_,_,H,rfl,
  I1.kept (t':=tk) fun b o e=>Heap.get?_push_of_some _ e,ia _ lo (hi - lo).toNat,?_,fun b hb=>?_,q⟩
 ·have e1:lo + ((0:Nat):Int) * 1=lo:=by simp
  have e2:(((hi - lo).toNat:Nat):Int) - ((0:Nat):Int)=Builtin.Range.rangeSize lo hi 1:=by rw [rangeSize_one]; split <;> omega
  show IsRangeIter _ _ (lo + ((0:Nat):Int) * 1) ((((hi - lo).toNat:Nat):Int) - ((0:Nat):Int)) 1
  rw [e1,e2]
  exact Heap.get?_push_size _ rfl
 ·have e:b=(s.heap.push { cls:=.type "range",data:=.fields #[.int lo t,.int hi u,.int 1 v] }).objs.size:=by simpa using hb
  subst e
  exact I1.fpOk (Nat.le_refl _) (I1.hok.fresh (Nat.le_refl _))
def sQ (ta:TA):TI:=fun σ H R=>ta σ H fun vs H1=>∃j:Int,vs=[.int j]∧-(2 ^ 62)≤j∧j < 2 ^ 62∧R (Itr 0 j.toNat) H1
theorem dw {a:Expr} {ta:TA} {p pos:Pos} (hg:Gl X "range") (hm:X.mg "range" = none) (ha:PA X [a] ta) (hs:starEach [a] X.env=[(false,eval a X.env)]:=by rfl):PI X tg (.Call (.Name "range" p) [a] [] pos) (sQ ta):=by
 intro pins s σ H R I h
 refine Call_ (eJ I hg hm boot_range (PyProof.Rows.callWith_type1 (thn (ha pos pins s σ H _ I h) fun us s1 ⟨vs,H1,I1,r1,q1⟩=>?_) hs rfl))
 obtain ⟨j,e,q1,q2,q⟩:=q1
 subst e
 cases r1 with
 | cons r rr =>
  cases rr
  obtain ⟨t,rfl⟩:=r
  exact call_range_1 (lK I1 (by omega) (by omega) q1 q2 (by simpa using q))
def sR (wi:TI) (g:TG) (tb:TS):TS:=fun D σ H=>wi σ H fun J H1=>∃W:Nat→Nat→St→Hp→Prop,(∃m,W 0 m σ H1)∧∀i m σ H,W i m σ H →
 (J.stop i H∧D.nx σ H)∨(J.go i H∧∃N:St→Hp→Prop,(∀σ' H',N σ' H'→∃m',m' < m∧W (i + 1) m' σ' H')∧∀x H',J.yld i H x H'→g x σ H' fun σ2 H2=>tb { D with nx:=N,ct:=N,bk:=D.nx } σ2 H2)
def fW (fp:List Addr) (h:Heap):List (Addr×Obj):=fp.filterMap fun b=>(h.get? b).map fun o=>(b,o)
theorem br {fp:List Addr} {h:Heap} {b:Addr} {o:Obj} (hb:b∈fp) (e:h.get? b=some o):(b,o)∈fW fp h:=List.mem_filterMap.mpr ⟨b,hb,by rw [e]; rfl⟩
theorem jR {fp:List Addr} {h:Heap} {p:Addr×Obj} (hp:p∈fW fp h):p.1∈fp∧h.get? p.1=some p.2:=by
 obtain ⟨b,hb,e⟩:=List.mem_filterMap.mp hp
 cases q:h.get? b with
 | none=>rw [q] at e; cases e
 | some o =>
  rw [q] at e
  have e':(b,o)=p:=Option.some.inj e
  subst e'
  exact ⟨hb,q⟩
theorem Inv.pinned {pins:List (Addr×Obj)} {σ:St} {H:Hp} {s:Shared} {fp:List Addr} (I:Inv X pins σ H s) (hf:∀b∈fp,dq X pins H b) (ho:∀b∈fp,∃o,s.heap.get? b=some o∧∀v,o.data≠.cell v):Inv X (pins ++ fW fp s.heap) σ H s :=
 I.pins_of fun p hp=>(List.mem_append.mp hp).elim (fun z=>I.pin p (List.mem_append_right _ z)) fun z=>by
  obtain ⟨hb,e⟩:=jR z
  obtain ⟨f0,f1,f2,_⟩:=hf p.1 hb
  obtain ⟨o,e',d⟩:=ho p.1 hb
  rw [e] at e'; cases e'
  exact ⟨e,f0,f1,f2,d⟩
theorem Inv.unpinned {pins pl:List (Addr×Obj)} {σ:St} {H:Hp} {s:Shared} (I:Inv X (pins ++ pl) σ H s):Inv X pins σ H s:=I.pins_of fun p hp=>I.pin p (List.mem_append_right _ (List.mem_append_left _ hp))
theorem cN {iter:Expr} {body:List Stmt} {wi:TI} {g:TG} {tb:TS} {pos:Pos} (hp:PassesOwn (model X.prog X.w) X.A X.env X.xe) (hc:X.calm=true) (hi:PI X tg iter wi) (hg:PG X tg g) (hb:PSs X body tb)
  (hs:∀x,foldedSetIterable iter X.env x=pure x:=by intro _; rfl):PS X (.For tg iter body [] pos) (sR wi g tb):=by
 intro pins s σ H D I h
 refine wpAny_For (thn (hi pins s σ H _ I h) fun v s1 h1=>thn h1 fun itv s2 h2=>?_) hs
 obtain ⟨it,fp,tn,J,H2,e,I2,T,st2,f2,W,⟨m0,w0⟩,turn⟩:=h2
 subst e
 have stat:∀ {H':Hp},(∀b∈fp,H' b=none)→∀b∈fp,dq X pins H' b:=fun hn b hb=>⟨hn b hb,(f2 b hb).2⟩
 refine codeAny_forLoop_any (fun n s'=>∃i σ' H',Inv X pins σ' H' s'∧tn i s'.heap∧(∀b∈fp,H' b=none)∧W i n σ' H') ?_ m0 ⟨0,σ,H2,I2,st2,fun b hb=>(f2 b hb).1,w0⟩
 rintro n s3 ⟨i,σ3,H3,I3,st3,fr3,w3⟩
 rcases turn i n σ3 H3 w3 with ⟨stop,qn⟩ | ⟨go,N,hN,step⟩
 ·refine wpAny_passesOwn hp (thn (T.done X rfl rfl rfl hc i pins s3 σ3 H3 X.xe I3 (stat fr3) st3 stop) fun r s4 ⟨hr,I4⟩=>?_)
  subst hr
  exact wpAny_execs_nil ⟨σ3,H3,I4,qn⟩
 ·refine wpAny_passesOwn hp (thn (T.item X rfl rfl rfl hc i pins s3 σ3 H3 X.xe I3 (stat fr3) st3 go) fun r s4 ⟨u,hr,h4⟩=>?_)
  subst hr
  refine wpAny_passesOwn hp (thn h4 fun _ s5 ⟨x,H5,I5,r5,y5,st5,fr5⟩=>?_)
  have I5':=I5.pinned (stat fr5) (T.obj _ _ st5)
  refine wpAny_passesOwn hp (thn (hg _ s5 σ3 H5 x u _ I5' r5 (step x H5 y5)) fun _ s6 ⟨σ6,H6,I6,q6⟩=>?_)
  refine wpAny_passesOwn hp (thn (hb _ s6 σ6 H6 _ I6 q6) fun f s7 q7=>?_)
  have again:∀ {σ7:St} {H7:Hp},Inv X (pins ++ fW fp s5.heap) σ7 H7 s7→N σ7 H7→∃m,m < n∧∃i σ' H',Inv X pins σ' H' s7∧tn i s7.heap∧(∀b∈fp,H' b=none)∧W i m σ' H':=fun {σ7 H7} I7 n7=>by
   obtain ⟨m',hm,w7⟩:=hN σ7 H7 n7
   refine ⟨m',hm,i + 1,σ7,H7,I7.unpinned,T.keep _ _ _ st5 fun b hb o e=>(I7.pin (b,o) (List.mem_append_right _ (List.mem_append_right _ (br hb e)))).1,fun b hb=>?_,w7⟩
   obtain ⟨o,e,d⟩:=T.obj _ _ st5 b hb
   exact (I7.pin (b,o) (List.mem_append_right _ (List.mem_append_right _ (br hb e)))).2.1
  cases f with
  | next=>obtain ⟨σ7,H7,I7,n7⟩:=q7; exact again I7 n7
  | cont=>obtain ⟨σ7,H7,I7,n7⟩:=q7; exact again I7 n7
  | brk=>obtain ⟨σ7,H7,I7,q7⟩:=q7; exact ⟨σ7,H7,I7.unpinned,q7⟩
  | ret v=>obtain ⟨x7,σ7,H7,I7,r7,q7⟩:=q7; exact ⟨x7,σ7,H7,I7.unpinned,r7,q7⟩
end
theorem gC {K:PySem.W.Frag} {a:Addr} {xs:List V} {g:TG} {tb:TS} {D:Ends} {σ:St} {H:Hp} (Pv:Nat→St→Hp→Prop) (h0:Pv 0 σ H) (hl:∀i σ H,i≤xs.length→Pv i σ H→SqL K H a xs)
  (hs:∀i x σ H,xs[i]? = some x→Pv i σ H→g x σ H fun σ2 H2=>tb { D with nx:=Pv (i + 1),ct:=Pv (i + 1),bk:=D.nx } σ2 H2) (hd:∀σ H,Pv xs.length σ H→D.nx σ H) :
  ∃W:Nat→Nat→St→Hp→Prop,(∃m,W 0 m σ H)∧∀i m σ H,W i m σ H →
   ((Itl K a).stop i H∧D.nx σ H)∨((Itl K a).go i H∧∃N:St→Hp→Prop,(∀σ' H',N σ' H'→∃m',m' < m∧W (i + 1) m' σ' H')∧∀x H',(Itl K a).yld i H x H'→g x σ H' fun σ2 H2=>tb { D with nx:=N,ct:=N,bk:=D.nx } σ2 H2):=by
 refine ⟨fun i m σ H=>m=xs.length - i∧i≤xs.length∧Pv i σ H,⟨xs.length,by simp,Nat.zero_le _,h0⟩,?_⟩
 rintro i m σ H ⟨rfl,hi,p⟩
 have q:=hl i σ H hi p
 by_cases hlt:i < xs.length
 ·refine .inr ⟨⟨xs,xs[i],q,by simp [hlt]⟩,Pv (i + 1),fun σ' H' p'=>⟨xs.length - (i + 1),by omega,rfl,hlt,p'⟩,fun x H' y=>?_⟩
  obtain ⟨e,y⟩:=y
  subst e
  exact hs i x σ _ (y xs q) p
 ·have e:i=xs.length:=by omega
  subst e
  exact .inl ⟨⟨xs,q,Nat.le_refl _⟩,hd σ H p⟩
theorem jd {K:PySem.W.Frag} {a:Addr} {xs:List V} {g:TG} {tb:TS} {D:Ends} {σ:St} {H:Hp} (Pv:Nat→St→Hp→Prop) (h0:Pv 0 σ H) (hl:∀i σ H,i≤xs.length→Pv i σ H→SqT K H a xs)
  (hs:∀i x σ H,xs[i]? = some x→Pv i σ H→g x σ H fun σ2 H2=>tb { D with nx:=Pv (i + 1),ct:=Pv (i + 1),bk:=D.nx } σ2 H2) (hd:∀σ H,Pv xs.length σ H→D.nx σ H) :
  ∃W:Nat→Nat→St→Hp→Prop,(∃m,W 0 m σ H)∧∀i m σ H,W i m σ H →
   ((Itt K a).stop i H∧D.nx σ H)∨((Itt K a).go i H∧∃N:St→Hp→Prop,(∀σ' H',N σ' H'→∃m',m' < m∧W (i + 1) m' σ' H')∧∀x H',(Itt K a).yld i H x H'→g x σ H' fun σ2 H2=>tb { D with nx:=N,ct:=N,bk:=D.nx } σ2 H2):=by
 refine ⟨fun i m σ H=>m=xs.length - i∧i≤xs.length∧Pv i σ H,⟨xs.length,by simp,Nat.zero_le _,h0⟩,?_⟩
 rintro i m σ H ⟨rfl,hi,p⟩
 have q:=hl i σ H hi p
 by_cases hlt:i < xs.length
 ·refine .inr ⟨⟨xs,xs[i],q,by simp [hlt]⟩,Pv (i + 1),fun σ' H' p'=>⟨xs.length - (i + 1),by omega,rfl,hlt,p'⟩,fun x H' y=>?_⟩
  obtain ⟨e,y⟩:=y
  subst e
  exact hs i x σ _ (y xs q) p
 ·have e:i=xs.length:=by omega
  subst e
  exact .inl ⟨⟨xs,q,Nat.le_refl _⟩,hd σ H p⟩
theorem dA {lo:Int} {n:Nat} {g:TG} {tb:TS} {D:Ends} {σ:St} {H:Hp} (Pv:Nat→St→Hp→Prop) (h0:Pv 0 σ H)
  (hs:∀i σ H,i < n→Pv i σ H→g (.int (lo + i)) σ H fun σ2 H2=>tb { D with nx:=Pv (i + 1),ct:=Pv (i + 1),bk:=D.nx } σ2 H2) (hd:∀σ H,Pv n σ H→D.nx σ H) :
  ∃W:Nat→Nat→St→Hp→Prop,(∃m,W 0 m σ H)∧∀i m σ H,W i m σ H →
   ((Itr lo n).stop i H∧D.nx σ H)∨((Itr lo n).go i H∧∃N:St→Hp→Prop,(∀σ' H',N σ' H'→∃m',m' < m∧W (i + 1) m' σ' H')∧∀x H',(Itr lo n).yld i H x H'→g x σ H' fun σ2 H2=>tb { D with nx:=N,ct:=N,bk:=D.nx } σ2 H2):=by
 refine ⟨fun i m σ H=>m=n - i∧i≤n∧Pv i σ H,⟨n,by simp,Nat.zero_le _,h0⟩,?_⟩
 rintro i m σ H ⟨rfl,hi,p⟩
 by_cases hlt:i < n
 ·refine .inr ⟨hlt,Pv (i + 1),fun σ' H' p'=>⟨n - (i + 1),by omega,rfl,hlt,p'⟩,fun x H' y=>?_⟩
  obtain ⟨e,y⟩:=y
  subst e y
  exact hs i σ _ hlt p
 ·have e:i=n:=by omega
  subst e
  exact .inl ⟨Nat.le_refl _,hd σ H p⟩
end L2
namespace L2
open PySem PySem.Spec PyProof.Rows
abbrev R2:=V→V→Hp→VK→Prop
def OpR (X:Cx) (f:Value→Value→Sem Value) (r:R2):Prop :=
 ∀ (pins:List (Addr×Obj)) (s:Shared) (σ:St) (H:Hp) (x y:V) (v u:Value) (Q:VK),Inv X pins σ H s→RelV x v→RelV y u→r x y H Q →
  wpAny (model X.prog X.w) X.A (f v u) (EP X pins σ Q) X.xe s
def bY (X:Cx) (f:Value) (r:List V→Hp→VK→Prop):Prop :=
 ∀ (pins:List (Addr×Obj)) (s:Shared) (σ:St) (H:Hp) (xs:List V) (us:List Value) (Q:VK),Inv X pins σ H s→Vals xs us→r xs H Q →
  wpAny (model X.prog X.w) X.A (call f us) (EP X pins σ Q) X.xe s
def zv (X:Cx) (r:V→Hp→(Bool→Hp→Prop)→Prop):Prop :=
 ∀ (pins:List (Addr×Obj)) (s:Shared) (σ:St) (H:Hp) (x:V) (v:Value) (Q:Bool→Hp→Prop),Inv X pins σ H s→RelV x v→r x H Q →
  wpAny (model X.prog X.w) X.A (truthy v) (TP X pins σ Q) X.xe s
def tOp (r:R2) (ta tb:TE):TE:=fun σ H Q=>ta σ H fun x H1=>tb σ H1 fun y H2=>r x y H2 Q
inductive rI (C:Int→Int→Prop) (g:Int→Int→V) (x:V) (y:V) (H:Hp) (Q:VK):Prop
 | mk (i:Int) (j:Int) (e_0:x=.int i) (e_1:y=.int j) (e_2:C i j) (e_3:Q (g i j) H):rI C g x y H Q
inductive rI0 (g:Int→Int→V) (x:V) (y:V) (H:Hp) (Q:VK):Prop
 | mk (i:Int) (j:Int) (e_0:x=.int i) (e_1:y=.int j) (e_2:Q (g i j) H):rI0 g x y H Q
section
variable {X:Cx} {a b c:Expr} {ta tb tc:TE} {pos:Pos}
theorem pM (ha:PE X a ta) (hb:PE X b tb) {pins:List (Addr×Obj)} {s:Shared} {σ:St} {H:Hp} {R:V→V→Hp→Prop} (I:Inv X pins σ H s)
  (h:ta σ H fun x H1=>tb σ H1 fun y H2=>R x y H2) {Q:Value→Shared→Prop} {f:Value→Value→Sem Value}
  (hf:∀v u s2 x y H2,Inv X pins σ H2 s2→RelV x v→RelV y u→R x y H2→wpAny (model X.prog X.w) X.A (f v u) Q X.xe s2) :
  wpAny (model X.prog X.w) X.A (eval a X.env) (fun v s₁=>wpAny (model X.prog X.w) X.A (eval b X.env) (fun u s₂=>wpAny (model X.prog X.w) X.A (f v u) Q X.xe s₂) X.xe s₁) X.xe s:=by
 refine thn (ha pins s σ H _ I h) fun v s1 ⟨x,H1,I1,r1,q1⟩=>?_
 refine thn (hb pins s1 σ H1 _ I1 q1) fun u s2 ⟨y,H2,I2,r2,q2⟩=>?_
 exact hf v u s2 x y H2 I2 r1 r2 q2
theorem aw {op:Operator} {r:R2} (ho:OpR X (binaryOp op) r) (ha:PE X a ta) (hb:PE X b tb):PE X (.BinOp a op b pos) (tOp r ta tb):=by
 intro pins s σ H Q I h
 exact wpAny_BinOp (pM ha hb I h fun v u s2 x y H2 I2 rx ry q=>ho pins s2 σ H2 x y v u Q I2 rx ry q)
theorem opI {f:Value→Value→Sem Value} {C:Int→Int→Prop} {g:Int→Int→Int}
  (rule:∀ (i j:Int) (t u:Tok) (s:Shared) (Q:Value→Shared→Prop) (E:Value→Shared→Prop),C i j→Q (.int (g i j) s.toks) { s with toks:=s.toks + 1 }→wpAny (model X.prog X.w) X.A (f (.int i t) (.int j u)) Q E s) :
  OpR X f (rI C fun i j=>.int (g i j)):=by
 intro pins s σ H x y v u Q I rx ry h
 obtain ⟨i,j,rfl,rfl,hc,q⟩:=h
 obtain ⟨t,rfl⟩:=rx
 obtain ⟨t',rfl⟩:=ry
 exact rule i j t t' s _ _ hc ⟨.int (g i j),H,I.tok _,⟨_,rfl⟩,q⟩
theorem sS {f:Value→Value→Sem Value} {g:Int→Int→Int}
  (rule:∀ (i j:Int) (t u:Tok) (s:Shared) (Q:Value→Shared→Prop) (E:Value→Shared→Prop),Q (.int (g i j) s.toks) { s with toks:=s.toks + 1 }→wpAny (model X.prog X.w) X.A (f (.int i t) (.int j u)) Q E s) :
  OpR X f (rI0 fun i j=>.int (g i j)):=by
 intro pins s σ H x y v u Q I rx ry h
 obtain ⟨i,j,rfl,rfl,q⟩:=h
 obtain ⟨t,rfl⟩:=rx
 obtain ⟨t',rfl⟩:=ry
 exact rule i j t t' s _ _ ⟨.int (g i j),H,I.tok _,⟨_,rfl⟩,q⟩
theorem nL {f:Value→Value→Sem Value} {g:Int→Int→Bool}
  (rule:∀ (i j:Int) (t u:Tok) (s:Shared) (Q:Value→Shared→Prop) (E:Value→Shared→Prop),Q (.bool (g i j)) s→wpAny (model X.prog X.w) X.A (f (.int i t) (.int j u)) Q E s) :
  OpR X f (rI0 fun i j=>.bl (g i j)):=by
 intro pins s σ H x y v u Q I rx ry h
 obtain ⟨i,j,rfl,rfl,q⟩:=h
 obtain ⟨t,rfl⟩:=rx
 obtain ⟨t',rfl⟩:=ry
 exact rule i j t t' s _ _ ⟨.bl (g i j),H,I,rfl,q⟩
def zw (i j:Int):Prop:=0≤j∧j≤1000000∧i.natAbs < 2 ^ 64
def CMul (i j:Int):Prop:=(-(2 ^ 64) < i∧i < 2 ^ 64)∨(-(2 ^ 64) < j∧j < 2 ^ 64)
theorem CMul.ok {i j:Int} (h:CMul i j):IntMulOk i j:=by
 rcases h with ⟨h1,h2⟩ | ⟨h1,h2⟩
 ·exact .of_left (intBits_le_64 h1 h2)
 ·exact .of_right (intBits_le_64 h1 h2)
theorem aQ:OpR X (binaryOp .Add) (rI0 fun i j=>.int (i + j)):=sS fun _ _ _ _ _ _ _ q=>add_int q
theorem bd:OpR X (binaryOp .Sub) (rI0 fun i j=>.int (i - j)):=sS fun _ _ _ _ _ _ _ q=>sub_int q
theorem dB:OpR X (binaryOp .Mult) (rI CMul fun i j=>.int (i * j)):=opI fun _ _ _ _ _ _ _ hc q=>mul_int q hc.ok
theorem dC:OpR X (binaryOp .Mod) (rI (fun _ j=>0 < j) fun i j=>.int (i % j)):=opI fun i j _ _ _ _ _ hc q=>by
 have h1:(0:Int) < j:=hc
 exact mod_int' (by omega) (by rw [Int.fmod_eq_emod_of_nonneg i (by omega)]; exact q)
theorem dD:OpR X (binaryOp .Pow) (rI zw fun i j=>.int (i ^ j.toNat)):=opI fun _ _ _ _ _ _ _ hc q=>pow_int_small hc.1 hc.2.1 hc.2.2 q
end
def sT:V→V→Bool
 | .non,.non=>true | .non,.int _=>true | .int _,.non=>true | .non,.bl _=>true | .bl _,.non=>true | .non,.str _=>true | .str _,.non=>true
 | .int _,.int _=>true | .bl _,.bl _=>true | .str _,.str _=>true | .byt _,.byt _=>true
 | .int _,.str _=>true | .str _,.int _=>true | .bl _,.str _=>true | .str _,.bl _=>true
 | _,_=>false
def rEq:R2:=fun x y H Q=>sT x y=true∧Q (.bl (decide (x=y))) H
def rNe:R2:=fun x y H Q=>sT x y=true∧Q (.bl (!decide (x=y))) H
theorem fX {i j:Int}:decide (V.int i=V.int j)=(i == j):=by
 rw [Bool.eq_iff_iff]
 simp
theorem lL {i j:Bool}:decide (V.bl i=V.bl j)=(i == j):=by
 rw [Bool.eq_iff_iff]
 simp
theorem je {i j:Str}:decide (V.str i=V.str j)=(i == j):=by
 rw [Bool.eq_iff_iff]
 simp
theorem jf {i j:Array UInt8}:decide (V.byt i=V.byt j)=(i.toList == j.toList):=by
 rw [Bool.eq_iff_iff]
 cases i
 cases j
 simp
section
variable {X:Cx} {a b c:Expr} {ta tb tc:TE} {pos:Pos}
theorem aG {pins:List (Addr×Obj)} {σ:St} {H:Hp} {s:Shared} {Q:VK} {k k':Bool} (I:Inv X pins σ H s) (q:Q (.bl k) H) (e:k=k'):EP X pins σ Q (.bool k') s:=by
 subst e
 exact ⟨.bl k,H,I,rfl,q⟩
theorem bg:OpR X (compareOp .Eq) rEq:=by
 intro pins s σ H x y v u Q I rx ry h
 obtain ⟨hs,q⟩:=h
 cases x with
 | non =>
  cases rx
  cases y with
  | non=>cases ry; exact PySem.EqNone.eq_none_none (aG I q (by simp))
  | bl j=>cases ry; exact PySem.EqNone.eq_none_bool (aG I q (by simp))
  | int j=>obtain ⟨t',rfl⟩:=ry; exact PySem.EqNone.eq_none_int (aG I q (by simp))
  | str j=>obtain ⟨t',rfl⟩:=ry; exact PySem.EqNone.eq_none_str (aG I q (by simp))
  | _=>exact absurd (show false=true from hs) Bool.false_ne_true
 | bl i =>
  cases rx
  cases y with
  | non=>cases ry; exact PySem.EqNone.eq_bool_none (aG I q (by simp))
  | bl j=>cases ry; exact eq_bool (aG I q lL)
  | str j=>obtain ⟨t',rfl⟩:=ry; exact PySem.EqMixed.eq_bool_str (aG I q (by simp))
  | _=>exact absurd (show false=true from hs) Bool.false_ne_true
 | int i =>
  obtain ⟨t,rfl⟩:=rx
  cases y with
  | non=>cases ry; exact PySem.EqNone.eq_int_none (aG I q (by simp))
  | int j=>obtain ⟨t',rfl⟩:=ry; exact eq_int (aG I q fX)
  | str j=>obtain ⟨t',rfl⟩:=ry; exact PySem.EqMixed.eq_int_str (aG I q (by simp))
  | _=>exact absurd (show false=true from hs) Bool.false_ne_true
 | str i =>
  obtain ⟨t,rfl⟩:=rx
  cases y with
  | non=>cases ry; exact PySem.EqNone.eq_str_none (aG I q (by simp))
  | bl j=>cases ry; exact PySem.EqMixed.eq_str_bool (aG I q (by simp))
  | int j=>obtain ⟨t',rfl⟩:=ry; exact PySem.EqMixed.eq_str_int (aG I q (by simp))
  | str j=>obtain ⟨t',rfl⟩:=ry; exact eq_str (aG I q je)
  | _=>exact absurd (show false=true from hs) Bool.false_ne_true
 | byt i =>
  obtain ⟨t,rfl⟩:=rx
  cases y with
  | byt j=>obtain ⟨t',rfl⟩:=ry; exact PySem.W.eq_bytes (aG I q jf)
  | _=>exact absurd (show false=true from hs) Bool.false_ne_true
 | _=>cases y <;> exact absurd (show false=true from hs) Bool.false_ne_true
theorem dU:OpR X (compareOp .NotEq) rNe:=by
 intro pins s σ H x y v u Q I rx ry h
 obtain ⟨hs,q⟩:=h
 cases x with
 | non =>
  cases rx
  cases y with
  | non=>cases ry; exact PySem.EqNone.ne_none_none (aG I q (by simp))
  | bl j=>cases ry; exact PySem.EqNone.ne_none_bool (aG I q (by simp))
  | int j=>obtain ⟨t',rfl⟩:=ry; exact PySem.EqNone.ne_none_int (aG I q (by simp))
  | str j=>obtain ⟨t',rfl⟩:=ry; exact PySem.EqNone.ne_none_str (aG I q (by simp))
  | _=>exact absurd (show false=true from hs) Bool.false_ne_true
 | bl i =>
  cases rx
  cases y with
  | non=>cases ry; exact PySem.EqNone.ne_bool_none (aG I q (by simp))
  | bl j=>cases ry; exact ne_bool (aG I q (congrArg not lL))
  | str j=>obtain ⟨t',rfl⟩:=ry; exact PySem.EqMixed.ne_bool_str (aG I q (by simp))
  | _=>exact absurd (show false=true from hs) Bool.false_ne_true
 | int i =>
  obtain ⟨t,rfl⟩:=rx
  cases y with
  | non=>cases ry; exact PySem.EqNone.ne_int_none (aG I q (by simp))
  | int j=>obtain ⟨t',rfl⟩:=ry; exact ne_int (aG I q (congrArg not fX))
  | str j=>obtain ⟨t',rfl⟩:=ry; exact PySem.EqMixed.ne_int_str (aG I q (by simp))
  | _=>exact absurd (show false=true from hs) Bool.false_ne_true
 | str i =>
  obtain ⟨t,rfl⟩:=rx
  cases y with
  | non=>cases ry; exact PySem.EqNone.ne_str_none (aG I q (by simp))
  | bl j=>cases ry; exact PySem.EqMixed.ne_str_bool (aG I q (by simp))
  | int j=>obtain ⟨t',rfl⟩:=ry; exact PySem.EqMixed.ne_str_int (aG I q (by simp))
  | str j=>obtain ⟨t',rfl⟩:=ry; exact ne_str (aG I q (congrArg not je))
  | _=>exact absurd (show false=true from hs) Bool.false_ne_true
 | byt i =>
  obtain ⟨t,rfl⟩:=rx
  cases y with
  | byt j=>obtain ⟨t',rfl⟩:=ry; exact PySem.W.ne_bytes (aG I q (congrArg not jf))
  | _=>exact absurd (show false=true from hs) Bool.false_ne_true
 | _=>cases y <;> exact absurd (show false=true from hs) Bool.false_ne_true
theorem lM:OpR X (compareOp .Lt) (rI0 fun i j=>.bl (decide (i < j))):=nL fun _ _ _ _ _ _ _ q=>lt_int q
theorem fq:OpR X (compareOp .LtE) (rI0 fun i j=>.bl (decide (i≤j))):=nL fun _ _ _ _ _ _ _ q=>le_int q
theorem oX:OpR X (compareOp .Gt) (rI0 fun i j=>.bl (decide (j < i))):=nL fun _ _ _ _ _ _ _ q=>gt_int q
theorem oY:OpR X (compareOp .GtE) (rI0 fun i j=>.bl (decide (j≤i))):=nL fun _ _ _ _ _ _ _ q=>ge_int q
theorem aB (b:Expr) {op:CmpOp} (h:op≠.In:=by decide) (h2:op≠.NotIn:=by decide):behindInMarks op b=false:=by
 have e1:(op == CmpOp.In)=false:=by cases op <;> first | rfl | exact absurd rfl h
 have e2:(op == CmpOp.NotIn)=false:=by cases op <;> first | rfl | exact absurd rfl h2
 cases b <;> simp [behindInMarks,e1,e2]
theorem bi {op:CmpOp} {r:R2} (ho:OpR X (compareOp op) r) (ha:PE X a ta) (hb:PE X b tb) (hm:behindInMarks op b=false):PE X (.Compare a [op] [b] pos) (tOp r ta tb):=by
 intro pins s σ H Q I h
 exact wpAny_Compare1 (pM ha hb I h fun v u s2 x y H2 I2 rx ry q=>ho pins s2 σ H2 x y v u Q I2 rx ry q) hm
def oZ (t:TE):TT:=fun σ H Q=>t σ H fun x H'=>IsB x fun k=>Q k H'
theorem aD {op:CmpOp} {r:R2} (ho:OpR X (compareOp op) r) (ha:PE X a ta) (hb:PE X b tb) (hm:behindInMarks op b=false):PT X (.Compare a [op] [b] pos) (oZ (tOp r ta tb)):=by
 intro pins s σ H Q I h
 refine wpAny_isTrue_Compare1 (thn (ha pins s σ H _ I h) fun v s1 ⟨x,H1,I1,r1,q1⟩=>thn (hb pins s1 σ H1 _ I1 q1) fun u s2 ⟨y,H2,I2,r2,q2⟩ =>
  thn (ho pins s2 σ H2 x y v u _ I2 r1 r2 q2) fun c s3 ⟨z,H3,I3,r3,k,e,q3⟩=>?_) hm
 subst e
 cases r3
 exact wpAny_truthy_bool ⟨H3,I3,q3⟩
def pN (r r':R2) (ta tb tc:TE):TE:=fun σ H Q=>ta σ H fun x H1=>tb σ H1 fun y H2=>r x y H2 fun z H3=>∃k,z=.bl k ∧
 (if k=true then tc σ H3 fun w' H4=>r' y w' H4 Q else Q (.bl false) H3)
theorem lN {op op':CmpOp} {r r':R2} (ho:OpR X (compareOp op) r) (ho':OpR X (compareOp op') r') (ha:PE X a ta) (hb:PE X b tb) (hc:PE X c tc)
  (hm:lastMarks [op,op'] [b,c]=false:=by with_unfolding_all rfl):PT X (.Compare a [op,op'] [b,c] pos) (oZ (pN r r' ta tb tc)):=by
 intro pins s σ H Q I h
 refine isTrue_chain (thn (ha pins s σ H _ I h) fun v s1 ⟨x,H1,I1,r1,q1⟩=>test_link (thn (hb pins s1 σ H1 _ I1 q1) fun u s2 ⟨y,H2,I2,r2,q2⟩ =>
  thn (ho pins s2 σ H2 x y v u _ I2 r1 r2 q2) fun d s3 ⟨z,H3,I3,r3,k,e,q3⟩=>?_)) hm
 subst e
 cases r3
 refine wpAny_truthy_bool ?_
 cases k with
 | false =>
  obtain ⟨k',e',q'⟩:=q3
  cases e'
  exact ite_ff ⟨H3,I3,q'⟩
 | true =>
  refine ite_tt (test_last (thn (hc pins s3 σ H3 _ I3 q3) fun w' s4 ⟨z',H4,I4,r4,q4⟩=>thn (ho' pins s4 σ H4 y z' u w' _ I4 r2 r4 q4) fun d' s5 ⟨z2,H5,I5,r5,k2,e2,q5⟩=>?_))
  subst e2
  cases r5
  exact wpAny_truthy_bool ⟨H5,I5,q5⟩
def sU (K:PySem.W.Frag) (x:V) (H:Hp) (k:Bool):Prop :=
 match x with
 | .non=>k=false
 | .bl b=>k=b
 | .int i=>k=(i != 0)
 | .str y=>y.length≤sizeLine∧k=((y.length:Int) != 0)
 | .byt y=>y.size≤sizeLine∧k=((y.size:Int) != 0)
 | .ref p=>(∃xs,SqL K H p xs∧k=!xs.isEmpty)∨(∃xs,SqT K H p xs∧k=!xs.isEmpty)∨∃kvs,H p=some (.dK kvs)∧k=!kvs.isEmpty
 | _=>False
theorem ic {κ:Type} {kvs:List (κ×V)} {vs:List (κ×Value)} (r:KV kvs vs):(!vs.isEmpty)=!kvs.isEmpty:=by
 cases r <;> rfl
theorem eN {xs:List V} {its:List Value} (r:Vals xs its):(!its.toArray.isEmpty)=!xs.isEmpty:=by
 cases r <;> simp
theorem dE:(sizeLine:Nat) < 2 ^ 63:=by rw [sizeLine_eq]; decide
theorem pO:zv X (fun x H Q=>∃k,sU X.K x H k∧Q k H):=by
 intro pins s σ H x v Q I rx h
 obtain ⟨k,e,q⟩:=h
 have hl:=dE
 have hs:sizeLine=16777216:=sizeLine_eq
 cases x with
 | non =>
  cases rx
  have e':k=false:=e
  subst e'
  exact truthy_none ⟨H,I,q⟩
 | bl b =>
  cases rx
  have e':k=b:=e
  subst e'
  exact wpAny_truthy_bool ⟨H,I,q⟩
 | int i =>
  obtain ⟨t,rfl⟩:=rx
  have e':k=(i != 0):=e
  subst e'
  exact PySem.P.truthy_int ⟨H,I,q⟩
 | str y =>
  obtain ⟨t,rfl⟩:=rx
  obtain ⟨hy,e'⟩:y.length≤sizeLine∧k=((y.length:Int) != 0):=e
  subst e'
  exact PySem.P.truthy_str (by omega) ⟨H,I.tok _,q⟩
 | byt y =>
  obtain ⟨t,rfl⟩:=rx
  obtain ⟨hy,e'⟩:y.size≤sizeLine∧k=((y.size:Int) != 0):=e
  subst e'
  exact PySem.W.truthy_bytes (by omega) ⟨H,I.tok _,q⟩
 | ref p =>
  cases rx
  have e':(∃xs,SqL X.K H p xs∧k=!xs.isEmpty)∨(∃xs,SqT X.K H p xs∧k=!xs.isEmpty)∨∃kvs,H p=some (.dK kvs)∧k=!kvs.isEmpty:=e
  rcases e' with ⟨xs,hx,e'⟩ | ⟨xs,hx,e'⟩ | ⟨kvs,hx,e'⟩
  ·subst e'
   obtain ⟨its,r,pl,hz⟩:=I.list hx
   have hlen:=r.length
   exact wpAny_truthy_list pl.isList (by simp only [List.size_toArray]; omega) ⟨H,I.tok _,by rw [eN r]; exact q⟩
  ·subst e'
   obtain ⟨its,r,pl,hz⟩:=I.tuple hx
   have hlen:=r.length
   exact truthy_tuple pl (by simp only [List.size_toArray]; omega) ⟨H,I.tok _,by rw [eN r]; exact q⟩
  ·subst e'
   obtain ⟨hz,hS,vs,r,m⟩:kvs.length≤sizeLine∧(p == sysModules)=false∧∃vs,KV kvs vs∧s.heap.DictOf (fT X.prog X.w) p vs:=I.hok p _ hx
   have hlen:kvs.length=vs.length:=Paired.length r
   exact wpAny_truthy_dict hS m (by omega) ⟨H,I.tok _,by rw [ic r]; exact q⟩
 | _=>exact (show False from e).elim
theorem gD (ha:PE X a ta) (he:∀aL,isTrue a X.env aL=(do let v←aL; standAt a.pos; holding [v] (truthy v))) :
  PT X a (fun σ H Q=>ta σ H fun x H'=>∃k,sU X.K x H' k∧Q k H'):=by
 intro pins s σ H Q I h
 exact isTrue_plain (thn (ha pins s σ H _ I h) fun v s1 ⟨x,H1,I1,r1,q1⟩=>pO pins s1 σ H1 x v Q I1 r1 q1) (he _)
theorem eO {x:V} {us:List Value} (r:Vals [x] us):∃u,us=[u]∧RelV x u:=by
 cases r with
 | cons r1 r2=>cases r2; exact ⟨_,rfl,r1⟩
theorem pb {x y:V} {us:List Value} (r:Vals [x,y] us):∃u w',us=[u,w']∧RelV x u∧RelV y w':=by
 cases r with
 | cons r1 r2 =>
  cases r2 with
  | cons r3 r4=>cases r4; exact ⟨_,_,rfl,r1,r3⟩
theorem gE:bY X (.builtin "abs") (fun xs H Q=>∃i,xs=[.int i]∧Q (.int (if i < 0 then -i else i)) H):=by
 intro pins s σ H xs us Q I r h
 obtain ⟨i,rfl,q⟩:=h
 obtain ⟨u,rfl,t,rfl⟩:=eO r
 exact call_abs_int fun u tk=>⟨.int (if i < 0 then -i else i),H,I.tok _,⟨_,rfl⟩,q⟩
theorem fu (hc:X.calm=true):bY X (.builtin "max") (fun xs H Q=>∃i j,xs=[.int i,.int j]∧Q (.int (if j > i then j else i)) H):=by
 intro pins s σ H xs us Q I r h
 obtain ⟨i,j,rfl,q⟩:=h
 obtain ⟨u,w',rfl,⟨t,rfl⟩,⟨t',rfl⟩⟩:=pb r
 refine max_two_ints (I.ok.hd hc) fun h' tk k=>⟨_,H,I.kept k,?_,q⟩
 by_cases hj:j > i
 ·rw [if_pos hj,if_pos hj]; exact ⟨_,rfl⟩
 ·rw [if_neg hj,if_neg hj]; exact ⟨_,rfl⟩
theorem dF (hc:X.calm=true):bY X (.builtin "min") (fun xs H Q=>∃i j,xs=[.int i,.int j]∧Q (.int (if j < i then j else i)) H):=by
 intro pins s σ H xs us Q I r h
 obtain ⟨i,j,rfl,q⟩:=h
 obtain ⟨u,w',rfl,⟨t,rfl⟩,⟨t',rfl⟩⟩:=pb r
 refine min_two_ints (I.ok.hd hc) fun h' tk k=>⟨_,H,I.kept k,?_,q⟩
 by_cases hj:j < i
 ·rw [if_pos hj,if_pos hj]; exact ⟨_,rfl⟩
 ·rw [if_neg hj,if_neg hj]; exact ⟨_,rfl⟩
theorem bI:bY X (.type "int") (fun xs H Q=>(∃i,xs=[.int i]∧Q (.int i) H)∨∃k,xs=[.bl k]∧Q (.int (if k then 1 else 0)) H):=by
 intro pins s σ H xs us Q I r h
 rcases h with ⟨i,rfl,q⟩ | ⟨k,rfl,q⟩
 ·obtain ⟨u,rfl,t,rfl⟩:=eO r
  exact call_int_int ⟨.int i,H,I,⟨_,rfl⟩,q⟩
 ·obtain ⟨u,rfl,r1⟩:=eO r
  cases r1
  exact call_int_bool ⟨.int (if k then 1 else 0),H,I.tok _,⟨_,rfl⟩,q⟩
end
end L2
namespace L2
open PySem PySem.Spec PyProof.Rows
structure ObjM (h:Heap) (x dx C:Addr) (mA:Str→Option Value):Prop where
 obj:h.get? x=some (PySem.W.instObj C dx)
 ns:h.Ns1 dx mA
 ne:dx≠x
theorem jS {h:Heap} {dx:Addr} {mA:Str→Option Value} (n:h.Ns1 dx mA):∃od,h.get? dx=some od∧∀name,PySem.W.lookIn name od=some (mA name):=by
 obtain ⟨o,es,ep,ho,hd,hk,_,hm⟩:=n
 refine ⟨o,ho,fun name=>?_⟩
 have e:=hm name
 unfold nsFind findBy at e
 rw [← Array.find?_toList] at e
 unfold PySem.W.lookIn
 rw [hd]
 dsimp only
 split
 ·rename_i y q
  rw [q] at e
  exact congrArg some e
 ·rename_i q
  rw [q] at e
  have a:es.toList.any (·.refKey)=false:=by
   rw [List.any_eq_false]
   intro y hy
   obtain ⟨z,t,hkey⟩:=hk y (Array.mem_toList_iff.mp hy)
   simp [DictEntry.refKey,hkey]
  have a':¬ es.toList.any (·.refKey)=true:=by rw [a]; exact Bool.false_ne_true
  rw [if_neg a']
  exact congrArg some e
theorem ObjM.look {h:Heap} {x dx C:Addr} {mA:Str→Option Value} (I:ObjM h x dx C mA):∃od,PySem.W.InstAt h x (PySem.W.instObj C dx) C (some od)∧∀name,PySem.W.lookIn name od=some (mA name) :=
 let ⟨od,ho,hl⟩:=jS I.ns
 ⟨od,⟨I.obj,rfl,rfl,ho⟩,hl⟩
section
variable {prog:Program} {w:World} {A:Around} {E:Value→Shared→Prop} {s:Shared} {K:PySem.W.Frag} {x dx C f:Addr} {mA:Str→Option Value} {name:Str} {v:Value}
theorem nM {expr:Bool} {Q:Value→Shared→Prop} (X:K.In s.heap) (I:ObjM s.heap x dx C mA) (hg:PySem.W.plainGet K C name=true) (hh:PySem.W.hasDictIn K C=true)
  (ha:PySem.W.findIn K (.ref C) name=some none) (hv:mA name=some v) (hv':PySem.W.handedIn v=true) (h:Q v { s with toks:=s.toks + 1 }) :
  wpAny (model prog w) A (getAttr (.ref x) name expr) Q E s:=by
 obtain ⟨od,J,hl⟩:=I.look
 exact PySem.W.get_value X J (PySem.W.plainGet_of hg).1 (PySem.W.findObj_own hh ha rfl (by rw [hl,hv])) hv' h
theorem lO {pl:Sem Bool} {Q:Value×List Value→Shared→Prop} (X:K.In s.heap) (I:ObjM s.heap x dx C mA) (hg:PySem.W.plainGet K C name=true)
  (hf:PySem.W.findIn K (.ref C) name=some (some (.ref f))) (ht:PySem.W.isFn K (.ref f)=true) (hv:mA name=none) (h:Q (.ref f,[.ref x]) s) :
  wpAny (model prog w) A (getMethod (.ref x) name pl) Q E s:=by
 obtain ⟨od,J,hl⟩:=I.look
 exact PySem.W.method_fn X J (PySem.W.plainGet_of hg).1 (PySem.W.plainGet_of hg).2 hf (beq_iff_eq.mp ht) (by show (PySem.W.lookIn name od).map (·.isSome)=some false; rw [hl,hv]; rfl) h
theorem nN {ns:List Str} {Q:Unit→Shared→Prop} (X:K.In s.heap) (I:ObjM s.heap x dx C mA)
  (hs:PySem.W.findIn K (.ref C) "__setattr__" = some (some (.builtin "object.__setattr__"))) (hp:PySem.W.plainOver K C=true) (ht:PySem.W.takerIn K C name=some none) (hh:PySem.W.hasDictIn K C=true)
  (hw:PySem.Within mA ns) (hsz:ns.length≤sizeLine)
  (h:∀h',ObjM h' x dx C (fun y=>if y=name then some v else mA y)→Heap.SameBut dx s.heap h'→Q () { s with heap:=h',toks:=s.toks + 2 }) :
  wpAny (model prog w) A (setAttr (.ref x) name v) Q E s:=by
 obtain ⟨od,J,hl⟩:=I.look
 refine PySem.W.set_plain X J hs (PySem.W.osa_open (s:={ s with toks:=s.toks + 1 }) (r:=none) X J hp ht fun b=>?_)
 obtain ⟨cd,hc,hd'⟩:=PySem.W.any_some hh
 have hx:s.heap.get? x=some ⟨.ref C,some dx,.plain,#[]⟩:=I.obj
 refine wpAny_bind (wpAny_pure (wpAny_bind (wpAny_bind (wpAny_loadPart hx (wpAny_bind (PySem.W.Looks.here (s:={ s with toks:=s.toks + 1 }) (PySem.W.looks_clsIn X hc) ?_))))))
 rw [hd']
 refine wpAny_pure (a:=some dx) (wpAny_bind (wpAny_pure (wpAny_bind ?_)))
 refine wpAny_nsSet1 (s:={ s with toks:=s.toks + 1 }) I.ns fun h' hn2 hs2=>?_
 obtain ⟨oD,esD,epD,hoD,hdD,hcD⟩:=hn2.count (PySem.Within.cons name v hw)
 refine wpAny_bind (wpAny_lookBehind hoD (by rw [hdD]; exact pastItsLine_dict (Nat.le_trans hcD (by rw [List.length_cons]; omega))) ?_)
 exact wpAny_pure (h _ ⟨(hs2.2 _ (Ne.symm I.ne)).trans I.obj,hn2,I.ne⟩ hs2)
theorem lP {R:Result→Shared→Prop} {vs:List Value} {kw:List (Str×Value)} (X:K.In s.heap) (hm:PySem.W.makesIn K C=true)
  (hi:PySem.W.findIn K (.ref C) "__init__" = some (some (.ref f))) (hf:PySem.W.typeIn K (.ref f)=some (.type "function"))
  (h:codeAny (model prog w) (A.under (.builtin "type.__call__" ⟨.ref C :: vs,kw⟩)) (.call (.ref f) ⟨.ref (s.heap.objs.size + 1) :: vs,kw⟩) (PySem.W.InitBack (s.heap.objs.size + 1) R)
   { s with heap:=(s.heap.push PySem.W.emptyDict).push (PySem.W.instObj C s.heap.objs.size) }) :
  codeAny (model prog w) A (.call (.ref C) ⟨vs,kw⟩) R s:=by
 obtain ⟨hh,g,d,t,os⟩:=s
 exact PySem.W.make_core (PySem.W.makes_of X hm) (PySem.W.looks_findIn X hi) (fun self=>PySem.W.bind_fn X self hf) (.inl rfl) h
end
def bQ (f:Str) (v:V):List (Str×V)→List (Str×V)
 | []=>[(f,v)]
 | (g,x) :: r=>if g=f then (g,v) :: r else (g,x) :: bQ f v r
theorem be (f g:Str) (v:V):∀fs:List (Str×V),(bQ f v fs).lookup g=if g=f then some v else fs.lookup g
 | []=>by
  show List.lookup g [(f,v)]=_
  by_cases h:g=f
  ·have hb:(g == f)=true:=beq_iff_eq.mpr h
   simp only [List.lookup,hb,if_pos h]
  ·have hb:(g == f)=false:=beq_eq_false_iff_ne.mpr h
   simp only [List.lookup,hb,if_neg h]
 | (k,x) :: r=>by
  have ih:=be f g v r
  rw [show bQ f v ((k,x) :: r)=(if k=f then (k,v) :: r else (k,x) :: bQ f v r) from rfl]
  by_cases hk:k=f
  ·rw [if_pos hk]
   by_cases h:g=k
   ·have hb:(g == k)=true:=beq_iff_eq.mpr h
    simp only [List.lookup,hb,if_pos (h.trans hk)]
   ·have hb:(g == k)=false:=beq_eq_false_iff_ne.mpr h
    simp only [List.lookup,hb,if_neg (fun e:g=f=>h (e.trans hk.symm))]
  ·rw [if_neg hk]
   by_cases h:g=k
   ·have hb:(g == k)=true:=beq_iff_eq.mpr h
    simp only [List.lookup,hb,if_neg (fun e:g=f=>hk (h.symm.trans e))]
   ·have hb:(g == k)=false:=beq_eq_false_iff_ne.mpr h
    simp only [List.lookup,hb]
    exact ih
theorem dG (f:Str) (v:V):∀fs:List (Str×V),f∈(bQ f v fs).map (·.1)∧∀g,g∈fs.map (·.1)→g∈(bQ f v fs).map (·.1)
 | []=>⟨by simp [bQ],fun g h=>by simp at h⟩
 | (k,x) :: r=>by
  obtain ⟨i1,i2⟩:=dG f v r
  rw [show bQ f v ((k,x) :: r)=(if k=f then (k,v) :: r else (k,x) :: bQ f v r) from rfl]
  by_cases hk:k=f
  ·rw [if_pos hk]
   subst hk
   exact ⟨by simp,fun g h=>by simpa using h⟩
  ·rw [if_neg hk]
   refine ⟨?_,fun g h=>?_⟩
   ·rw [List.map_cons]
    exact List.mem_cons_of_mem _ i1
   ·rw [List.map_cons] at h ⊢
    rcases List.mem_cons.mp h with e | e
    ·exact List.mem_cons.mpr (.inl e)
    ·exact List.mem_cons_of_mem _ (i2 g e)
theorem cr (f:Str) (v:V):∀fs:List (Str×V),(bQ f v fs).length≤fs.length + 1
 | []=>by simp [bQ]
 | (k,x) :: r=>by
  have ih:=cr f v r
  rw [show bQ f v ((k,x) :: r)=(if k=f then (k,v) :: r else (k,x) :: bQ f v r) from rfl]
  by_cases hk:k=f
  ·rw [if_pos hk,List.length_cons,List.length_cons]; omega
  ·rw [if_neg hk,List.length_cons,List.length_cons]; omega
theorem RelO.some_of {v:V} {o:Option Value} (r:RelO (some v) o):∃u,o=some u∧RelV v u:=by
 cases o with
 | none=>exact (show False from r).elim
 | some u=>exact ⟨u,rfl,r⟩
theorem RelO.none_of {o:Option Value} (r:RelO none o):o=none:=by
 cases o with
 | none=>rfl
 | some u=>exact (show False from r).elim
theorem jT {v:V} {u:Value} (r:RelV v u):PySem.W.handedIn u=true:=by
 cases v with
 | non=>cases (show u=Value.none from r); rfl
 | bl b=>cases (show u=Value.bool b from r); rfl
 | int i=>obtain ⟨t,e⟩:=(show ∃t,u=Value.int i t from r); cases e; rfl
 | str x=>obtain ⟨t,e⟩:=(show ∃t,u=Value.str x t from r); cases e; rfl
 | byt b=>obtain ⟨t,e⟩:=(show ∃t,u=Value.bytes b t from r); cases e; rfl
 | flt b=>obtain ⟨t,e⟩:=(show ∃t,u=Value.float b t from r); cases e; rfl
 | ref a=>cases (show u=Value.ref a from r); rfl
 | ty n=>cases (show u=Value.type n from r); rfl
section
variable {P:Program} {w:World} {H H':Hp} {h h':Heap} {a C dx:Addr} {fs fs':List (Str×V)}
theorem cV (hok:HOk P w H h) (e:H a=some (.ins C dx fs)):∃mA,ObjM h a dx C mA∧(∀f,RelO (fs.lookup f) (mA f))∧PySem.Within mA (fs.map (·.1))∧fs.length≤1000∧H dx=some (.own a):=by
 obtain ⟨d,z,ne,ob,mA,n,r,q⟩:=(show ObjOk P w H h a (.ins C dx fs) from hok a _ e)
 exact ⟨mA,⟨ob,n,ne⟩,r,q,z,d⟩
end
structure Cls (K:PySem.W.Frag) (C:Addr):Prop where
 pg:PySem.W.plainGet K C Str.empty=true
 hd:PySem.W.hasDictIn K C=true
 po:PySem.W.plainOver K C=true
 sa:PySem.W.findIn K (.ref C) "__setattr__" = some (some (.builtin "object.__setattr__"))
theorem Cls.get {K:PySem.W.Frag} {C:Addr} (c:Cls K C) (f:Str):PySem.W.plainGet K C f=true:=c.pg
def NoAttr (K:PySem.W.Frag) (C:Addr) (f:Str):Prop:=PySem.W.findIn K (.ref C) f=some none
theorem NoAttr.taker {K:PySem.W.Frag} {C:Addr} {f:Str} (n:NoAttr K C f):PySem.W.takerIn K C f=some none:=by
 unfold PySem.W.takerIn
 rw [show PySem.W.findIn K (.ref C) f=some none from n]
 rfl
structure Con (K:PySem.W.Frag) (C:Addr) (f:Str) (v:V) (u:Value):Prop where
 at_:PySem.W.findIn K (.ref C) f=some (some u)
 rel:RelV v u
 get:PySem.W.specialIn K u "__get__" = some none
 cp:PySem.W.copiedNames.contains f=false
structure Meth (K:PySem.W.Frag) (C:Addr) (m:Str) (f:Addr):Prop where
 at_:PySem.W.findIn K (.ref C) m=some (some (.ref f))
 fn:PySem.W.isFn K (.ref f)=true
 kp:PySem.W.keepIn K (.ref f)=true
section
variable {X:Cx} {pins:List (Addr×Obj)} {σ:St} {H:Hp} {s:Shared} {a C dx:Addr} {fs:List (Str×V)} {f:Str} {v:V} {A:Around} {E:Value→Shared→Prop}
theorem ie {b:Bool} {Q:Value→Shared→Prop} (I:Inv X pins σ H s) (e:H a=some (.ins C dx fs)) (c:Cls X.K C) (n:NoAttr X.K C f) (l:fs.lookup f=some v)
  (h:∀u s',Inv X pins σ H s'→RelV v u→Q u s'):wpAny (model X.prog X.w) A (getAttr (.ref a) f b) Q E s:=by
 obtain ⟨mA,O,r,_,_,_⟩:=cV I.hok e
 obtain ⟨u,hu,ru⟩:=RelO.some_of (v:=v) (o:=mA f) (by rw [← l]; exact r f)
 exact nM I.kIn O (c.get f) c.hd n hu (jT ru) (h u _ (I.tok _) ru)
theorem cO {m:Str} {g:Addr} {pl:Sem Bool} {Q:Value×List Value→Shared→Prop} (I:Inv X pins σ H s) (e:H a=some (.ins C dx fs)) (c:Cls X.K C) (k:Meth X.K C m g) (l:fs.lookup m=none)
  (h:Q (.ref g,[.ref a]) s):wpAny (model X.prog X.w) A (getMethod (.ref a) m pl) Q E s:=by
 obtain ⟨mA,O,r,_,_,_⟩:=cV I.hok e
 have hn:mA m=none:=RelO.none_of (by rw [← l]; exact r m)
 exact lO I.kIn O (c.get m) k.at_ k.fn hn h
theorem ig {y:V} {u:Value} {Q:Unit→Shared→Prop} (I:Inv X pins σ H s) (e:H a=some (.ins C dx fs)) (c:Cls X.K C) (n:NoAttr X.K C f) (hl:fs.length < 1000) (ry:RelV y u)
  (h:∀s',Inv X pins σ (upd H a (.ins C dx (bQ f y fs))) s'→Q () s'):wpAny (model X.prog X.w) A (setAttr (.ref a) f u) Q E s:=by
 obtain ⟨mA,O,r,wi,_,ho⟩:=cV I.hok e
 have hz:(fs.map (·.1)).length≤sizeLine:=by rw [List.length_map,sizeLine_eq]; omega
 refine nN I.kIn O c.sa c.po n.taker c.hd wi hz fun h' O' sb=>h _ ?_
 have hd:∃o,h'.get? dx=some o:=let ⟨o,_,_,e',_⟩:=O'.ns; ⟨o,e'⟩
 refine I.write (x:=a) (e:=dx) (by rw [e]; exact True.intro) (.inr ho) (fun b q hb z=>(sb.2 b hb).trans z) hd ?_
 refine ⟨by rw [aj O.ne]; exact ho,?_,O.ne,O'.obj,_,O'.ns,fun g=>?_,fun g hg=>?_⟩
 ·have:=cr f y fs; omega
 ·show RelO ((bQ f y fs).lookup g) (if g=f then some u else mA g)
  rw [be]
  by_cases q:g=f
  ·rw [if_pos q,if_pos q]; exact ry
  ·rw [if_neg q,if_neg q]; exact r g
 ·by_cases q:g=f
  ·rw [q]; exact (dG f y fs).1
  ·refine (dG f y fs).2 g (wi g fun z=>hg ?_)
   show (if g=f then some u else mA g)=none
   rw [if_neg q]; exact z
theorem Inv.made (I:Inv X pins σ H s):Inv X pins σ (upd (upd H s.heap.objs.size (.own (s.heap.objs.size + 1))) (s.heap.objs.size + 1) (.ins C s.heap.objs.size []))
  { s with heap:=(s.heap.push PySem.W.emptyDict).push (PySem.W.instObj C s.heap.objs.size) }:=by
 have e1:(s.heap.push PySem.W.emptyDict).get? s.heap.objs.size=some PySem.W.emptyDict:=Heap.get?_push_size s.heap rfl
 have e2:((s.heap.push PySem.W.emptyDict).push (PySem.W.instObj C s.heap.objs.size)).get? (s.heap.objs.size + 1)=some (PySem.W.instObj C s.heap.objs.size):=by
  have:=Heap.get?_push_size (s.heap.push PySem.W.emptyDict) (o:=PySem.W.instObj C s.heap.objs.size) rfl
  rwa [Heap.size_push] at this
 have e3:(s.heap.push PySem.W.emptyDict).Ns s.heap.objs.size (fun _=>none):=⟨PySem.W.emptyDict,#[],_,e1,rfl,(fun e he=>absurd he (by simp)),fun _=>rfl⟩
 have I1:=I.laid (a:=s.heap.objs.size) (o:=.own (s.heap.objs.size + 1)) (h':=s.heap.push PySem.W.emptyDict) (t':=s.toks) (fun b u q=>Heap.get?_push_of_some _ q) (Nat.le_refl _) ⟨_,e1⟩
 refine I1.laid (a:=s.heap.objs.size + 1) (o:=.ins C s.heap.objs.size []) (t':=s.toks) (fun b u q=>Heap.get?_push_of_some _ q) (Nat.le_of_eq (Heap.size_push _ _)) ?_
 have ne:s.heap.objs.size≠s.heap.objs.size + 1:=Nat.ne_of_lt (Nat.lt_succ_self _)
 refine ⟨by rw [aj ne,af],Nat.zero_le _,ne,e2,fun _=>none,(Heap.Ns1.of_empty e3).at fun o q=>Heap.get?_push_of_some _ q,fun _=>True.intro,fun y hy=>absurd rfl hy⟩
theorem nO {prog:Program} {w:World} {env:Env} {e:Expr} {f:Str} {pos:Pos} {s:Shared} {Q:Value→Shared→Prop} (hb:attributeBase e f env (eval e env)=eval e env)
  (h:wpAny (model prog w) A (eval e env) (fun o s₁=>wpAny (model prog w) A (getAttr o f true) Q E s₁) E s):wpAny (model prog w) A (eval (.Attribute e f pos) env) Q E s :=
 Attribute_any_ h (by rw [arm_eval_Attribute,hb])
end
def zx (K:PySem.W.Frag) (ta:TE) (f:Str):TE:=fun σ H Q=>ta σ H fun x H1=>∃a C dx fs v,x=.ref a∧H1 a=some (.ins C dx fs)∧Cls K C∧NoAttr K C f∧fs.lookup f=some v∧Q v H1
def sV (K:PySem.W.Frag) (ta tv:TE) (f:Str):TS:=fun D σ H=>tv σ H fun y H1=>ta σ H1 fun x H2=>∃a C dx fs,x=.ref a∧H2 a=some (.ins C dx fs)∧Cls K C∧NoAttr K C f∧fs.length < 1000 ∧
 D.nx σ (upd H2 a (.ins C dx (bQ f y fs)))
section
variable {X:Cx} {o e value:Expr} {f:Str} {pos pos' tpos:Pos} {ta tv:TE}
theorem fY (he:PE X e ta) (hb:attributeBase e f X.env (eval e X.env)=eval e X.env):PE X (.Attribute e f pos) (zx X.K ta f):=by
 intro pins s σ H Q I h
 refine nO hb (thn (he pins s σ H _ I h) fun u s1 ⟨x,H1,I1,rx,a,C,dx,fs,v,ex,ea,c,n,l,q⟩=>?_)
 subst ex
 obtain rfl:u=Value.ref a:=rx
 exact ie I1 ea c n l fun u' s2 I2 ru=>⟨v,H1,I2,ru,q⟩
theorem lQ (ha:PE X o ta) (hv:PE X value tv) (hs:swapsWith value (some (.Attribute o f pos')) pos.line X.env=pure false):PS X (.Assign [.Attribute o f pos'] value pos) (sV X.K ta tv f):=by
 intro pins s σ H D I h
 refine plainObj_wpAny_Assign_Attribute (thn (hv pins s σ H _ I h) fun u s1 ⟨y,H1,I1,ry,q⟩=>thn (ha pins s1 σ H1 _ I1 q) fun ov s2 ⟨x,H2,I2,rx,a,C,dx,fs,ex,ea,c,n,l,q2⟩=>?_) hs
 subst ex
 obtain rfl:ov=Value.ref a:=rx
 exact ig I2 ea c n l ry fun s3 I3=>⟨σ,_,I3,q2⟩
theorem pd {pl:Sem Bool} {m:Str} {apos:Pos} {args:List Expr} {pins:List (Addr×Obj)} {s:Shared} {σ:St} {H:Hp} {Q:Value→Shared→Prop} {te:TE} (he:PE X e te) (I:Inv X pins σ H s)
  (h:te σ H fun x H1=>∃a C dx fs g,x=.ref a∧H1 a=some (.ins C dx fs)∧Cls X.K C∧Meth X.K C m g∧fs.lookup m=none ∧
   ∀s1,Inv X pins σ H1 s1→wpAny (model X.prog X.w) X.A (callWith pos (.ref g) [.ref a] (backTo pos (starEach args X.env)) (backToKw pos (keywordEach [] X.env))) Q X.xe s1)
  (ht:eval (.Call (.Attribute e m apos) args [] pos) X.env=(do
   let ov←eval e X.env
   standAt apos.atName
   let (f,first)←holding [ov] (getMethod ov m pl)
   callWith pos f first (backTo pos (starEach args X.env)) (backToKw pos (keywordEach [] X.env)))) :
  wpAny (model X.prog X.w) X.A (eval (.Call (.Attribute e m apos) args [] pos) X.env) Q X.xe s:=by
 refine PySem.W.methodCall_KW (pl:=pl) (thn (he pins s σ H _ I h) fun u s1 ⟨x,H1,I1,rx,a,C,dx,fs,g,ex,ea,c,k,l,q⟩=>?_) ht
 subst ex
 obtain rfl:u=Value.ref a:=rx
 exact cO I1 ea c k l (q s1 I1)
end
section
variable {X:Cx} {pins:List (Addr×Obj)} {σ:St} {H:Hp} {s:Shared} {A:Around} {E:Value→Shared→Prop} {Q:Value→Shared→Prop} {c:Value} {b:Bool}
inductive TyOf (K:PySem.W.Frag) (H:Hp):V→Value→Prop where
 | non:TyOf K H .non (.type "NoneType")
 | bl (x:Bool):TyOf K H (.bl x) (.type "bool")
 | int (i:Int):TyOf K H (.int i) (.type "int")
 | str (x:Str):TyOf K H (.str x) (.type "str")
 | flt (x:UInt64):TyOf K H (.flt x) (.type "float")
 | lst {a:Addr} {xs:List V} (e:H a=some (.lst xs)):TyOf K H (.ref a) (.type "list")
 | frz {a:Addr} {o:Obj} {xs:List V} (e:H a=some (.frz o (.lst xs))):TyOf K H (.ref a) (.type "list")
 | tup {a:Addr} {xs:List V} (e:H a=some (.tup xs)):TyOf K H (.ref a) (.type "tuple")
 | dK {a:Addr} {kvs:List (Key×V)} (e:H a=some (.dK kvs)):TyOf K H (.ref a) (.type "dict")
 | dT {a:Addr} {kvs:List (List Key×V)} (e:H a=some (.dT kvs)):TyOf K H (.ref a) (.type "dict")
 | ins {a C dx:Addr} {fs:List (Str×V)} (e:H a=some (.ins C dx fs)) (cl:Cls K C) (ha:PySem.W.findIn K (.ref C) "__class__" = some (some (.builtin "object.__class__")))
   (hn:PySem.W.specialIn K (.builtin "object.__class__") "__get__" = some (some (.builtin "getset_descriptor.__get__"))) (htk:PySem.W.takesIn K (.builtin "object.__class__")=some true)
   (hm:PySem.W.mroIn K C (.type "object")=some true):TyOf K H (.ref a) (.ref C)
theorem jU {x:V} {u t:Value} (I:Inv X pins σ H s) (rx:RelV x u) (ty:TyOf X.K H x t) (e:PySem.W.kitOne X.K t c=some b) (h:∀tk,Q (.bool b) { s with toks:=tk }) :
  wpAny (model X.prog X.w) A (call (.builtin "isinstance") [u,c]) Q E s:=by
 cases ty with
 | non=>cases (show u=Value.none from rx); exact PySem.W.kia_one PySem.W.kitx_none I.kIn True.intro e (fun z=>nomatch z) h
 | bl y=>cases (show u=Value.bool y from rx); exact PySem.W.kia_one PySem.W.kitx_bool I.kIn True.intro e (fun z=>nomatch z) h
 | int i=>obtain ⟨t,q⟩:=(show ∃t,u=Value.int i t from rx); cases q; exact PySem.W.kia_one PySem.W.kitx_int I.kIn True.intro e (fun z=>nomatch z) h
 | str y=>obtain ⟨t,q⟩:=(show ∃t,u=Value.str y t from rx); cases q; exact PySem.W.kia_one PySem.W.kitx_str I.kIn True.intro e (fun z=>nomatch z) h
 | flt y=>obtain ⟨t,q⟩:=(show ∃t,u=Value.float y t from rx); cases q; exact PySem.W.kia_one PySem.W.kitx_float I.kIn True.intro e (fun z=>nomatch z) h
 | @lst a xs ea =>
  cases (show u=Value.ref a from rx)
  obtain ⟨_,_,n,_,h1⟩:=(show ObjOk X.prog X.w H s.heap a (.lst xs) from I.hok a _ ea)
  exact PySem.W.kia_one PySem.W.kitx_list I.kIn ⟨_,h1,rfl⟩ e (fun z=>nomatch z) h
 | @frz a ob xs ea =>
  cases (show u=Value.ref a from rx)
  obtain ⟨_,_,_,n,_,h1⟩:=(show ObjOk X.prog X.w H s.heap a (.frz ob (.lst xs)) from I.hok a _ ea)
  exact PySem.W.kia_one PySem.W.kitx_list I.kIn ⟨_,h1,rfl⟩ e (fun z=>nomatch z) h
 | @tup a xs ea =>
  cases (show u=Value.ref a from rx)
  obtain ⟨_,_,_,p⟩:=(show ObjOk X.prog X.w H s.heap a (.tup xs) from I.hok a _ ea)
  obtain ⟨o,h1,h2,_⟩:=p
  exact PySem.W.kia_one PySem.W.kitx_tuple I.kIn ⟨o,h1,h2⟩ e (fun z=>nomatch z) h
 | @dK a kvs ea =>
  cases (show u=Value.ref a from rx)
  obtain ⟨_,_,vs,_,p⟩:=(show ObjOk X.prog X.w H s.heap a (.dK kvs) from I.hok a _ ea)
  obtain ⟨o,es,ep,h1,h2,_⟩:=p
  exact PySem.W.kia_one PySem.W.kitx_dict I.kIn ⟨o,h1,h2.1⟩ e (fun z=>nomatch z) h
 | @dT a kvs ea =>
  cases (show u=Value.ref a from rx)
  obtain ⟨_,_,xs,_,o,es,ep,h1,h2,_⟩:=(show ObjOk X.prog X.w H s.heap a (.dT kvs) from I.hok a _ ea)
  exact PySem.W.kia_one PySem.W.kitx_dict I.kIn ⟨o,h1,h2.1⟩ e (fun z=>nomatch z) h
 | @ins a C dx fs ea cl ha hn htk hm =>
  cases (show u=Value.ref a from rx)
  obtain ⟨mA,O,_⟩:=cV I.hok ea
  obtain ⟨od,J,_⟩:=O.look
  exact PySem.W.kia_one (PySem.W.kitx_own (cl.get _) cl.hd ha hn htk hm) I.kIn J e (fun z=>nomatch z) h
end
end L2
namespace L2
open PySem PySem.Spec PyProof.Rows
structure Room (k:Nat) (A:Around):Prop where
 hd:A.handled=none
 dp:A.depth + 3 * k + 5 < recursionLimit
 un:A.units + 16 * k + 200 < cLine
 gd:A.guards=some []
theorem Room.mono {j k:Nat} {A:Around} (r:Room k A) (h:j≤k):Room j A:=⟨r.hd,by have:=r.dp; omega,by have:=r.un; omega,r.gd⟩
theorem Room.deeper {k:Nat} {A:Around} (r:Room (k + 1) A) (env:Env):Room k (A.deeper env) :=
 ⟨r.hd,by have:=r.dp; show A.depth + 1 + 3 * k + 5 < _; omega,by have:=r.un; show A.units + 3 + 16 * k + 200 < _; omega,r.gd⟩
theorem ii {A:Around} {C:Addr} {us:List Value} {kw:List (Str×Value)}:(A.under (.builtin "type.__call__" ⟨.ref C :: us,kw⟩)).depth=A.depth + 1:=by
 first | rfl | simp [Around.under,Code.weight,Code.isCreation,Code.isGuard,Code.isCaller,Code.frames,Code.isFrame,guardIds]
theorem ij {A:Around} {C:Addr} {us:List Value} {kw:List (Str×Value)}:(A.under (.builtin "type.__call__" ⟨.ref C :: us,kw⟩)).units=A.units + 1:=by
 first | rfl | simp [Around.under,Code.cUnits,Code.frames,Code.isFrame]
theorem gF {A:Around} {C:Addr} {us:List Value} {kw:List (Str×Value)}:(A.under (.builtin "type.__call__" ⟨.ref C :: us,kw⟩)).guards=A.guards:=by
 have e:Code.guards (.builtin "type.__call__" ⟨.ref C :: us,kw⟩)=[]:=by
  have:(Code.builtin "type.__call__" ⟨.ref C :: us,kw⟩).isGuard=false:=by show guardIds.contains "type.__call__" = false; decide +kernel
  simp [Code.guards,this]
 unfold Around.under
 dsimp only
 rw [e]
 rfl
theorem Room.make {k:Nat} {A:Around} (r:Room (k + 1) A) (C:Addr) (us:List Value) (kw:List (Str×Value)):Room k (A.under (.builtin "type.__call__" ⟨.ref C :: us,kw⟩)) :=
 ⟨r.hd,by have:=r.dp; rw [ii]; omega,by have:=r.un; rw [ij]; omega,by rw [gF]; exact r.gd⟩
theorem Room.depth {k:Nat} {A:Around} (r:Room k A):A.depth < recursionLimit:=by have:=r.dp; omega
theorem Room.units {k:Nat} {A:Around} (r:Room k A):A.units + 64 < cLine:=by have:=r.un; omega
def nP:TA:=fun _ H Q=>Q [] H
def pe (ta:TE) (tr:TA):TA:=fun σ H Q=>ta σ H fun x H1=>tr σ H1 fun xs H2=>Q (x :: xs) H2
section
variable {X:Cx} {e:Expr} {es:List Expr} {te:TE} {t:TA} {pos:Pos}
theorem ab:PA X [] nP:=fun _ _ _ _ H Q I h=>Calls.spliced_nil ⟨[],H,I,.nil,h⟩
theorem aa (ha:PE X e te) (hr:PA X es t) (hs:starEach (e :: es) X.env=(false,eval e X.env) :: starEach es X.env:=by rfl):PA X (e :: es) (pe te t):=by
 intro pos pins s σ H Q I h
 rw [hs]
 show wpAny _ _ (spliced ((false,eval e X.env) :: backTo pos (starEach es X.env))) _ _ s
 refine Calls.spliced_cons (thn (ha pins s σ H _ I h) fun u s1 ⟨x,H1,I1,r1,q1⟩=>?_)
 exact thn (hr pos pins s1 σ H1 _ I1 q1) fun us s2 ⟨xs,H2,I2,r2,q2⟩=>⟨x :: xs,H2,I2,.cons r1 r2,q2⟩
def zy (t:TA):TE:=fun σ H Q=>t σ H fun xs H1=>xs.length≤sizeLine∧∀p,H1 p=none→Q (.ref p) (upd H1 p (.tup xs))
def zA (t:TA):TE:=fun σ H Q=>t σ H fun xs H1=>xs.length≤sizeLine∧∀p,H1 p=none→Q (.ref p) (upd H1 p (.lst xs))
theorem ax {x1} (h:PA X es t):PE X (.Tuple es x1 pos) (zy t):=by
 intro pins s σ H Q I hq
 refine wpAny_Tuple_spliced (thn (h pos pins s σ H _ I hq) fun us s1 ⟨xs,H1,I1,r,z,q⟩=>⟨by rw [← r.length]; exact z,?_⟩)
 have hf:H1 s1.heap.objs.size=none:=I1.hok.fresh (Nat.le_refl _)
 refine ⟨.ref s1.heap.objs.size,upd H1 s1.heap.objs.size (.tup xs),I1.laid (t':=s1.toks) (fun b u e=>Heap.get?_push_of_some _ e) (Nat.le_refl _) ?_,rfl,q _ hf⟩
 exact ⟨z,us,r,⟨_,Heap.get?_push_size _ rfl,rfl,_,rfl⟩⟩
theorem aH (h:PA X es t):PE X (.List es pos) (zA t):=by
 intro pins s σ H Q I hq
 refine wpAny_List_spliced (thn (h pos pins s σ H _ I hq) fun us s1 ⟨xs,H1,I1,r,z,q⟩=>⟨by rw [← r.length]; exact z,?_⟩)
 have hf:H1 s1.heap.objs.size=none:=I1.hok.fresh (Nat.le_refl _)
 refine ⟨.ref s1.heap.objs.size,upd H1 s1.heap.objs.size (.lst xs),I1.laid (t':=s1.toks) (fun b u e=>Heap.get?_push_of_some _ e) (Nat.le_refl _) ?_,rfl,q _ hf⟩
 exact ⟨z,us,0,r,Heap.get?_push_size _ rfl⟩
end
abbrev Sp:=List V→Hp→VK→XK→Prop
abbrev CXT:=List Env→Hp→Shared→XK→Value→Shared→Prop
structure Env0 (P:Program) (w:World) (K:PySem.W.Frag) (mg:Str→Option Value) (base:Heap) (A:Around) (outer:List Env) (s:Shared) (H:Hp):Prop where
 frames:A.frames=some outer
 mod:Mod K mg base
 bs:∀b o,base.get? b=some o→s.heap.get? b=some o∧H b=none
 bsz:base.objs.size≤s.heap.objs.size
 funs:s.heap.FunFrames base outer
 frf:∀b∈frs outer,H b=none
 hok:HOk P w H s.heap
 bare:AllBare s.gens
def CE (outer:List Env) (P:Program) (w:World) (H:Hp) (s:Shared) (Q:VK) (u:Value) (s':Shared):Prop :=
 ∃v H',s'.os=s.os∧AllBare s'.gens∧Un (frs outer) [] H H' s.heap s'.heap∧HOk P w H' s'.heap∧RelV v u∧Q v H'
def CR (CX:CXT) (outer:List Env) (P:Program) (w:World) (H:Hp) (s:Shared) (Q:VK) (E:XK) (r:Result) (s':Shared):Prop :=
 match r with
 | .ok (.ret u)=>CE outer P w H s Q u s'
 | .ok _=>False
 | .error e=>CX outer H s E e s'
structure FnOk (P:Program) (w:World) (K:PySem.W.Frag) (mg:Str→Option Value) (base:Heap) (CX:CXT) (k:Nat) (f:Addr) (fd:FuncData) (ps:List Str) (sp:Sp):Prop where
 len:∀vs H Q E,sp vs H Q E→vs.length=ps.length
 run:∀ (A:Around) (outer:List Env) (s:Shared) (H:Hp) (args:Args) (us:List Value) (vs:List V) (Q:VK) (E:XK),Room k A→Env0 P w K mg base A outer s H→BindsTo s fd args (ps.zip us)→Vals vs us→sp vs H Q E →
  codeAny (model P w) A (.call (.ref f) args) (CR CX outer P w H s Q E) s
theorem Env0.make {P:Program} {w:World} {K:PySem.W.Frag} {mg:Str→Option Value} {base:Heap} {A:Around} {outer:List Env} {s:Shared} {H:Hp} (e:Env0 P w K mg base A outer s H) (C:Addr) (us:List Value) (kw:List (Str×Value)) :
  Env0 P w K mg base (A.under (.builtin "type.__call__" ⟨.ref C :: us,kw⟩)) outer s H:=⟨by first | exact e.frames | (simpa [Around.under,Code.envs,Code.isFrame,pushEnvs] using e.frames),e.mod,e.bs,e.bsz,e.funs,e.frf,e.hok,e.bare⟩
section
variable {X:Cx} {pins:List (Addr×Obj)} {σ:St} {H:Hp} {s s':Shared}
theorem Inv.env0 (I:Inv X pins σ H s):Env0 X.prog X.w X.K X.mg X.base X.A X.stack s H :=
 ⟨I.ok.frames,I.ok.mod,I.bs,Nat.le_trans I.ok.bsz I.sz,I.stack,I.stkFree,I.hok,I.bare⟩
theorem Inv.after {Q:VK} {u:Value} (I:Inv X pins σ H s) (h:CE X.stack X.prog X.w H s Q u s'):EP X pins σ Q u s':=by
 obtain ⟨v,H',os,bare,un,hok,r,q⟩:=h
 obtain ⟨hh,g,d,t,os'⟩:=s'
 obtain rfl:os'=s.os:=os
 exact ⟨v,H',I.call (h':=hh) (g':=g) (d':=d) (t':=t) (ch:=[]) un hok bare (fun b z=>absurd z (by simp)),r,q⟩
end
def pf (sp:Sp) (dvs:List V) (E:XK) (t:TA):TE:=fun σ H Q=>t σ H fun vs H1=>sp (vs ++ dvs) H1 Q E
def jg (C:Addr) (m:Str) (sp:Sp) (dvs:List V) (E:XK) (ta:TE) (t:TA):TE:=fun σ H Q=>ta σ H fun x H1=>∃a dx fs,x=.ref a∧H1 a=some (.ins C dx fs)∧fs.lookup m=none ∧
 t σ H1 fun vs H2=>sp (x :: (vs ++ dvs)) H2 Q E
def pi (C:Addr) (sp:Sp) (dvs:List V) (E:XK) (t:TA):TE:=fun σ H Q=>t σ H fun vs H1=>∀x dx,H1 x=none→H1 dx=none→dx≠x →
 sp (.ref x :: (vs ++ dvs)) (upd (upd H1 dx (.own x)) x (.ins C dx [])) (fun v H2=>v=.non∧Q (.ref x) H2) E
def Binds (K:PySem.W.Frag) (fd:FuncData) (ps:List Str) (ds:List Value):Prop :=
 ∀ (s:Shared) (us:List Value),K.In s.heap→(us ++ ds).length=ps.length→BindsTo s fd ⟨us,[]⟩ (ps.zip (us ++ ds))
theorem Binds.all {K:PySem.W.Frag} {fd:FuncData} {ps:List Str} (h:∀us:List Value,us.length=ps.length→bindArgs fd ⟨us,[]⟩=pure (ps.zip us)):Binds K fd ps []:=fun s us _ hl=>by
 rw [List.append_nil] at hl ⊢
 exact .of_eq (h us hl)
def cP (CX:CXT) (X:Cx) (E:XK):Prop:=∀ (pins:List (Addr×Obj)) (σ:St) (H:Hp) (s:Shared) (e:Value) (s':Shared),Inv X pins σ H s→CX X.stack H s E e s'→X.xe e s'
section
variable {X:Cx} {CX:CXT} {k:Nat} {f C:Addr} {fd:FuncData} {ps:List Str} {sp:Sp} {dvs:List V} {ds:List Value} {E:XK} {x m:Str} {p pos apos:Pos} {e o:Expr} {es:List Expr} {ta:TE} {t:TA}
theorem ik {pins:List (Addr×Obj)} {σ:St} {H:Hp} {s:Shared} {Q:VK} {us:List Value} {vs:List V} (F:FnOk X.prog X.w X.K X.mg X.base CX k f fd ps sp) (hr:Room k X.A) (hb:Binds X.K fd ps ds) (hd:Vals dvs ds) (hx:cP CX X E)
  (I:Inv X pins σ H s) (r:Vals vs us) (h:sp (vs ++ dvs) H Q E):wpAny (model X.prog X.w) X.A (call (.ref f) us) (EP X pins σ Q) X.xe s:=by
 have r2:Vals (vs ++ dvs) (us ++ ds):=r.append hd
 have hl:(us ++ ds).length=ps.length:=by rw [← r2.length]; exact F.len _ _ _ _ h
 refine wpAny_call (codeAny_mono (F.run X.A X.stack s H ⟨us,[]⟩ (us ++ ds) (vs ++ dvs) Q E hr I.env0 (hb s us I.kIn hl) r2 h) fun r s' hq=>?_)
 cases r with
 | error e=>exact hx pins σ H s e s' I hq
 | ok fl =>
  cases fl with
  | ret u=>exact I.after hq
  | next=>exact False.elim hq
  | brk=>exact False.elim hq
  | cont=>exact False.elim hq
theorem nQ (F:FnOk X.prog X.w X.K X.mg X.base CX k f fd ps sp) (hr:Room k X.A) (hg:Gl X x) (hm:X.mg x=some (.ref f)) (hk:PySem.W.keepIn X.K (.ref f)=true) (hb:Binds X.K fd ps ds) (hd:Vals dvs ds) (hx:cP CX X E)
  (ha:PA X (e :: es) t) (hdb:(x == ("__debug__" : Str))=false:=by decide) (he:starEach (e :: es) X.env=(false,eval e X.env) :: starEach es X.env:=by rfl) (hpl:(backTo pos (starEach es X.env)).any (·.1)=false:=by rfl) :
  PE X (.Call (.Name x p) (e :: es) [] pos) (pf sp dvs E t):=by
 intro pins s σ H Q I h
 refine wpAny_Call_Name_kw (fV I hg hm ?_ hdb)
 refine PySem.W.callWith_K (h₀:=X.base) I.ok.mod.kin hk (thn (ha pos pins s σ H _ I h) fun us s1 ⟨vs,H1,I1,r,q⟩=>⟨I1.kIn,?_⟩) he hpl
 exact ik F hr hb hd hx I1 r q
theorem nR {pl:Sem Bool} (he:PE X o ta) (c:Cls X.K C) (hm:Meth X.K C m f) (F:FnOk X.prog X.w X.K X.mg X.base CX k f fd ps sp) (hr:Room k X.A) (hb:Binds X.K fd ps ds) (hd:Vals dvs ds) (hx:cP CX X E) (ha:PA X (e :: es) t)
  (hst:starEach (e :: es) X.env=(false,eval e X.env) :: starEach es X.env:=by rfl) (hpl:(backTo pos (starEach es X.env)).any (·.1)=false:=by rfl)
  (ht:eval (.Call (.Attribute o m apos) (e :: es) [] pos) X.env=(do
   let ov←eval o X.env
   standAt apos.atName
   let (f,first)←holding [ov] (getMethod ov m pl)
   callWith pos f first (backTo pos (starEach (e :: es) X.env)) (backToKw pos (keywordEach [] X.env))):=by rfl) :
  PE X (.Call (.Attribute o m apos) (e :: es) [] pos) (jg C m sp dvs E ta t):=by
 intro pins s σ H Q I h
 refine PySem.W.methodCall_KW (pl:=pl) (thn (he pins s σ H _ I h) fun u s1 ⟨x,H1,I1,rx,a,dx,fs,ex,ea,l,q⟩=>?_) ht
 subst ex
 obtain rfl:u=Value.ref a:=rx
 refine cO I1 ea c hm l ?_
 refine PySem.W.callWith_K (first:=[.ref a]) (h₀:=X.base) I.ok.mod.kin hm.kp (thn (ha pos pins s1 σ H1 _ I1 q) fun us s2 ⟨vs,H2,I2,r,q2⟩=>⟨I2.kIn,?_⟩) hst hpl
 exact ik (us:=.ref a :: us) (vs:=.ref a :: vs) F hr hb hd hx I2 (.cons rfl r) q2
theorem lR {pl:Sem Bool} (he:PE X o ta) (c:Cls X.K C) (hm:Meth X.K C m f) (F:FnOk X.prog X.w X.K X.mg X.base CX k f fd ps sp) (hr:Room k X.A) (hb:Binds X.K fd ps ds) (hd:Vals dvs ds) (hx:cP CX X E)
  (ht:eval (.Call (.Attribute o m apos) [] [] pos) X.env=(do
   let ov←eval o X.env
   standAt apos.atName
   let (f,first)←holding [ov] (getMethod ov m pl)
   callWith pos f first (backTo pos (starEach [] X.env)) (backToKw pos (keywordEach [] X.env))):=by rfl) :
  PE X (.Call (.Attribute o m apos) [] [] pos) (jg C m sp dvs E ta nP):=by
 intro pins s σ H Q I h
 refine PySem.W.methodCall_KW (pl:=pl) (thn (he pins s σ H _ I h) fun u s1 ⟨x,H1,I1,rx,a,dx,fs,ex,ea,l,q⟩=>?_) ht
 subst ex
 obtain rfl:u=Value.ref a:=rx
 refine cO I1 ea c hm l ?_
 exact PySem.W.callWith_K0 (first:=[.ref a]) I1.kIn hm.kp (ik (us:=[.ref a]) (vs:=[.ref a]) F hr hb hd hx I1 (.cons rfl .nil) q)
structure Mk (K:PySem.W.Frag) (C f:Addr):Prop where
 makes:PySem.W.makesIn K C=true
 init:PySem.W.findIn K (.ref C) "__init__" = some (some (.ref f))
 fn:PySem.W.isFn K (.ref f)=true
 kp:PySem.W.keepIn K (.ref C)=true
theorem lS {pins:List (Addr×Obj)} {σ:St} {H:Hp} {s:Shared} {Q:VK} {us:List Value} {vs:List V} (M:Mk X.K C f) (F:FnOk X.prog X.w X.K X.mg X.base CX k f fd ps sp) (hr:Room (k + 1) X.A) (hb:Binds X.K fd ps ds) (hd:Vals dvs ds)
  (hx:cP CX X E) (I:Inv X pins σ H s) (r:Vals vs us)
  (h:∀x dx,H x=none→H dx=none→dx≠x→sp (.ref x :: (vs ++ dvs)) (upd (upd H dx (.own x)) x (.ins C dx [])) (fun v H2=>v=.non∧Q (.ref x) H2) E) :
  wpAny (model X.prog X.w) X.A (call (.ref C) us) (EP X pins σ Q) X.xe s:=by
 have hq:=h (s.heap.objs.size + 1) s.heap.objs.size (I.hok.fresh (Nat.le_succ _)) (I.hok.fresh (Nat.le_refl _)) (Nat.ne_of_lt (Nat.lt_succ_self _))
 have I2:=Inv.made (C:=C) I
 have r2:Vals (V.ref (s.heap.objs.size + 1) :: (vs ++ dvs)) (Value.ref (s.heap.objs.size + 1) :: (us ++ ds)):=.cons rfl (r.append hd)
 have hl:(Value.ref (s.heap.objs.size + 1) :: us ++ ds).length=ps.length:=by
  have e:=r2.length
  rw [F.len _ _ _ _ hq] at e
  exact e.symm
 refine wpAny_call (lP (f:=f) I.kIn M.makes M.init (beq_iff_eq.mp M.fn) (codeAny_mono (F.run _ X.stack _ _ ⟨Value.ref (s.heap.objs.size + 1) :: us,[]⟩ (Value.ref (s.heap.objs.size + 1) :: (us ++ ds)) _ _ E (hr.make C us [])
  (I2.env0.make C us []) (hb _ (Value.ref (s.heap.objs.size + 1) :: us) I2.kIn hl) r2 hq) fun r s' hq'=>?_))
 cases r with
 | error e=>exact hx pins σ _ _ e s' I2 hq'
 | ok fl =>
  cases fl with
  | ret u =>
   obtain ⟨v,H',I3,rv,ev,q3⟩:=I2.after hq'
   subst ev
   exact ⟨rv,⟨V.ref (s.heap.objs.size + 1),H',I3,rfl,q3⟩⟩
  | next=>exact False.elim hq'
  | brk=>exact False.elim hq'
  | cont=>exact False.elim hq'
theorem nS (M:Mk X.K C f) (F:FnOk X.prog X.w X.K X.mg X.base CX k f fd ps sp) (hr:Room (k + 1) X.A) (hg:Gl X x) (hm:X.mg x=some (.ref C)) (hb:Binds X.K fd ps ds) (hd:Vals dvs ds) (hx:cP CX X E)
  (ha:PA X (e :: es) t) (hdb:(x == ("__debug__" : Str))=false:=by decide) (he:starEach (e :: es) X.env=(false,eval e X.env) :: starEach es X.env:=by rfl) (hpl:(backTo pos (starEach es X.env)).any (·.1)=false:=by rfl) :
  PE X (.Call (.Name x p) (e :: es) [] pos) (pi C sp dvs E t):=by
 intro pins s σ H Q I h
 refine wpAny_Call_Name_kw (fV I hg hm ?_ hdb)
 refine PySem.W.callWith_K (h₀:=X.base) I.ok.mod.kin M.kp (thn (ha pos pins s σ H _ I h) fun us s1 ⟨vs,H1,I1,r,q⟩=>⟨I1.kIn,?_⟩) he hpl
 exact lS M F hr hb hd hx I1 r q
end
section
variable {X:Cx} {CX:CXT} {k:Nat} {f C:Addr} {fd:FuncData} {ps ks:List Str} {sp:Sp} {E:XK} {x m:Str} {p pos apos kpos:Pos} {e o:Expr} {es:List Expr} {kws:List Keyword} {te ta:TE} {t tk:TA} {nm:Option Str}
structure KBinds (K:PySem.W.Frag) (fd:FuncData) (ps ks:List Str) (g:List Value→List Value→List Value) (gV:List V→List V→List V):Prop where
 to:∀ (s:Shared) (us ws:List Value),K.In s.heap→(g us ws).length=ps.length→BindsTo s fd ⟨us,ks.zip ws⟩ (ps.zip (g us ws))
 rel:∀ {vs:List V} {us:List Value} {zs:List V} {ws:List Value},Vals vs us→Vals zs ws→Vals (gV vs zs) (g us ws)
variable {g:List Value→List Value→List Value} {gV:List V→List V→List V}
end
structure FnScope (N P:List Str) (sc:Scope):Prop where
 kind:sc.kind=.function
 co:sc.isCoroutine=false
 gen:sc.isGenerator=false
 nd:N.Nodup
 pre:N.take P.length=P
 par:∀x∈P,sc.names.lookup x=some .local∨sc.names.lookup x=some .cell
 nofree:∀y∈sc.names,y.2≠.free
theorem fv {kindOf:Str→Option NameKind} {x:Str}:∀ {binds:List (Str×Value)} {m:Str→Option Value},(∀v,(x,v)∉binds)→bindL kindOf binds m x=m x
 | [],_,_=>rfl
 | (n,v) :: r,m,h=>by
  unfold bindL
  rw [fv fun w hw=>h w (List.mem_cons_of_mem _ hw)]
  split
  ·have:x≠n:=by rintro rfl; exact h v List.mem_cons_self
   simp [this]
  ·rfl
theorem fz {kindOf:Str→Option NameKind} {x:Str}:∀ {binds:List (Str×Value)} {m:Str→Option Value},(∀v,(x,v)∉binds)→bindC kindOf binds m x=m x
 | [],_,_=>rfl
 | (n,v) :: r,m,h=>by
  unfold bindC
  rw [fz fun w hw=>h w (List.mem_cons_of_mem _ hw)]
  split
  ·rfl
  ·have:x≠n:=by rintro rfl; exact h v List.mem_cons_self
   simp [this]
theorem fA {kindOf:Str→Option NameKind} {x:Str} {v:Value}:∀ {P:List Str} {vs:List Value} {i:Nat} {m:Str→Option Value},P.Nodup→P[i]? = some x→vs[i]? = some v→kindOf x=some .local →
  bindL kindOf (P.zip vs) m x=some v
 | [],_,_,_,_,h,_,_=>by simp at h
 | _ :: _,[],_,_,_,_,h,_=>by simp at h
 | p :: P,w :: vs,0,m,nd,h1,h2,hk=>by
  simp at h1 h2; subst h1; subst h2
  show bindL kindOf ((p,w) :: P.zip vs) m p=_
  unfold bindL
  rw [fv fun v hv=>(List.nodup_cons.mp nd).1 (List.of_mem_zip hv).1,if_pos hk]
  simp
 | p :: P,w :: vs,i + 1,m,nd,h1,h2,hk=>by
  show bindL kindOf ((p,w) :: P.zip vs) m x=_
  unfold bindL
  exact fA (i:=i) (List.nodup_cons.mp nd).2 (by simpa using h1) (by simpa using h2) hk
theorem fB {kindOf:Str→Option NameKind} {x:Str} {v:Value}:∀ {P:List Str} {vs:List Value} {i:Nat} {m:Str→Option Value},P.Nodup→P[i]? = some x→vs[i]? = some v→kindOf x≠some .local →
  bindC kindOf (P.zip vs) m x=some v
 | [],_,_,_,_,h,_,_=>by simp at h
 | _ :: _,[],_,_,_,_,h,_=>by simp at h
 | p :: P,w :: vs,0,m,nd,h1,h2,hk=>by
  simp at h1 h2; subst h1; subst h2
  show bindC kindOf ((p,w) :: P.zip vs) m p=_
  unfold bindC
  rw [fz fun v hv=>(List.nodup_cons.mp nd).1 (List.of_mem_zip hv).1,if_neg hk]
  simp
 | p :: P,w :: vs,i + 1,m,nd,h1,h2,hk=>by
  show bindC kindOf ((p,w) :: P.zip vs) m x=_
  unfold bindC
  exact fB (i:=i) (List.nodup_cons.mp nd).2 (by simpa using h1) (by simpa using h2) hk
def dW (N:List Str) (vs:List V):St:=vs.map some ++ List.replicate (N.length - vs.length) none
def jV (CX:CXT) (P:Program) (w:World) (K:PySem.W.Frag) (mg:Str→Option Value) (base:Heap) (N:List Str) (qual:Str) (scope:Scope) (f:Addr) (cd:Value) (A:Around) (outer:List Env) (s:Shared) (H:Hp) (E:XK):Cx where
 prog:=P
 w:=w
 K:=K
 mg:=mg
 base:=base
 A:=A.deeper (envOfC qual scope s.heap.objs.size f cd)
 N:=N
 s₀:=s
 H₀:=H
 env:=envOfC qual scope s.heap.objs.size f cd
 outer:=outer
 stack:=envOfC qual scope s.heap.objs.size f cd :: outer
 ex:=[]
 calm:=true
 fn:=fun _=>true
 pn:=[]
 xe:=fun e s'=>wpAny (model P w) (A.deeper (envOfC qual scope s.heap.objs.size f cd)) (leaving (envOfC qual scope s.heap.objs.size f cd) e) (fun _ s''=>CX outer H s E e s'') (fun e' s''=>CX outer H s E e' s'') s'
theorem gG {sc:Scope} {n:Nat} {x:Str} (h:sc.names.lookup x=some .cell):∃c,(cellsFrom n sc.names []).lookup x=some c:=by
 have q:=PySem.W.cellsFrom_some sc.names n [] (.inl h)
 exact Option.isSome_iff_exists.mp q
theorem jW {CX:CXT} {P:Program} {w:World} {K:PySem.W.Frag} {mg:Str→Option Value} {base:Heap} {N ps:List Str} {qual:Str} {scope:Scope} {f:Addr} {cd:Value} {A:Around} {outer:List Env} {s s1:Shared} {H:Hp} {E:XK} {us:List Value} {vs:List V}
  (S:FnScope N ps scope) (hd:A.handled=none) (e0:Env0 P w K mg base A outer s H) (hl:vs.length=ps.length) (r:Vals vs us)
  (x:InCallC s s.heap.objs.size (bindL (envOfC qual scope s.heap.objs.size f cd).kindOf (ps.zip us) fun _=>none) (cellsFrom (s.heap.objs.size + 1) scope.names []) (bindC (envOfC qual scope s.heap.objs.size f cd).kindOf (ps.zip us) fun _=>none) s1) :
  Inv (jV CX P w K mg base N qual scope f cd A outer s H E) [] (dW N vs) H s1:=by
 have hpl:ps.length≤N.length:=by have:=congrArg List.length S.pre; rw [List.length_take] at this; omega
 obtain ⟨h1,tk,rfl,hk⟩:=x.done
 have noA:∀b:Addr,b∉(jV CX P w K mg base N qual scope f cd A outer s H E).ex:=fun b z=>absurd (show b∈([]:List Addr) from z) (by simp)
 refine ⟨⟨e0.mod,S.kind,rfl,rfl,Nat.le_refl _,fun y z c h1 h2=>?_,fun y hy=>?_,fun y c _ h=>?_,fun _=>hd,Around.frames_deeper e0.frames,.inr ⟨rfl,rfl⟩,fun b z=>absurd z (noA b),e0.bs,e0.bsz,fun b _ _=>noA b,fun b z=>absurd z (noA b),e0.funs,e0.frf⟩,
  rfl,e0.bare,Un.kept hk,⟨_,x.toInCall.ns,fun i y v h1 h2 h3=>?_⟩,fun y c h=>⟨_,x.cell y c h⟩,e0.hok.fresh (Nat.le_refl _),fun y c h=>?_,fun p hp=>absurd (show p∈([]:List (Addr×Obj)) from hp) (by simp),e0.hok.kept hk,?_⟩
 ·exact name_of_addr x.apart (PySem.mem_of_lookup h1) (PySem.mem_of_lookup h2)
 ·have hy:scope.names.lookup y=some .cell∨scope.names.lookup y=some .free:=hy
  rcases hy with hy | hy
  ·exact gG hy
  ·exact absurd rfl (S.nofree _ (PySem.mem_of_lookup hy))
 ·exact Nat.le_of_lt (x.above y c (PySem.mem_of_lookup h))
 ·have hi:i < vs.length:=by
   unfold dW at h2
   by_cases hi:i < vs.length
   ·exact hi
   ·rw [List.getElem?_append_right (by simpa using hi)] at h2
    rw [List.getElem?_replicate] at h2
    split at h2 <;> cases h2
  have ha:vs[i]? = some v:=by
   unfold dW at h2
   rw [List.getElem?_append_left (by simpa using hi),List.getElem?_map] at h2
   cases e:vs[i]? with
   | none=>rw [e] at h2; cases h2
   | some a=>rw [e] at h2; cases h2; rfl
  obtain ⟨u,hu,rv⟩:=r.get ha
  have hp:ps[i]? = some y:=by
   rw [← S.pre,List.getElem?_take_of_lt (by omega)]; exact h1
  have ndP:ps.Nodup:=by rw [← S.pre]; exact S.nd.sublist (List.take_sublist _ _)
  refine ⟨u,rv,?_⟩
  rcases S.par y (List.mem_of_getElem? hp) with k | k
  ·exact .inl ⟨k,fA ndP hp hu k⟩
  ·obtain ⟨c,e⟩:=gG (n:=s.heap.objs.size + 1) k
   refine .inr ⟨.inl k,c,e,?_⟩
   have q:=x.cell y c e
   rw [fB ndP hp hu (by show scope.names.lookup y≠_; rw [k]; decide)] at q
   exact q
 ·exact e0.hok.fresh (Nat.le_of_lt (x.above y c (PySem.mem_of_lookup h)))
 ·unfold dW
  show _=N.length
  rw [List.length_append,List.length_map,List.length_replicate]
  omega
theorem sW {CX:CXT} {P:Program} {w:World} {K:PySem.W.Frag} {mg:Str→Option Value} {base:Heap} {k:Nat} {f:Addr} {name qual:Str} {params:Arguments} {body:List Stmt} {scope:Scope} {dV kV doc pm cdv ct oc:Value} {an od:Option Addr}
  {osl:Array (Option Value)} {N ps:List Str} {sp:Sp} (lk:K.lookup f=some ⟨oc,od,.func (PySem.W.fnOf name qual params body scope dV kV doc pm an cdv ct),osl⟩) (hcd:PySem.W.codeIn K cdv qual=true) (S:FnScope N ps scope)
  (len:∀vs H Q E,sp vs H Q E→vs.length=ps.length)
  (hbody:∀ (A:Around) (outer:List Env) (s:Shared) (H:Hp) (vs:List V) (Q:VK) (E:XK),Room k (A.deeper (envOfC qual scope s.heap.objs.size f cdv))→sp vs H Q E →
   ∃t,PSs (jV CX P w K mg base N qual scope f cdv A outer s H E) body t∧t { nx:=fun _ H'=>Q .non H',rt:=Q } (dW N vs) H) :
  FnOk P w K mg base CX (k + 1) f (PySem.W.fnOf name qual params body scope dV kV doc pm an cdv ct) ps sp:=by
 refine ⟨len,fun A outer s H args us vs Q E hr e0 hb r hsp=>?_⟩
 have hl:=len _ _ _ _ hsp
 have KX:K.In s.heap:=e0.mod.kin.keeps fun b o e=>(e0.bs b o e).1
 have lim:s.heap.NoLimit:=e0.mod.nolimit.keeps fun b o e=>(e0.bs b o e).1
 have hkind:∀y∈ps.zip us,scope.names.lookup y.1=some .local∨(scope.names.lookup y.1=some .cell∧((cellsFrom (s.heap.objs.size + 1) scope.names []).lookup y.1).isSome=true):=fun ⟨n,v⟩ hy=>by
  rcases S.par n (List.of_mem_zip hy).1 with q | q
  ·exact .inl q
  ·exact .inr ⟨q,PySem.W.cellsFrom_some _ _ _ (.inl q)⟩
 refine codeAny_call_function hr.depth (KX _ _ lk) rfl S.co S.gen rfl (PySem.W.codeRec_of KX hcd) (hb _ _ _ _ ?_)
 refine wpAny_newFunctionEnv_cells S.kind hkind fun env he s1 x=>?_
 subst he
 refine ⟨lim.keeps x.toInCall.keep,codeAny_func ?_⟩
 obtain ⟨t,ht,hq⟩:=hbody A outer s H vs Q E (hr.deeper _) hsp
 have I:Inv (jV CX P w K mg base N qual scope f cdv A outer s H E) [] (dW N vs) H s1:=jW S hr.hd e0 hl r x
 refine wpAny_mono (ht [] s1 (dW N vs) H _ I hq) (fun fl s' hs=>?_) fun e s' hs=>hs
 have fin:∀ {σ':St} {H':Hp} {v:V} {u:Value},Inv (jV CX P w K mg base N qual scope f cdv A outer s H E) [] σ' H' s'→RelV v u→Q v H'→CE outer P w H s Q u s' :=
  fun {σ' H' v u} J rv q=>⟨v,H',J.os,J.bare,J.base,J.hok,rv,q⟩
 cases fl with
 | ret u =>
  obtain ⟨v,σ',H',J,rv,q⟩:=hs
  exact fin J rv q
 | next =>
  obtain ⟨σ',H',J,q⟩:=hs
  exact fin (v:=V.non) (u:=Value.none) J rfl q
 | brk =>
  obtain ⟨_,_,_,q⟩:=hs
  exact False.elim q
 | cont =>
  obtain ⟨_,_,_,q⟩:=hs
  exact False.elim q
end L2
namespace L2
open PySem PySem.Spec PyProof.Rows
section
variable {X:Cx} {x:Str} {p pos:Pos} {e:Expr} {es:List Expr} {t:TA} {id T:String} {r:List V→Hp→VK→Prop}
def tCB (r:List V→Hp→VK→Prop) (t:TA):TE:=fun σ H Q=>t σ H fun vs H1=>r vs H1 Q
theorem aA (hc:bY X (.builtin id) r) (hg:Gl X x) (hm:X.mg x=none) (hv:bootBuiltins x=some (.builtin id)) (ha:PA X (e :: es) t) (hn:x ≠ "__name__" := by decide) (hdb:(x == ("__debug__" : Str))=false:=by decide)
  (he:starEach (e :: es) X.env=(false,eval e X.env) :: starEach es X.env:=by rfl) (hpl:(backTo pos (starEach es X.env)).any (·.1)=false:=by rfl):PE X (.Call (.Name x p) (e :: es) [] pos) (tCB r t):=by
 intro pins s σ H Q I h
 refine wpAny_Call_Name_kw (eJ I hg hm hv ?_ hn hdb)
 exact PyProof.Rows.callWith_builtin1 (thn (ha pos pins s σ H _ I h) fun us s1 ⟨vs,H1,I1,r1,q1⟩=>hc pins s1 σ H1 vs us Q I1 r1 q1) he hpl
theorem aV (hc:bY X (.type T) r) (hg:Gl X x) (hm:X.mg x=none) (hv:bootBuiltins x=some (.type T)) (ha:PA X (e :: es) t) (hn:x ≠ "__name__" := by decide) (hdb:(x == ("__debug__" : Str))=false:=by decide)
  (he:starEach (e :: es) X.env=(false,eval e X.env) :: starEach es X.env:=by rfl) (hpl:(backTo pos (starEach es X.env)).any (·.1)=false:=by rfl):PE X (.Call (.Name x p) (e :: es) [] pos) (tCB r t):=by
 intro pins s σ H Q I h
 refine wpAny_Call_Name_kw (eJ I hg hm hv ?_ hn hdb)
 exact PyProof.Rows.callWith_type1 (thn (ha pos pins s σ H _ I h) fun us s1 ⟨vs,H1,I1,r1,q1⟩=>hc pins s1 σ H1 vs us Q I1 r1 q1) he hpl
end
end L2
namespace HT
open PySem PyProof.Rows
section
open PySem.SeqAt
open PySem.AutoSeq1 (wpAny_loadPart')
open PySem.MeetsSeq PySem.MeetsSeq2 PySem.MeetsSeq3
end
section
variable {prog:Program} {w:World} {A:Around} {E:Value→Shared→Prop} {s:Shared}
theorem cat_tup {t b:Addr} {vs ws:List Value} {Q:Value→Shared→Prop} (ht:IsTup s.heap t vs.toArray) (hb:IsTup s.heap b ws.toArray) (hv:vs≠[])
  (h1:ws=[]→Q (.ref t) s) (h2:ws≠[]→Q (.ref s.heap.objs.size) { s with heap:=s.heap.push { cls:=.type "tuple",data:=.seq (vs ++ ws).toArray } })
  (hsz:vs.length + ws.length≤sizeLine):wpAny (model prog w) A (binaryOp .Add (.ref t) (.ref b)) Q E s:=by
 obtain ⟨⟨cls,dd,data,sl⟩,ho,hc,n,hd⟩:=id ht
 obtain ⟨⟨cls2,dd2,data2,sl2⟩,ho2,hc2,n2,hd2⟩:=id hb
 simp only at hc hd hc2 hd2
 subst hc hd hc2 hd2
 have e:vs.toArray ++ ws.toArray=(vs ++ ws).toArray:=by simp
 by_cases hw:ws=[]
 ·exact concat_meets ⟨_,ho,rfl⟩ ⟨_,ho2,rfl⟩ noFill_tuple_add seq_tuple_add PySem.F.slot_tuple_add PySem.F.entry_tuple_add (PySem.F.args_tuple_add_2 _ _)
   (tuple_addW1 t b vs.toArray ws.toArray n n2 dd dd2 sl sl2 (by simpa using hv) (by simp [hw])) ⟨ho,ho2,h1 hw⟩
 ·refine concat_meets ⟨_,ho,rfl⟩ ⟨_,ho2,rfl⟩ noFill_tuple_add seq_tuple_add PySem.F.slot_tuple_add PySem.F.entry_tuple_add (PySem.F.args_tuple_add_2 _ _)
   (tuple_addW2 t b vs.toArray ws.toArray n n2 dd dd2 sl sl2 (by simpa using hv) (by simpa using hw) (by rw [List.size_toArray,List.size_toArray]; exact hsz)) ⟨ho,ho2,?_⟩
  rw [e]
  exact h2 hw
def sIx (n d:Nat):Option Int→Nat
 | none=>d
 | some v=>if v < 0 then (v + (n:Int)).toNat else min v.toNat n
theorem pP (n d:Nat) (hd:d≤n) (o:Option Int):sIx n d o≤n:=by
 cases o with
 | none=>exact hd
 | some v =>
  show (if v < 0 then (v + (n:Int)).toNat else min v.toNat n)≤n
  by_cases hv:v < 0
  ·rw [if_pos hv]; omega
  ·rw [if_neg hv]; exact Nat.min_le_right _ _
theorem jh (v:Int) (n d:Nat):(if v < 0 then max (v + (n:Int)) 0 else min v (n:Int))=((sIx n d (some v):Nat):Int):=by
 show (if v < 0 then max (v + (n:Int)) 0 else min v (n:Int))=(((if v < 0 then (v + (n:Int)).toNat else min v.toNat n):Nat):Int)
 by_cases hv:v < 0
 ·simp only [if_pos hv]; omega
 ·simp only [if_neg hv]; omega
theorem il (lo hi:Option Int) (n:Nat):Builtin.Slice.sliceAdjust lo hi 1 (n:Int)=(((sIx n 0 lo:Nat):Int),((sIx n n hi:Nat):Int)):=by
 have h1:¬ ((1:Int) < 0):=by omega
 unfold Builtin.Slice.sliceAdjust
 simp only [h1,if_false]
 refine Prod.ext ?_ ?_
 ·cases lo with
  | none=>rfl
  | some v=>exact jh v n 0
 ·cases hi with
  | none=>rfl
  | some v=>exact jh v n n
theorem io (i j:Nat):Builtin.Slice.slicePlaces (i:Int) (j:Int) 1=j - i:=by
 unfold Builtin.Slice.slicePlaces
 have h1:(1:Int) > 0:=by omega
 simp only [h1,if_true,Int.ediv_one]
 split <;> omega
theorem eP {v:Value} {o:Option Int} {Q:Option Int→Shared→Prop} (p:IsPart v o) (h:Q o s):wpAny (model prog w) A (Builtin.Slice.slicePartIndex v) Q E s:=by
 cases p with
 | none=>exact slicePart_none h
 | int i t=>exact slicePart_int h
theorem dH {sl:Addr} {vl vu:Value} {lo hi:Option Int} {n:Nat} {Q:Int×Int×Nat→Shared→Prop} (hs:s.heap.IsSliceOf sl vl vu .none) (pl:IsPart vl lo) (pu:IsPart vu hi)
  (h:Q (((sIx n 0 lo:Nat):Int),1,sIx n n hi - sIx n 0 lo) s):wpAny (model prog w) A (Builtin.Slice.sliceApplied (.ref sl) (pure (n:Int))) Q E s:=by
 obtain ⟨os,hos,hcs,hds⟩:=id hs
 unfold Builtin.Slice.sliceApplied Builtin.Slice.sliceFields
 refine wpAny_bind (wpAny_bind (wpAny_field hos hds (x:=vl) rfl (wpAny_bind (wpAny_field hos hds (x:=vu) rfl (wpAny_bind (wpAny_field hos hds (x:=.none) rfl (wpAny_pure ?_)))))))
 refine wpAny_bind (slicePart_none ?_)
 show wpAny _ _ (if ((1:Int) == 0)=true then _ else _) _ _ s
 rw [if_neg (by decide)]
 refine wpAny_bind (eP pl (wpAny_bind (eP pu (wpAny_bind (wpAny_pure ?_)))))
 show wpAny _ _ (match Builtin.Slice.sliceAdjust lo hi 1 (n:Int) with | (lo,hi)=>pure (lo,(1:Int),Builtin.Slice.slicePlaces lo hi 1)) _ _ s
 rw [il lo hi n]
 show wpAny _ _ (pure (((sIx n 0 lo:Nat):Int),(1:Int),Builtin.Slice.slicePlaces ((sIx n 0 lo:Nat):Int) ((sIx n n hi:Nat):Int) 1)) _ _ s
 rw [io]
 exact wpAny_pure h
theorem lT (xs:Array Value) (i k:Nat):((List.range k).filterMap fun (m:Nat)=>xs[((i:Int) + (m:Int) * 1).toNat]?).toArray=((xs.toList.drop i).take k).toArray:=by
 have e:(fun (m:Nat)=>xs[((i:Int) + (m:Int) * 1).toNat]?)=fun m=>xs[i + m]? := by
  funext m
  have:((i:Int) + (m:Int) * 1).toNat=i + m:=by omega
  rw [this]
 rw [e]
 have:=pick_run xs i k
 rw [List.filterMap_map] at this
 have e2:((fun x=>xs[x]?)∘fun x=>i + x)=fun m=>xs[i + m]? := rfl
 rw [e2] at this
 rw [this]
theorem getItem_tuple_cut {t sl:Addr} {items:Array Value} {vl vu:Value} {lo hi:Option Int} {Q:Value→Shared→Prop} (ht:IsTup s.heap t items) (hs:s.heap.IsSliceOf sl vl vu .none) (pl:IsPart vl lo) (pu:IsPart vu hi)
  (hw:¬ (sIx items.size 0 lo=0∧sIx items.size items.size hi=items.size))
  (h:Q (.ref s.heap.objs.size) { s with heap:=s.heap.push { cls:=.type "tuple",data:=.seq ((items.toList.drop (sIx items.size 0 lo)).take (sIx items.size items.size hi - sIx items.size 0 lo)).toArray } })
  (hsz:items.size≤sizeLine):wpAny (model prog w) A (getItem (.ref t) (.ref sl)) Q E s:=by
 have htake:sizeOk (.seq ((items.toList.drop (sIx items.size 0 lo)).take (sIx items.size items.size hi - sIx items.size 0 lo)).toArray):=by
  show ((items.toList.drop (sIx items.size 0 lo)).take (sIx items.size items.size hi - sIx items.size 0 lo)).toArray.size≤sizeLine
  rw [List.size_toArray,List.length_take,List.length_drop,Array.length_toList]
  omega
 have hj:sIx items.size items.size hi≤items.size:=pP _ _ (Nat.le_refl _) hi
 obtain ⟨os,hos,hcs,hds⟩:=id hs
 have hTs:s.TypeIs (.ref sl) "slice" := ⟨os,hos,hcs⟩
 unfold getItem
 try with_reducible refine wpAny_holding ?_
 first | refine wpAny_bind (wpAny_pure ?_) | skip
 refine wpAny_bind (wpAny_sequenceKey ht.typeIs (by decide) ?_)
 refine wpAny_bind (wpAny_callSpecial?_slot (name:=Str.ofString "__getitem__") ht.typeIs PyProof.Rows.slot_tuple_getitem
  (wpAny_call_entry PyProof.Rows.slot_tuple_getitem ht.typeIs entry_tuple_getitem ?_ (args_tuple_getitem _ _)))
 show wpAny _ _ (Builtin.Tuple.tupleItemsOf (.ref t) >>= _) _ _ s
 refine wpAny_bind (tupleItemsOf_ ht ?_)
 refine wpAny_bind (wpAny_typeOf hTs ?_)
 rw [if_pos (by decide)]
 refine wpAny_bind (dH hs pl pu ?_)
 have hno:¬ ((((sIx items.size 0 lo:Nat):Int) == 0 && (1:Int) == 1 && (sIx items.size items.size hi - sIx items.size 0 lo) == items.size)=true):=by
  intro q
  rw [Bool.and_eq_true,Bool.and_eq_true] at q
  have q1:((sIx items.size 0 lo:Nat):Int)=0:=eq_of_beq q.1.1
  have q2:sIx items.size items.size hi - sIx items.size 0 lo=items.size:=eq_of_beq q.2
  exact hw ⟨by omega,by omega⟩
 show wpAny _ _ (if (((sIx items.size 0 lo:Nat):Int) == 0 && (1:Int) == 1 && (sIx items.size items.size hi - sIx items.size 0 lo) == items.size)=true then _ else _) _ _ s
 rw [if_neg hno,lT]
 first
  | exact wpAny_bind (m:=Builtin.Tuple.tupleExact _) (wpAny_newObj_type (wpAny_pure ⟨_,rfl,wpAny_pure h⟩) htake)
  | exact wpAny_bind (m:=Builtin.Tuple.tupleExact _) (wpAny_newObj_type (wpAny_bind (wpAny_pure (wpAny_pure ⟨_,rfl,wpAny_pure h⟩))) htake)
  | exact wpAny_bind (wpAny_bind (m:=Builtin.Tuple.tupleExact _) (wpAny_newObj_type (wpAny_pure (wpAny_pure ⟨_,rfl,wpAny_pure h⟩)) htake))
  | exact wpAny_bind (wpAny_bind (m:=Builtin.Tuple.tupleExact _) (wpAny_newObj_type (wpAny_pure ⟨_,rfl,wpAny_pure h⟩) htake))
end
end HT
namespace L2
open PySem PySem.Spec PyProof.Rows
abbrev TO:=St→Hp→(Option Int→Hp→Prop)→Prop
def PO (X:Cx) (e:Option Expr) (t:TO):Prop :=
 ∀ (pins:List (Addr×Obj)) (s:Shared) (σ:St) (H:Hp) (Q:Option Int→Hp→Prop),Inv X pins σ H s→t σ H Q →
  wpAny (model X.prog X.w) X.A (evalPart e X.env) (fun u s'=>∃o H',Inv X pins σ H' s'∧IsPart u o∧Q o H') X.xe s
def nT:TO:=fun _ H Q=>Q none H
def sX (t:TE):TO:=fun σ H Q=>t σ H fun x H1=>∃i,x=.int i∧Q (some i) H1
section
variable {X:Cx} {e:Expr} {te:TE} {lo hi:Option Expr} {tl th:TO} {pos p2:Pos}
theorem nU:PO X none nT:=by
 intro pins s σ H Q I h
 rw [evalPart_none]
 exact wpAny_pure ⟨none,H,I,.none,h⟩
theorem nV (h:PE X e te):PO X (some e) (sX te):=by
 intro pins s σ H Q I hw
 rw [evalPart_some]
 refine thn (h pins s σ H _ I hw) fun u s1 ⟨x,H1,I1,r1,q1⟩=>?_
 obtain ⟨i,rfl,q⟩:=q1
 obtain ⟨t,rfl⟩:=r1
 exact ⟨some i,H1,I1,.int i t,q⟩
def SlR (X:Cx) (r:V→Option Int→Option Int→Hp→VK→Prop):Prop :=
 ∀ (pins:List (Addr×Obj)) (s:Shared) (σ:St) (H:Hp) (x:V) (v vl vu:Value) (lo hi:Option Int) (sl:Addr) (Q:VK),Inv X pins σ H s→RelV x v→s.heap.IsSliceOf sl vl vu .none→IsPart vl lo→IsPart vu hi→r x lo hi H Q →
  ∃T id,typeLookup (.type T) "__getitem__" = pure (some (.builtin id))∧s.TypeIs v T∧wpAny (model X.prog X.w) X.A (getItem v (.ref sl)) (EP X pins σ Q) X.xe s
def tSl (r:V→Option Int→Option Int→Hp→VK→Prop) (te:TE) (tl th:TO):TE:=fun σ H Q=>te σ H fun x H1=>tl σ H1 fun l H2=>th σ H2 fun u H3=>r x l u H3 Q
theorem lU {r:V→Option Int→Option Int→Hp→VK→Prop} (hr:SlR X r) (he:PE X e te) (hl:PO X lo tl) (hu:PO X hi th):PE X (.Subscript e (.Slice lo hi none p2) pos) (tSl r te tl th):=by
 intro pins s σ H Q I h
 refine Subscript_ (thn (he pins s σ H _ I h) fun v s1 ⟨x,H1,I1,r1,q1⟩=>?_)
 refine wpAny_Slice (thn (hl pins s1 σ H1 _ I1 q1) fun vl s2 ⟨l,H2,I2,pl,q2⟩=>thn (hu pins s2 σ H2 _ I2 q2) fun vu s3 ⟨u,H3,I3,pu,q3⟩=>?_)
 rw [evalPart_none]
 refine wpAny_pure ?_
 have I4:Inv X pins σ H3 { s3 with heap:=s3.heap.push { cls:=.type "slice", data:=.fields #[vl, vu, .none] } }:=I3.kept (t':=s3.toks) fun b ob q=>Heap.get?_push_of_some _ q
 obtain ⟨T,id,hT,ht,hg⟩:=hr pins { s3 with heap:=s3.heap.push { cls:=.type "slice",data:=.fields #[vl,vu,.none] } } σ H3 x v vl vu l u s3.heap.objs.size Q I4 r1 (Heap.IsSliceOf.new ..) pl pu q3
 show wpAny (model X.prog X.w) X.A (subscriptTail e (.Slice lo hi none p2) v (.ref s3.heap.objs.size)) (EP X pins σ Q) X.xe { s3 with heap:=s3.heap.push { cls:=.type "slice",data:=.fields #[vl,vu,.none] } }
 exact tail_any (ops:=[.ref s3.heap.objs.size,v]) ht hT hg (by with_unfolding_all rfl)
def gH (xs:List V) (lo hi:Option Int):List V:=(xs.drop (HT.sIx xs.length 0 lo)).take (HT.sIx xs.length xs.length hi - HT.sIx xs.length 0 lo)
theorem dX (xs:List V) (lo hi:Option Int):(gH xs lo hi).length≤xs.length:=by
 unfold gH
 rw [List.length_take,List.length_drop]
 omega
def zB (K:PySem.W.Frag):V→Option Int→Option Int→Hp→VK→Prop:=fun x lo hi H Q=>∃a xs,x=.ref a∧SqT K H a xs ∧
 ¬ (HT.sIx xs.length 0 lo=0∧HT.sIx xs.length xs.length hi=xs.length)∧∀p,H p=none→Q (.ref p) (upd H p (.tup (gH xs lo hi)))
theorem pQ:SlR X (zB X.K):=by
 intro pins s σ H x v vl vu lo hi sl Q I rx hs pl pu h
 obtain ⟨a,xs,rfl,hx,hw,q⟩:=h
 cases rx
 obtain ⟨its,r,ht,hz⟩:=I.tuple hx
 have hlen:its.toArray.size=xs.length:=by rw [List.size_toArray]; exact r.length.symm
 refine ⟨"tuple",_,PyProof.Rows.slot_tuple_getitem.lookup,ht.typeIs,?_⟩
 refine HT.getItem_tuple_cut ht hs pl pu (by rw [hlen]; exact hw) ?_ (by rw [hlen]; exact hz)
 rw [hlen]
 refine ⟨.ref s.heap.objs.size,_,I.laid (t':=s.toks) (o:=.tup (gH xs lo hi)) (fun b ob q=>Heap.get?_push_of_some _ q) (Nat.le_refl _) ?_,rfl,q _ (I.hok.fresh (Nat.le_refl _))⟩
 exact ⟨Nat.le_trans (dX xs lo hi) hz,_,(r.drop (HT.sIx xs.length 0 lo)).take (HT.sIx xs.length xs.length hi - HT.sIx xs.length 0 lo),IsTup.new _ _⟩
def sY (K:PySem.W.Frag):R2:=fun x y H Q=>∃a b xs ys,x=.ref a∧y=.ref b∧SqT K H a xs∧SqT K H b ys∧xs≠[]∧xs.length + ys.length≤sizeLine ∧
 (ys=[]→Q (.ref a) H)∧(ys≠[]→∀p,H p=none→Q (.ref p) (upd H p (.tup (xs ++ ys))))
theorem Vals.nil_iff {xs:List V} {us:List Value} (r:Vals xs us):us=[]↔xs=[]:=by
 cases r with
 | nil=>simp
 | cons _ _=>simp
theorem ji:OpR X (binaryOp .Add) (sY X.K):=by
 intro pins s σ H x y v u Q I rx ry h
 obtain ⟨a,b,xs,ys,rfl,rfl,ha,hb,hx,hz,q1,q2⟩:=h
 cases rx
 cases ry
 obtain ⟨its,r1,p1,_⟩:=I.tuple ha
 obtain ⟨its2,r2,p2,_⟩:=I.tuple hb
 refine HT.cat_tup p1 p2 (fun z=>hx (r1.nil_iff.mp z)) (fun z=>⟨.ref a,H,I,rfl,q1 (r2.nil_iff.mp z)⟩) (fun z=>?_) (by rw [← r1.length,← r2.length]; exact hz)
 refine ⟨.ref s.heap.objs.size,_,I.laid (t':=s.toks) (o:=.tup (xs ++ ys)) (fun b ob q=>Heap.get?_push_of_some _ q) (Nat.le_refl _) ?_,rfl,q2 (fun w=>z (r2.nil_iff.mpr w)) _ (I.hok.fresh (Nat.le_refl _))⟩
 exact ⟨by rw [List.length_append]; exact hz,_,r1.append r2,IsTup.new _ _⟩
end
end L2
namespace L2
open PySem PySem.Spec PyProof.Rows
def ixN (n:Nat) (i:Int):Option Nat:=if 0≤i then (if i < n then some i.toNat else none) else if -(n:Int)≤i then some (i + n).toNat else none
def atI {α:Type} (xs:List α) (i:Int):Option α:=(ixN xs.length i).bind fun j=>xs[j]?
theorem jj {n:Nat} {i:Int} {j:Nat} (h:ixN n i=some j):seqIndex? i n=some j∧j < n∧-(n:Int)≤i∧i < n:=by
 unfold ixN at h
 by_cases h0:0≤i
 ·rw [if_pos h0] at h
  by_cases h1:i < n
  ·rw [if_pos h1] at h
   have e:i.toNat=j:=Option.some.inj h
   exact ⟨by rw [seqIndex_of h0 h1,e],by omega,by omega,h1⟩
  ·rw [if_neg h1] at h; cases h
 ·rw [if_neg h0] at h
  by_cases h1:-(n:Int)≤i
  ·rw [if_pos h1] at h
   have e:(i + n).toNat=j:=Option.some.inj h
   exact ⟨by rw [seqIndex_neg (by omega) h1,e],by omega,h1,by omega⟩
  ·rw [if_neg h1] at h; cases h
theorem fZ {α:Type} {xs:List α} {i:Int} {v:α} (h:atI xs i=some v):∃j,seqIndex? i xs.length=some j∧xs[j]? = some v∧j < xs.length∧-(xs.length:Int)≤i∧i < xs.length:=by
 unfold atI at h
 cases e:ixN xs.length i with
 | none=>rw [e] at h; cases h
 | some j =>
  rw [e] at h
  obtain ⟨h1,h2,h3,h4⟩:=jj e
  exact ⟨j,h1,h,h2,h3,h4⟩
theorem nW {α:Type} {xs:List α} {j:Nat} {v:α} (h:xs[j]? = some v):atI xs (j:Int)=some v:=by
 have hj:j < xs.length:=(List.getElem?_eq_some_iff.mp h).1
 have e:ixN xs.length (j:Int)=some j:=by
  unfold ixN
  rw [if_pos (by omega),if_pos (by omega)]; simp
 unfold atI; rw [e]; exact h
def nX (b:Expr):Prop:=∀o i,subscripted b false o i=operate [o,i] (getItem o i)
def IxR (X:Cx) (r:R2):Prop :=
 ∀ (value slice:Expr) (pins:List (Addr×Obj)) (s:Shared) (σ:St) (H:Hp) (x y:V) (v u:Value) (Q:VK),Inv X pins σ H s→RelV x v→RelV y u→r x y H Q →
  subscripted slice false v u=operate [v,u] (getItem v u)→wpAny (model X.prog X.w) X.A (subscriptTail value slice v u) (EP X pins σ Q) X.xe s
def MtR (X:Cx) (id:String) (r:V→List V→Hp→VK→Prop):Prop :=
 ∀ (pins:List (Addr×Obj)) (s:Shared) (σ:St) (H:Hp) (x:V) (xs:List V) (v:Value) (us:List Value) (Q:VK),Inv X pins σ H s→RelV x v→Vals xs us→r x xs H Q →
  wpAny (model X.prog X.w) X.A (call (.builtin id) (v :: us)) (EP X pins σ Q) X.xe s
section
variable {X:Cx} {a b:Expr} {ta tb:TE} {pos:Pos}
theorem IxR.or {r r':R2} (h:IxR X r) (h':IxR X r'):IxR X (fun x y H Q=>r x y H Q∨r' x y H Q):=by
 intro value slice pins s σ H x y v u Q I rx ry q hs
 rcases q with q | q
 ·exact h value slice pins s σ H x y v u Q I rx ry q hs
 ·exact h' value slice pins s σ H x y v u Q I rx ry q hs
theorem ar {r:R2} (hr:IxR X r) (ha:PE X a ta) (hb:PE X b tb) (hs:nX b):PE X (.Subscript a b pos) (tOp r ta tb):=by
 intro pins s σ H Q I h
 exact Subscript_ (pM ha hb I h fun v u s2 x y H2 I2 rx ry q=>hr a b pins s2 σ H2 x y v u Q I2 rx ry q (hs _ _))
inductive rIxL (K:PySem.W.Frag) (x:V) (y:V) (H:Hp) (Q:VK):Prop
 | mk (p:Addr) (xs:List V) (i:Int) (v:V) (e_0:x=.ref p) (e_1:y=.int i) (e_2:SqL K H p xs) (e_3:atI xs i=some v) (e_4:Q v H):rIxL K x y H Q
inductive rIxT (K:PySem.W.Frag) (x:V) (y:V) (H:Hp) (Q:VK):Prop
 | mk (p:Addr) (xs:List V) (i:Int) (v:V) (e_0:x=.ref p) (e_1:y=.int i) (e_2:SqT K H p xs) (e_3:atI xs i=some v) (e_4:Q v H):rIxT K x y H Q
def tj:R2:=fun x y H Q=>∃z i c,x=.str z∧y=.int i∧z.length≤sizeLine∧atI z.cps.toList i=some c∧Q (.str ⟨#[c]⟩) H
theorem ix_list:IxR X (rIxL X.K):=by
 intro value slice pins s σ H x y v u Q I rx ry h hs
 obtain ⟨p,xs,i,z,rfl,rfl,hq,he,q⟩:=h
 cases rx
 obtain ⟨t,rfl⟩:=ry
 obtain ⟨its,r,pl,hz⟩:=I.list hq
 obtain ⟨j,h1,h2,h3,h4,h5⟩:=fZ he
 obtain ⟨w,ew,rw'⟩:=r.get h2
 have hl:=r.length
 have hn:=dE
 have fin:EP X pins σ Q w s:=⟨z,H,I,rw',q⟩
 by_cases h0:0≤i
 ·have hj:i.toNat=j:=by
   rw [seqIndex_of h0 h5] at h1
   exact Option.some.inj h1
  exact item_listR pl.isList h0 (by omega) (by rw [hj]; simpa using ew) fin hs
 ·have hj:(i + (its.toArray.size:Int)).toNat=j:=by
   rw [seqIndex_neg (by omega) h4] at h1
   rw [List.size_toArray,← hl]
   exact Option.some.inj h1
  exact subscriptTail_builtinR (x:=w) pl.isList.typeIs slot_list_getitem.lookup
   (wpAny_getItem_list_neg (Q:=fun r s'=>r=w∧EP X pins σ Q r s') pl.isList (by omega) (by rw [List.size_toArray] <;> omega) (by omega) (by rw [hj]; simpa using ew) ⟨rfl,fin⟩) hs
theorem ix_tup:IxR X (rIxT X.K):=by
 intro value slice pins s σ H x y v u Q I rx ry h hs
 obtain ⟨p,xs,i,z,rfl,rfl,hq,he,q⟩:=h
 cases rx
 obtain ⟨t,rfl⟩:=ry
 obtain ⟨its,r,pl,hz⟩:=I.tuple hq
 obtain ⟨j,h1,h2,h3,h4,h5⟩:=fZ he
 obtain ⟨w,ew,rw'⟩:=r.get h2
 have hl:=r.length
 have hn:=dE
 have fin:EP X pins σ Q w s:=⟨z,H,I,rw',q⟩
 exact subscriptTail_builtinR (x:=w) pl.typeIs slot_tuple_getitem.lookup
  (getItem_tuple (j:=j) (Q:=fun r s'=>r=w∧EP X pins σ Q r s') pl (by omega) (by omega) (by rw [List.size_toArray,← hl]; exact h1) (by simpa using ew) ⟨rfl,fin⟩) hs
theorem pR:IxR X tj:=by
 intro value slice pins s σ H x y v u Q I rx ry h hs
 obtain ⟨z,i,c,rfl,rfl,hz,he,q⟩:=h
 obtain ⟨t,rfl⟩:=rx
 obtain ⟨t',rfl⟩:=ry
 obtain ⟨j,h1,h2,h3,h4,h5⟩:=fZ he
 have hl:z.cps.toList.length=z.length:=by simp [Str.length]
 rw [hl] at h1 h4 h5
 have hn:=dE
 exact tail_any (typeIs_str s z t) slot_str_getitem.lookup (getItem_str (c:=c) (by
  have e1:decide (i < -(2 ^ 63:Int))=false:=decide_eq_false (by omega)
  have e2:decide (i≥2 ^ 63)=false:=decide_eq_false (by omega)
  rw [e1,e2,Bool.or_false]) (by rw [h1]; simpa using h2) ⟨.str ⟨#[c]⟩,H,I.tok _,⟨_,rfl⟩,q⟩) hs
def rIx (K:PySem.W.Frag):R2:=fun x y H Q=>rIxL K x y H Q∨rIxT K x y H Q∨tj x y H Q
theorem bv:IxR X (rIx X.K):=ix_list.or (ix_tup.or pR)
theorem ip (its:List Value) (n j:Nat) (u:Value):Obj.mapSeq (·.setIfInBounds j u) { cls:=.type "list",data:=.seq its.toArray n }={ cls:=.type "list",data:=.seq (its.set j u).toArray n }:=by
 simp [Obj.mapSeq]
theorem Inv.lst {pins:List (Addr×Obj)} {σ:St} {H:Hp} {s:Shared} {p:Addr} {xs:List V} (I:Inv X pins σ H s) (h:H p=some (.lst xs)) :
  ∃ (its:List Value) (n:Nat),Vals xs its∧s.heap.get? p=some { cls:=.type "list",data:=.seq its.toArray n }∧xs.length≤sizeLine:=by
 obtain ⟨z,its,n,r,e⟩:=I.hok p _ h
 exact ⟨its,n,r,e,z⟩
theorem Inv.lstUpd {pins:List (Addr×Obj)} {σ:St} {H:Hp} {s:Shared} {p:Addr} {xs ys:List V} {its its':List Value} {n n':Nat} {f:Obj→Obj} (I:Inv X pins σ H s) (h:H p=some (.lst xs))
  (ho:s.heap.get? p=some { cls:=.type "list", data:=.seq its.toArray n }) (hf:f { cls:=.type "list", data:=.seq its.toArray n }={ cls:=.type "list", data:=.seq its'.toArray n' }) (r:Vals ys its') (hz:ys.length≤sizeLine) (t:Nat) :
  Inv X pins σ (upd H p (.lst ys)) { s with heap:=s.heap.update p f,toks:=t }:=by
 have e:(s.heap.update p f).get? p=some { cls:=.type "list", data:=.seq its'.toArray n' }:=by
  rw [Heap.get?_update_self f ho (by rw [hf] <;> rfl),hf]
 refine I.write (x:=p) (e:=p) (by rw [h]; trivial) (.inl rfl) (fun b u hb q=>(Heap.get?_update_other _ _ (Ne.symm hb)).trans q) ⟨_,e⟩ ?_
 exact ⟨hz,its',n',r,e⟩
inductive rSetL (o:V) (i:V) (v:V) (H:Hp) (Q:Hp→Prop):Prop
 | mk (p:Addr) (xs:List V) (k:Int) (j:Nat) (e_0:o=.ref p) (e_1:i=.int k) (e_2:H p=some (.lst xs)) (e_3:ixN xs.length k=some j) (e_4:Q (upd H p (.lst (xs.set j v)))):rSetL o i v H Q
theorem eQ:sN X rSetL:=by
 intro pins s σ H o i v ov iv u Q I ro ri rv h
 obtain ⟨p,xs,k,j,rfl,rfl,hp,hj,q⟩:=h
 cases ro
 obtain ⟨t,rfl⟩:=ri
 obtain ⟨its,n,r,ho,hz⟩:=I.lst hp
 obtain ⟨h1,h2,h3,h4⟩:=jj hj
 have hl:=r.length
 have hn:=dE
 have I':Inv X pins σ (upd H p (.lst (xs.set j v))) { s with heap:=s.heap.update p (Obj.mapSeq (·.setIfInBounds j u)) } :=
  I.lstUpd hp ho (ip its n j u) (r.set rv j) (by rw [List.length_set]; exact hz) s.toks
 by_cases h0:0≤k
 ·have hk:k.toNat=j:=by
   rw [seqIndex_of h0 h4] at h1
   exact Option.some.inj h1
  exact PySem.W.ki_setAt ho h0 (by omega) (by rw [List.size_toArray,← hl]; exact h4) (by rw [hk]; exact ⟨_,I',q⟩)
 ·have hk:(k + (its.toArray.size:Int)).toNat=j:=by
   rw [seqIndex_neg (by omega) h3] at h1
   rw [List.size_toArray,← hl]
   exact Option.some.inj h1
  exact PySem.W.ki_setBack ho (by omega) (by rw [List.size_toArray,← hl]; exact h3) (by omega) (by rw [hk]; exact ⟨_,I',q⟩)
theorem ga (lo hi:Option Int) (n:Nat):(sliceBounds lo hi none n).1=((HT.sIx n 0 lo:Nat):Int)∧(sliceBounds lo hi none n).2.1=((HT.sIx n n hi:Nat):Int)∧(sliceBounds lo hi none n).2.2=1:=by
 refine ⟨?_,?_,rfl⟩
 ·cases lo with
  | none=>simp [sliceBounds,HT.sIx]
  | some i =>
   simp only [sliceBounds,HT.sIx,Option.getD_none,show (1:Int) > 0 by decide,if_true]
   by_cases h:i < 0
   ·simp only [h,if_true] <;> omega
   ·simp only [h,if_false] <;> omega
 ·cases hi with
  | none=>simp [sliceBounds,HT.sIx]
  | some i =>
   simp only [sliceBounds,HT.sIx,Option.getD_none,show (1:Int) > 0 by decide,if_true]
   by_cases h:i < 0
   ·simp only [h,if_true] <;> omega
   ·simp only [h,if_false] <;> omega
theorem fi (its:List Value) (lo hi:Option Int):slicePick its.toArray lo hi none=((its.drop (HT.sIx its.length 0 lo)).take (HT.sIx its.length its.length hi - HT.sIx its.length 0 lo)).toArray:=by
 obtain ⟨h1,h2,h3⟩:=ga lo hi its.toArray.size
 unfold slicePick
 rw [h1,h2,h3]
 simp only [sliceRange_one,pick_run,List.size_toArray] <;> rfl
inductive rSlL (K:PySem.W.Frag) (x:V) (lo:Option Int) (hi:Option Int) (H:Hp) (Q:VK):Prop
 | mk (a:Addr) (xs:List V) (e_0:x=.ref a) (e_1:SqL K H a xs) (e_2:∀p,H p=none→Q (.ref p) (upd H p (.lst (gH xs lo hi)))):rSlL K x lo hi H Q
theorem zf:SlR X (rSlL X.K):=by
 intro pins s σ H x v vl vu lo hi sl Q I rx hs pl pu h
 obtain ⟨a,xs,rfl,hx,q⟩:=h
 cases rx
 obtain ⟨its,r,ht,hz⟩:=I.list hx
 have hlen:=r.length
 refine ⟨"list",_,slot_list_getitem.lookup,ht.isList.typeIs,?_⟩
 refine wpAny_getItem_list_slice ht.isList hs pl pu .none (by simp) ?_ (by rw [List.size_toArray] <;> omega)
 rw [fi,← hlen]
 refine ⟨.ref s.heap.objs.size,_,I.laid (t':=s.toks) (o:=.lst (gH xs lo hi)) (fun b ob q=>Heap.get?_push_of_some _ q) (Nat.le_refl _) ?_,rfl,q _ (I.hok.fresh (Nat.le_refl _))⟩
 exact ⟨Nat.le_trans (dX xs lo hi) hz,_,0,(r.drop (HT.sIx xs.length 0 lo)).take (HT.sIx xs.length xs.length hi - HT.sIx xs.length 0 lo),Heap.get?_push_size _ rfl⟩
def dY:V→Bool
 | .non=>true
 | .bl _=>true
 | .int _=>true
 | .str _=>true
 | _=>false
def eqV:V→V→Bool
 | .non,.non=>true
 | .bl a,.bl b=>a == b
 | .bl a,.int b=>(if a then 1 else 0) == b
 | .int a,.bl b=>a == (if b then 1 else 0)
 | .int a,.int b=>a == b
 | .str a,.str b=>a == b
 | _,_=>false
theorem pS {A:Around} {s:Shared} {y x:V} {u v:Value} (ry:RelV y u) (rx:RelV x v) (fy:dY y=true) (fx:dY x=true):SeqAt.EqAt A s u v (eqV y x):=by
 cases y with
 | non =>
  cases ry
  cases x with
  | non=>cases rx; exact SeqAt.EqAt.same _
  | bl b=>cases rx; exact SeqAt.EqAt.none_bool b
  | int b=>obtain ⟨t,rfl⟩:=rx; exact SeqAt.EqAt.none_int b t
  | str b=>obtain ⟨t,rfl⟩:=rx; exact SeqAt.EqAt.none_str b t
  | _=>exact absurd (show false=true from fx) Bool.false_ne_true
 | bl a =>
  cases ry
  cases x with
  | non=>cases rx; exact SeqAt.EqAt.bool_none a
  | bl b=>cases rx; exact SeqAt.EqAt.bool_bool a b
  | int b=>obtain ⟨t,rfl⟩:=rx; exact SeqAt.EqAt.bool_int a b t
  | str b=>obtain ⟨t,rfl⟩:=rx; exact SeqAt.EqAt.bool_str a b t
  | _=>exact absurd (show false=true from fx) Bool.false_ne_true
 | int a =>
  obtain ⟨t',rfl⟩:=ry
  cases x with
  | non=>cases rx; exact SeqAt.EqAt.int_none a t'
  | bl b=>cases rx; exact SeqAt.EqAt.int_bool a t' b
  | int b=>obtain ⟨t,rfl⟩:=rx; exact SeqAt.EqAt.int_int a t' b t
  | str b=>obtain ⟨t,rfl⟩:=rx; exact SeqAt.EqAt.int_str a t' b t
  | _=>exact absurd (show false=true from fx) Bool.false_ne_true
 | str a =>
  obtain ⟨t',rfl⟩:=ry
  cases x with
  | non=>cases rx; exact SeqAt.EqAt.str_none a t'
  | bl b=>cases rx; exact SeqAt.EqAt.str_bool a t' b
  | int b=>obtain ⟨t,rfl⟩:=rx; exact SeqAt.EqAt.str_int a t' b t
  | str b=>obtain ⟨t,rfl⟩:=rx; exact SeqAt.EqAt.str_str a t' b t
  | _=>exact absurd (show false=true from fx) Bool.false_ne_true
 | _=>exact absurd (show false=true from fy) Bool.false_ne_true
def eqU (x:V) (u:Value):Bool:=match u with
 | .none=>eqV .non x
 | .bool b=>eqV (.bl b) x
 | .int i _=>eqV (.int i) x
 | .str z _=>eqV (.str z) x
 | _=>false
theorem lV {x y:V} {u:Value} (r:RelV y u) (f:dY y=true):eqU x u=eqV y x:=by
 cases y with
 | non=>cases r; rfl
 | bl b=>cases r; rfl
 | int i=>obtain ⟨t,rfl⟩:=r; rfl
 | str z=>obtain ⟨t,rfl⟩:=r; rfl
 | _=>exact absurd (show false=true from f) Bool.false_ne_true
theorem cW {x:V}:∀ {xs:List V} {us:List Value},Vals xs us→xs.all dY=true→us.any (eqU x)=xs.any fun y=>eqV y x
 | _,_,.nil,_=>rfl
 | y :: xs,u :: us,.cons r t,f=>by
  rw [List.all_cons,Bool.and_eq_true] at f
  rw [List.any_cons,List.any_cons,lV r f.1,cW t f.2]
theorem cu {A:Around} {s:Shared} {x:V} {v:Value} (rx:RelV x v) (fx:dY x=true):∀ {xs:List V} {us:List Value},Vals xs us→xs.all dY=true→∀u∈us,SeqAt.EqAt A s u v (eqU x u)
 | _,_,.nil,_=>fun u hu=>by cases hu
 | y :: xs,u :: us,.cons r t,f=>fun u' hu=>by
  rw [List.all_cons,Bool.and_eq_true] at f
  rcases List.mem_cons.mp hu with rfl | hu
  ·rw [lV r f.1]; exact pS r rx f.1 fx
  ·exact cu rx fx t f.2 u' hu
def inV (x:V) (xs:List V):Bool:=xs.any fun y=>eqV y x
def rIn (K:PySem.W.Frag) (neg:Bool):R2:=fun x y H Q=>∃p xs,y=.ref p∧(SqL K H p xs∨SqT K H p xs)∧dY x=true∧xs.all dY=true∧Q (.bl (if neg then !inV x xs else inV x xs)) H
theorem jX:OpR X (compareOp .In) (rIn X.K false):=by
 intro pins s σ H x y v u Q I rx ry h
 obtain ⟨p,xs,rfl,hq,fx,fs,q⟩:=h
 cases ry
 rcases hq with hq | hq
 ·obtain ⟨its,r,pl,hz⟩:=I.list hq
  refine SeqAt.in_listAt (eqU x) pl.isList (fun w hw=>cu rx fx r fs w (by simpa using hw)) ⟨.bl _,H,I,rfl,?_⟩
  rw [show its.toArray.any (eqU x)=its.any (eqU x) by simp,cW r fs]
  exact q
 ·obtain ⟨its,r,pl,hz⟩:=I.tuple hq
  refine SeqAt.in_tupleAt (eqU x) pl (fun w hw=>cu rx fx r fs w (by simpa using hw)) ⟨.bl _,H,I,rfl,?_⟩
  rw [show its.toArray.any (eqU x)=its.any (eqU x) by simp,cW r fs]
  exact q
theorem gb:OpR X (compareOp .NotIn) (rIn X.K true):=by
 intro pins s σ H x y v u Q I rx ry h
 obtain ⟨p,xs,rfl,hq,fx,fs,q⟩:=h
 cases ry
 rcases hq with hq | hq
 ·obtain ⟨its,r,pl,hz⟩:=I.list hq
  refine SeqAt.notIn_listAt (eqU x) pl.isList (fun w hw=>cu rx fx r fs w (by simpa using hw)) ⟨.bl _,H,I,rfl,?_⟩
  rw [show its.toArray.any (eqU x)=its.any (eqU x) by simp,cW r fs]
  exact q
 ·obtain ⟨its,r,pl,hz⟩:=I.tuple hq
  refine SeqAt.notIn_tupleAt (eqU x) pl (fun w hw=>cu rx fx r fs w (by simpa using hw)) ⟨.bl _,H,I,rfl,?_⟩
  rw [show its.toArray.any (eqU x)=its.any (eqU x) by simp,cW r fs]
  exact q
theorem bc:bY X (.builtin "len") (fun xs H Q=>∃p ys,xs=[.ref p]∧(SqL X.K H p ys∨SqT X.K H p ys)∧Q (.int ys.length) H):=by
 intro pins s σ H xs us Q I r h
 obtain ⟨p,ys,rfl,hq,q⟩:=h
 obtain ⟨u,rfl,rx⟩:=eO r
 cases rx
 have hn:=dE
 rcases hq with hq | hq
 ·obtain ⟨its,r',pl,hz⟩:=I.list hq
  have hlen:=r'.length
  exact Calls.call_len_list pl.isList (by simp only [List.size_toArray] <;> omega) ⟨.int ys.length,H,I.tok _,⟨s.toks + 1,by rw [List.size_toArray,hlen]⟩,q⟩
 ·obtain ⟨its,r',pl,hz⟩:=I.tuple hq
  have hlen:=r'.length
  exact len_tuple pl (by simp only [List.size_toArray] <;> omega) ⟨.int ys.length,H,I.tok _,⟨s.toks + 1,by rw [List.size_toArray,hlen]⟩,q⟩
theorem bh:bY X (.type "tuple") (fun xs H Q=>∃p ys,xs=[.ref p]∧((SqL X.K H p ys∧∀l,H l=none→Q (.ref l) (upd H l (.tup ys)))∨(SqT X.K H p ys∧Q (.ref p) H))):=by
 intro pins s σ H xs us Q I r h
 obtain ⟨p,ys,rfl,h⟩:=h
 obtain ⟨u,rfl,rx⟩:=eO r
 cases rx
 rcases h with ⟨hq,q⟩ | ⟨hq,q⟩
 ·obtain ⟨its,r',pl,hz⟩:=I.list hq
  have hlen:=r'.length
  refine call_tuple_list pl.isList (fun h' kp=>?_) (by simp only [List.size_toArray] <;> omega)
  have I1:Inv X pins σ H { s with heap:=h' }:=I.kept (t':=s.toks) kp
  have I2:Inv X pins σ (upd H h'.objs.size (.tup ys)) { s with heap:=h'.push { cls:=.type "tuple", data:=.seq its.toArray } } :=
   I1.laid (t':=s.toks) (fun b o e=>Heap.get?_push_of_some _ e) (Nat.le_refl _) (show ObjOk X.prog X.w _ _ _ (.tup ys) from ⟨hz,its,r',IsTup.new _ _⟩)
  exact ⟨.ref h'.objs.size,_,I2,rfl,q _ (I1.hok.fresh (Nat.le_refl _))⟩
 ·obtain ⟨its,r',pl,hz⟩:=I.tuple hq
  exact call_tuple_same pl ⟨.ref p,H,I,rfl,q⟩
def tyV (K:PySem.W.Frag) (T:String) (x:V) (H:Hp):Prop:=match x with
 | .str _=>T = "str"
 | .int _=>T = "int"
 | .ref p=>(T = "list" ∧ ∃xs,SqL K H p xs)∨(T = "tuple" ∧ ∃o,K.lookup p=some o∧o.cls=.type "tuple" ∧ o.dict=none) ∨
   (T = "dict" ∧ ((∃kvs,H p=some (.dK kvs))∨∃kvs,H p=some (.dT kvs)))∨(T = "set" ∧ ∃S n,H p=some (.set S n))
 | _=>False
theorem lW {pins:List (Addr×Obj)} {σ:St} {H:Hp} {s:Shared} {T:String} {x:V} {v:Value} (I:Inv X pins σ H s) (r:RelV x v) (ty:tyV X.K T x H) :
  s.TypeIs v T∧∀a,v=.ref a→∃ob,s.heap.get? a=some ob∧ob.dict=none:=by
 cases x with
 | str z =>
  obtain ⟨t,rfl⟩:=r
  cases (show T = "str" from ty)
  exact ⟨typeIs_str s z t,fun _ e=>nomatch e⟩
 | int i =>
  obtain ⟨t,rfl⟩:=r
  cases (show T = "int" from ty)
  exact ⟨typeIs_int s i t,fun _ e=>nomatch e⟩
 | ref p =>
  cases r
  rcases ty with ⟨rfl,xs,hq⟩ | ⟨rfl,o,hk,hc,hd⟩ | ⟨rfl,hk⟩ | ⟨rfl,S,n,hk⟩
  ·obtain ⟨its,_,pl,_⟩:=I.list hq
   refine ⟨pl.isList.typeIs,fun a e=>?_⟩
   cases e
   obtain ⟨o,n,e,c,hd,_⟩:=pl
   exact ⟨o,e,hd⟩
  ·refine ⟨⟨o,I.kIn p o hk,hc⟩,fun a e=>?_⟩
   cases e
   exact ⟨o,I.kIn _ o hk,hd⟩
  ·have z:∃o,s.heap.get? p=some o∧o.ExactDict:=by
    rcases hk with ⟨kvs,hk⟩ | ⟨kvs,hk⟩
    ·obtain ⟨_,_,_,_,o,_,_,e,ex,_⟩:=I.hok p _ hk
     exact ⟨o,e,ex⟩
    ·obtain ⟨_,_,_,_,o,_,_,e,ex,_⟩:=I.hok p _ hk
     exact ⟨o,e,ex⟩
   obtain ⟨o,e,ex⟩:=z
   refine ⟨⟨o,e,ex.1⟩,fun a e2=>?_⟩
   cases e2
   exact ⟨o,e,ex.2.1⟩
  ·obtain ⟨o,_,_,_,e,ex,_⟩:=I.hok p _ hk
   refine ⟨⟨o,e,ex.1⟩,fun a e2=>?_⟩
   cases e2
   exact ⟨o,e,ex.2.1⟩
 | _=>exact False.elim ty
def zC (K:PySem.W.Frag) (T:String) (r:V→List V→Hp→VK→Prop) (to:TE):TE:=fun σ H Q=>to σ H fun x H1=>tyV K T x H1∧r x [] H1 Q
def tBM (K:PySem.W.Frag) (T:String) (r:V→List V→Hp→VK→Prop) (to:TE) (t:TA):TE:=fun σ H Q=>to σ H fun x H1=>tyV K T x H1∧t σ H1 fun xs H2=>r x xs H2 Q
variable {o e:Expr} {es:List Expr} {to:TE} {t:TA} {name:Str} {apos cpos:Pos} {T id:String} {r:V→List V→Hp→VK→Prop}
theorem gc (pa:PlainAttrs T) (slot:Slot T name id) (hty:typeOf (.builtin id)=pure (.type "method_descriptor")) (hm:MtR X id r) (ho:PE X o to)
  (hbase:attributeBase o name X.env (eval o X.env)=eval o X.env:=by rfl) (hline:(apos.endLine == cpos.line)=true:=by rfl):PE X (.Call (.Attribute o name apos) [] [] cpos) (zC X.K T r to):=by
 intro pins s σ H Q I h
 refine wpAny_Call_method0_late hbase hline (thn (ho pins s σ H _ I h) fun v s1 ⟨x,H1,I1,r1,ty,q1⟩=>?_)
 obtain ⟨h1,h2⟩:=lW I1 r1 ty
 exact ⟨T,id,pa,slot,hty,h1,h2,Calls.callWith_builtin rfl (PySem.evalArgs_none (hm pins s1 σ H1 x [] v [] Q I1 r1 .nil q1))⟩
theorem dZ (pa:PlainAttrs T) (slot:Slot T name id) (hty:typeOf (.builtin id)=pure (.type "method_descriptor")) (hm:MtR X id r) (ho:PE X o to) (ha:PA X (e :: es) t)
  (hbase:attributeBase o name X.env (eval o X.env)=eval o X.env:=by rfl)
  (hfew:((backTo cpos (starEach (e :: es) X.env)).all (fun x=>!x.1) && (backToKw cpos (keywordEach [] X.env)).all (fun x=>x.1.isSome)
   && decide ((e :: es).length + ([]:List Keyword).length + (if ([]:List Keyword).isEmpty then 0 else 1) < 30))=true:=by rfl)
  (hline:(apos.endLine == cpos.line)=true:=by rfl) (hs:starEach (e :: es) X.env=(false,eval e X.env) :: starEach es X.env:=by rfl) (hplain:(backTo cpos (starEach es X.env)).any (·.1)=false:=by rfl) :
  PE X (.Call (.Attribute o name apos) (e :: es) [] cpos) (tBM X.K T r to t):=by
 intro pins s σ H Q I h
 refine wpAny_Call_method_late hbase hfew hline rfl (thn (ho pins s σ H _ I h) fun v s1 ⟨x,H1,I1,r1,ty,q1⟩=>?_)
 obtain ⟨h1,h2⟩:=lW I1 r1 ty
 refine ⟨T,id,pa,slot,hty,h1,h2,?_⟩
 have hA:=ha cpos pins s1 σ H1 _ I1 q1
 rw [hs] at hA ⊢
 refine Calls.callWith_builtin (by show (false || (backTo cpos (starEach es X.env)).any (·.1))=false; rw [hplain] <;> rfl) (Calls.evalArgs_plain ?_)
 exact thn hA fun us s2 ⟨vs,H2,I2,r2,q2⟩=>hm pins s2 σ H2 x vs v us Q I2 r1 r2 q2
/- xs.append(e),list.index on a module's tuple .. are MtR facts of 06m -/
end
end L2
namespace L2
open PySem PySem.Spec PyProof.Rows
def MtM (X:Cx) (id:String) (r:V→List V→Hp→VK→Prop):Prop :=
 ∀ (pins:List (Addr×Obj)) (s:Shared) (σ:St) (H:Hp) (x:V) (xs:List V) (v:Value) (us:List Value) (Q:VK),Inv X pins σ H s→RelV x v→Vals xs us→r x xs H Q →
  wpAny (model X.prog X.w) X.A (call (.builtin id) (v :: us)) (EP X pins σ Q) X.xe s
theorem Vals.one:∀ {x:V} {us:List Value},Vals [x] us→∃u,us=[u]∧RelV x u
 | _,_,.cons r .nil=>⟨_,rfl,r⟩
theorem Vals.zero:∀ {us:List Value},Vals [] us→us=[]
 | _,.nil=>rfl
theorem Vals.dropLast {xs:List V} {us:List Value} (h:Vals xs us):Vals xs.dropLast us.dropLast:=by
 induction h with
 | nil=>exact .nil
 | cons r t ih =>
  cases t with
  | nil=>exact .nil
  | cons q t'=>exact .cons r ih
theorem iq {α:Type} (l:List α):l.eraseIdx (l.length - 1)=l.dropLast:=by
 induction l with
 | nil=>rfl
 | cons a r ih =>
  cases r with
  | nil=>rfl
  | cons b r =>
   have e:(a :: b :: r).length - 1=((b :: r).length - 1) + 1:=by
    have h1:(a :: b :: r).length=r.length + 2:=rfl
    have h2:(b :: r).length=r.length + 1:=rfl
    omega
   rw [e,List.eraseIdx_cons_succ,ih]
   all_goals rfl
section
variable {X:Cx} {pins:List (Addr×Obj)} {σ:St} {H:Hp} {s:Shared} {l b:Addr} {xs ys zs:List V}
theorem Inv.lset {its its':List Value} {n:Nat} {f:Array Value→Array Value} {t':Nat} (I:Inv X pins σ H s) (hH:H l=some (.lst xs))
  (e:s.heap.get? l=some { cls:=.type "list", data:=.seq its.toArray n }) (hf:f its.toArray=its'.toArray) (hv:Vals ys its') (hz:ys.length≤sizeLine) :
  Inv X pins σ (upd H l (.lst ys)) { s with heap:=s.heap.update l (Obj.mapSeq f),toks:=t' }:=by
 have q:=PySem.IsL.update e f
 rw [hf] at q
 refine I.write (x:=l) (e:=l) (by rw [hH]; exact trivial) (.inl rfl) (fun b' u hb hu=>(Heap.get?_update_other s.heap (Obj.mapSeq f) (Ne.symm hb)).trans hu) ⟨_,q⟩ ?_
 exact ⟨hz,its',_,hv,q⟩
theorem Inv.lnew {its:List Value} {t':Nat} (I:Inv X pins σ H s) (hv:Vals ys its) (hz:ys.length≤sizeLine) :
  Inv X pins σ (upd H s.heap.objs.size (.lst ys)) { s with heap:=s.heap.push { cls:=.type "list", data:=.seq its.toArray }, toks:=t' } :=
 I.laid (fun _ _ q=>Heap.get?_push_of_some _ q) (Nat.le_refl _) ⟨hz,its,0,hv,Heap.get?_push_size _ rfl⟩
theorem Inv.fresh (I:Inv X pins σ H s):H s.heap.objs.size=none:=I.hok.fresh (Nat.le_refl _)
theorem Inv.lstM (I:Inv X pins σ H s) (hH:H l=some (.lst xs)):xs.length≤sizeLine∧∃ (its:List Value) (n:Nat),Vals xs its∧xs.length=its.length∧s.heap.get? l=some { cls:=.type "list",data:=.seq its.toArray n }:=by
 obtain ⟨z,its,n,r,e⟩:=I.hok l _ hH
 exact ⟨z,its,n,r,r.length,e⟩
theorem lX {n:Nat} (h:n≤sizeLine):Builtin.List.listTooLong n=false:=by
 unfold Builtin.List.listTooLong
 exact decide_eq_false (by omega)
end
section
variable {X:Cx}
inductive rAppend (x:V) (vs:List V) (H:Hp) (Q:VK):Prop
 | mk (l:Addr) (xs:List V) (y:V) (e_0:x=.ref l) (e_1:vs=[y]) (e_2:H l=some (.lst xs)) (e_3:xs.length < sizeLine) (e_4:Q .non (upd H l (.lst (xs ++ [y])))):rAppend x vs H Q
theorem bJ:MtM X "list.append" rAppend:=by
 intro pins s σ H x vs v us Q I rx rv h
 obtain ⟨l,xs,y,rfl,rfl,hH,hz,q⟩:=h
 cases rx
 obtain ⟨u,rfl,ru⟩:=rv.one
 obtain ⟨z,its,n,r,hl,e⟩:=I.lstM hH
 refine call_meets F.slot_list_append ⟨_,e,rfl⟩ F.entry_list_append (F.args_list_append_2 _ _) (PySem.list_append l its.toArray n u (by rw [List.size_toArray]; omega)) ⟨e,?_⟩
 refine ⟨.non,_,I.lset (its':=its ++ [u]) hH e (by simp) (r.append (.cons ru .nil)) ?_,rfl,q⟩
 rw [List.length_append,List.length_singleton]
 omega
def nY:V→List V→Hp→VK→Prop:=fun x vs H Q=>∃l b xs zs,x=.ref l∧vs=[.ref b]∧H l=some (.lst xs)∧H b=some (.lst zs)∧xs.length + zs.length≤sizeLine∧Q .non (upd H l (.lst (xs ++ zs)))
theorem fC:MtM X "list.extend" nY:=by
 intro pins s σ H x vs v us Q I rx rv h
 obtain ⟨l,b,xs,zs,rfl,rfl,hH,hB,hz,q⟩:=h
 cases rx
 obtain ⟨u,rfl,ru⟩:=rv.one
 cases ru
 obtain ⟨z,its,n,r,hl,e⟩:=I.lstM hH
 obtain ⟨z2,its2,n2,r2,hl2,e2⟩:=I.lstM hB
 have hsz:its.toArray.size + its2.toArray.size≤sizeLine:=by rw [List.size_toArray,List.size_toArray]; omega
 have hlong:¬ (!its.toArray.isEmpty && Builtin.List.listTooLong (its.toArray.size + its2.toArray.size))=true:=by
  rw [lX hsz,Bool.and_false]
  exact Bool.false_ne_true
 refine call_meets F.slot_list_extend ⟨_,e,rfl⟩ F.entry_list_extend (F.args_list_extend_2 _ _)
  (AutoSeq1.list_extend_list_list_0 l its.toArray n b its2.toArray n2 hlong (by rw [List.size_toArray]; omega) (by omega)) ⟨e,e2,?_⟩
 refine ⟨.non,_,I.lset (its':=its ++ its2) hH e (by simp) (r.append r2) ?_,rfl,q⟩
 rw [List.length_append]
 omega
def zD:V→List V→Hp→VK→Prop:=fun x vs H Q=>∃l xs y,x=.ref l∧vs=[]∧H l=some (.lst xs)∧xs[xs.length - 1]? = some y∧Q y (upd H l (.lst xs.dropLast))
theorem ir:MtM X "list.pop" zD:=by
 intro pins s σ H x vs v us Q I rx rv h
 obtain ⟨l,xs,y,rfl,rfl,hH,hy,q⟩:=h
 cases rx
 have hus:=rv.zero
 subst hus
 obtain ⟨z,its,n,r,hl,e⟩:=I.lstM hH
 obtain ⟨u,hu,ru⟩:=r.get hy
 have hy':its.toArray[its.toArray.size - 1]? = some u:=by
  show its.toArray[its.length - 1]? = some u
  rw [← Array.getElem?_toList,← hl]
  exact hu
 refine call_meets F.slot_list_pop ⟨_,e,rfl⟩ F.entry_list_pop (F.args_list_pop_1 _) (MeetsSeq.list_pop_last l its.toArray n u hy' (by rw [List.size_toArray]; omega)) ⟨e,?_⟩
 refine ⟨y,_,I.lset (its':=its.dropLast) hH e ?_ r.dropLast ?_,ru,q⟩
 ·show its.toArray.eraseIdxIfInBounds (its.toArray.size - 1)=its.dropLast.toArray
  rw [List.size_toArray,List.eraseIdxIfInBounds_toArray,iq]
 ·rw [List.length_dropLast]
  omega
def pT:V→List V→Hp→VK→Prop:=fun x vs H Q=>∃l xs,x=.ref l∧vs=[]∧H l=some (.lst xs)∧Q .non (upd H l (.lst []))
theorem lY:MtM X "list.clear" pT:=by
 intro pins s σ H x vs v us Q I rx rv h
 obtain ⟨l,xs,rfl,rfl,hH,q⟩:=h
 cases rx
 have hus:=rv.zero
 subst hus
 obtain ⟨z,its,n,r,hl,e⟩:=I.lstM hH
 refine call_meets F.slot_list_clear ⟨_,e,rfl⟩ F.entry_list_clear (F.args_list_clear_1 _) (AutoSeq1.list_clear_list_0 l its.toArray n (by rw [List.size_toArray]; omega)) ⟨e,?_⟩
 exact ⟨.non,_,I.lset (its':=[]) (ys:=[]) hH e rfl .nil (Nat.zero_le _),rfl,q⟩
inductive rCat (x:V) (y:V) (H:Hp) (Q:VK):Prop
 | mk (l:Addr) (b:Addr) (xs:List V) (zs:List V) (e_0:x=.ref l) (e_1:y=.ref b) (e_2:H l=some (.lst xs)) (e_3:H b=some (.lst zs)) (e_4:xs.length + zs.length≤sizeLine) (e_5:∀p,H p=none→Q (.ref p) (upd H p (.lst (xs ++ zs)))):rCat x y H Q
theorem pU:OpR X (binaryOp .Add) rCat:=by
 intro pins s σ H x y v u Q I rx ry h
 obtain ⟨l,b,xs,zs,rfl,rfl,hH,hB,hz,q⟩:=h
 cases rx
 cases ry
 obtain ⟨z,its,n,r,hl,e⟩:=I.lstM hH
 obtain ⟨z2,its2,n2,r2,hl2,e2⟩:=I.lstM hB
 refine PySem.P.add_list e e2 ?_ (by rw [List.size_toArray,List.size_toArray]; omega)
 have ea:its.toArray ++ its2.toArray=(its ++ its2).toArray:=by simp
 rw [ea]
 exact ⟨.ref _,_,I.lnew (t':=s.toks) (r.append r2) (by rw [List.length_append]; omega),rfl,q _ I.fresh⟩
end
section
variable {prog:Program} {w:World} {A:Around} {E:Value→Shared→Prop} {s:Shared}
end
section
variable {X:Cx}
end
end L2
namespace Att
open PySem PySem.W PySem.Calls PyProof.Rows
theorem eg {P:Params} {h:Heap}:∀ (ns:List Int) (vs:List Value),WellAll P h vs (ns.map WData.int)→IntsAre vs ns:=by
 intro ns
 induction ns with
 | nil =>
  intro vs w
  rw [List.map_nil] at w
  cases w
  exact .nil
 | cons n ns ih =>
  intro vs w
  rw [List.map_cons] at w
  cases w with
  | cons a b =>
   cases a
   exact .cons _ _ (ih _ b)
theorem jY {l:OpenLaw} {n:Nat} (hn:l.most=some n) {P:Params} {h:Heap} {args:List WData} {vals:List Value}
  (hpre:l.row.toRowW.claim.pre args=true) (hwl:WellAll P h vals args) :
  ∃a vs ns,vals=[Value.ref a]∧args=[WData.list (ns.map WData.int)]∧h.get? a=some { cls:=.type "list",data:=.seq vs.toArray }∧IntsAre vs ns∧ns.length≤n:=by
 have hsh:WShape.hasAll [] args [.list .int]=true:=(pre_splitW hpre).1
 have hc:l.pre.holds [] { args:=args }=true:=(pre_splitW hpre).2
 obtain ⟨d,r,rfl,h1,h2⟩:=hasAllW_cons hsh
 obtain rfl:=hasAllW_nil h2
 obtain ⟨xs,rfl,h3⟩:=hasW_list h1
 obtain ⟨ns,rfl⟩:=items_int h3
 have hlen:ns.length≤n:=by
  unfold OpenLaw.pre at hc
  have h4:(WTm.not (.lt (.lit (.int (n:Int))) (.len (.arg 0)))).holds [] { args:=[.list (ns.map .int)] }=true:=by
   have h4:=(holds_andW hc).1
   rw [hn] at h4
   exact h4
  have h5:=condW_of h4 (w_not (w_lt w_lit (w_len_list (w_arg rfl))))
  rw [List.length_map] at h5
  refine Nat.le_of_not_lt fun q=>?_
  have q':(n:Int) < ((ns.length:Nat):Int):=by omega
  first
   | (rw [decide_eq_true q'] at h5; exact absurd h5 (by decide))
   | (simp at h5; omega)
 cases hwl with
 | cons w1 w2 =>
  cases w2
  cases w1 with
  | list ho hall=>exact ⟨_,_,ns,rfl,rfl,ho,eg ns _ hall,hlen⟩
theorem jZ (l:OpenLaw) (args:List WData):l.row.toRowW.claim.post args (.bool true) args=true :=
 postW_of (r:=l.row.toRowW) (X:=(true == true))
  (show WShape.has [] (.bool true) .bool=true by first | rfl | decide | simp [WShape.has,WShape.arms,WShape.armsAll])
  (show (WTm.eq .res (.lit (.bool true))).value [] { args:=args,res:=some (.bool true),after:=args }=some (.bool (true == true)) from w_eq_bool (w_res rfl) w_lit) rfl
theorem attach_call {l:OpenLaw} {n:Nat} {q:Program} {loose:List Str} {XP:(Str→Option Value)→Heap→Prop} {YP:World→Heap→Prop} {d:DefRec}
  (hn:l.most=some n) (hdf:d.params.defaults=[])
  (call:∀ (w:World) (s₀ s₁:Shared) (mg mb:Str→Option Value) (fa:Addr) (o:Obj) (pm cd doc:Value) (a:Addr) (vs:List Value) (ns:List Int),
   Ground q loose [] XP w s₀ mg mb s₁.heap→YP w s₁.heap →
   s₁.heap.get? fa=some o→o.data=.func (docDef d.name d.params d.body d.scope pm cd doc)→s₁.heap.CodeRec cd d.name→mg d.name=some (.ref fa) →
   s₁.heap.get? a=some { cls:=.type "list",data:=.seq vs.toArray }→IntsAre vs ns→ns.length≤n→s₁.gens=#[] →
   codeAny (model l.prog w) callerA (.call (.ref fa) ⟨[.ref a],[]⟩) (fun r s'=>r=.ok (.ret (.bool true))∧OldK s₁.heap s'.heap∧s'.os=s₁.os∧AllBare s'.gens) s₁) :
  WalkO q loose XP YP l.row.toRowW d [] (fun f vs=>PySem.call f vs):=by
 intro w s₀ s₁ mg mb G Y fa o pm cd doc dV kV ho hd hcd hD hmg hg args vals as hpre hlay hrd hwl hlo
 obtain rfl:dV=.none:=Dflts.none hD hdf
 obtain rfl:kV=.none:=Dflts.noKw hD
 obtain ⟨a,vs,ns,rfl,rfl,hobj,hints,hlen⟩:=jY hn hpre hwl
 refine enter_call (codeAny_mono (call w s₀ s₁ mg mb fa o pm cd doc a vs ns G Y ho (fd_plain hd) hcd hmg hobj hints hlen hg) fun r s' hq=>?_)
 obtain ⟨rfl,h2,h3,h4⟩:=hq
 exact ⟨.inl ⟨.bool true,.bool true,[],rfl,fun _=>rfl,.bool true,jZ l _,fun _=>⟨List.Pairwise.nil,fun _ hm=>(nomatch hm)⟩⟩,h2,h3,h4⟩
section
variable {prog:Program} {w:World} {A:Around} {E:Value→Shared→Prop} {s:Shared} {K:Frag}
def zE (h:Heap) (L d:Addr):List (Addr×Obj):=(List.range h.objs.size).filterMap fun a=>if a=L∨a=d then none else (h.get? a).map fun o=>(a,o)
end
end Att
namespace L2
open PySem PySem.Spec PyProof.Rows
theorem fD:∀ {vs:List Value} {ns:List Int},IntsAre vs ns→Vals (ns.map V.int) vs
 | _,_,.nil=>.nil
 | _,_,.cons n t h=>.cons ⟨t,rfl⟩ (fD h)
def pV (H:Hp):Prop:=∀b,H b=none∨∃o xs,H b=some (.frz o (.lst xs))
theorem lZ {P:Program} {w:World} {K:PySem.W.Frag} {mg mb:Str→Option Value} {CX:CXT} {k:Nat} {fa a:Addr} {fd:FuncData} {x:Str} {sp:Sp} {s₁:Shared} {vs:List Value} {ns:List Int}
  (KX:K.In s₁.heap) (hns:s₁.heap.Ns mainGlobals mg) (hb:s₁.heap.Ns builtinsNs mb) (hbb:∀x:Str,x ≠ "__name__" → mb x=bootBuiltins x) (hlim:s₁.heap.NoLimit) (hg:s₁.gens=#[])
  (ha:s₁.heap.get? a=some { cls:=.type "list",data:=.seq vs.toArray }) (hi:IntsAre vs ns) (hl:ns.length≤sizeLine) (hr:Room k callerA)
  (F:∀base:Heap,K.In base→base.Ns mainGlobals mg→FnOk P w K mg base CX k fa fd [x] sp) (hbind:∀ (s:Shared) (u:Value),BindsTo s fd ⟨[u],[]⟩ [(x,u)])
  (hsp:∀H:Hp,pV H→SqL K H a (ns.map V.int)→sp [.ref a] H (fun v _=>v=.bl true) fun _ _ _=>False)
  (hCX:∀H e s',CX [] H s₁ (fun _ _ _=>False) e s'→False) :
  codeAny (model P w) callerA (.call (.ref fa) ⟨[.ref a],[]⟩) (fun r s'=>r=.ok (.ret (.bool true))∧OldK s₁.heap s'.heap∧s'.os=s₁.os∧AllBare s'.gens) s₁:=by
 have rv:=fD hi
 have lenV:=hi.length
 have core:∀H:Hp,pV H→SqL K H a (ns.map V.int)→HOk P w H s₁.heap→(∀b,H b≠none→b=a)→(H a≠none→K.lookup a=none) →
   codeAny (model P w) callerA (.call (.ref fa) ⟨[.ref a],[]⟩) (fun r s'=>r=.ok (.ret (.bool true))∧OldK s₁.heap s'.heap∧s'.os=s₁.os∧AllBare s'.gens) s₁:=by
  intro H hO hS hok hA hK
  have base_of:∀ {b:Addr} {o:Obj},s₁.heap.get? b=some o→H b=none→(fU s₁.heap H).get? b=some o:=fun e n=>lF e n
  have noA:∀ {b:Addr} {o:Obj} {es:Array DictEntry} {ep:Nat},s₁.heap.get? b=some o→o.data=.dict es ep→H b=none:=fun {b o es ep} e d=>by
   cases q:H b with
   | none=>rfl
   | some u =>
    have e':b=a:=hA b (by rw [q]; simp)
    subst e'
    rw [ha] at e; cases e
    have d':Data.seq vs.toArray _=Data.dict es ep:=d
    cases d'
  have nsK:∀ {b:Addr} {m:Str→Option Value},s₁.heap.Ns b m→(fU s₁.heap H).Ns b m:=fun {b m} ⟨o,es,ep,e,d,r⟩=>⟨o,es,ep,base_of e (noA e d),d,r⟩
  have hKb:K.In (fU s₁.heap H):=fun b o e=>base_of (KX b o e) (by
   cases q:H b with
   | none=>rfl
   | some u =>
    have e':b=a:=hA b (by rw [q]; simp)
    subst e'
    rw [hK (by rw [q]; simp)] at e; cases e)
  have hM:Mod K mg (fU s₁.heap H):=⟨hKb,nsK hns,⟨mb,nsK hb,hbb⟩,let ⟨mc,h1,h2⟩:=hlim; ⟨mc,nsK h1,h2⟩⟩
  have e0:Env0 P w K mg (fU s₁.heap H) callerA [] s₁ H:=⟨rfl,hM,fun b o e=>nI e,Nat.le_of_eq (jO _ _),trivial,fun b hb=>absurd (show b∈([]:List Addr) from hb) (by simp),hok,.of_eq hg⟩
  refine codeAny_mono ((F _ hKb (nsK hns)).run callerA [] s₁ H ⟨[.ref a],[]⟩ [.ref a] [.ref a] _ _ hr e0 (hbind s₁ (.ref a)) (.cons rfl .nil) (hsp H hO hS)) fun r s' h=>?_
  cases r with
  | error e=>exact (hCX H e s' h).elim
  | ok fl =>
   cases fl with
   | next=>exact False.elim h
   | brk=>exact False.elim h
   | cont=>exact False.elim h
   | ret u =>
    obtain ⟨v,H',os,bare,un,hok',r',q⟩:=h
    have q':v=.bl true:=q
    subst q'
    obtain rfl:u=Value.bool true:=r'
    refine ⟨rfl,OldK.of_keep fun b o e=>?_,os,bare⟩
    cases q:H b with
    | none=>exact un.keep b o e q (by intro z; exact absurd (show b∈([]:List Addr) from z) (by simp)) (by simp)
    | some u =>
     rcases hO b with z | ⟨ob,xs,z⟩
     ·rw [q] at z; cases z
     ·have z2:=un.frzs b ob _ z
      obtain ⟨e1,_⟩:=hok b _ z
      obtain ⟨e2,_⟩:=hok' b _ z2
      rw [e] at e1; cases e1
      exact e2
 cases hk:K.lookup a with
 | some o =>
  have e:=KX a o hk
  rw [ha] at e
  cases e
  refine core (fun _=>none) (fun _=>.inl rfl) (.inr ⟨_,vs.toArray,_,hk,rfl,rfl,rfl,by rw [List.size_toArray,lenV]; exact hl,by simpa using rv⟩) (fun b u z=>by have z':(none:Option HO)=some u:=z; cases z') (fun b z=>absurd rfl z) fun z=>absurd rfl z
 | none =>
  refine core (fun b=>if b=a then some (.frz { cls:=.type "list",data:=.seq vs.toArray } (.lst (ns.map V.int))) else none) (fun b=>?_) (.inl (.inr ⟨{ cls:=.type "list",data:=.seq vs.toArray },if_pos rfl⟩)) (fun b u z=>?_) (fun b z=>?_) fun _=>hk
  ·by_cases hb:b=a
   ·exact .inr ⟨_,_,if_pos hb⟩
   ·exact .inl (if_neg hb)
  ·by_cases hb:b=a
   ·have z':=(if_pos hb).symm.trans z
    cases z'
    subst hb
    exact ⟨ha,by rw [List.length_map]; exact hl,vs,_,rv,ha⟩
   ·have z':=(if_neg hb).symm.trans z
    cases z'
  ·by_cases hb:b=a
   ·exact hb
   ·exact absurd (if_neg hb) z
end L2
namespace L2
open PySem PySem.Spec PyProof.Rows
theorem walk_of {l:PySem.W.OpenLaw} {n k:Nat} {q:Program} {loose:List Str} {XP:(Str→Option Value)→Heap→Prop} {YP:World→Heap→Prop} {d:DefRec} {K:Params→PySem.W.Frag} {CX:World→CXT} {sp:World→Sp} {x:Str}
  (hn:l.most=some n) (hn2:n≤sizeLine) (hdf:d.params.defaults=[]) (hr:Room k callerA)
  (hY:∀ (w:World) (h:Heap),YP w h→(K w.params).In h)
  (F:∀ (w:World) (mg:Str→Option Value) (fa:Addr) (h:Heap),(K w.params).In h→h.Ns mainGlobals mg→mg d.name=some (.ref fa) →
   ∃fd:FuncData,(∀ (s:Shared) (u:Value),BindsTo s fd ⟨[u],[]⟩ [(x,u)]) ∧
    ∀base:Heap,(K w.params).In base→base.Ns mainGlobals mg→FnOk l.prog w (K w.params) mg base (CX w) k fa fd [x] (sp w))
  (hsp:∀ (w:World) (H:Hp) (a:Addr) (ns:List Int),ns.length≤n→pV H→SqL (K w.params) H a (ns.map V.int)→sp w [.ref a] H (fun v _=>v=.bl true) fun _ _ _=>False)
  (hCX:∀ (w:World) (H:Hp) (s:Shared) (e:Value) (s':Shared),CX w [] H s (fun _ _ _=>False) e s'→False) :
  PySem.W.WalkO q loose XP YP l.row.toRowW d [] (fun f vs=>PySem.call f vs):=by
 refine Att.attach_call hn hdf fun w s₀ s₁ mg mb fa o pm cd doc a vs ns G Y ho hd hcd hmg hobj hints hlen hg=>?_
 have KX:=hY w _ Y
 obtain ⟨fd,hb,hF⟩:=F w mg fa _ KX G.T.g hmg
 exact lZ KX G.T.g G.T.b G.T.builtins G.T.nolimit hg hobj hints (Nat.le_trans hlen hn2) hr hF hb (fun H hO hS=>hsp w H a ns hlen hO hS) fun H e s'=>hCX w H s₁ e s'
end L2
namespace L2
open PySem PySem.Spec PyProof.Rows
def inClass (s:Stmt) (j:Nat):Stmt:=match s with
 | .ClassDef _ _ _ body _ _ _ _ _ _ _=>body.getD j (.Pass ⟨0,0,0,0⟩)
 | _=>.Pass ⟨0,0,0,0⟩
def defArgs (s:Stmt):Arguments:=match s with
 | .FunctionDef _ a _ _ _ _ _ _ _ _=>a
 | _=>{ posonlyargs:=[],args:=[],vararg:=none,kwonlyargs:=[],kw_defaults:=[],kwarg:=none,defaults:=[] }
def defBody (s:Stmt):List Stmt:=match s with
 | .FunctionDef _ _ b _ _ _ _ _ _ _=>b
 | _=>[]
def defScope (s:Stmt):Scope:=match s with
 | .FunctionDef _ _ _ _ _ _ sc _ _ _=>sc
 | _=>{ kind:=.function,names:=[],isGenerator:=false,isCoroutine:=false }
abbrev CX0:CXT:=fun _ _ _ _ _ _=>False
abbrev E0:XK:=fun _ _ _=>False
theorem jk {X:Cx}:cP CX0 X E0:=fun _ _ _ _ _ _ _ h=>h.elim
structure Fun (K:PySem.W.Frag) (x qual:Str) (st:Stmt) (f:Addr) (fd:FuncData):Prop where
 ex:∃ (oc:Value) (od:Option Addr) (kV doc pm:Value) (an:Option Addr) (cdv ct:Value) (osl:Array (Option Value)),
  fd=PySem.W.fnOf x qual (defArgs st) (defBody st) (defScope st) .none kV doc pm an cdv ct∧K.lookup f=some ⟨oc,od,.func fd,osl⟩∧PySem.W.codeIn K cdv qual=true
 kp:PySem.W.keepIn K (.ref f)=true
section
variable {P:Program} {w:World} {K:PySem.W.Frag} {mg:Str→Option Value} {base:Heap}
theorem Fun.ok {x qual:Str} {st:Stmt} {f:Addr} {fd:FuncData} {N ps:List Str} {k:Nat} {sp:Sp} (F:Fun K x qual st f fd) (S:FnScope N ps (defScope st)) (len:∀vs H Q E,sp vs H Q E→vs.length=ps.length)
  (hbody:∀ (cdv:Value) (A:Around) (outer:List Env) (s:Shared) (H:Hp) (vs:List V) (Q:VK) (E:XK),Room k (A.deeper (envOfC qual (defScope st) s.heap.objs.size f cdv))→sp vs H Q E →
   ∃t,PSs (jV CX0 P w K mg base N qual (defScope st) f cdv A outer s H E).nox (defBody st) t∧t { nx:=fun _ H'=>Q .non H',rt:=Q } (dW N vs) H):FnOk P w K mg base CX0 (k + 1) f fd ps sp:=by
 obtain ⟨oc,od,kV,doc,pm,an,cdv,ct,osl,rfl,lk,hcd⟩:=F.ex
 refine sW lk hcd S len fun A outer s H vs Q E hr hsp=>?_
 obtain ⟨t,h,q⟩:=hbody cdv A outer s H vs Q E hr hsp
 exact ⟨t,h.nox,q⟩
theorem Fun.binds {x qual:Str} {st:Stmt} {f:Addr} {fd:FuncData} {ps:List Str} (F:Fun K x qual st f fd)
  (h:∀ (kV doc pm:Value) (an:Option Addr) (cdv ct:Value) (us:List Value),us.length=ps.length→bindArgs (PySem.W.fnOf x qual (defArgs st) (defBody st) (defScope st) .none kV doc pm an cdv ct) ⟨us,[]⟩=pure (ps.zip us)):Binds K fd ps []:=by
 obtain ⟨oc,od,kV,doc,pm,an,cdv,ct,osl,rfl,lk,hcd⟩:=F.ex
 exact .all (h kV doc pm an cdv ct)
theorem iu {x qual:Str} {st:Stmt} {f:Addr} {oc:Value} {od an:Option Addr} {osl:Array (Option Value)} {kV doc pm cdv ct:Value} (l:K.lookup f=some ⟨oc,od,.func (PySem.W.fnOf x qual (defArgs st) (defBody st) (defScope st) .none kV doc pm an cdv ct),osl⟩)
  (c:PySem.W.codeIn K cdv qual=true) (k:PySem.W.keepIn K (.ref f)=true):Fun K x qual st f (PySem.W.fnOf x qual (defArgs st) (defBody st) (defScope st) .none kV doc pm an cdv ct):=⟨⟨oc,od,kV,doc,pm,an,cdv,ct,osl,rfl,l,c⟩,k⟩
end
section
variable {X:Cx}
theorem pv (i:Nat) {x:Str} {pos:Pos} (hN:X.N[i]? = some x:=by rfl) (hv:Vis X.env.scope x:=by first | exact Or.inl rfl | exact Or.inr (Or.inl rfl) | exact Or.inr (Or.inr rfl)) (hd:(x == ("__debug__" : Str))=false:=by decide)
  (hcd:(x == ("__classdict__" : Str))=false:=by decide):PE X (.Name x pos) (tVar i):=pJ hN hv hd hcd
end
theorem aM {A B:Prop} (h:B):if false=true then A else B:=by
 rw [if_neg Bool.false_ne_true]
 exact h
theorem aI {A B:Prop} (h:A):if true=true then A else B:=by
 rw [if_pos rfl]
 exact h
theorem bW {c A B:Prop} [Decidable c] (h1:c→A) (h2:¬ c→B):if c then A else B:=by
 by_cases h:c
 ·rw [if_pos h]
  exact h1 h
 ·rw [if_neg h]
  exact h2 h
def Same (H H':Hp):Prop:=∀b o,H b=some o→H' b=some o
theorem Same.refl (H:Hp):Same H H:=fun _ _ h=>h
theorem Same.trans {H H1 H2:Hp} (a:Same H H1) (b:Same H1 H2):Same H H2:=fun c o h=>b c o (a c o h)
theorem Same.free {H H':Hp} (e:Same H H') {l:Addr} (h:H' l=Option.none):H l=Option.none:=by
 cases q:H l with
 | none=>rfl
 | some o =>
  rw [e l o q] at h
  cases h
theorem Same.seq {K:PySem.W.Frag} {H H':Hp} {a:Addr} {xs:List V} (e:Same H H') (h:SqL K H a xs):SqL K H' a xs:=by
 rcases h with (h | ⟨o,h⟩) | h
 ·exact .inl (.inl (e _ _ h))
 ·exact .inl (.inr ⟨o,e _ _ h⟩)
 ·exact .inr h
end L2
set_option Elab.async false
set_option linter.all false
set_option maxRecDepth 100000
namespace L2
open PySem PySem.Spec PyProof.Rows
def bj (env:Env):List (Str×NameKind)→List (Str×Addr)→List (Str×Addr)
 | [],acc=>acc
 | (n,k) :: r,acc=>bj env r (if (k == NameKind.free)=true then (n,(env.cells.lookup n).getD 0) :: acc else acc)
theorem cb (env:Env):∀ (names:List (Str×NameKind)) (acc:List (Str×Addr)) (x:Str) (c:Addr),(∀y∈names,y.2=.free→∃c,env.cells.lookup y.1=some c) →
  (∀x c,acc.lookup x=some c→env.cells.lookup x=some c)→(bj env names acc).lookup x=some c→env.cells.lookup x=some c
 | [],acc,x,c,_,h,e=>h x c e
 | (n,k) :: r,acc,x,c,hf,h,e=>by
  refine cb env r _ x c (fun y hy=>hf y (List.mem_cons_of_mem _ hy)) (fun x c e'=>?_) e
  by_cases hk:(k == NameKind.free)=true
  ·rw [if_pos hk] at e'
   obtain ⟨c0,hc0⟩:=hf (n,k) List.mem_cons_self (by simpa using hk)
   have hc0':env.cells.lookup n=some c0:=hc0
   rw [List.lookup_cons] at e'
   cases hx:x == n with
   | true =>
    rw [hx] at e'
    have:x=n:=by simpa using hx
    subst this
    rw [hc0'] at e' ⊢
    simpa using e'
   | false=>rw [hx] at e'; exact h x c e'
  ·rw [if_neg hk] at e'; exact h x c e'
theorem eR (env:Env):∀ (names:List (Str×NameKind)) (acc:List (Str×Addr)) (x:Str),(∃c,acc.lookup x=some c)→∃c,(bj env names acc).lookup x=some c
 | [],acc,x,h=>h
 | (n,k) :: r,acc,x,h=>by
  refine eR env r _ x ?_
  by_cases hk:(k == NameKind.free)=true
  ·rw [if_pos hk,List.lookup_cons]
   cases hx:x == n with
   | true=>exact ⟨_,rfl⟩
   | false=>exact h
  ·rw [if_neg hk]; exact h
theorem dI (env:Env):∀ (names:List (Str×NameKind)) (acc:List (Str×Addr)) (x:Str),(x,NameKind.free)∈names→∃c,(bj env names acc).lookup x=some c
 | [],acc,x,h=>by simp at h
 | (n,k) :: r,acc,x,h=>by
  rcases List.mem_cons.mp h with e | e
  ·have e1:x=n:=congrArg Prod.fst e
   have e2:NameKind.free=k:=congrArg Prod.snd e
   subst e1
   subst e2
   refine eR env r _ x ?_
   rw [if_pos (by simp),List.lookup_cons]
   simp
  ·exact dI env r _ x e
theorem iw {env:Env} {scope:Scope} (hf:∀y∈scope.names,y.2=.free→∃c,env.cells.lookup y.1=some c):closureFor scope env=pure (bj env scope.names []):=by
 have key:∀ (names:List (Str×NameKind)) (acc:List (Str×Addr)),(∀y∈names,y.2=.free→∃c,env.cells.lookup y.1=some c) →
   (forIn names acc (fun (x:Str×NameKind) (r:List (Str×Addr))=>(if (x.2 == NameKind.free)=true then do
    let a←cellOf env x.1
    pure (ForInStep.yield ((x.1,a) :: r)) else pure (ForInStep.yield r)) ):Sem (List (Str×Addr)))=pure (bj env names acc):=by
  intro names
  induction names with
  | nil=>intro acc _; rfl
  | cons y r ih =>
   intro acc h
   obtain ⟨n,k⟩:=y
   have ih':=fun acc=>ih acc fun z hz=>h z (List.mem_cons_of_mem _ hz)
   rw [List.forIn_cons]
   by_cases hk:(k == NameKind.free)=true
   ·obtain ⟨c,hc⟩:=h (n,k) List.mem_cons_self (by simpa using hk)
    have hc':env.cells.lookup n=some c:=hc
    have e1:cellOf env n=pure c:=by unfold cellOf; rw [hc']
    have e2:bj env ((n,k) :: r) acc=bj env r ((n,c) :: acc):=by
     show bj env r _=_
     rw [if_pos hk,hc']; rfl
    rw [if_pos hk,e2,← ih']
    show ((cellOf env n >>= fun a=>pure (ForInStep.yield ((n,a) :: acc))) >>= _)=_
    rw [e1]
    rfl
   ·have e2:bj env ((n,k) :: r) acc=bj env r acc:=by
     show bj env r _=_
     rw [if_neg hk]
    rw [if_neg hk,e2,← ih']
    rfl
 have:=key scope.names [] hf
 simp only [closureFor]
 exact (congrArg (fun m=>m >>= fun r=>(pure r:Sem _)) this).trans rfl
theorem ge {env:Env} {scope:Scope} (hcell:∀y∈scope.names,y.2≠.cell) {x:Str}:((relabel scope env).names.lookup x=some .cell∨(relabel scope env).names.lookup x=some .free)→(x,NameKind.free)∈scope.names:=by
  have key:∀names:List (Str×NameKind),(∀y∈names,y.2≠.cell)→∀k,(names.map fun (n,k)=>if (k == NameKind.free && env.scope.kind == .function && env.kindOf n == some .cell) then (n,NameKind.cell) else (n,k)).lookup x=some k →
      (k=.cell∨k=.free)→(x,NameKind.free)∈names:=by
    intro names
    induction names with
    | nil=>intro _ k h _; simp at h
    | cons y r ih =>
      obtain ⟨n,k'⟩:=y
      intro hc k h hk
      have nc:k'≠.cell:=hc (n,k') List.mem_cons_self
      rw [List.map_cons] at h
      by_cases hb:(k' == NameKind.free && env.scope.kind == .function && env.kindOf n == some .cell)=true
      · have hb':k'=.free:=by simp at hb; exact hb.1.1
        dsimp only at h
        rw [if_pos hb,List.lookup_cons] at h
        cases hx:x == n with
        | true => have : x = n := by simpa using hx
                  subst this; subst hb'; exact List.mem_cons_self
        | false=>rw [hx] at h; exact List.mem_cons_of_mem _ (ih (fun y hy=>hc y (List.mem_cons_of_mem _ hy)) k h hk)
      · dsimp only at h
        rw [if_neg hb,List.lookup_cons] at h
        cases hx:x == n with
        | true =>
          rw [hx] at h
          have:x=n:=by simpa using hx
          subst this
          have e:k'=k:=by simpa using h
          rcases hk with q | q
          · exact absurd (e.trans q) nc
          · rw [e,q]; exact List.mem_cons_self
        | false=>rw [hx] at h; exact List.mem_cons_of_mem _ (ih (fun y hy=>hc y (List.mem_cons_of_mem _ hy)) k h hk)
  rintro (h | h)
  · exact key _ hcell _ h (.inl rfl)
  · exact key _ hcell _ h (.inr rfl)
def bL (X:Cx) (pins:List (Addr×Obj)) (s2:Shared) (H2:Hp) (scope:Scope) (C:Addr) (N':List Str) (fp:List Addr):Cx where
 prog:=X.prog
 w:=X.w
 K:=X.K
 mg:=X.mg
 base:=X.base
 A:=X.A
 N:=N'
 s₀:=s2
 H₀:=H2
 env:=compEnvC scope (bj X.env scope.names []) C X.env
 outer:=X.stack
 stack:=X.stack
 ex:=fp
 fn:=fun _=>false
 calm:=X.calm
 pn:=X.pn ++ pins
 xe:=fun _ _=>False
def bM (σ:St) (cap:List Nat) (k:Nat):St:=List.replicate k none ++ cap.map fun j=>(σ[j]?).join
def leS (σ σ':St):Prop:=σ'.length=σ.length∧∀ (i:Nat) v,σ[i]? = some (some v)→σ'[i]? = some (some v)
theorem leS.set {σ:St} {i:Nat} {v:V} (h:σ[i]? = some none):leS σ (σ.set i (some v)):=by
 refine ⟨by simp,fun j w e=>?_⟩
 by_cases hj:j=i
 ·subst hj; rw [h] at e; cases e
 ·rw [List.getElem?_set_ne (Ne.symm hj)]; exact e
structure CompOk (X:Cx) (scope:Scope) (own:List Str) (cs:List Str) (cap:List Nat):Prop where
 kind:scope.kind=.function
 cell:∀y∈scope.names,y.2≠.cell
 names:∀y∈scope.names,y.2=.local→scope.names.lookup y.1=some .local
 free:∀y∈scope.names,y.2=.free→X.env.kindOf y.1=some .cell∨X.env.kindOf y.1=some .free
 caps:∀ (i:Nat) y,cs[i]? = some y→∃j,cap[i]? = some j∧X.N[j]? = some y∧(y,NameKind.free)∈scope.names
 ownl:∀y∈own,scope.names.lookup y=some .local
 len:cs.length=cap.length
 free2:∀y,(y,NameKind.free)∈scope.names→scope.names.lookup y=some .local→False
def pW (X:Cx) (ifs:List Expr) (tt:TT):Prop :=
 ∀ (pins:List (Addr×Obj)) (s:Shared) (σ:St) (H:Hp) (Q:Bool→Hp→Prop),Inv X pins σ H s→tt σ H Q →
  wpAny (model X.prog X.w) X.A (forIn ifs true fun c r=>if r=true then do let ok←isTrue c X.env (eval c X.env); pure (ForInStep.yield ok) else pure (ForInStep.yield r)) (TP X pins σ Q) X.xe s
def tm:TT:=fun _ H Q=>Q true H
theorem gI {X:Cx}:pW X [] tm:=fun _ _ _ H _ I h=>wpAny_tests_nil ⟨H,I,h⟩
def jl (σ:St) (cap:List Nat) (k:Nat) (J:It) (g:TG) (tt:TT) (te:TE) (Q:List V→Hp→Prop) (W:Nat→Nat→List V→Hp→Prop):Prop :=
 ∀i m ys H,W i m ys H→(J.stop i H∧ys.length≤sizeLine∧Q ys H) ∨
  (J.go i H∧ys.length < sizeLine∧∀x H',J.yld i H x H'→g x (bM σ cap k) H' fun σ2 H2=>leS (bM σ cap k) σ2∧tt σ2 H2 fun ok H3 =>
   if ok=true then te σ2 H3 (fun v H4=>∃m',m' < m∧W (i + 1) m' (ys ++ [v]) H4) else ∃m',m' < m∧W (i + 1) m' ys H3)
theorem HOk.add {P:Program} {w:World} {H:Hp} {h:Heap} {a:Addr} {o:HO} (x:HOk P w H h) (n:H a=none) (new:ObjOk P w (upd H a o) h a o):HOk P w (upd H a o) h:=fun b u e=>by
 by_cases hb:b=a
 ·subst hb; rw [af] at e; cases e; exact new
 ·rw [aj hb] at e
  exact (x b u e).stay (fun c v _ q=>q) (fun c q=>by rw [aj (ah q n)]; exact q) fun c xs q=>by rw [aj (ah q n)]; exact q
section
variable {X:Cx} {pins:List (Addr×Obj)} {σ:St} {H2:Hp} {s2:Shared} {scope:Scope} {own cs:List Str} {cap:List Nat} {fp:List Addr}
theorem kh {h1:Heap} {C:Addr} {tk:Nat} (I:Inv X pins σ H2 s2) (ok:CompOk X scope own cs cap) (hf:∀b∈fp,dq X pins H2 b) (hfl:∀b∈fp,b < s2.heap.objs.size)
  (hC:s2.heap.objs.size≤C) (hns:h1.Ns C (fun _=>none)) (old:∀b o,s2.heap.get? b=some o→h1.get? b=some o) :
  Inv (bL X pins s2 H2 scope C (own ++ cs) fp) [] (bM σ cap own.length) H2 { s2 with heap:=h1,toks:=tk }:=by
 have hfr:∀y∈scope.names,y.2=.free→∃c,X.env.cells.lookup y.1=some c:=fun y hy e=>I.ok.has y.1 (ok.free y hy e)
 have sub:∀x c,(bj X.env scope.names []).lookup x=some c→X.env.cells.lookup x=some c:=fun x c e=>cb X.env scope.names [] x c hfr (fun _ _ z=>by simp at z) e
 have clt:∀x c,(bj X.env scope.names []).lookup x=some c→c < s2.heap.objs.size:=fun x c e=>by
  obtain ⟨v,o,ho,_⟩:=I.cell x c (sub x c e)
  exact Heap.lt_size ho
 refine ⟨⟨I.ok.mod,ok.kind,I.ok.glob,I.ok.blt,hC,fun y z c h1 h2=>I.ok.inj y z c (sub y c h1) (sub z c h2),fun y hy=>?_,fun y c z=>?_,I.ok.hd,I.ok.frames,.inl rfl,fun b hb=>?_,I.bs,Nat.le_trans I.ok.bsz I.sz,fun b o e hb=>?_,fun b hb z=>?_,I.stack,I.stkFree⟩,
  rfl,I.bare,Un.kept old,⟨_,hns,fun i y v e1 e2 e3=>?_⟩,fun y c e=>?_,I.hok.fresh hC,fun y c e=>I.freeC y c (sub y c e),fun p hp=>?_,I.hok.kept old,?_⟩
 ·have hm:=ge ok.cell hy
  exact dI X.env scope.names [] y hm
 ·exact absurd (show false=true from z) Bool.false_ne_true
 ·exact ⟨Nat.ne_of_lt (Nat.lt_of_lt_of_le (hfl b hb) hC),fun x c e=>(hf b hb).2.2.2.2.1 x c (sub x c e)⟩
 ·rcases (hf b hb).2.2.2.1 with z | z
  ·exact I.ok.noex b o e z
  ·exact absurd (Nat.lt_of_lt_of_le (Heap.lt_size (I.ok.bs b o e).1) z) (Nat.lt_irrefl _)
 ·rcases List.mem_cons.mp (I.stkSub b z) with q | q
  ·exact (hf b hb).2.1 q
  ·exact (hf b hb).2.2.1 q
 ·have hi:own.length≤i:=by
   refine Nat.le_of_not_lt fun q=>?_
   unfold bM at e2
   rw [List.getElem?_append_left (by simpa using q),List.getElem?_replicate] at e2
   split at e2 <;> cases e2
  have e1':cs[i - own.length]? = some y:=by
   have e1:(own ++ cs)[i]? = some y:=e1
   rwa [List.getElem?_append_right hi] at e1
  obtain ⟨j,hj,hN,hm⟩:=ok.caps _ y e1'
  have hk:=ok.free _ hm rfl
  have e2':σ[j]? = some (some v):=by
   unfold bM at e2
   rw [List.getElem?_append_right (by simpa using hi),List.length_replicate,List.getElem?_map,hj] at e2
   have e2:(σ[j]?).join=some v:=by simpa using e2
   cases q:σ[j]? with
   | none=>rw [q] at e2; cases e2
   | some w=>rw [q] at e2; have:w=some v:=e2; rw [this]
  obtain ⟨m,hn,hl⟩:=I.loc
  obtain ⟨u,ru,l⟩:=hl j y v hN e2' (by rcases hk with q | q; exact .inr (.inl q); exact .inr (.inr q))
  refine ⟨u,ru,.inr ?_⟩
  obtain ⟨c,hc⟩:=dI X.env scope.names [] y hm
  have hc':=sub y c hc
  have cellu:h1.IsCell c (some u):=by
   rcases l with ⟨k,_⟩ | ⟨k,c',e,o,ho,hd⟩
   ·rcases hk with q | q <;> (have z:X.env.kindOf y=_:=q; rw [k] at z; cases z)
   ·rw [hc'] at e; cases e
    exact ⟨o,old _ _ ho,hd⟩
  refine ⟨?_,c,hc,cellu⟩
  rcases e3 with z | z | z
  ·exfalso
   have key:∀names:List (Str×NameKind),True:=fun _=>trivial
   have z:(relabel scope X.env).names.lookup y=some .local:=z
   have zz:scope.names.lookup y=some .local:=by
    unfold relabel at z
    dsimp only at z
    revert z
    generalize scope.names=names
    induction names with
    | nil=>intro z; simp at z
    | cons q r ih =>
     obtain ⟨n,k⟩:=q
     intro z
     rw [List.map_cons] at z
     by_cases hb:(k == NameKind.free && X.env.scope.kind == .function && X.env.kindOf n == some .cell)=true
     ·dsimp only at z
      rw [if_pos hb,List.lookup_cons] at z
      rw [List.lookup_cons]
      cases hx:y == n with
      | true=>rw [hx] at z; cases z
      | false=>rw [hx] at z; exact ih z
     ·dsimp only at z
      rw [if_neg hb,List.lookup_cons] at z
      rw [List.lookup_cons]
      cases hx:y == n with
      | true=>rw [hx] at z; exact z
      | false=>rw [hx] at z; exact ih z
   have:=ok.free2 y hm zz
   exact this
  ·exact .inl z
  ·exact .inr z
 ·obtain ⟨v,o,ho,hd⟩:=I.cell y c (sub y c e)
  exact ⟨v,o,old _ _ ho,hd⟩
 ·have hp':p∈X.pn ++ pins:=by
   have:p∈(X.pn ++ pins) ++ []:=hp
   simpa using this
  obtain ⟨e,n,ne,nf,d⟩:=I.pin p hp'
  refine ⟨old _ _ e,n,Nat.ne_of_lt (Nat.lt_of_lt_of_le (Heap.lt_size e) hC),fun z=>?_,d⟩
  rcases List.mem_cons.mp (I.stkSub p.1 z) with q | q
  ·exact ne q
  ·exact nf q
 ·show (bM σ cap own.length).length=(own ++ cs).length
  unfold bM
  rw [List.length_append,List.length_replicate,List.length_map,List.length_append,ok.len]
end
end L2
set_option Elab.async false
set_option linter.all false
set_option maxRecDepth 100000
namespace L2
open PySem PySem.Spec PyProof.Rows
section
variable {X:Cx} {pins:List (Addr×Obj)} {σ:St} {H2:Hp} {s2:Shared} {scope:Scope} {own cs:List Str} {cap:List Nat} {fp:List Addr} {it:Addr} {tn:Nat→Heap→Prop}
 {elt tg iter:Expr} {ifs:List Expr} {pos:Pos} {J:It} {g:TG} {tt:TT} {te:TE} {E:Value→Shared→Prop} {W:Nat→Nat→List V→Hp→Prop} {Qf:List V→Hp→Prop}
structure BlkEnd (X:Cx) (pins:List (Addr×Obj)) (σ:St) (Qf:List V→Hp→Prop) (D C:Addr) (s':Shared):Prop where
 ex:∃ (ys:List V) (H':Hp),H' D=none∧Qf ys H'∧Inv X pins σ (upd H' D (.lst ys)) s'∧dq X pins (upd H' D (.lst ys)) C
 ns:∃m,s'.heap.Ns C m
theorem Inv.bareP {pins':List (Addr×Obj)} {H:Hp} {s:Shared} (I:Inv X pins' σ H s):Inv X [] σ H s:=I.pins_of fun p hp=>absurd hp (by simp)
theorem ma {RR:Value→Addr→Result→Shared→Prop} (I:Inv X pins σ H2 s2) (ok:CompOk X scope own cs cap) (hc:X.calm=true) (T:Turn X.prog X.w X.K tg J fp it tn) (st:tn 0 s2.heap) (hf:∀b∈fp,dq X pins H2 b)
  (hg:∀C,PG (bL X pins s2 H2 scope C (own ++ cs) fp) tg g) (hi:∀C,pW (bL X pins s2 H2 scope C (own ++ cs) fp) ifs tt) (he:∀C,PE (bL X pins s2 H2 scope C (own ++ cs) fp) elt te)
  (w0:∃m,W 0 m [] H2) (turn:jl σ cap own.length J g tt te Qf W)
  (hRR:∀D C s',BlkEnd X pins σ Qf D C s'→RR (.ref D) C (.ok .next) s') :
  wpAny (model X.prog X.w) X.A (newList []) (fun acc s₃=>wpAny (model X.prog X.w) X.A (newFunctionEnv scope X.env.globals (bj X.env scope.names []) [] X.env.qual none .none (some X.env)) (fun cenv s₄ =>
   codeAny (model X.prog X.w) X.A (.compStart (.ListComp elt [⟨tg,iter,ifs,0⟩] scope pos) 0 (.ref it) acc { cenv with scope:=relabel scope X.env }) (RR acc cenv.locals) s₄) E s₃) E s2:=by
 refine wpAny_newObj_type (wpAny_newFunctionEnv ok.cell (by intro y hy; simp at hy) (fun h₁ hns₁ hsb₁=>?_) ok.kind)
 dsimp only at hns₁ hsb₁ ⊢
 generalize hHH:s2.heap.push { cls:=.type "list",dict:=none,data:=.seq ([]:List Value).toArray }=HH at hns₁ hsb₁ ⊢
 have hCs:HH.objs.size=s2.heap.objs.size + 1:=by rw [← hHH,Heap.size_push]
 have hDC:s2.heap.objs.size≠HH.objs.size:=by rw [hCs]; exact Nat.ne_of_lt (Nat.lt_succ_self _)
 have hCle:s2.heap.objs.size≤HH.objs.size:=by rw [hCs]; exact Nat.le_succ _
 have hfl:∀b∈fp,b < s2.heap.objs.size:=fun b hb=>by
  obtain ⟨o,e,_⟩:=T.obj 0 _ st b hb
  exact Heap.lt_size e
 have old:∀b o,s2.heap.get? b=some o→h₁.get? b=some o:=fun b o e=>hsb₁.extBut b o (by rw [hCs]; exact Nat.ne_of_lt (Nat.lt_succ_of_lt (Heap.lt_size e))) (Heap.get?_push_of_some _ (hHH ▸ Heap.get?_push_of_some _ e))
 have hacc:h₁.PlainList s2.heap.objs.size #[]:=⟨_,hsb₁.extBut _ _ hDC (Heap.get?_push_of_some _ (hHH ▸ Heap.get?_push_size _ rfl))⟩
 generalize hD:s2.heap.objs.size=D at *
 generalize hCC:HH.objs.size=C at *
 have hns₁':h₁.Ns C (fun _=>none):=hns₁
 have I0:Inv (bL X pins s2 H2 scope C (own ++ cs) fp) [] (bM σ cap own.length) H2 { s2 with heap:=h₁,toks:=s2.toks + ([]:List (Str×Value)).length } :=
  kh I ok hf (fun b hb=>by rw [hD]; exact hfl b hb) (by rw [hD]; exact hCle) hns₁' old
 have Dfs:D∉frs X.stack:=fun hb=>by
  obtain ⟨_,o,ho,_⟩:=I.stack.mem hb
  exact absurd (Heap.lt_size ho) (by rw [hD]; exact Nat.lt_irrefl _)
 have Dfp:∀b∈fp,D≠b:=fun b hb z=>absurd (hfl b hb) (by rw [← z]; exact Nat.lt_irrefl _)
 have clt:∀x c,(bj X.env scope.names []).lookup x=some c→c < D:=fun x c e=>by
  have e':=cb X.env scope.names [] x c (fun y hy e=>I.ok.has y.1 (ok.free y hy e)) (fun _ _ z=>by simp at z) e
  obtain ⟨v,o,ho,_⟩:=I.cell x c e'
  have:=Heap.lt_size ho
  rw [hD] at this; exact this
 have plt:∀p∈X.pn ++ pins,p.1 < D:=fun p hp=>by
  have:=Heap.lt_size (I.pin p hp).1
  rw [hD] at this; exact this
 have stat:∀ {H':Hp} {ob:Obj},(∀b∈fp,H' b=none)→∀b∈fp,dq (bL X pins s2 H2 scope C (own ++ cs) fp) [(D,ob)] H' b:=fun {H' ob} hn b hb=>by
  have q:=I0.ok.exf b hb
  refine ⟨hn b hb,q.1,I0.ok.exfs b hb,.inl hb,q.2,fun p hp=>?_⟩
  rcases List.mem_append.mp hp with z | z
  ·exact (hf b hb).2.2.2.2.2 p z
  ·have:p=(D,ob):=by simpa using z
   subst this
   exact Dfp b hb
 have loop:codeAny (model X.prog X.w) X.A (.compLoop (.ListComp elt [⟨tg,iter,ifs,0⟩] scope pos) 0 (.ref it) (.ref D) (compEnvC scope (bj X.env scope.names []) C X.env)) (RR (.ref D) C)
   { s2 with heap:=h₁,toks:=s2.toks + ([]:List (Str×Value)).length }:=by
  obtain ⟨m0,w0⟩:=w0
  refine codeAny_loop rfl (fun n s'=>∃i H' its ys,Inv (bL X pins s2 H2 scope C (own ++ cs) fp) [] (bM σ cap own.length) H' s'∧tn i s'.heap∧(∀b∈fp,H' b=none)∧s'.heap.PlainList D its.toArray∧Vals ys its∧H' D=none∧W i n ys H') ?_ m0
   ⟨0,H2,[],[],I0,T.keep 0 _ _ st fun b _ o e=>old b o e,fun b hb=>(hf b hb).1,hacc,.nil,I.hok.fresh (by rw [hD]; exact Nat.le_refl _),w0⟩
  rintro n s3 ⟨i,H3,its,ys,I3,st3,fr3,⟨nn,pl3⟩,rv3,hD3,w3⟩
  show wpAny _ X.A ((compTurn (.ListComp elt [⟨tg,iter,ifs,0⟩] scope pos) 0 (.ref it) (.ref D) (compEnvC scope (bj X.env scope.names []) C X.env)).onRaise (fun x=>do noteFrame x (compEnvC scope (bj X.env scope.names []) C X.env); theTreesLotGoes x)) _ _ s3
  refine wpAny_noted ?_
  rw [compTurn_list]
  refine wpAny_bind (wpAny_standAt (wpAny_bind ?_))
  have I3':Inv (bL X pins s2 H2 scope C (own ++ cs) fp) [(D, { cls:=.type "list", data:=.seq its.toArray nn })] (bM σ cap own.length) H3 s3 :=
   I3.pins_of fun p hp=>by
    have:p=(D,{ cls:=.type "list",data:=.seq its.toArray nn }):=by simpa using hp
    subst this
    exact ⟨pl3,hD3,hDC,Dfs,fun v z=>by cases z⟩
  rcases turn i n ys H3 w3 with ⟨stop,hz,qf⟩ | ⟨go,hz,step⟩
  ·refine thn (T.done (bL X pins s2 H2 scope C (own ++ cs) fp) rfl rfl rfl hc i _ s3 _ H3 _ I3' (stat fr3) st3 stop) fun r s4 ⟨hr,I4⟩=>?_
   subst hr
   refine wpAny_pure (hRR D C s4 ⟨⟨ys,H3,hD3,qf,?_,?_⟩,?_⟩)
   ·have pl4:=(I4.pin (D,_) (List.mem_append_right _ (List.mem_singleton.mpr rfl))).1
    have u4:=I4.base
    have Ds2:s2.heap.get? D=none:=Heap.get?_none_of_le (by rw [hD]; exact Nat.le_refl _)
    refine I.call' (s':=s4) (ch:=fp) I4.os ⟨u4.keep,u4.slot,fun b o e n hx=>?_,u4.there,fun b xs e=>?_,fun b o u e=>?_,fun b ps e=>?_⟩ ?_ I4.bare fun b hb=>⟨(hf b hb).2.2.2.1,(hf b hb).2.1,(hf b hb).2.2.2.2.1,(hf b hb).2.2.2.2.2⟩
    ·rw [aj (fun z=>by rw [z,Ds2] at e; cases e)]
     exact u4.free b o e n hx
    ·have:=u4.tups b xs e
     rw [aj (ah this hD3)]; exact this
    ·have:=u4.frzs b o u e
     rw [aj (ah this hD3)]; exact this
    ·obtain ⟨more,e'⟩:=u4.tbls b ps e
     exact ⟨more,by rw [aj (ah e' hD3)]; exact e'⟩
    ·exact I4.hok.add hD3 ⟨hz,its,nn,rv3,pl4⟩
   ·have CH:(upd H3 D (.lst ys)) C=none:=by rw [aj (Ne.symm hDC)]; exact I4.free
    exact I.fpOk (H':=upd H3 D (.lst ys)) (by rw [hD]; exact hCle) CH
   ·obtain ⟨m,hn,_⟩:=I4.loc
    exact ⟨m,hn⟩
  ·refine thn (T.item (bL X pins s2 H2 scope C (own ++ cs) fp) rfl rfl rfl hc i _ s3 _ H3 _ I3' (stat fr3) st3 go) fun r s4 ⟨u,hr,h4⟩=>?_
   subst hr
   refine wpAny_bind (thn h4 fun _ s5 ⟨x,H5,I5,r5,y5,st5,fr5⟩=>?_)
   have I5':=I5.pinned (stat fr5) (T.obj _ _ st5)
   refine wpAny_bind (wpAny_mono (hg C _ s5 _ H5 x u _ I5' r5 (step x H5 y5)) (fun _ s6 ⟨σ6,H6,I6,le6,q6⟩=>?_) fun _ _ z=>False.elim z)
   refine wpAny_bind (wpAny_mono (hi C _ s6 σ6 H6 _ I6 q6) (fun b s7 ⟨H7,I7,q7⟩=>?_) fun _ _ z=>False.elim z)
   have back:∀ {pins':List (Addr×Obj)} {H8:Hp} {s8:Shared},Inv (bL X pins s2 H2 scope C (own ++ cs) fp) pins' σ6 H8 s8→Inv (bL X pins s2 H2 scope C (own ++ cs) fp) [] (bM σ cap own.length) H8 s8:=fun I8 =>
    I8.bareP.weak le6.1.symm fun i v e=>le6.2 i v e
   cases b with
   | false =>
    rw [if_neg Bool.false_ne_true] at q7
    obtain ⟨m',hm,w7⟩:=q7
    refine wpAny_pure ⟨rfl,m',hm,i + 1,H7,its,ys,back I7,T.keep _ _ _ st5 fun b hb o e=>?_,fun b hb=>?_,⟨nn,?_⟩,rv3,?_,w7⟩
    ·exact (I7.pin (b,o) (List.mem_append_right _ (List.mem_append_right _ (br hb e)))).1
    ·obtain ⟨o,e,d⟩:=T.obj _ _ st5 b hb
     exact (I7.pin (b,o) (List.mem_append_right _ (List.mem_append_right _ (br hb e)))).2.1
    ·exact (I7.pin (D,_) (List.mem_append_right _ (List.mem_append_left _ (List.mem_singleton.mpr rfl)))).1
    ·exact (I7.pin (D,_) (List.mem_append_right _ (List.mem_append_left _ (List.mem_singleton.mpr rfl)))).2.1
   | true =>
    rw [if_pos rfl] at q7
    refine wpAny_bind (wpAny_bind (wpAny_mono (he C _ s7 σ6 H7 _ I7 q7) (fun y s8 ⟨v,H8,I8,r8,m',hm,w8⟩=>?_) fun _ _ z=>False.elim z))
    have pD:=I8.pin (D,{ cls:=.type "list",data:=.seq its.toArray nn }) (List.mem_append_right _ (List.mem_append_left _ (List.mem_singleton.mpr rfl)))
    have hlen:=rv3.length
    refine wpAny_bind (wpAny_list_append_plain (hsz:=by rw [List.size_toArray]; omega) ⟨nn,pD.1⟩ fun h9 pl9 sb9=>wpAny_pure (wpAny_pure ?_))
    have I8':=back I8
    refine ⟨rfl,m',hm,i + 1,H8,its ++ [y],ys ++ [v],?_,T.keep _ _ _ st5 fun b hb o e=>?_,fun b hb=>?_,?_,rv3.append (.cons r8 .nil),pD.2.1,w8⟩
    ·exact I8'.turned (t':=s8.toks) (fun b o hb e=>sb9.extBut b o hb e) pD.2.1 hDC (.inr (by show s2.heap.objs.size≤D; rw [hD]; exact Nat.le_refl _)) (fun x c e=>Nat.ne_of_lt (clt x c e)) fun p hp=>by
      have hp':p∈X.pn ++ pins:=by
       have:p∈(X.pn ++ pins) ++ []:=hp
       simpa using this
      exact Nat.ne_of_lt (plt p hp')
    ·exact sb9.extBut b o (Ne.symm (Dfp b hb)) (I8.pin (b,o) (List.mem_append_right _ (List.mem_append_right _ (br hb e)))).1
    ·obtain ⟨o,e,d⟩:=T.obj _ _ st5 b hb
     exact (I8.pin (b,o) (List.mem_append_right _ (List.mem_append_right _ (br hb e)))).2.1
    ·have e:its.toArray.push y=(its ++ [y]).toArray:=by simp
     rw [← e]; exact pl9
 exact codeAny_compStart_list loop (T.self _ 0 _ _ _ (T.keep 0 _ _ st fun b _ o e=>old b o e) loop)
def pj (wi:TI) (cap:List Nat) (k:Nat) (g:TG) (tt:TT) (te:TE):TE:=fun σ H Q=>wi σ H fun J H1 =>
 ∃W:Nat→Nat→List V→Hp→Prop,(∃m,W 0 m [] H1)∧jl σ cap k J g tt te (fun ys H'=>∀p,H' p=none→Q (.ref p) (upd H' p (.lst ys))) W
theorem jm {wi:TI} (hc:X.calm=true) (hit:PI X tg iter wi) (ok:CompOk X scope own cs cap)
  (hg:∀pins s2 H2 C fp,PG (bL X pins s2 H2 scope C (own ++ cs) fp) tg g) (hi:∀pins s2 H2 C fp,pW (bL X pins s2 H2 scope C (own ++ cs) fp) ifs tt) (he:∀pins s2 H2 C fp,PE (bL X pins s2 H2 scope C (own ++ cs) fp) elt te)
  (hs:∀x,foldedSetIterable iter X.env x=pure x:=by intro _; rfl):PE X (.ListComp elt [⟨tg,iter,ifs,0⟩] scope pos) (pj wi cap own.length g tt te):=by
 intro pins s σ H Q I h
 rw [eval_ListComp]
 refine wpAny_comprehension_free (use:=none) rfl hs (iw fun y hy e=>I.ok.has y.1 (ok.free y hy e)) ok.kind ok.names (thn (hit pins s σ H _ I h) fun v s1 h1=>thn h1 fun itv s2 h2=>?_)
 obtain ⟨it,fp,tn,J,H2,e,I2,T,st2,f2,W,w0,turn⟩:=h2
 subst e
 refine ma (RR:=fun acc C=>compPost (model X.prog X.w) X.A X.xe none (EP X pins σ Q) acc C) I2 ok hc T st2 f2 (fun C=>hg _ _ _ _ _) (fun C=>hi _ _ _ _ _) (fun C=>he _ _ _ _ _) w0 turn fun D C s' B=>?_
 obtain ⟨⟨ys,H',hD,q,I',fp'⟩,m,hn⟩:=B
 obtain ⟨f0,f1,f2',f3,f4,f5⟩:=fp'
 exact ⟨m,hn,fun h' sb=>⟨.ref D,_,I'.turned (t':=s'.toks) (fun b o hb e=>sb.extBut b o hb e) f0 f1 f3 f4 f5,rfl,q D hD⟩⟩
end
end L2
set_option Elab.async false
set_option linter.all false
set_option maxRecDepth 100000
namespace L2
open PySem PySem.Spec PyProof.Rows
def CDivB (i j:Int):Prop:=0 < j∧j≤10 ^ 60
theorem CDivB.np {i j:Int} (h:CDivB i j):Builtin.divisionGoesByPylong i j=false:=by
 refine PyProof.noPylong_of_log2 ?_
 have h1:j.natAbs < 2 ^ 200:=by
  obtain ⟨a,b⟩:=h
  omega
 have h2:j.natAbs.log2 < 200:=(Nat.log2_lt (by have:=h.1; omega)).mpr h1
 omega
section
variable {X:Cx}
theorem cX:OpR X (binaryOp .FloorDiv) (rI CDivB fun i j=>.int (i / j)):=opI fun i j _ _ _ _ _ hc q=>by
 refine floordiv_int (by have:=hc.1; omega) ?_ (.inl hc.np)
 rw [Int.fdiv_eq_ediv_of_nonneg _ (by have:=hc.1; omega)]
 exact q
theorem Inv.kitx {pins:List (Addr×Obj)} {σ:St} {H:Hp} {s:Shared} {x:V} {u t:Value} (I:Inv X pins σ H s) (rx:RelV x u) (ty:TyOf X.K H x t) :
  ∃P:Heap→Prop,PySem.W.KitX X.K u t P∧P s.heap∧u≠.builtin "__main__.__loader__#opaque" := by
 cases ty with
 | non=>cases (show u=Value.none from rx); exact ⟨_,PySem.W.kitx_none,True.intro,fun z=>nomatch z⟩
 | bl y=>cases (show u=Value.bool y from rx); exact ⟨_,PySem.W.kitx_bool,True.intro,fun z=>nomatch z⟩
 | int i=>obtain ⟨t,q⟩:=(show ∃t,u=Value.int i t from rx); cases q; exact ⟨_,PySem.W.kitx_int,True.intro,fun z=>nomatch z⟩
 | str y=>obtain ⟨t,q⟩:=(show ∃t,u=Value.str y t from rx); cases q; exact ⟨_,PySem.W.kitx_str,True.intro,fun z=>nomatch z⟩
 | flt y=>obtain ⟨t,q⟩:=(show ∃t,u=Value.float y t from rx); cases q; exact ⟨_,PySem.W.kitx_float,True.intro,fun z=>nomatch z⟩
 | @lst a xs ea =>
  cases (show u=Value.ref a from rx)
  obtain ⟨_,_,n,_,h1⟩:=(show ObjOk X.prog X.w H s.heap a (.lst xs) from I.hok a _ ea)
  exact ⟨_,PySem.W.kitx_list,⟨_,h1,rfl⟩,fun z=>nomatch z⟩
 | @frz a ob xs ea =>
  cases (show u=Value.ref a from rx)
  obtain ⟨_,_,_,n,_,h1⟩:=(show ObjOk X.prog X.w H s.heap a (.frz ob (.lst xs)) from I.hok a _ ea)
  exact ⟨_,PySem.W.kitx_list,⟨_,h1,rfl⟩,fun z=>nomatch z⟩
 | @tup a xs ea =>
  cases (show u=Value.ref a from rx)
  obtain ⟨_,_,_,p⟩:=(show ObjOk X.prog X.w H s.heap a (.tup xs) from I.hok a _ ea)
  obtain ⟨o,h1,h2,_⟩:=p
  exact ⟨_,PySem.W.kitx_tuple,⟨o,h1,h2⟩,fun z=>nomatch z⟩
 | @dK a kvs ea =>
  cases (show u=Value.ref a from rx)
  obtain ⟨_,_,vs,_,p⟩:=(show ObjOk X.prog X.w H s.heap a (.dK kvs) from I.hok a _ ea)
  obtain ⟨o,es,ep,h1,h2,_⟩:=p
  exact ⟨_,PySem.W.kitx_dict,⟨o,h1,h2.1⟩,fun z=>nomatch z⟩
 | @dT a kvs ea =>
  cases (show u=Value.ref a from rx)
  obtain ⟨_,_,xs,_,o,es,ep,h1,h2,_⟩:=(show ObjOk X.prog X.w H s.heap a (.dT kvs) from I.hok a _ ea)
  exact ⟨_,PySem.W.kitx_dict,⟨o,h1,h2.1⟩,fun z=>nomatch z⟩
 | @ins a C dx fs ea cl ha hn htk hm =>
  cases (show u=Value.ref a from rx)
  obtain ⟨mA,O,_⟩:=cV I.hok ea
  obtain ⟨od,J,_⟩:=O.look
  exact ⟨_,PySem.W.kitx_own (cl.get _) cl.hd ha hn htk hm,J,fun z=>nomatch z⟩
def clV:V→Option Value
 | .ty T=>some (.type T)
 | .ref C=>some (.ref C)
 | _=>none
theorem clV.rel {v:V} {u c:Value} (e:clV v=some c) (r:RelV v u):u=c:=by
 cases v with
 | ty T=>have e':Value.type T=c:=Option.some.inj e; rw [← e']; exact r
 | ref C=>have e':Value.ref C=c:=Option.some.inj e; rw [← e']; exact r
 | _=>cases e
def clVs:List V→Option (List Value)
 | []=>some []
 | v :: r=>match clV v,clVs r with
  | some c,some cs=>some (c :: cs)
  | _,_=>none
theorem clVs.rel:∀ {vs:List V} {us cs:List Value},clVs vs=some cs→Vals vs us→us=cs
 | [],_,_,e,.nil=>Option.some.inj e
 | v :: r,_,_,e,.cons r1 r2=>by
  unfold clVs at e
  split at e
  ·rename_i c cs' e1 e2
   cases e
   rw [clV.rel e1 r1,clVs.rel e2 r2]
  ·cases e
theorem bm:bY X (.builtin "isinstance") (fun xs H Q=>∃x cv t c b,xs=[x,cv]∧TyOf X.K H x t∧clV cv=some c∧PySem.W.kitOne X.K t c=some b∧Q (.bl b) H):=by
 intro pins s σ H xs us Q I rv h
 obtain ⟨x,cv,t,c,b,rfl,ty,e1,e2,q⟩:=h
 cases rv with
 | cons r1 rr =>
  cases rr with
  | cons r2 rr =>
   cases rr
   rw [clV.rel e1 r2]
   exact jU I r1 ty e2 fun tk=>⟨.bl b,H,I.tok tk,rfl,q⟩
theorem gf:bY X (.builtin "isinstance") (fun xs H Q=>∃x p t cvs cs b,xs=[x,.ref p]∧TyOf X.K H x t∧H p=some (.tup cvs)∧clVs cvs=some cs∧PySem.W.kitAny X.K t cs=some b∧Q (.bl b) H):=by
 intro pins s σ H xs us Q I rv h
 obtain ⟨x,p,t,cvs,cs,b,rfl,ty,hp,e1,e2,q⟩:=h
 cases rv with
 | cons r1 rr =>
  cases rr with
  | cons r2 rr =>
   cases rr
   cases r2
   obtain ⟨_,its,rits,o,ho,hc,n,hd⟩:=I.hok p _ hp
   obtain ⟨P,Z,p1,p2⟩:=I.kitx r1 ty
   obtain ⟨oc,od,dt,osl⟩:=o
   replace hc:oc=.type "tuple" := hc
   replace hd:dt=.seq its.toArray n:=hd
   subst hc hd
   have e3:=clVs.rel e1 rits
   subst e3
   exact PySem.W.kia_tup Z I.kIn p1 ho e2 p2 fun tk=>⟨.bl b,H,I.tok tk,rfl,q⟩
end
mutual
inductive DatV (K:PySem.W.Frag) (H:Hp):V→PyData→Prop
 | non:DatV K H .non .none
 | bl (b:Bool):DatV K H (.bl b) (.bool b)
 | int (i:Int):DatV K H (.int i) (.int i)
 | str (x:Str):DatV K H (.str x) (.str x)
 | lst {a:Addr} {xs:List V} {ds:List PyData}:SqL K H a xs→DatVs K H xs ds→DatV K H (.ref a) (.list ds)
 | tup {a:Addr} {xs:List V} {ds:List PyData}:SqT K H a xs→DatVs K H xs ds→DatV K H (.ref a) (.tuple ds)
inductive DatVs (K:PySem.W.Frag) (H:Hp):List V→List PyData→Prop
 | nil:DatVs K H [] []
 | cons {x:V} {d:PyData} {xs:List V} {ds:List PyData}:DatV K H x d→DatVs K H xs ds→DatVs K H (x :: xs) (d :: ds)
end
section
variable {X:Cx} {pins:List (Addr×Obj)} {σ:St} {H:Hp} {s:Shared}
mutual
theorem Inv.reads (I:Inv X pins σ H s):∀ {v:V} {d:PyData},DatV X.K H v d→∀ {u:Value},RelV v u→∃as,Reads s.heap u d as
 | _,_,.non,u,r=>by cases (show u=Value.none from r); exact ⟨_,.none⟩
 | _,_,.bl b,u,r=>by cases (show u=Value.bool b from r); exact ⟨_,.bool b⟩
 | _,_,.int i,u,r=>by obtain ⟨t,e⟩:=(show ∃t,u=Value.int i t from r); subst e; exact ⟨_,.int i t⟩
 | _,_,.str x,u,r=>by obtain ⟨t,e⟩:=(show ∃t,u=Value.str x t from r); subst e; exact ⟨_,.str x t⟩
 | _,_,.lst (a:=a) h hs,u,r=>by
  cases (show u=Value.ref a from r)
  obtain ⟨its,rv,⟨o,n,e,c,_,d⟩,_⟩:=I.list h
  obtain ⟨as,ra⟩:=I.readsAll hs rv
  exact ⟨_,.list e c d (by simpa using ra)⟩
 | _,_,.tup (a:=a) h hs,u,r=>by
  cases (show u=Value.ref a from r)
  obtain ⟨its,rv,⟨o,e,c,n,d⟩,_⟩:=I.tuple h
  obtain ⟨as,ra⟩:=I.readsAll hs rv
  exact ⟨_,.tuple e c d (by simpa using ra)⟩
theorem Inv.readsAll (I:Inv X pins σ H s):∀ {vs:List V} {ds:List PyData},DatVs X.K H vs ds→∀ {us:List Value},Vals vs us→∃as,ReadsAll s.heap us ds as
 | _,_,.nil,_,.nil=>⟨_,.nil⟩
 | _,_,.cons h hs,_,.cons r rs=>by
  obtain ⟨as,ra⟩:=I.reads h r
  obtain ⟨bs,rb⟩:=I.readsAll hs rs
  exact ⟨_,.cons ra rb⟩
end
end
section
variable {X:Cx}
theorem pX (hu:X.A.units + 64 < cLine):OpR X (compareOp .NotEq) (fun x y H Q=>∃da db,DatV X.K H x da∧DatV X.K H y db∧SeqAt.shaped da=true∧SeqAt.shaped db=true∧Q (.bl (!PyData.eqv da db)) H):=by
 intro pins s σ H x y v u Q I rx ry h
 obtain ⟨da,db,hx,hy,s1,s2,q⟩:=h
 obtain ⟨as,ra⟩:=I.reads hx rx
 obtain ⟨bs,rb⟩:=I.reads hy ry
 exact ne_dataH ra rb s1 s2 hu ⟨.bl _,H,I,rfl,q⟩
theorem pY (hu:X.A.units + 64 < cLine):OpR X (compareOp .Eq) (fun x y H Q=>∃da db,DatV X.K H x da∧DatV X.K H y db∧SeqAt.shaped da=true∧SeqAt.shaped db=true∧Q (.bl (PyData.eqv da db)) H):=by
 intro pins s σ H x y v u Q I rx ry h
 obtain ⟨da,db,hx,hy,s1,s2,q⟩:=h
 obtain ⟨as,ra⟩:=I.reads hx rx
 obtain ⟨bs,rb⟩:=I.reads hy ry
 exact eq_dataH ra rb s1 s2 hu ⟨.bl _,H,I,rfl,q⟩
end
section
variable {prog:Program} {w:World} {A:Around} {E:Value→Shared→Prop}
theorem eS {it l:Addr} {items:Array Value} (hne:l≠it):∀ (n i:Nat) (s:Shared) (Q:List Value→Shared→Prop),s.heap.IsListIter it l i→s.heap.IsList l items→i + n≤items.size →
  (∀h',h'.IsListIter it l (i + n)→Heap.SameBut it s.heap h'→Q ((items.toList.drop i).take n) { s with heap:=h' })→wpAny (model prog w) A (draw (.ref it) n) Q E s
 | 0,i,s,Q,hit,_,_,hQ=>by
  show wpAny _ _ (pure []) Q E s
  exact wpAny_pure (by simpa using hQ s.heap hit (Heap.SameBut.refl ..))
 | n + 1,i,s,Q,hit,ht,hle,hQ=>by
  have hlt:i < items.size:=by omega
  show wpAny _ _ (pyNext (.ref it) >>= _) Q E s
  refine wpAny_bind (wpAny_pyNext_list_item hit ht (x:=items[i]) (by simp [hlt]) fun h₁ hit₁ hs₁=>?_)
  refine wpAny_bind (wpAny_holding (eS hne n (i + 1) _ _ hit₁ (ht.extBut hs₁.extBut hne) (by omega) fun h₂ hit₂ hs₂=>wpAny_pure ?_))
  have hd:items.toList.drop i=items[i] :: items.toList.drop (i + 1):=by simp [List.drop_eq_getElem_cons,hlt]
  have q:=hQ h₂ (by rw [show i + (n + 1)=i + 1 + n by omega]; exact hit₂) (hs₁.trans hs₂)
  rw [hd,List.take_succ_cons] at q
  exact q
theorem cY {s:Shared} {l:Addr} {items:Array Value} {Q:List Value→Shared→Prop} (hh:A.handled=none) (ht:s.heap.IsList l items)
  (hQ:∀h',Heap.ExtBut s.heap.objs.size s.heap h'→Q items.toList { s with heap:=h' }):wpAny (model prog w) A (unpackItems (.ref l) items.size none) Q E s:=by
 have hlt:l≠s.heap.objs.size:=by obtain ⟨o,ho,_⟩:=ht; exact Nat.ne_of_lt (Heap.lt_size ho)
 have hp:(s.heap.push { cls:=.type "list_iterator",data:=.fields #[.ref l,.int 0 0] }).IsList l items:=by
  obtain ⟨o,ho,r⟩:=ht; exact ⟨o,Heap.get?_push_of_some _ ho,r⟩
 unfold unpackItems
 refine wpAny_bind ?_
 ·unfold notIterableAtAll
  refine wpAny_bind (wpAny_specialOf ht.typeIs PySem.slot_list_iter.lookup ?_)
  refine wpAny_pure ?_
  simp only [Bool.false_eq_true,if_false]
  refine wpAny_bind (wpAny_holding (wpAny_pyIter_list ht ?_))
  refine wpAny_bind (wpAny_holding (eS hlt items.size 0 _ _ ⟨_,Heap.get?_push_size _ rfl,rfl,rfl⟩ hp (by omega) fun h₁ hit₁ hs₁=>?_))
  have hall:List.take items.size (List.drop 0 items.toList)=items.toList:=by
   rw [List.drop_zero]; exact List.take_of_length_le (by simp)
  rw [hall]
  rw [if_neg (by simp)]
  have ht₁:h₁.IsList l items:=hp.extBut hs₁.extBut hlt
  refine wpAny_bind (wpAny_holding (wpAny_pyNext_list_end hh hit₁ ht₁ (by simp) fun h₂ he₂=>?_))
  simp only [Option.isSome_none,Bool.false_eq_true,if_false]
  refine wpAny_pure (hQ h₂ fun b o hb e=>he₂ b o hb (hs₁.extBut b o hb (Heap.get?_push_of_some _ e)))
theorem cQ {s:Shared} {env:Env} {elts:List Expr} {x1} {pos:Pos} {l:Addr} {items:Array Value} {Q:Unit→Shared→Prop} (hh:A.handled=none) (ht:s.heap.IsList l items)
  (hn:(assignEach elts env).length=items.size) (hstar:(assignEach elts env).findIdx? (·.1)=none)
  (h:∀h',Heap.ExtBut s.heap.objs.size s.heap h'→wpAny (model prog w) A (assignInOrder ((assignEach elts env).map (·.2)) items.toList) Q E { s with heap:=h' }) :
  wpAny (model prog w) A (assign (.Tuple elts x1 pos) env (.ref l)) Q E s:=by
 rw [assign_Tuple]
 refine wpAny_bind (wpAny_standAt ?_)
 unfold unpack
 rw [hn,hstar]
 exact wpAny_bind (wpAny_holding (cY hh ht h))
end
section
variable {X:Cx} {pos:Pos}
def zF (K:PySem.W.Frag) (n:Nat) (t:TGs):TG:=fun v σ H Q=>∃a xs,v=.ref a∧(SqL K H a xs∨SqT K H a xs)∧xs.length=n∧t xs σ H Q
theorem md {es:List Expr} {k:Nat} {t:TGs} {n:Nat} (hc:X.calm=true) (h:PGs X es t)
  (hn:(assignEach es X.env).length=n:=by rfl) (hst:(assignEach es X.env).findIdx? (·.1)=none:=by rfl):PG X (.Tuple es k pos) (zF X.K n t):=by
 intro pins s σ H v u Q I r hw
 obtain ⟨a,xs,e1,hq,hl,hw⟩:=hw
 rcases hq with hq | hq
 ·subst e1
  cases r
  obtain ⟨its,rv,ht,hz⟩:=I.list hq
  refine cQ (I.ok.hd hc) ht.isList (by simp [hn,← hl,rv.length]) hst fun h' hx=>?_
  have I1:Inv X pins σ H { s with heap:=h' }:=I.kept (t':=s.toks) fun b o e=>hx b o (Nat.ne_of_lt (Heap.lt_size e)) e
  exact h pins _ σ H xs _ Q I1 (by simpa using rv) hw
 ·exact aY hc h hn hst pins s σ H v u Q I r ⟨a,xs,e1,hq,hl,hw⟩
end
section
variable {X:Cx}
theorem Inv.turnedN {pins:List (Addr×Obj)} {σ:St} {H:Hp} {s:Shared} {h':Heap} {t':Nat} {ch:List Addr} (I:Inv X pins σ H s) (hf:∀b∈ch,dq X pins H b) (k:∀b o,b∉ch→s.heap.get? b=some o→h'.get? b=some o):Inv X pins σ H { s with heap:=h',toks:=t' }:=by
 have hLc:X.env.locals∉ch:=fun z=>(hf _ z).2.1 rfl
 have nt:∀b u,H b=some u→b∉ch:=fun b u e z=>by rw [(hf b z).1] at e; cases e
 refine I.step (g':=s.gens) (d':=s.drawn) (ch:=ch) (fun b hb=>⟨(hf b hb).2.2.2.1,(hf b hb).2.1,(hf b hb).2.2.2.2.1,(hf b hb).2.2.2.2.2⟩) (fun b o _ _ hc e _=>k b o hc e) (fun b o _ _ hc e _=>⟨o.slots,k b o hc e⟩) (fun _ _ _ _ n=>n)
  (fun b o hc e=>⟨o,k b o hc e⟩) (fun _ _ e=>e) (fun _ _ _ e=>e) (fun b ps e=>⟨#[],by rw [e]; simp⟩) (fun m hm=>?_) (fun b u e=>?_) I.bare
 ·obtain ⟨o,es,ep,ho,r⟩:=hm
  exact ⟨o,es,ep,k _ o hLc ho,r⟩
 ·refine (I.hok b u e).stay (fun c v hc q=>k c v ?_ q) (fun _ q=>q) fun _ _ q=>q
  rcases hc with z | z
  ·rw [z]; exact nt b u e
  ·exact nt c _ z
theorem Inv.track {pins:List (Addr×Obj)} {σ:St} {H:Hp} {s:Shared} {a:Addr} {o:HO} (I:Inv X pins σ H s) (hf:dq X pins H a) (fa:X.s₀.heap.objs.size≤a) (new:ObjOk X.prog X.w (upd H a o) s.heap a o):Inv X pins σ (upd H a o) s:=by
 obtain ⟨f0,f1,f2,f3,f4,f5⟩:=hf
 have s0:∀b o,X.s₀.heap.get? b=some o→b≠a:=fun b o e=>Nat.ne_of_lt (Nat.lt_of_lt_of_le (Heap.lt_size e) fa)
 refine ⟨I.ok,I.os,I.bare,⟨I.base.keep,I.base.slot,fun b o e n hx=>?_,I.base.there,fun b xs e=>?_,fun b o u e=>?_,fun b ps e=>?_⟩,I.loc,I.cell,?_,fun x c e=>?_,fun p hp=>?_,I.hok.add f0 new,I.len⟩
 ·rw [aj (s0 b o e)]; exact I.base.free b o e n hx
 ·have q:=I.base.tups b xs e
  rw [aj (ah q f0)]; exact q
 ·have q:=I.base.frzs b o u e
  rw [aj (ah q f0)]; exact q
 ·obtain ⟨more,q⟩:=I.base.tbls b ps e
  exact ⟨more,by rw [aj (ah q f0)]; exact q⟩
 ·rw [aj (Ne.symm f1)]; exact I.free
 ·rw [aj (f4 x c e)]; exact I.freeC x c e
 ·obtain ⟨e,n,r⟩:=I.pin p hp
  exact ⟨e,by rw [aj (f5 p hp)]; exact n,r⟩
end
structure ZipAp (z TI TO i1 i2:Addr):Prop where
 nd:[z,TI,TO,i1,i2].Nodup
end L2
set_option Elab.async false
set_option linter.all false
set_option maxRecDepth 100000
namespace L2
open PySem PySem.Spec PyProof.Rows
def Dn (P:Program) (w:World) (K:PySem.W.Frag) (mg:Str→Option Value) (base:Heap) (x:Str) (ps:List Str) (k:Nat) (sp:Sp):Prop :=
 ∃ (f:Addr) (fd:FuncData),FnOk P w K mg base CX0 k f fd ps sp∧Binds K fd ps []∧PySem.W.keepIn K (.ref f)=true∧mg x=some (.ref f)
theorem ao {X:Cx} {k:Nat} {ps:List Str} {sp:Sp} {x:Str} {p pos:Pos} {e:Expr} {es:List Expr} {t:TA} (D:Dn X.prog X.w X.K X.mg X.base x ps k sp) (hr:Room k X.A) (hg:Gl X x) (ha:PA X (e :: es) t)
  (hdb:(x == ("__debug__" : Str))=false:=by decide) (he:starEach (e :: es) X.env=(false,eval e X.env) :: starEach es X.env:=by rfl) (hpl:(backTo pos (starEach es X.env)).any (·.1)=false:=by rfl) :
  PE X (.Call (.Name x p) (e :: es) [] pos) (pf sp [] E0 t):=by
 obtain ⟨f,fd,F,hb,hk,hm⟩:=D
 exact nQ F hr hg hm hk hb .nil jk ha hdb he hpl
def jn (sc:Scope) (N:List Str) (scope:Scope) (own cs:List Str) (cap:List Nat):Bool :=
 decide (scope.kind=.function) && scope.names.all (fun y=>decide (y.2≠.cell)) && scope.names.all (fun y=>decide (y.2=.local→scope.names.lookup y.1=some .local)) &&
 scope.names.all (fun y=>decide (y.2=.free→sc.names.lookup y.1=some .cell∨sc.names.lookup y.1=some .free)) && own.all (fun y=>decide (scope.names.lookup y=some .local)) &&
 decide (cs.length=cap.length) && (cs.zip cap).all (fun y=>decide (N[y.2]? = some y.1) && decide ((y.1,NameKind.free)∈scope.names)) && scope.names.all (fun y=>decide (y.2=.free→scope.names.lookup y.1≠some .local))
theorem fE {X:Cx} {sc:Scope} {N:List Str} {scope:Scope} {own cs:List Str} {cap:List Nat} (h1:X.env.scope=sc) (h2:X.N=N) (h:jn sc N scope own cs cap=true):CompOk X scope own cs cap:=by
 subst h1 h2
 unfold jn at h
 simp only [Bool.and_eq_true,List.all_eq_true,decide_eq_true_eq] at h
 obtain ⟨⟨⟨⟨⟨⟨⟨a1,a2⟩,a3⟩,a4⟩,a5⟩,a6⟩,a7⟩,a8⟩:=h
 refine ⟨a1,a2,a3,a4,fun i y e=>?_,a5,a6,fun y hy e=>a8 _ hy rfl e⟩
 have hi:i < cs.length:=(List.getElem?_eq_some_iff.mp e).1
 have hj:i < cap.length:=by rw [← a6]; exact hi
 refine ⟨cap[i],List.getElem?_eq_getElem hj,?_⟩
 have hm:(y,cap[i])∈cs.zip cap:=by
  have:(cs.zip cap)[i]? = some (y,cap[i]):=by
   rw [List.getElem?_zip_eq_some]
   exact ⟨e,List.getElem?_eq_getElem hj⟩
  exact List.mem_of_getElem? this
 exact a7 _ hm
theorem gJ {σ:St} {H:Hp} {A B:Hp→Prop} (h:A H):tm σ H (fun ok H3=>if ok=true then A H3 else B H3):=by
 show (if (true:Bool)=true then A H else B H)
 rw [if_pos rfl]
 exact h
section
variable {X:Cx} {tg:Expr}
def pZ (K:PySem.W.Frag) (tl:TE):TI:=fun σ H R=>oW K tl σ H R∨sP K tl σ H R
theorem me {l:Expr} {tl:TE} (hl:PE X l tl):PI X tg l (pZ X.K tl):=by
 intro pins s σ H R I h
 rcases h with h | h
 ·exact jc hl pins s σ H R I h
 ·exact ib hl pins s σ H R I h
end
def az:List String:=["NoneType","bool","int","str","list","tuple","dict"]
theorem nZ {K:PySem.W.Frag}:∀T∈az,PySem.W.kitOne K (.type T) (.type "int")=some (T == "int" || T == "bool"):=by
 intro T h
 simp only [az,List.mem_cons,List.not_mem_nil,or_false] at h
 rcases h with rfl | rfl | rfl | rfl | rfl | rfl | rfl <;> kernel_rfl
theorem gK {K:PySem.W.Frag}:∀T∈az,PySem.W.kitOne K (.type T) (.type "bool")=some (T == "bool"):=by
 intro T h
 simp only [az,List.mem_cons,List.not_mem_nil,or_false] at h
 rcases h with rfl | rfl | rfl | rfl | rfl | rfl | rfl <;> kernel_rfl
theorem eU {K:PySem.W.Frag}:∀T∈az,PySem.W.kitOne K (.type T) (.type "list")=some (T == "list"):=by
 intro T h
 simp only [az,List.mem_cons,List.not_mem_nil,or_false] at h
 rcases h with rfl | rfl | rfl | rfl | rfl | rfl | rfl <;> kernel_rfl
theorem bn {K:PySem.W.Frag}:∀T∈az,PySem.W.kitOne K (.type T) (.type "tuple")=some (T == "tuple"):=by
 intro T h
 simp only [az,List.mem_cons,List.not_mem_nil,or_false] at h
 rcases h with rfl | rfl | rfl | rfl | rfl | rfl | rfl <;> kernel_rfl
theorem ce {K:PySem.W.Frag}:∀T∈az,PySem.W.kitOne K (.type T) (.type "str")=some (T == "str"):=by
 intro T h
 simp only [az,List.mem_cons,List.not_mem_nil,or_false] at h
 rcases h with rfl | rfl | rfl | rfl | rfl | rfl | rfl <;> kernel_rfl
theorem oa {K:PySem.W.Frag}:∀T∈az,PySem.W.kitAny K (.type T) [.type "list",.type "tuple"]=some (T == "list" || T == "tuple"):=by
 intro T h
 have h1:=eU (K:=K) T h
 have h2:=bn (K:=K) T h
 unfold PySem.W.kitAny
 rw [h1]
 cases e:(T == "list") with
 | true=>rfl
 | false =>
  show PySem.W.kitAny K (.type T) [.type "tuple"]=_
  unfold PySem.W.kitAny
  rw [h2]
  cases e2:(T == "tuple") <;> rfl
def Ty (K:PySem.W.Frag) (H:Hp) (x:V) (T:String):Prop:=T∈az∧TyOf K H x (.type T)
theorem Ty.int {K:PySem.W.Frag} {H:Hp} {i:Int}:Ty K H (.int i) "int" := ⟨by simp [az],.int i⟩
theorem Ty.bl {K:PySem.W.Frag} {H:Hp} {b:Bool}:Ty K H (.bl b) "bool" := ⟨by simp [az],.bl b⟩
theorem Ty.non {K:PySem.W.Frag} {H:Hp}:Ty K H .non "NoneType" := ⟨by simp [az],.non⟩
theorem Ty.str {K:PySem.W.Frag} {H:Hp} {x:Str}:Ty K H (.str x) "str" := ⟨by simp [az],.str x⟩
theorem Ty.lst {K:PySem.W.Frag} {H:Hp} {a:Addr} {xs:List V} (e:H a=some (.lst xs)):Ty K H (.ref a) "list" := ⟨by simp [az],.lst e⟩
theorem Ty.tup {K:PySem.W.Frag} {H:Hp} {a:Addr} {xs:List V} (e:H a=some (.tup xs)):Ty K H (.ref a) "tuple" := ⟨by simp [az],.tup e⟩
theorem Ty.dK {K:PySem.W.Frag} {H:Hp} {a:Addr} {xs:List (Key×V)} (e:H a=some (.dK xs)):Ty K H (.ref a) "dict" := ⟨by simp [az],.dK e⟩
def aL:V→Int→Bool
 | .int i,l=>decide (l≤i)
 | _,_=>false
def ki:V→Bool
 | .bl _=>true
 | _=>false
theorem qa {K:PySem.W.Frag} {H:Hp} {x:V} {T:String} (t:TyOf K H x (.type T)) (h:T∈az):(T == "int")=true→∃i,x=.int i:=by
 intro e
 have e':T = "int" := by simpa using e
 subst e'
 generalize hv:Value.type "int" = tv at t
 cases t with
 | int i=>exact ⟨i,rfl⟩
 | _=>exact absurd hv (by simp)
theorem jo {K:PySem.W.Frag} {H:Hp} {x:V} {T:String} (t:TyOf K H x (.type T)):(T == "bool")=ki x:=by
 generalize hv:Value.type T=tv at t
 cases t with
 | bl b=>cases hv; rfl
 | non=>cases hv; rfl
 | int i=>cases hv; rfl
 | str i=>cases hv; rfl
 | flt i=>cases hv; rfl
 | lst i=>cases hv; rfl
 | frz i=>cases hv; rfl
 | tup i=>cases hv; rfl
 | dK i=>cases hv; rfl
 | dT i=>cases hv; rfl
 | ins=>cases hv
end L2
namespace Pc
open PySem L2
structure Pot (a b:Int):Prop where
 a0:0≤a
 b0:0≤b
 b1:b < 2147483629
def But (p:Addr) (H H':Hp):Prop:=∀b o,b≠p→H b=some o→H' b=some o
theorem But.trans {p:Addr} {H H1 H2:Hp} (a:But p H H1) (b:But p H1 H2):But p H H2:=fun c o n e=>b c o n (a c o n e)
theorem But.upd {p:Addr} {H:Hp} {o:HO}:But p H (upd H p o):=fun b u n e=>by rw [aj n]; exact e
theorem But.new {p q:Addr} {H:Hp} {o:HO} (h:H q=none):But p H (L2.upd H q o):=fun b u n e=>by rw [aj (ah e h)]; exact e
structure Kd where
 w:Int
 h:Int
 wo:Int
 wa:Int
 tu:Bool
def kdV (k:Kd):List V:=[.int k.w,.int k.h,.int k.wo,.int k.wa,.bl k.tu]
structure Good (k:Kd):Prop where
 w:1≤k.w
 h:1≤k.h
 wo:0≤k.wo
 wa:0≤k.wa
 w':k.w < 10 ^ 60
 h':k.h < 10 ^ 60
 wo':k.wo < 10 ^ 60
 wa':k.wa < 10 ^ 60
def pk (H:Hp) (v:V) (k:Kd):Prop:=∃a,v=.ref a∧H a=some (.tup (kdV k))
def tw (H:Hp) (v:V) (k:Kd):Prop:=∃a,v=.ref a∧H a=some (.lst (kdV k))
def RowAt (H:Hp) (v:V) (k:Kd):Prop:=pk H v k∨tw H v k
abbrev Tups (H:Hp):List V→List Kd→Prop:=Paired (pk H)
theorem Tups.keep {H H':Hp} (k:∀b xs,H b=some (.tup xs)→H' b=some (.tup xs)):∀ {xs:List V} {ks:List Kd},Tups H xs ks→Tups H' xs ks:=fun r =>
 Paired.mapP r fun v kd ⟨a,e,h⟩=>⟨a,e,k a _ h⟩
structure ToldAt (H:Hp) (t l:Addr) (bl:Int) (xs:List V) (ks:List Kd):Prop where
 t:H t=some (.tup [.int bl,.ref l])
 l:H l=some (.lst xs)
 r:Tups H xs ks
 b0:0≤bl
 b1:bl < 10 ^ 60
 g:∀k∈ks,Good k
 n0:1≤xs.length
 n1:xs.length≤8
def bS (K:PySem.W.Frag):Sp:=fun vs H Q _=>∃ (x:V) (T:String) (l:Int),vs=[x,.int l]∧Ty K H x T∧Q (.bl (aL x l)) H
def ek (K:PySem.W.Frag):Sp:=fun vs H Q _=>∃ (x:V) (T:String),vs=[x]∧Ty K H x T∧Q (.bl (ki x)) H
def gL (K:PySem.W.Frag):Sp:=fun vs H Q _=>∃ (x:V) (T:String), vs=[x]∧Ty K H x T∧∀H', Same H H'→Q (.bl (T == "list" || T == "tuple")) H'
def fF:List V→Bool
 | [w,h,wo,wa,tu]=>aL w 1 && aL h 1 && aL wo 0 && aL wa 0 && ki tu
 | _=>false
def cZ (K:PySem.W.Frag):Sp:=fun vs H Q _=>∃ (x:V) (T:String),vs=[x]∧Ty K H x T ∧ 
 ((T ≠ "list" ∧ T ≠ "tuple" ∧ ∀H', Same H H'→Q (.bl false) H')∨∃ (a:Addr) (xs:List V), x=.ref a∧(H a=some (.lst xs)∨H a=some (.tup xs))∧(∀y∈xs, ∃U, Ty K H y U)∧∀H', Same H H'→Q (.bl (fF xs)) H')
theorem eV {k:Kd} (g:Good k):fF (kdV k)=true:=by
 show (decide (1≤k.w) && decide (1≤k.h) && decide (0≤k.wo) && decide (0≤k.wa) && true)=true
 rw [decide_eq_true g.w,decide_eq_true g.h,decide_eq_true g.wo,decide_eq_true g.wa]
 rfl
theorem Ty.same {K:PySem.W.Frag} {H H':Hp} {x:V} {T:String} (s:Same H H') (t:Ty K H x T):Ty K H' x T:=by
 refine ⟨t.1,?_⟩
 have t2:=t.2
 generalize hv:Value.type T=tv at t2 ⊢
 cases t2 with
 | non=>exact .non
 | bl b=>exact .bl b
 | int b=>exact .int b
 | str b=>exact .str b
 | flt b=>exact .flt b
 | lst e=>exact .lst (s _ _ e)
 | frz e=>exact .frz (s _ _ e)
 | tup e=>exact .tup (s _ _ e)
 | dK e=>exact .dK (s _ _ e)
 | dT e=>exact .dT (s _ _ e)
 | ins=>cases hv
end Pc
set_option Elab.async false
set_option linter.all false
set_option maxRecDepth 100000
namespace L2
open PySem PySem.Spec PyProof.Rows
def mf (K:PySem.W.Frag):List V→Hp→VK→Prop:=fun xs H Q=>∃p ys,xs=[V.ref p]∧((SqL K H p ys∧∀l,H l=none→Q (.ref l) (upd H l (.tup ys)))∨(SqT K H p ys∧Q (.ref p) H))
theorem mh {K:PySem.W.Frag} {j:Nat} {a:Addr} {xs:List V} {g:TG} {tb:TS} {D:Ends} {σ:St} {H:Hp} (hσ:σ[j]? = some (some (.ref a))) (hs:H a=some (.lst xs)∨H a=some (.tup xs)) (Pv:Nat→St→Hp→Prop) (h0:Pv 0 σ H)
  (hk:∀i σ H',i≤xs.length→Pv i σ H'→∀o,H a=some o→H' a=some o)
  (ht:∀i x σ H,xs[i]? = some x→Pv i σ H→g x σ H fun σ2 H2=>tb { D with nx:=Pv (i + 1),ct:=Pv (i + 1),bk:=D.nx } σ2 H2) (hd:∀σ H,Pv xs.length σ H→D.nx σ H):sR (pZ K (tVar j)) g tb D σ H:=by
 rcases hs with z | z
 ·exact .inl ⟨_,hσ,a,rfl,⟨xs,SqL.of z⟩,gC (xs:=xs) Pv h0 (fun i σ H' hi p=>SqL.of (hk i σ H' hi p _ z)) ht hd⟩
 ·exact .inr ⟨_,hσ,a,rfl,⟨xs,SqT.of z⟩,jd (xs:=xs) Pv h0 (fun i σ H' hi p=>SqT.of (hk i σ H' hi p _ z)) ht hd⟩
def Nx (n:Nat) (Pv:Nat→List V→Hp→Prop) (i:Nat) (ys:List V) (H:Hp):Prop:=∃m',m' < n - i∧m'=n - (i + 1)∧i + 1≤n∧Pv (i + 1) ys H
theorem Nx.of {n:Nat} {Pv:Nat→List V→Hp→Prop} {i:Nat} {ys:List V} {H:Hp} (h:i < n) (p:Pv (i + 1) ys H):Nx n Pv i ys H:=⟨n - (i + 1),by omega,rfl,h,p⟩
theorem gM {K:PySem.W.Frag} {a:Addr} {xs:List V} {σ:St} {cap:List Nat} {k:Nat} {g:TG} {tt:TT} {te:TE} {Q:List V→Hp→Prop} {H:Hp} (hs:H a=some (.lst xs)∨H a=some (.tup xs)) (Pv:Nat→List V→Hp→Prop)
  (hk:∀i ys H',i≤xs.length→Pv i ys H'→∀o,H a=some o→H' a=some o) (h0:Pv 0 [] H)
  (ht:∀i x ys H',xs[i]? = some x→Pv i ys H'→ys.length < sizeLine∧g x (bM σ cap k) H' fun σ2 H2=>leS (bM σ cap k) σ2∧tt σ2 H2 fun ok H3=>if ok=true then te σ2 H3 (fun v H4=>Nx xs.length Pv i (ys ++ [v]) H4) else Nx xs.length Pv i ys H3)
  (hd:∀ys H',Pv xs.length ys H'→ys.length≤sizeLine∧Q ys H') :
  (H a=some (.lst xs)→∃W,(∃m,W 0 m [] H)∧jl σ cap k (Itl K a) g tt te Q W)∧(H a=some (.tup xs)→∃W,(∃m,W 0 m [] H)∧jl σ cap k (Itt K a) g tt te Q W):=by
 refine ⟨fun z=>⟨fun i m ys H'=>m=xs.length - i∧i≤xs.length∧Pv i ys H',⟨_,rfl,Nat.zero_le _,h0⟩,?_⟩,fun z=>⟨fun i m ys H'=>m=xs.length - i∧i≤xs.length∧Pv i ys H',⟨_,rfl,Nat.zero_le _,h0⟩,?_⟩⟩
 ·rintro i m ys H' ⟨rfl,hi,p⟩
  have z':=hk i ys H' hi p _ z
  by_cases hin:i < xs.length
  ·obtain ⟨e,hg⟩:=ht i xs[i] ys H' (by simp [hin]) p
   refine .inr ⟨⟨xs,xs[i],SqL.of z',by simp [hin]⟩,e,fun x H2 yl=>?_⟩
   obtain ⟨e1,e2⟩:=yl
   have e3:=e2 xs (SqL.of z')
   have e4:x=xs[i]:=by simpa [hin] using e3.symm
   subst e1 e4
   exact hg
  ·have e:i=xs.length:=by omega
   subst e
   obtain ⟨a1,a2⟩:=hd ys H' p
   exact .inl ⟨⟨xs,SqL.of z',Nat.le_refl _⟩,a1,a2⟩
 ·rintro i m ys H' ⟨rfl,hi,p⟩
  have z':=hk i ys H' hi p _ z
  by_cases hin:i < xs.length
  ·obtain ⟨e,hg⟩:=ht i xs[i] ys H' (by simp [hin]) p
   refine .inr ⟨⟨xs,xs[i],SqT.of z',by simp [hin]⟩,e,fun x H2 yl=>?_⟩
   obtain ⟨e1,e2⟩:=yl
   have e3:=e2 xs (SqT.of z')
   have e4:x=xs[i]:=by simpa [hin] using e3.symm
   subst e1 e4
   exact hg
  ·have e:i=xs.length:=by omega
   subst e
   obtain ⟨a1,a2⟩:=hd ys H' p
   exact .inl ⟨⟨xs,SqT.of z',Nat.le_refl _⟩,a1,a2⟩
theorem kj {K:PySem.W.Frag} {j:Nat} {a:Addr} {xs:List V} {σ:St} {cap:List Nat} {k:Nat} {g:TG} {tt:TT} {te:TE} {Q:VK} {H:Hp} (hσ:σ[j]? = some (some (.ref a))) (hs:H a=some (.lst xs)∨H a=some (.tup xs)) (Pv:Nat→List V→Hp→Prop)
  (hk:∀i ys H',i≤xs.length→Pv i ys H'→∀o,H a=some o→H' a=some o) (h0:Pv 0 [] H)
  (ht:∀i x ys H',xs[i]? = some x→Pv i ys H'→ys.length < sizeLine∧g x (bM σ cap k) H' fun σ2 H2=>leS (bM σ cap k) σ2∧tt σ2 H2 fun ok H3=>if ok=true then te σ2 H3 (fun v H4=>Nx xs.length Pv i (ys ++ [v]) H4) else Nx xs.length Pv i ys H3)
  (hd:∀ys H',Pv xs.length ys H'→ys.length≤sizeLine∧∀p,H' p=none→Q (.ref p) (upd H' p (.lst ys))):pj (pZ K (tVar j)) cap k g tt te σ H Q:=by
 obtain ⟨c1,c2⟩:=gM (K:=K) (σ:=σ) (cap:=cap) (k:=k) (g:=g) (tt:=tt) (te:=te) hs Pv hk h0 ht hd
 rcases hs with z | z
 ·exact .inl ⟨_,hσ,a,rfl,⟨xs,SqL.of z⟩,c1 z⟩
 ·exact .inr ⟨_,hσ,a,rfl,⟨xs,SqT.of z⟩,c2 z⟩
end L2
namespace Pc
open PySem L2
def ix (b:Int) (r:Addr):List (Str×V):=bQ "kind_rows" (.ref r) (bQ "blade_width" (.int b) [])
theorem kbw:¬ (("blade_width" : Str) = "kind_rows"):=by decide +kernel
theorem iy (b:Int) (r:Addr):(ix b r).lookup ("blade_width" : Str)=some (.int b):=by
 unfold ix
 rw [be,if_neg kbw,be,if_pos rfl]
theorem dJ (b:Int) (r:Addr):(ix b r).lookup ("kind_rows" : Str)=some (.ref r):=by
 unfold ix
 rw [be,if_pos rfl]
theorem de (b:Int) (r:Addr) {m:Str} (h1:¬ m = "kind_rows") (h2:¬ m = "blade_width"):(ix b r).lookup m=none:=by
 unfold ix
 rw [be,if_neg h1,be,if_neg h2]
 all_goals rfl
def ShopAt (C:Addr) (H:Hp) (x:Addr) (b:Int) (ks:List Kd):Prop:=∃dx r rs,H x=some (.ins C dx (ix b r))∧H r=some (.tup rs)∧Tups H rs ks
theorem ShopAt.keep {C:Addr} {H H':Hp} {x:Addr} {b:Int} {ks:List Kd} (s:ShopAt C H x b ks) (k1:∀b xs,H b=some (.tup xs)→H' b=some (.tup xs)) (k2:∀b C dx fs,H b=some (.ins C dx fs)→H' b=some (.ins C dx fs)):ShopAt C H' x b ks:=by
 obtain ⟨dx,r,rs,h1,h2,h3⟩:=s
 exact ⟨dx,r,rs,k2 _ _ _ _ h1,k1 _ _ h2,Tups.keep k1 h3⟩
def iz (C:Addr):Sp:=fun vs H Q _=>∃ (x dx ks:Addr) (b:Int) (rs:List V) (kds:List Kd),vs=[.ref x,.int b,.ref ks]∧H x=some (.ins C dx [])∧0≤b∧(H ks=some (.lst rs)∨H ks=some (.tup rs))∧Paired (RowAt H) rs kds∧(∀k∈kds,Good k)∧1≤rs.length∧rs.length≤8 ∧
 ∀H':Hp,ShopAt C H' x b kds→(∀c o,c≠x→H c=some o→H' c=some o)→Q .non H'
def em (C:Addr):Sp:=fun vs H Q _=>∃ (x:Addr) (b:Int) (ks:List Kd),vs=[.ref x]∧ShopAt C H x b ks∧Q (.int b) H
theorem jp {K:PySem.W.Frag} {H:Hp} {k:Kd}:∀y∈kdV k,∃U,Ty K H y U:=by
 intro y hy
 simp only [kdV,List.mem_cons,List.not_mem_nil,or_false] at hy
 rcases hy with rfl | rfl | rfl | rfl | rfl
 ·exact ⟨_,.int⟩
 ·exact ⟨_,.int⟩
 ·exact ⟨_,.int⟩
 ·exact ⟨_,.int⟩
 ·exact ⟨_,.bl⟩
theorem Paired.getR {α β:Type} {F:α→β→Prop}:∀ {l₁:List α} {l₂:List β} {i:Nat} {x:α},Paired F l₁ l₂→l₁[i]? = some x→∃y,l₂[i]? = some y∧F x y
 | _,_,_,_,.nil,e=>by simp at e
 | _,_,0,_,.cons h _,e=>by simp at e; subst e; exact ⟨_,rfl,h⟩
 | _,_,i + 1,x,.cons _ t,e=>by
  obtain ⟨y,h1,h2⟩:=Paired.getR (i:=i) (x:=x) t (by simpa using e)
  exact ⟨y,by simpa using h1,h2⟩
theorem RowAt.same {H H':Hp} {v:V} {k:Kd} (s:Same H H') (r:RowAt H v k):RowAt H' v k:=by
 rcases r with ⟨a,e,h⟩ | ⟨a,e,h⟩
 ·exact .inl ⟨a,e,s _ _ h⟩
 ·exact .inr ⟨a,e,s _ _ h⟩
theorem km {K:PySem.W.Frag} {H:Hp} {v:V} {k:Kd} {Q:VK} {E:XK} (r:RowAt H v k) (g:Good k) (q:∀H',Same H H'→Q (.bl true) H'):cZ K [v] H Q E:=by
 rcases r with ⟨a,rfl,h⟩ | ⟨a,rfl,h⟩
 ·exact ⟨_,_,rfl,.tup h,.inr ⟨a,_,rfl,.inr h,jp,fun H' s=>by rw [eV g]; exact q H' s⟩⟩
 ·exact ⟨_,_,rfl,.lst h,.inr ⟨a,_,rfl,.inl h,jp,fun H' s=>by rw [eV g]; exact q H' s⟩⟩
structure ShopTxt (K:PySem.W.Frag) (C:Addr):Prop where
 cl:Cls K C
 nB:NoAttr K C "blade_width"
 nK:NoAttr K C "kind_rows"
end Pc
set_option Elab.async false
set_option linter.all false
set_option maxRecDepth 100000
namespace L2
open PySem PySem.Spec PyProof.Rows
def Mn (P:Program) (w:World) (K:PySem.W.Frag) (mg:Str→Option Value) (base:Heap) (C:Addr) (m:Str) (ps:List Str) (k:Nat) (sp:Sp):Prop :=
 ∃ (f:Addr) (fd:FuncData),FnOk P w K mg base CX0 k f fd ps sp∧Binds K fd ps []∧Meth K C m f
theorem mi {X:Cx} {k:Nat} {C:Addr} {ps:List Str} {sp:Sp} {m:Str} {o:Expr} {ta:TE} {apos pos:Pos} {pl:Sem Bool} (he:PE X o ta) (c:Cls X.K C) (D:Mn X.prog X.w X.K X.mg X.base C m ps k sp) (hr:Room k X.A)
  (ht:eval (.Call (.Attribute o m apos) [] [] pos) X.env=(do
   let ov←eval o X.env
   standAt apos.atName
   let (f,first)←holding [ov] (getMethod ov m pl)
   callWith pos f first (backTo pos (starEach [] X.env)) (backToKw pos (keywordEach [] X.env))):=by rfl):PE X (.Call (.Attribute o m apos) [] [] pos) (jg C m sp [] E0 ta nP):=by
 obtain ⟨f,fd,F,hb,hm⟩:=D
 exact lR he c hm F hr hb .nil jk ht
def Kn (P:Program) (w:World) (K:PySem.W.Frag) (mg:Str→Option Value) (base:Heap) (x:Str) (C:Addr) (ps:List Str) (k:Nat) (sp:Sp):Prop :=
 ∃ (f:Addr) (fd:FuncData),Mk K C f∧FnOk P w K mg base CX0 k f fd ps sp∧Binds K fd ps []∧mg x=some (.ref C)
theorem tz {X:Cx} {k:Nat} {C:Addr} {ps:List Str} {sp:Sp} {x:Str} {p pos:Pos} {e:Expr} {es:List Expr} {t:TA} (D:Kn X.prog X.w X.K X.mg X.base x C ps k sp) (hr:Room (k + 1) X.A) (hg:Gl X x) (ha:PA X (e :: es) t)
  (hdb:(x == ("__debug__" : Str))=false:=by decide) (he:starEach (e :: es) X.env=(false,eval e X.env) :: starEach es X.env:=by rfl) (hpl:(backTo pos (starEach es X.env)).any (·.1)=false:=by rfl) :
  PE X (.Call (.Name x p) (e :: es) [] pos) (pi C sp [] E0 t):=by
 obtain ⟨f,fd,M,F,hb,hm⟩:=D
 exact nS M F hr hg hm hb .nil jk ha hdb he hpl
end L2
namespace Pc
open PySem L2
theorem Same.but {p:Addr} {H H':Hp} (s:Same H H'):But p H H':=fun b o _ e=>s b o e
theorem Same.new {q:Addr} {H:Hp} {o:HO} (h:H q=none):Same H (upd H q o):=fun b u e=>by rw [aj (ah e h)]; exact e
end Pc
set_option Elab.async false
set_option linter.all false
set_option maxRecDepth 100000
namespace PySem
open Sem (wp)
open AutoSeq1 (wpAny_loadPart')
section
variable {prog:Program} {w:World} {A:Around} {E:Value→Shared→Prop} {s:Shared}
theorem eh {it t:Addr} {i:Nat} {items} {x:Value} {Q:Value→Shared→Prop} (hit:s.heap.IsTupleIter it t i)
  (ht:s.heap.IsTuple t items) (hx:items[i]? = some x)
  (hQ:∀h',h'.IsTupleIter it t (i + 1)→Heap.SameBut it s.heap h'→Q x { s with heap:=h' }) :
  wpAny (model prog w) A (Builtin.SmallTypes.nextOf (.ref it)) Q E s:=by
 obtain ⟨o,ho,hc,hd⟩:=id hit
 obtain ⟨ol,hol,_,nl,hdl⟩:=ht
 unfold Builtin.SmallTypes.nextOf
 refine wpAny_bind (wpAny_callSpecial?_slot (name:=Str.ofString "__next__") hit.typeIs F.slot_tuple_iterator_next
  (wpAny_call_entry F.slot_tuple_iterator_next hit.typeIs F.entry_tuple_iterator_next ?_ (F.args_tuple_iterator_next_1 _)))
 show wpAny _ _ (field (.ref it) 0 >>= _) _ _ s
 refine wpAny_bind (wpAny_field ho hd (x:=.ref t) rfl ?_)
 show wpAny _ _ (if (Value.ref t == Value.none)=true then _ else _) _ _ s
 rw [if_neg (show ¬ ((Value.ref t == Value.none)=true) from Bool.false_ne_true)]
 show wpAny _ _ (field (.ref it) 1 >>= _) _ _ s
 refine wpAny_bind (wpAny_field ho hd (x:=.int i 0) rfl ?_)
 show wpAny _ _ (seqItems? (.ref t) >>= _) _ _ s
 refine wpAny_bind (wpAny_seqItems hol hdl ?_)
 simp only [Int.toNat_natCast,hx]
 refine wpAny_bind (wpAny_setField ho hd (by simp) (wpAny_pure ⟨x,rfl,wpAny_pure (hQ _ ?_ (Heap.SameBut.update ..))⟩))
 exact ⟨_,Heap.get?_update_self _ ho (Obj.isFreed_of_fields (Obj.data_mapFields hd _)),(Obj.cls_mapFields ..).trans hc,by
  rw [Obj.data_mapFields hd]; simp [rawInt]⟩
theorem cw {it t:Addr} {i:Nat} {items} {Q:Value→Shared→Prop} (hh:A.handled=none)
  (hit:s.heap.IsTupleIter it t i) (ht:s.heap.IsTuple t items) (hx:items[i]? = none)
  (hE:∀h' e, Heap.ExtBut it s.heap h'→(∃o, h'.get? e=some o∧o.cls=.type "StopIteration")→E (.ref e) { s with heap:=h' }) :
  wpAny (model prog w) A (Builtin.SmallTypes.nextOf (.ref it)) Q E s:=by
 obtain ⟨o,ho,hc,hd⟩:=id hit
 obtain ⟨ol,hol,_,nl,hdl⟩:=ht
 unfold Builtin.SmallTypes.nextOf
 refine wpAny_bind (wpAny_callSpecial?_slot (name:=Str.ofString "__next__") hit.typeIs F.slot_tuple_iterator_next
  (wpAny_call_entry F.slot_tuple_iterator_next hit.typeIs F.entry_tuple_iterator_next ?_ (F.args_tuple_iterator_next_1 _)))
 show wpAny _ _ (field (.ref it) 0 >>= _) _ _ s
 refine wpAny_bind (wpAny_field ho hd (x:=.ref t) rfl ?_)
 show wpAny _ _ (if (Value.ref t == Value.none)=true then _ else _) _ _ s
 rw [if_neg (show ¬ ((Value.ref t == Value.none)=true) from Bool.false_ne_true)]
 show wpAny _ _ (field (.ref it) 1 >>= _) _ _ s
 refine wpAny_bind (wpAny_field ho hd (x:=.int i 0) rfl ?_)
 show wpAny _ _ (seqItems? (.ref t) >>= _) _ _ s
 refine wpAny_bind (wpAny_seqItems hol hdl ?_)
 simp only [Int.toNat_natCast,hx]
 refine wpAny_bind (wpAny_rule (wpAny_bind (wpAny_setField ho hd (by simp) ?_)))
 show wpAny _ _ (newExc (.type "StopIteration") [] >>= _) _ _ _
 refine wpAny_bind ?_
 simp only [newExc,newTuple]
 refine wpAny_bind (wpAny_newObj_type ?_ (by size_fits))
 refine wpAny_bind (m:=firstArgMember _ _) (wpAny_of_eq (a:=Value.none) (by first | rfl | (simp only [firstArgMember]; rfl)) ?_)
 refine wpAny_newObj_type ?_ (by size_fits)
 simp only [raiseNew]
 refine wpAny_bind (wpAny_handled ?_)
 first | rw [show A.in1.handled=none from hh] | rw [hh]
 refine wpAny_bind (wpAny_pure (wpAny_throw ?_))
 exact hE _ _ (((Heap.SameBut.update ..).extBut.push _).push _) ⟨_,Heap.get?_push_size _ rfl,rfl⟩
end
theorem mj {prog:Program} {w:World} {A:Around} (hh:A.handled=none) (it l:Addr) (hne:l≠it) (items:Array Value) :
  Draws prog w A it [it,l] items.size (fun i v=>items[i]? = some v) (fun i h=>h.IsTupleIter it l i∧h.IsTuple l items) where
 live:=fun _ _ st=>let ⟨o,ho,_⟩:=st.1; ⟨o,ho⟩
 frame:=fun _ _ _ st hk=>⟨st.1.at fun o e=>hk it (by simp) o e,let ⟨o,ho,r⟩:=st.2; ⟨o,hk l (by simp) o ho,r⟩⟩
 item:=fun i s Q E hi st hQ=>by
  refine eh st.1 st.2 (x:=items[i]) (by simp [hi]) fun h' hit' hs'=>?_
  exact hQ _ h' s.toks (by simp [hi]) ⟨hit',st.2.extBut hs'.extBut hne⟩ hs'
 done:=fun s Q E st hE=>cw hh st.1 st.2 (by simp) hE
theorem eW (l:Addr) (items:Array Value) (n:Nat) (dct:Option Addr) (sl:Array (Option Value)) :
  Meets (Builtin.«enumerate.__new__» ⟨[.type "enumerate",.ref l],[]⟩) (fun _ R s=>s.heap.get? l=some { cls:=.type "tuple",dict:=dct,data:=.seq items n,slots:=sl } ∧
   R (.ok (.ret (.ref (s.heap.push { cls:=.type "tuple_iterator",data:=.fields #[.ref l,.int 0 0] }).objs.size)))
    { s with heap:=(s.heap.push { cls:=.type "tuple_iterator",data:=.fields #[.ref l,.int 0 0] }).push { cls:=.type "enumerate",data:=.fields #[.none,.bool false,.ref s.heap.objs.size,rawInt 0,.none,.none] } }) :=
 .of_wp fun prog w A R s h=>by
  obtain ⟨hp,g,d,tk,os⟩:=s; obtain ⟨hl,h⟩:=h
  have hsub:=sub_enumerate
  have hL:Heap.IsTuple (Shared.heap ⟨hp,g,d,tk,os⟩) l items:=⟨_,hl,rfl,n,rfl⟩
  wp_walk using wpAny_loadPart' hl
  refine wpAny_stack_any fun st=>wpAny_pure ?_
  split
  ·rename_i c _ _ _ _ _
   cases (c == Value.type "enumerate")
   ·wp_walk using wpAny_loadPart' hl,wpAny_pyIter_tuple hL
    exact ⟨_,rfl,h⟩
   ·wp_walk using wpAny_loadPart' hl,wpAny_pyIter_tuple hL
    exact ⟨_,rfl,h⟩
  ·wp_walk using wpAny_loadPart' hl,wpAny_pyIter_tuple hL
   exact ⟨_,rfl,h⟩
section
variable {prog:Program} {w:World} {A:Around} {E:Value→Shared→Prop} {s:Shared}
theorem cR {l:Addr} {items:Array Value} {Q:Value→Shared→Prop} (hL:s.heap.IsTuple l items)
  (h:∀h',IsEnum h' (s.heap.objs.size + 1) s.heap.objs.size 0 .none→h'.IsTupleIter s.heap.objs.size l 0→h'.objs.size=s.heap.objs.size + 2 →
   (∀b o,s.heap.get? b=some o→h'.get? b=some o)→Q (.ref (s.heap.objs.size + 1)) { s with heap:=h' }) :
  wpAny (model prog w) A (call (.type "enumerate") [.ref l]) Q E s:=by
 obtain ⟨⟨c,dct,dt,sl⟩,hl,hc,n,hd⟩:=hL
 replace hc:c=.type "tuple" := hc
 replace hd:dt=.seq items n:=hd
 subst hc hd
 refine callType_new F.called_enumerate (by decide) (F.typeCall_enumerate_1 _) (F.newCall_enumerate_1 _) (fun obj=>F.args_object_init_2 obj _) F.entry_enumerate_new
  (eW l items n dct sl) ⟨hl,?_⟩
 have hz:(s.heap.push { cls:=.type "tuple_iterator",data:=.fields #[.ref l,.int 0 0] }).objs.size=s.heap.objs.size + 1:=Heap.size_push ..
 show _∧_
 rw [hz]
 have he:IsEnum ((s.heap.push { cls:=.type "tuple_iterator",data:=.fields #[.ref l,.int 0 0] }).push
   { cls:=.type "enumerate",data:=.fields #[.none,.bool false,.ref s.heap.objs.size,rawInt 0,.none,.none] }) (s.heap.objs.size + 1) s.heap.objs.size 0 .none:=by
  have:=Heap.get?_push_size (s.heap.push { cls:=.type "tuple_iterator",data:=.fields #[.ref l,.int 0 0] })
   (o:={ cls:=.type "enumerate",data:=.fields #[.none,.bool false,.ref s.heap.objs.size,rawInt 0,.none,.none] }) rfl
  rw [hz] at this; exact this
 refine ⟨⟨_,he,rfl⟩,h _ he ⟨_,Heap.get?_push_of_some _ (Heap.get?_push_size _ rfl),rfl,rfl⟩ (by rw [Heap.size_push,hz]) fun b o x=>Heap.get?_push_of_some _ (Heap.get?_push_of_some _ x)⟩
end
end PySem
set_option Elab.async false
set_option linter.all false
set_option maxRecDepth 100000
namespace L2
open PySem PySem.Spec PyProof.Rows
def Ite (f:List V→HO) (l:Addr):It :=
  ⟨fun i H=>∃xs x,H l=some (f xs)∧xs[i]? = some x,
   fun i H v H'=>∃p xs x,H p=none∧v=.ref p∧H'=upd H p (.tup [.int i,x])∧H l=some (f xs)∧xs[i]? = some x,
   fun i H=>∃xs,H l=some (f xs)∧xs.length≤i⟩
section
variable {X:Cx} {pins:List (Addr×Obj)} {σ:St} {H:Hp} {s:Shared}
theorem fG {f:List V→HO} {tn:Nat→Heap→Prop} {es:List Expr} {kk:Nat} {tp:Pos} {e it l:Addr} {i:Nat} {xs:List V} {x:V} {u:Value} {tk:Nat} {h':Heap} {E:Value→Shared→Prop} (hne:e≠it) (I:Inv X pins σ H s) (hf:∀b∈[e,it],dq X pins H b) (hl:H l=some (f xs)) (hx:xs[i]? = some x)
  (ho:∀b∈[e, it], b < s.heap.objs.size) (r:RelV x u) (b1:IsEnumOut h' e it ((i:Int) + 1) u s.heap.objs.size) (b3:h'.get? s.heap.objs.size=some { cls:=.type "tuple", data:=.seq #[.int i tk, u] })
  (bk:∀b o,b≠e→b≠it→s.heap.get? b=some o→h'.get? b=some o) (hn:∀h'',IsEnum h'' e it ((i + 1:Nat):Int) u→Heap.SameBut e h' h''→tn (i + 1) h'') :
  wpAny (model X.prog X.w) X.A (letOwnedTupleGo (.Tuple es kk tp) (.ref e) (.ref s.heap.objs.size)) (fun _ s2=>∃x H',Inv X pins σ H' s2∧RelV x (.ref s.heap.objs.size)∧(Ite f l).yld i H x H'∧tn (i + 1) s2.heap∧∀b∈[e,it],H' b=none) E { s with heap:=h',toks:=tk + 1 }:=by
 refine wpAny_letOwnedTupleGo_enum b1 fun h'' c1 cs=>?_
 have es':e < s.heap.objs.size:=ho e (by simp)
 have k2:∀b o,b∉[e,it]→s.heap.get? b=some o→h''.get? b=some o:=fun b o hb q=>by
  simp only [List.mem_cons,List.not_mem_nil,or_false,not_or] at hb
  exact cs.extBut b o hb.1 (bk b o hb.1 hb.2 q)
 have I1:Inv X pins σ H { s with heap:=h'',toks:=tk + 1 }:=I.turnedN (t':=tk + 1) hf k2
 have hp:h''.get? s.heap.objs.size=some { cls:=.type "tuple", data:=.seq #[.int i tk, u] }:=cs.extBut _ _ (Nat.ne_of_gt es') b3
 have hn0:H s.heap.objs.size=none:=I.hok.fresh (Nat.le_refl _)
 have fpk:=I.fpOk (H':=H) (Nat.le_refl _) hn0
 have I2:Inv X pins σ (upd H s.heap.objs.size (.tup [.int i,x])) { s with heap:=h'',toks:=tk + 1 }:=I1.track fpk I.sz ⟨by show 2≤sizeLine; decide,[.int i tk,u],.cons ⟨tk,rfl⟩ (.cons r .nil),_,hp,rfl,_,rfl⟩
 refine ⟨.ref s.heap.objs.size,_,I2,rfl,⟨_,xs,x,hn0,rfl,rfl,hl,hx⟩,hn h'' c1 cs,fun b hb=>?_⟩
 rw [aj (Nat.ne_of_lt (ho b hb))]
 exact (hf b hb).1
end
theorem iA {P:Program} {w:World} {K:PySem.W.Frag} {es:List Expr} {kk:Nat} {tp:Pos} (l e it:Addr) (hne:e≠it) :
  Turn P w K (.Tuple es kk tp) (Ite .lst l) [e,it] e (fun i h=>(∃old,IsEnum h e it i old)∧h.IsListIter it l i) where
 mem:=by simp
 obj:=fun i h st b hb=>by
  obtain ⟨⟨old,a1⟩,⟨o2,a2,_,d2⟩⟩:=st
  simp only [List.mem_cons,List.not_mem_nil,or_false] at hb
  rcases hb with rfl | rfl
  ·exact ⟨_,a1,fun v q=>by cases q⟩
  ·exact ⟨_,a2,fun v q=>by rw [d2] at q; cases q⟩
 keep:=fun i h h' st k=>by
  obtain ⟨⟨old,a1⟩,a2⟩:=st
  exact ⟨⟨old,k e (by simp) _ a1⟩,a2.at fun o q=>k it (by simp) o q⟩
 item:=by
  intro X hP hw hK hc i pins s σ H E I hf st hg
  subst hP hw hK
  obtain ⟨⟨old,a1⟩,a2⟩:=st
  obtain ⟨xs,x,e1,ex⟩:=hg
  obtain ⟨its,rv,p1,_⟩:=I.list (SqL.of e1)
  obtain ⟨u,hu,r⟩:=rv.get ex
  have ho:∀b∈[e,it],b < s.heap.objs.size:=fun b hb=>by
   obtain ⟨o2,a2',_⟩:=a2
   simp only [List.mem_cons,List.not_mem_nil,or_false] at hb
   rcases hb with rfl | rfl
   ·exact Heap.lt_size a1
   ·exact Heap.lt_size a2'
  refine wpAny_pyNext_enum_item a1 a2 p1.isList (x:=u) (by simpa using hu) hne fun h' b1 b2 b3 b4 bk=>⟨_,rfl,?_⟩
  exact fG (tn:=fun i h=>(∃old,IsEnum h e it i old)∧h.IsListIter it l i) hne I hf e1 ex ho r b1 b3 bk fun h'' c1 cs=>⟨⟨u,c1⟩,b2.extBut cs.extBut (Ne.symm hne)⟩
 done:=by
  intro X hP hw hK hc i pins s σ H E I hf st hg
  subst hP hw hK
  obtain ⟨⟨old,a1⟩,a2⟩:=st
  obtain ⟨xs,e1,ex⟩:=hg
  obtain ⟨its,rv,p1,_⟩:=I.list (SqL.of e1)
  have lv:=rv.length
  refine wpAny_pyNext_enum_end (I.ok.hd hc) a1 a2 p1.isList (by simp; omega) fun h' bk=>⟨rfl,?_⟩
  exact I.turnedN (t':=s.toks) hf fun b o hb q=>by
   simp only [List.mem_cons,List.not_mem_nil,or_false,not_or] at hb
   exact bk b o hb.2 q
 self:=fun _ _ _ _ _ st h=>by obtain ⟨⟨old,a1⟩,_⟩:=st; exact wpAny_pyIter_enum a1 h
theorem iB {P:Program} {w:World} {K:PySem.W.Frag} {es:List Expr} {kk:Nat} {tp:Pos} (l e it:Addr) (hne:e≠it) :
  Turn P w K (.Tuple es kk tp) (Ite .tup l) [e,it] e (fun i h=>(∃old,IsEnum h e it i old)∧h.IsTupleIter it l i) where
 mem:=by simp
 obj:=fun i h st b hb=>by
  obtain ⟨⟨old,a1⟩,⟨o2,a2,_,d2⟩⟩:=st
  simp only [List.mem_cons,List.not_mem_nil,or_false] at hb
  rcases hb with rfl | rfl
  ·exact ⟨_,a1,fun v q=>by cases q⟩
  ·exact ⟨_,a2,fun v q=>by rw [d2] at q; cases q⟩
 keep:=fun i h h' st k=>by
  obtain ⟨⟨old,a1⟩,a2⟩:=st
  exact ⟨⟨old,k e (by simp) _ a1⟩,a2.at fun o q=>k it (by simp) o q⟩
 item:=by
  intro X hP hw hK hc i pins s σ H E I hf st hg
  subst hP hw hK
  obtain ⟨⟨old,a1⟩,a2⟩:=st
  obtain ⟨xs,x,e1,ex⟩:=hg
  obtain ⟨its,rv,p1,_⟩:=I.tuple (SqT.of e1)
  obtain ⟨u,hu,r⟩:=rv.get ex
  have lt:i < its.toArray.size:=by simp; exact (List.getElem?_eq_some_iff.mp hu).1
  have ho:∀b∈[e,it],b < s.heap.objs.size:=fun b hb=>by
   obtain ⟨o2,a2',_⟩:=a2
   simp only [List.mem_cons,List.not_mem_nil,or_false] at hb
   rcases hb with rfl | rfl
   ·exact Heap.lt_size a1
   ·exact Heap.lt_size a2'
  have nl:∀b∈[e,it],l≠b:=fun b hb q=>by rw [q,(hf b hb).1] at e1; cases e1
  have p1':s.heap.IsTuple l its.toArray:=p1
  have DD:Draws X.prog X.w X.A.in1 it [it,l] its.toArray.size (fun i v=>its.toArray[i]? = some v) (fun i h=>h.IsTupleIter it l i∧h.IsTuple l its.toArray):=mj (show X.A.in1.handled=none from I.ok.hd hc) it l (nl it (by simp)) its.toArray
  refine wpAny_pyNext_enum_itemD DD a1 ⟨a2,p1'⟩ lt hne (by simp only [List.mem_cons,List.not_mem_nil,or_false,not_or]; exact ⟨hne,Ne.symm (nl e (by simp))⟩) fun x' h' tk px b1 b2 b3 b4 bk=>⟨_,rfl,?_⟩
  have hu':its.toArray[i]? = some u:=by simpa using hu
  have eu:u=x':=Option.some.inj (hu'.symm.trans px)
  subst eu
  exact fG (tn:=fun i h=>(∃old,IsEnum h e it i old)∧h.IsTupleIter it l i) hne I hf e1 ex ho r b1 b3 bk fun h'' c1 cs=>⟨⟨u,c1⟩,b2.1.extBut cs.extBut (Ne.symm hne)⟩
 done:=by
  intro X hP hw hK hc i pins s σ H E I hf st hg
  subst hP hw hK
  obtain ⟨⟨old,a1⟩,a2⟩:=st
  obtain ⟨xs,e1,ex⟩:=hg
  obtain ⟨its,rv,p1,_⟩:=I.tuple (SqT.of e1)
  have lv:=rv.length
  have p1':s.heap.IsTuple l its.toArray:=p1
  have hT:s.TypeIs (.ref e) "enumerate" := ⟨_,a1,rfl⟩
  unfold pyNext
  refine wpAny_bind (wpAny_attempt (wpAny_callSpecial?_slot (name:=Str.ofString "__next__") hT F.slot_enumerate_next
   (wpAny_call_entry F.slot_enumerate_next hT F.entry_enumerate_next ?_ (F.args_enumerate_next_1 _))))
  show wpAny _ _ (field (.ref e) 2 >>= _) _ _ _
  refine wpAny_bind (wpAny_field a1 rfl (x:=.ref it) rfl ?_)
  refine wpAny_bind (cw (I.ok.hd hc) a2 p1' (by simp; omega) fun h' x he' hx'=>?_)
  obtain ⟨o,ho,hc⟩:=hx'
  refine wpAny_bind (wpAny_isInstance (T := "StopIteration") (b:=true) ⟨o,ho,hc⟩ isSubtype_stop ?_)
  refine wpAny_pure ⟨rfl,?_⟩
  exact I.turnedN (t':=s.toks) hf fun b o hb q=>by
   simp only [List.mem_cons,List.not_mem_nil,or_false,not_or] at hb
   exact he' b o hb.2 q
 self:=fun _ _ _ _ _ st h=>by obtain ⟨⟨old,a1⟩,_⟩:=st; exact wpAny_pyIter_enum a1 h
def tD (ta:TA):TI:=fun σ H R=>ta σ H fun vs H1=>∃l xs,vs=[.ref l]∧((H1 l=some (.lst xs)∧R (Ite .lst l) H1)∨(H1 l=some (.tup xs)∧R (Ite .tup l) H1))
theorem oe {X:Cx} {a:Expr} {ta:TA} {p pos tp:Pos} {es:List Expr} {kk:Nat} (hg:Gl X "enumerate") (hm:X.mg "enumerate" = none) (ha:PA X [a] ta)
  (hs:starEach [a] X.env=[(false,eval a X.env)]:=by rfl) :
  PI X (.Tuple es kk tp) (.Call (.Name "enumerate" p) [a] [] pos) (tD ta):=by
 intro pins s σ H R I h
 refine Call_ (eJ I hg hm PyProof.Rows.boot_enumerate (PyProof.Rows.callWith_type1 (thn (ha pos pins s σ H _ I h) fun us s1 ⟨vs,H1,I1,r1,q1⟩=>?_) (by rw [hs]; rfl) (by rfl)))
 obtain ⟨l,xs,rfl,q⟩:=q1
 cases r1 with
 | cons r rr =>
  cases rr
  cases r
  rcases q with ⟨e1,q⟩ | ⟨e1,q⟩
  ·obtain ⟨its1,rv1,p1,_⟩:=I1.list (SqL.of e1)
   refine call_enumerate_list p1.isList fun h' z1 z2 sz keep=>?_
   have I2:Inv X pins σ H1 { s1 with heap:=h' }:=I1.kept (t':=s1.toks) keep
   refine wpAny_pyIter_enum z1 ⟨s1.heap.objs.size + 1,[s1.heap.objs.size + 1,s1.heap.objs.size],_,_,H1,rfl,I2,iA l _ _ (Nat.succ_ne_self _),⟨⟨_,z1⟩,z2⟩,fun b hb=>?_,q⟩
   have hb':s1.heap.objs.size≤b:=by
    simp only [List.mem_cons,List.not_mem_nil,or_false] at hb
    rcases hb with rfl | rfl <;> omega
   exact I1.fpOk hb' (I1.hok.fresh hb')
  ·obtain ⟨its1,rv1,p1,_⟩:=I1.tuple (SqT.of e1)
   have p1':s1.heap.IsTuple l its1.toArray:=p1
   refine cR p1' fun h' z1 z2 sz keep=>?_
   have I2:Inv X pins σ H1 { s1 with heap:=h' }:=I1.kept (t':=s1.toks) keep
   refine wpAny_pyIter_enum z1 ⟨s1.heap.objs.size + 1,[s1.heap.objs.size + 1,s1.heap.objs.size],_,_,H1,rfl,I2,iB l _ _ (Nat.succ_ne_self _),⟨⟨_,z1⟩,z2⟩,fun b hb=>?_,q⟩
   have hb':s1.heap.objs.size≤b:=by
    simp only [List.mem_cons,List.not_mem_nil,or_false] at hb
    rcases hb with rfl | rfl <;> omega
   exact I1.fpOk hb' (I1.hok.fresh hb')
theorem mm {f:List V→HO} (hf:∀xs ys,f xs=f ys→xs=ys) {l:Addr} {xs:List V} {g:TG} {tb:TS} {D:Ends} {σ:St} {H:Hp} (Pv:Nat→St→Hp→Prop) (h0:Pv 0 σ H) (hk:∀i σ H',Pv i σ H'→H' l=some (f xs))
  (ht:∀i x p σ H,xs[i]? = some x→H p=none→Pv i σ H→g (.ref p) σ (upd H p (.tup [.int i,x])) fun σ2 H2=>tb { D with nx:=Pv (i + 1),ct:=Pv (i + 1),bk:=D.nx } σ2 H2) (hd:∀σ H,Pv xs.length σ H→D.nx σ H) :
  ∃W:Nat→Nat→St→Hp→Prop,(∃m,W 0 m σ H)∧∀i m σ H,W i m σ H →
   ((Ite f l).stop i H∧D.nx σ H)∨((Ite f l).go i H∧∃N:St→Hp→Prop,(∀σ' H',N σ' H'→∃m',m' < m∧W (i + 1) m' σ' H')∧∀x H',(Ite f l).yld i H x H'→g x σ H' fun σ2 H2=>tb { D with nx:=N,ct:=N,bk:=D.nx } σ2 H2):=by
 refine ⟨fun i m σ H=>m=xs.length - i∧i≤xs.length∧Pv i σ H,⟨xs.length,by simp,Nat.zero_le _,h0⟩,?_⟩
 rintro i m σ H ⟨rfl,hi,p⟩
 have e1:=hk i σ H p
 by_cases hlt:i < xs.length
 ·refine .inr ⟨⟨xs,xs[i],e1,by simp [hlt]⟩,Pv (i + 1),fun σ' H' p'=>⟨xs.length - (i + 1),by omega,rfl,hlt,p'⟩,fun v H' y=>?_⟩
  obtain ⟨q,xs',x,hq,rfl,rfl,e1',ex⟩:=y
  rw [e1] at e1'
  cases hf _ _ (Option.some.inj e1')
  exact ht i x q σ H ex hq p
 ·have e:i=xs.length:=by omega
  subst e
  exact .inl ⟨⟨xs,e1,Nat.le_refl _⟩,hd σ H p⟩
end L2
set_option Elab.async false
set_option linter.all false
set_option maxRecDepth 100000
namespace Pc
open PySem L2
def aT (k:Kd):Bool:=k.tu && !decide (k.w=k.h)
def lyT (i:Nat) (k:Kd):List (Nat×Bool):=(i,false) :: if aT k=true then [(i,true)] else []
def lyK:List Kd→Nat→List (Nat×Bool)
 | [],_=>[]
 | k :: r,i=>lyT i k ++ lyK r (i + 1)
theorem gN (k:Kd):∀ (ks:List Kd) (i:Nat),lyK (ks ++ [k]) i=lyK ks i ++ lyT (i + ks.length) k
 | [],i=>by simp [lyK]
 | c :: r,i=>by
  show lyT i c ++ lyK (r ++ [k]) (i + 1)=(lyT i c ++ lyK r (i + 1)) ++ _
  rw [gN k r (i + 1),List.append_assoc]
  congr 2
  simp only [List.length_cons]
  congr 1
  omega
theorem og (i:Nat) (k:Kd):(lyT i k).length≤2:=by unfold lyT; split <;> simp
theorem gg:∀ (ks:List Kd) (i:Nat),(lyK ks i).length≤2 * ks.length
 | [],i=>by simp [lyK]
 | c :: r,i=>by
  have:=gg r (i + 1)
  have:=og i c
  simp only [lyK,List.length_append,List.length_cons]
  omega
def eX (K:PySem.W.Frag):Sp:=fun vs H Q _=>∃ (a:Addr) (k:Kd),vs=[.ref a]∧H a=some (.tup (kdV k))∧Q (.bl (aT k)) H
def cH (ks:List Kd) (x t:V):Bool:=match x,t with
 | .int i,.bl b=>decide (0≤i) && match ks[i.toNat]? with
  | some k=>!b || aT k
  | none=>false
 | _,_=>false
def cD (K:PySem.W.Frag) (C:Addr):Sp:=fun vs H Q _=>∃ (s:Addr) (b:Int) (ks:List Kd) (x t:V) (T U:String),vs=[.ref s,x,t]∧ShopAt C H s b ks∧Ty K H x T∧Ty K H t U∧Q (.bl (cH ks x t)) H
end Pc
set_option Elab.async false
set_option linter.all false
set_option maxRecDepth 100000
namespace L2
open PySem PySem.Spec PyProof.Rows
section
variable {X:Cx}
theorem mn {k:Nat} {C:Addr} {ps:List Str} {sp:Sp} {m:Str} {o:Expr} {e:Expr} {es:List Expr} {ta:TE} {t:TA} {apos pos:Pos} {pl:Sem Bool} (he:PE X o ta) (c:Cls X.K C) (D:Mn X.prog X.w X.K X.mg X.base C m ps k sp) (hr:Room k X.A) (ha:PA X (e :: es) t)
  (hst:starEach (e :: es) X.env=(false,eval e X.env) :: starEach es X.env:=by rfl) (hpl:(backTo pos (starEach es X.env)).any (·.1)=false:=by rfl)
  (ht:eval (.Call (.Attribute o m apos) (e :: es) [] pos) X.env=(do
   let ov←eval o X.env
   standAt apos.atName
   let (f,first)←holding [ov] (getMethod ov m pl)
   callWith pos f first (backTo pos (starEach (e :: es) X.env)) (backToKw pos (keywordEach [] X.env))):=by rfl):PE X (.Call (.Attribute o m apos) (e :: es) [] pos) (jg C m sp [] E0 ta t):=by
 obtain ⟨f,fd,F,hb,hm⟩:=D
 exact nR he c hm F hr hb .nil jk ha hst hpl ht
end
end L2
set_option Elab.async false
set_option linter.all false
set_option maxRecDepth 100000
namespace L2
open PySem PySem.Spec PyProof.Rows
section
variable {X:Cx}
end
theorem aR {α:Type} {xs:List α} {i:Int} {v:α} (h0:0≤i) (h:xs[i.toNat]? = some v):atI xs i=some v:=by
 have e:i=((i.toNat:Nat):Int):=by omega
 have z:atI xs ((i.toNat:Nat):Int)=some v:=nW h
 rw [← e] at z; exact z
end L2
namespace Pc
open PySem L2
def iC (K:PySem.W.Frag):Sp:=fun vs H Q _=>∃ (a:Addr) (ns:List Int) (n:Int),vs=[.ref a,.int n]∧SqL K H a (ns.map V.int)∧0≤n∧∀c:Int,Q (.int c) H
end Pc
set_option Elab.async false
set_option linter.all false
set_option maxRecDepth 100000
namespace L2
open PySem
end L2
namespace Pc
open PySem L2
def Short (i:Int):Prop:=i.natAbs < 10 ^ 62
theorem Short.log {i:Int} (h:Short i):i.natAbs.log2 < 1920:=by
 unfold Short at h
 rcases Nat.eq_zero_or_pos i.natAbs with h0 | hp
 ·rw [h0]; decide
 ·refine (Nat.log2_lt (Nat.ne_of_gt hp)).mpr (Nat.lt_trans h ?_)
  decide +kernel
theorem Short.len {i:Int} (h:Short i):(PyData.shown (.int i)).length≤63:=by
 show (Str.ofString (toString i)).length≤63
 rw [ofString_length]
 exact int_text_length_le10 (by decide) h
end Pc
set_option Elab.async false
set_option linter.all false
set_option maxRecDepth 100000
namespace PyProof.Rows
set_option autoImplicit false
open PySem
structure SBaseT (κ0:SortKind) (a₀:Array Keyed) (st:SortSt):Prop where
 perm:(arrOf st).Perm a₀
 kind:kindOf st=κ0
 failed:failedOf st=none
 pend:pendingOf st=#[]
theorem SBaseT.size {κ0:SortKind} {a₀:Array Keyed} {st:SortSt} (h:SBaseT κ0 a₀ st):(arrOf st).size=a₀.size:=h.perm.size_eq
theorem SBaseT.setArr {κ0:SortKind} {a₀:Array Keyed} {st:SortSt} (h:SBaseT κ0 a₀ st) {xs:Array Keyed} (hp:xs.Perm (arrOf st)):SBaseT κ0 a₀ (setArr st xs) :=
 ⟨hp.trans h.perm,h.kind,h.failed,h.pend⟩
theorem SBaseT.atK {κ:KeyKind} {κ0:SortKind} {a₀:Array Keyed} {st:SortSt} (h:SBaseT κ0 a₀ st) (h0:KeysOf κ a₀) {i:Nat} (hi:i < a₀.size) :
  ∃x p a,(arrOf st)[i]? = some (x,p)∧κ.keyOf x=some a∧KK κ (arrOf st) i=a:=by
 have hi':i < (arrOf st).size:=by rw [h.size]; exact hi
 have hm:(arrOf st)[i]∈a₀.toList:=(Array.perm_iff_toList_perm.mp h.perm).mem_iff.mp (by simp)
 obtain ⟨a,ha⟩:=h0 _ hm
 have e:(arrOf st)[i]? = some (arrOf st)[i]:=getElem?_pos _ i hi'
 refine ⟨(arrOf st)[i].1,(arrOf st)[i].2,a,by rw [e],ha,?_⟩
 unfold KK; rw [e]; simp [ha]
def bC (prog:Program) (w:World) (A:Around) (s:Shared) (κ0:SortKind) (κ:KeyKind):Prop :=
 ∀ (E:Value→Shared→Prop) (x y:Value) (a b:κ.α) (Q:Bool→Shared→Prop),κ.keyOf x=some a→κ.keyOf y=some b→Q (κ.blt a b) s→wpAny (model prog w) A (keyLt' κ0 x y) Q E s
section
variable {prog:Program} {w:World} {A:Around} {E:Value→Shared→Prop} {s:Shared} {a₀:Array Keyed} {κ:KeyKind} {κ0:SortKind}
theorem iD (hO:bC prog w A s κ0 κ) {st:SortSt} {i j:Nat} {x y:Value} {a b:κ.α} {p q:Value} {Q:Option Bool→SortSt→Prop} (hk:kindOf st=κ0)
  (hi:(arrOf st)[i]? = some (x,p)) (hj:(arrOf st)[j]? = some (y,q)) (ha:κ.keyOf x=some a) (hb:κ.keyOf y=some b) (h:Q (some (κ.blt a b)) st) :
  wpS (model prog w) A E s (ltAt' i j) Q st:=by
 rw [ltAt'_eq]
 refine wpS_bind (wpS_get ?_)
 show wpS _ _ _ _ (do let x←elem' (arrOf st) i; let y←elem' (arrOf st) j; lt' x y) Q st
 rw [elem'_eq,elem'_eq,hi,hj]
 refine wpS_bind (wpS_pure (wpS_bind (wpS_pure ?_)))
 rw [lt'_eq]
 refine wpS_bind (wpS_get ?_)
 rw [hk]
 refine wpS_bind (wpS_lift (wpAny_attempt (hO _ x y a b _ ha hb ⟨rfl,?_⟩)))
 exact wpS_pure h
theorem bZ {st:SortSt} {i j:Nat} {Q:Option Bool→SortSt→Prop} (hO:bC prog w A s κ0 κ) (hB:SBaseT κ0 a₀ st) (h0:KeysOf κ a₀) (hi:i < a₀.size) (hj:j < a₀.size)
  (h:Q (some (κ.blt (KK κ (arrOf st) i) (KK κ (arrOf st) j))) st):wpS (model prog w) A E s (ltAt' i j) Q st:=by
 obtain ⟨x,p,a,e1,ha,ka⟩:=hB.atK h0 hi
 obtain ⟨y,q,b,e2,hb,kb⟩:=hB.atK h0 hj
 rw [ka,kb] at h
 exact iD hO hB.kind e1 e2 ha hb h
theorem dL {st:SortSt} {n ok:Nat} {Q:Bool→SortSt→Prop} (hO:bC prog w A s κ0 κ) (h0:KeysOf κ a₀) (hn:n≤a₀.size) (hok:ok≤n) (hB:SBaseT κ0 a₀ st) (hs:SortedToK κ (arrOf st) ok)
  (h:∀st',SBaseT κ0 a₀ st'→SortedToK κ (arrOf st') n→Q true st'):wpS (model prog w) A E s (binarySort' 0 n ok) Q st:=by
 rw [binarySort'_eq]
 simp only [Nat.zero_add]
 refine wpS_bind (wpS_mono (wpS_forRange (I:=fun k c st'=>c=(none,())∧SBaseT κ0 a₀ st'∧SortedToK κ (arrOf st') (min k n))
  (Q:=fun c st'=>c=(none,())∧SBaseT κ0 a₀ st'∧SortedToK κ (arrOf st') n) ?step ?fin ?init) ?post)
 case post =>
  rintro c st' ⟨rfl,hB',hs'⟩
  exact wpS_pure (h st' hB' hs')
 case init =>
  refine ⟨rfl,hB,fun i j hij hj=>?_⟩
  by_cases h1:ok=0
  ·have:i=j:=by omega
   subst this; exact KeyOrd.kle_refl _
  ·exact hs i j hij (by omega)
 case fin =>
  rintro c st' ⟨hc,hB',hs'⟩
  refine ⟨hc,hB',?_⟩
  rwa [show min (max (max ok 1) n) n=n by omega] at hs'
 case step =>
  rintro k c st' hak hkn ⟨rfl,hB',hs'⟩
  rw [show min k n=k by omega] at hs'
  have hk:k < a₀.size:=by omega
  refine wpS_bind (wpS_mono (wpS_forRange (I:=fun x c st''=>st''=st'∧∃l r,c=(none,l,r)∧l≤r∧r≤k∧r - l≤k - x ∧
    (∀i,i < l→κ.kle (KK κ (arrOf st') i) (KK κ (arrOf st') k))∧(∀i,r≤i→i < k→κ.klt (KK κ (arrOf st') k) (KK κ (arrOf st') i)))
   (Q:=fun c st''=>st''=st'∧∃l r,c=(none,l,r)∧l≤k ∧
    (∀i,i < l→κ.kle (KK κ (arrOf st') i) (KK κ (arrOf st') k))∧(∀i,l≤i→i < k→κ.klt (KK κ (arrOf st') k) (KK κ (arrOf st') i))) ?istep ?ifin ?iinit) ?ipost)
  case iinit=>exact ⟨rfl,0,k,rfl,by omega,by omega,by omega,fun i hi=>by omega,fun i h1 h2=>by omega⟩
  case ifin =>
   rintro c st'' ⟨rfl,l,r,rfl,hlr,hrk,hm,hlo,hhi⟩
   have:l=r:=by omega
   subst this
   exact ⟨rfl,l,l,rfl,hrk,hlo,hhi⟩
  case istep =>
   rintro x c st'' _ hxk ⟨rfl,l,r,rfl,hlr,hrk,hm,hlo,hhi⟩
   dsimp only
   by_cases hge:l≥r
   ·rw [if_pos hge]
    have:l=r:=by omega
    subst this
    exact wpS_pure ⟨rfl,l,l,rfl,hrk,hlo,hhi⟩
   ·rw [if_neg hge]
    refine wpS_bind (bZ hO hB' h0 hk (by omega) ?_)
    cases hless:κ.blt (KK κ (arrOf st'') k) (KK κ (arrOf st'') ((l + r) / 2))
    case true =>
     simp only [if_true]
     refine wpS_pure ⟨rfl,l,(l + r) / 2,rfl,by omega,by omega,by omega,hlo,fun i h1 h2=>?_⟩
     exact KeyOrd.klt_of_klt_of_kle hless (hs' _ _ h1 h2)
    case false =>
     simp only [Bool.false_eq_true,if_false]
     refine wpS_pure ⟨rfl,(l + r) / 2 + 1,r,rfl,by omega,by omega,by omega,fun i h1=>?_,hhi⟩
     exact KeyOrd.kle_trans (hs' i ((l + r) / 2) (by omega) (by omega)) (show κ.kle _ _ from hless)
  case ipost =>
   rintro c st'' ⟨rfl,l,r,rfl,hlk,hlo,hhi⟩
   show wpS _ _ _ _ (do moveDown' k l; pure (ForInStep.yield (none,()))) _ _
   rw [moveDown'_eq]
   refine wpS_bind (wpS_modify (wpS_pure ⟨rfl,hB'.setArr (bubble_perm _ _ _),?_⟩))
   rw [show min (k + 1) n=k + 1 by omega]
   have hks:k < (arrOf st'').size:=by rw [hB'.size]; exact hk
   intro i j hij hj
   show κ.kle (KK κ (bubble (arrOf st'') k (k - l)) i) (KK κ (bubble (arrOf st'') k (k - l)) j)
   rw [KK_bubble hks (by omega),KK_bubble hks (by omega),show k - (k - l)=l by omega]
   repeat' split
   all_goals first
    | (exfalso; omega)
    | exact KeyOrd.kle_refl _
    | exact hlo _ (by omega)
    | exact KeyOrd.kle_of_klt (hhi _ (by omega) (by omega))
    | exact hs' _ _ (by omega) (by omega)
theorem cK {st:SortSt} {a nrem:Nat} {Q:AscSt→SortSt→Prop} (hO:bC prog w A s κ0 κ) (h0:KeysOf κ a₀) (hn:nrem≤a₀.size) (ha:1≤a) (han:a≤nrem) (hB:SBaseT κ0 a₀ st)
  (hs:SortedToK κ (arrOf st) a)
  (h:∀n,a≤n→n≤nrem→SortedToK κ (arrOf st) n→(n=nrem∨κ.klt (KK κ (arrOf st) n) (KK κ (arrOf st) (n - 1)))→Q (none,n) st) :
  wpS (model prog w) A E s (ascLoop a nrem) Q st:=by
 unfold ascLoop
 refine wpS_forRange (I:=fun x c st'=>st'=st∧c=(none,x)∧SortedToK κ (arrOf st) x) ?step ?fin ⟨rfl,rfl,hs⟩
 case fin =>
  rintro c st' ⟨rfl,rfl,hs'⟩
  rw [show max a nrem=nrem by omega] at hs' ⊢
  exact h nrem han (Nat.le_refl _) hs' (.inl rfl)
 case step =>
  rintro x c st' hax hxn ⟨rfl,rfl,hs'⟩
  dsimp only
  refine wpS_bind (bZ hO hB h0 (by omega) (by omega) ?_)
  cases hless:κ.blt (KK κ (arrOf st') x) (KK κ (arrOf st') (x - 1))
  case true =>
   simp only [if_true]
   exact wpS_pure (h x hax (by omega) hs' (.inr hless))
  case false =>
   simp only [Bool.false_eq_true,if_false]
   refine wpS_pure ⟨rfl,rfl,fun i j hij hj=>?_⟩
   by_cases hjx:j < x
   ·exact hs' i j hij hjx
   ·have hj':j=x:=by omega
    subst hj'
    by_cases hi':i=j
    ·subst hi'; exact KeyOrd.kle_refl _
    ·exact KeyOrd.kle_trans (hs' i (j - 1) (by omega) (by omega)) hless
theorem ec {st:SortSt} {n nrem:Nat} {Q:Option Nat→SortSt→Prop} (hO:bC prog w A s κ0 κ) (h0:KeysOf κ a₀) (hn:nrem≤a₀.size) (h1:1≤n) (hnn:n≤nrem) (hB:SBaseT κ0 a₀ st)
  (hs:NonIncK κ (arrOf st) n) (h:∀m st',SBaseT κ0 a₀ st'→1≤m→m≤nrem→SortedToK κ (arrOf st') m→Q (some m) st') :
  wpS (model prog w) A E s (tail3 n nrem) Q st:=by
 unfold tail3
 have hsz:n≤(arrOf st).size:=by rw [hB.size]; omega
 refine wpS_bind (wpS_reverse ?_)
 have hB':SBaseT κ0 a₀ (setArr st (mirror (arrOf st) 0 n ((n - 0) / 2))):=hB.setArr (mirror_perm _ _ _ _)
 refine wpS_bind (cK hO h0 hn h1 hnn hB' ?_ fun m hm1 hm2 hsm _=>wpS_pure (h m _ hB' (by omega) hm2 hsm))
 intro i j hij hj
 show κ.kle (KK κ (mirror (arrOf st) 0 n ((n - 0) / 2)) i) (KK κ (mirror (arrOf st) 0 n ((n - 0) / 2)) j)
 rw [KK_mirror hsz,KK_mirror hsz,if_pos (by omega),if_pos (by omega)]
 exact hs _ _ (by omega) (by omega)
theorem eY {st:SortSt} {n nrem:Nat} {Q:DescSt→SortSt→Prop} (hO:bC prog w A s κ0 κ) (h0:KeysOf κ a₀) (hn:nrem≤a₀.size) (h1:1≤n) (hnn:n≤nrem) (hB:SBaseT κ0 a₀ st)
  (hs:NonIncK κ (arrOf st) n)
  (h:∀m neq st',SBaseT κ0 a₀ st'→n≤m→m≤nrem→NonIncK κ (arrOf st') m→neq + 1≤m→(∀i,m - (neq + 1)≤i→i < m→KK κ (arrOf st') i=KK κ (arrOf st') (m - 1))→Q (none,m,neq) st') :
  wpS (model prog w) A E s (descLoop n nrem) Q st:=by
 unfold descLoop
 refine wpS_forRange (I:=fun x c st'=>∃neq,c=(none,x,neq)∧SBaseT κ0 a₀ st'∧NonIncK κ (arrOf st') x∧neq + 1≤x ∧
   (∀i,x - (neq + 1)≤i→i < x→KK κ (arrOf st') i=KK κ (arrOf st') (x - 1))) ?step ?fin ⟨0,rfl,hB,hs,by omega,fun i h1 h2=>by congr 1; omega⟩
 case fin =>
  rintro c st' ⟨neq,rfl,hB',hs',hq,he⟩
  rw [show max n nrem=nrem by omega] at hs' hq he ⊢
  exact h nrem neq st' hB' hnn (Nat.le_refl _) hs' hq he
 case step =>
  rintro x c st' hax hxn ⟨neq,rfl,hB',hs',hq,he⟩
  dsimp only
  have hsz:x≤(arrOf st').size:=by rw [hB'.size]; omega
  refine wpS_bind (bZ hO hB' h0 (by omega) (by omega) ?_)
  cases hless:κ.blt (KK κ (arrOf st') x) (KK κ (arrOf st') (x - 1))
  case true =>
   simp only [if_true]
   have step1:∀xs:Array Keyed,(∀k,KK κ xs k=KK κ (arrOf st') k)→NonIncK κ xs (x + 1):=by
    intro xs hk i j hij hj
    rw [hk,hk]
    by_cases hjx:j < x
    ·exact hs' i j hij hjx
    ·have hj':j=x:=by omega
     subst hj'
     by_cases hi':i=j
     ·subst hi'; exact KeyOrd.kle_refl _
     ·exact KeyOrd.kle_trans (KeyOrd.kle_of_klt hless) (hs' i (j - 1) (by omega) (by omega))
   by_cases hneq:neq > 0
   ·rw [if_pos hneq]
    refine wpS_bind (wpS_reverse (wpS_pure ⟨0,rfl,hB'.setArr (mirror_perm _ _ _ _),step1 _ (KK_mirror_equal hsz he),by omega,fun i h1 h2=>by congr 1; omega⟩))
   ·rw [if_neg hneq]
    exact wpS_pure ⟨0,rfl,hB',step1 _ (fun _=>rfl),by omega,fun i h1 h2=>by congr 1; omega⟩
  case false =>
   simp only [Bool.false_eq_true,if_false]
   refine wpS_bind (bZ hO hB' h0 (by omega) (by omega) ?_)
   cases hlarger:κ.blt (KK κ (arrOf st') (x - 1)) (KK κ (arrOf st') x)
   case true =>
    simp only [if_true]
    exact wpS_pure (h x neq st' hB' hax (by omega) hs' hq he)
   case false =>
    simp only [Bool.false_eq_true,if_false]
    have heqx:KK κ (arrOf st') x=KK κ (arrOf st') (x - 1):=KeyOrd.kle_antisymm hlarger hless
    refine wpS_pure ⟨neq + 1,rfl,hB',fun i j hij hj=>?_,by omega,fun i h1 h2=>?_⟩
    ·by_cases hjx:j < x
     ·exact hs' i j hij hjx
     ·have hj':j=x:=by omega
      subst hj'
      by_cases hi':i=j
      ·subst hi'; exact KeyOrd.kle_refl _
      ·rw [heqx]; exact hs' i (j - 1) (by omega) (by omega)
    ·rw [show x + 1 - 1=x by omega]
     by_cases hix:i=x
     ·subst hix; rfl
     ·rw [heqx]; exact he i (by omega) (by omega)
theorem cz {st:SortSt} {n nrem:Nat} {Q:Option Nat→SortSt→Prop} (hO:bC prog w A s κ0 κ) (h0:KeysOf κ a₀) (hn:nrem≤a₀.size) (hnn:n + 1≤nrem) (hB:SBaseT κ0 a₀ st)
  (hs:NonIncK κ (arrOf st) (n + 1)) (h:∀m st',SBaseT κ0 a₀ st'→1≤m→m≤nrem→SortedToK κ (arrOf st') m→Q (some m) st') :
  wpS (model prog w) A E s (descPart n nrem) Q st:=by
 unfold descPart
 refine wpS_bind (wpS_lift (wpAny_rule ⟨rfl,?_⟩))
 refine wpS_bind (eY hO h0 hn (by omega) hnn hB hs fun m neq st' hB' hm1 hm2 hs' hq he=>?_)
 dsimp only
 have hsz:m≤(arrOf st').size:=by rw [hB'.size]; omega
 by_cases hneq:neq > 0
 ·rw [if_pos hneq]
  refine wpS_bind (wpS_reverse (ec hO h0 hn (by omega) hm2 (hB'.setArr (mirror_perm _ _ _ _)) ?_ h))
  intro i j hij hj
  show κ.kle (KK κ (mirror (arrOf st') _ _ _) j) (KK κ (mirror (arrOf st') _ _ _) i)
  rw [KK_mirror_equal hsz he,KK_mirror_equal hsz he]
  exact hs' i j hij hj
 ·rw [if_neg hneq]
  exact ec hO h0 hn (by omega) hm2 hB' hs' h
theorem eZ {st:SortSt} {nrem:Nat} {Q:Option Nat→SortSt→Prop} (hO:bC prog w A s κ0 κ) (h0:KeysOf κ a₀) (hn:nrem≤a₀.size) (h1:1≤nrem) (hB:SBaseT κ0 a₀ st)
  (h:∀m st',SBaseT κ0 a₀ st'→1≤m→m≤nrem→SortedToK κ (arrOf st') m→Q (some m) st') :
  wpS (model prog w) A E s (countRun' 0 nrem) Q st:=by
 rw [countRun0_eq]
 refine wpS_bind (cK hO h0 hn (Nat.le_refl 1) h1 hB (fun i j hij hj=>by have:i=j:=(by omega); subst this; exact KeyOrd.kle_refl _) fun n hn1 hn2 hsn hor=>?_)
 dsimp only
 by_cases hnn:n=nrem
 ·rw [if_pos (by simpa using hnn)]
  exact wpS_pure (h n st hB hn1 hn2 hsn)
 ·rw [if_neg (by simpa using hnn)]
  have hlt:κ.klt (KK κ (arrOf st) n) (KK κ (arrOf st) (n - 1)):=hor.resolve_left hnn
  by_cases hgt:n > 1
  ·rw [if_pos hgt]
   refine wpS_bind (bZ hO hB h0 (by omega) (by omega) ?_)
   cases hrose:κ.blt (KK κ (arrOf st) 0) (KK κ (arrOf st) (n - 1))
   case true =>
    simp only [if_true]
    exact wpS_pure (h n st hB hn1 hn2 hsn)
   case false =>
    simp only [Bool.false_eq_true,if_false]
    have hsz:n≤(arrOf st).size:=by rw [hB.size]; omega
    have hall:∀k,0≤k→k < n→KK κ (arrOf st) k=KK κ (arrOf st) (n - 1):=by
     intro k _ hk
     have a1:=hsn 0 k (by omega) hk
     have a2:=hsn k (n - 1) (by omega) (by omega)
     exact KeyOrd.kle_antisymm a2 (KeyOrd.kle_trans hrose a1)
    refine wpS_bind (wpS_reverse (cz hO h0 hn (by omega) (hB.setArr (mirror_perm _ _ _ _)) ?_ h))
    intro i j hij hj
    show κ.kle (KK κ (mirror (arrOf st) _ _ _) j) (KK κ (mirror (arrOf st) _ _ _) i)
    rw [KK_mirror_equal hsz hall,KK_mirror_equal hsz hall]
    by_cases hjn:j < n
    ·rw [hall i (by omega) (by omega),hall j (by omega) hjn]; exact KeyOrd.kle_refl _
    ·have hj':j=n:=by omega
     subst hj'
     by_cases hi':i=j
     ·subst hi'; exact KeyOrd.kle_refl _
     ·rw [hall i (by omega) (by omega)]; exact KeyOrd.kle_of_klt hlt
  ·rw [if_neg hgt]
   have hn1':n=1:=by omega
   subst hn1'
   refine cz hO h0 hn (by omega) hB ?_ h
   intro i j hij hj
   by_cases hi':i=j
   ·subst hi'; exact KeyOrd.kle_refl _
   ·have hi0:i=0:=by omega
    have hj1:j=1:=by omega
    subst hi0; subst hj1
    exact KeyOrd.kle_of_klt hlt
theorem SBaseT.doneK {st:SortSt} (hB:SBaseT κ0 a₀ st) (hs:SortedToK κ (arrOf st) a₀.size):SDoneK κ a₀ (setPending st ((pendingOf st).push (0,a₀.size,0))) :=
 ⟨hB.perm,hB.failed,by show (pendingOf st).push _=_; rw [hB.pend]; rfl,hs⟩
theorem fb {st:SortSt} {Q:Unit→SortSt→Prop} (hO:bC prog w A s κ0 κ) (h0:KeysOf κ a₀) (hB:SBaseT κ0 a₀ st) (h2:2≤a₀.size) (h64:a₀.size < 64)
  (h:∀st',(arrOf st').Perm a₀→failedOf st'=none→SortedToK κ (arrOf st') a₀.size→Q () st'):wpS (model prog w) A E s sortRuns' Q st:=by
 rw [sortRuns'_eq]
 refine wpS_bind (wpS_get ?_)
 dsimp only
 have hmr:minRun' a₀.size a₀.size 0=a₀.size:=by
  obtain ⟨f,hf⟩:∃f,a₀.size=f + 1:=⟨a₀.size - 1,by omega⟩
  have:minRun' (f + 1) a₀.size 0=a₀.size:=by rw [minRun'_succ,if_pos h64]; rfl
  rwa [← hf] at this
 simp only [hB.size,hmr]
 refine wpS_bind (wpS_mono (wpS_forRange
  (I:=fun x c st'=>(x=0∧c=(none,0)∧SBaseT κ0 a₀ st')∨(1≤x∧c=(none,a₀.size)∧SDoneK κ a₀ st'))
  (Q:=fun c st'=>c=(none,a₀.size)∧SDoneK κ a₀ st') ?step ?fin (.inl ⟨rfl,rfl,hB⟩)) ?post)
 case fin =>
  rintro c st' (⟨hx,_,_⟩ | ⟨_,hc,hD⟩)
  ·omega
  ·exact ⟨hc,hD⟩
 case step =>
  rintro x c st' _ hx (⟨rfl,rfl,hB'⟩ | ⟨hx1,rfl,hD⟩)
  ·dsimp only
   rw [if_neg (by omega)]
   simp only [Nat.sub_zero,Nat.min_self,Nat.zero_add]
   refine wpS_bind (eZ hO h0 (Nat.le_refl _) (by omega) hB' fun m st2 hB2 hm1 hm2 hs2=>?_)
   dsimp only
   by_cases hlt:m < a₀.size
   ·rw [if_pos hlt]
    refine wpS_bind (wpS_lift (wpAny_rule ⟨rfl,?_⟩))
    refine wpS_bind (dL hO h0 (Nat.le_refl _) hm2 hB2 hs2 fun st3 hB3 hs3=>?_)
    simp only [Bool.not_true,Bool.false_eq_true,if_false]
    refine wpS_bind (wpS_get ?_)
    have hb:(pendingOf st3).back? = none:=by rw [hB3.pend]; rfl
    rw [hb]
    dsimp only
    exact wpS_bind (wpS_modify (wpS_pure (.inr ⟨by omega,rfl,hB3.doneK hs3⟩)))
   ·rw [if_neg hlt]
    have hm:m=a₀.size:=by omega
    subst hm
    refine wpS_bind (wpS_get ?_)
    have hb:(pendingOf st2).back? = none:=by rw [hB2.pend]; rfl
    rw [hb]
    dsimp only
    exact wpS_bind (wpS_modify (wpS_pure (.inr ⟨by omega,rfl,hB2.doneK hs2⟩)))
  ·dsimp only
   rw [if_pos (Nat.le_refl _)]
   exact wpS_pure ⟨rfl,hD⟩
 case post =>
  rintro c st' ⟨rfl,hD⟩
  dsimp only
  refine wpS_bind (wpS_mono (wpS_forRange (I:=fun _ c st''=>st''=st'∧c=(none,())) (Q:=fun c st''=>st''=st'∧c=(none,())) ?_ (fun _ _ hh=>hh) ⟨rfl,rfl⟩) ?_)
  ·rintro x c st'' _ _ ⟨rfl,rfl⟩
   refine wpS_bind (wpS_get ?_)
   rw [if_pos (by rw [hD.2.2.1]; exact Nat.le_refl 1)]
   exact wpS_pure ⟨rfl,rfl⟩
  ·rintro c st'' ⟨rfl,rfl⟩
   exact wpS_pure (h _ hD.1 hD.2.1 hD.2.2.2)
end
section
variable {prog:Program} {w:World} {A:Around} {E:Value→Shared→Prop} {s:Shared}
theorem ej {κ:KeyKind} {κ0:SortKind} {a:Addr} {vs:List Value} {n:Nat} {P:Fin→Shared→Prop} (ho:s.heap.get? a=some (seqObj "list" vs.toArray n))
  (h0:KeysOf κ (pairsOf vs)) (hkk:∀s':Shared,(∀b o,b≠a→s.heap.get? b=some o→s'.heap.get? b=some o)→bC prog w A s' κ0 κ∧∀v₁ v₂ rest,vs=v₁ :: v₂ :: rest→∀ (Q:SortKind→Shared→Prop),Q κ0 s'→wpAny (model prog w) A (keyKind' (v₁ :: v₂ :: rest).toArray) Q E s') (h64:vs.length < 64)
  (h:∀st':SortSt,(arrOf st').Perm (pairsOf vs)→SortedToK κ (arrOf st') (pairsOf vs).size→P (.done (.ret .none)) { s with heap:=sortedHeap s.heap a vs ((arrOf st').map (·.2)) }) :
  wpAny (model prog w) A (Builtin.«list.sort» ⟨[.ref a],[]⟩) P E s:=by
 rw [list_sort_plain]
 have ha:a < s.heap.objs.size:=Heap.lt_size ho
 refine wpAny_bind (listItems_at ho rfl ?_)
 refine wpAny_bind (listUpdate_at ho rfl ?_)
 obtain ⟨e1,ho1⟩:∃e1,(s.heap.update a (Obj.mapSeq fun _=>#[])).get? a=some (seqObj "list" #[] e1):=⟨_,get?_update_seq ho (fun _=>#[])⟩
 refine wpAny_bind (seqEpoch_at ho1 rfl ?_)
 refine wpAny_bind (wpAny_newTuple ?_)
 refine wpAny_bind (wpAny_newList ?_)
 refine wpAny_holding ?_
 have ho6:(((s.heap.update a (Obj.mapSeq fun _=>#[])).push (seqObj "tuple" vs.toArray 0)).push (seqObj "list" #[] 0)).get? a=some (seqObj "list" #[] e1):=by
  rw [Heap.get?_push_ne _ _ _ (by rw [size_push',Heap.size_update]; exact Nat.ne_of_lt (Nat.lt_succ_of_lt ha)),Heap.get?_push_ne _ _ _ (by rw [Heap.size_update]; exact Nat.ne_of_lt ha)]
  exact ho1
 show wpAny (model prog w) A _ P E { s with heap:=((s.heap.update a (Obj.mapSeq fun _=>#[])).push (seqObj "tuple" vs.toArray 0)).push (seqObj "list" #[] 0) }
 dsimp only
 have hsz:vs.toArray.size=vs.length:=by simp
 have fin:=h
 by_cases h2:vs.toArray.size < 2
 ·rw [if_pos h2,if_pos h2]
  refine wpAny_bind (wpAny_pure ?_)
  rw [StateT.run_pure]
  refine wpAny_bind (wpAny_pure ?_)
  dsimp only
  refine wpAny_bind (seqEpoch_at ho6 rfl ?_)
  refine wpAny_bind (listUpdate_at ho6 rfl ?_ (hsz2:=by rw [Array.size_map]; show (pairsOf vs).size≤_; rw [pairsOf_size,sizeLine_eq]; omega))
  simp only [bne_self_eq_false,Bool.false_eq_true,if_false]
  refine wpAny_pure (fin (SortSt.mk' general' (vs.toArray.zip vs.toArray) #[] 7 none) (Array.Perm.refl _) ?_)
  intro i j hij hj
  have:i=j:=by rw [pairsOf_size] at hj; omega
  subst this; exact KeyOrd.kle_refl _
 ·rw [if_neg h2,if_neg h2]
  obtain ⟨v₁,v₂,rest,rfl⟩:∃v₁ v₂ rest,vs=v₁ :: v₂ :: rest:=by
   match vs,hsz,h2 with
   | [],_,h2=>simp at h2
   | [_],_,h2=>simp at h2
   | v₁ :: v₂ :: rest,_,_=>exact ⟨v₁,v₂,rest,rfl⟩
  have kp:∀b o,b≠a→s.heap.get? b=some o→(((s.heap.update a (Obj.mapSeq fun _=>#[])).push (seqObj "tuple" (v₁ :: v₂ :: rest).toArray 0)).push (seqObj "list" #[] 0)).get? b=some o:=fun b o nb e =>
   Heap.get?_push_of_some _ (Heap.get?_push_of_some _ (by rw [Heap.get?_update_ne _ _ _ _ nb]; exact e))
  obtain ⟨hO,hK⟩:=hkk { s with heap:=((s.heap.update a (Obj.mapSeq fun _=>#[])).push (seqObj "tuple" (v₁ :: v₂ :: rest).toArray 0)).push (seqObj "list" #[] 0) } kp
  refine wpAny_bind (hK _ _ _ rfl _ ?_)
  refine wpAny_bind (wpAny_mono (fb (κ:=κ) (κ0:=κ0) hO (a₀:=pairsOf (v₁ :: v₂ :: rest)) (st:=SortSt.mk' κ0 ((v₁ :: v₂ :: rest).toArray.zip (v₁ :: v₂ :: rest).toArray) #[] 7 none)
   (Q:=fun _ st'=>(arrOf st').Perm (pairsOf (v₁ :: v₂ :: rest))∧failedOf st'=none∧SortedToK κ (arrOf st') (pairsOf (v₁ :: v₂ :: rest)).size)
   h0 ⟨Array.Perm.refl _,rfl,rfl,rfl⟩ (by rw [pairsOf_size]; simp) (by rw [pairsOf_size]; exact h64) fun st' a1 a2 a3=>⟨a1,a2,a3⟩) ?_ fun _ _ e=>e)
  rintro ⟨⟨⟩,st'⟩ s' ⟨rfl,hp,hf,hs⟩
  dsimp only
  refine wpAny_bind (seqEpoch_at ho6 rfl ?_)
  refine wpAny_bind (listUpdate_at ho6 rfl ?_ (hsz2:=by refine Nat.le_trans (Nat.le_of_eq ((Array.size_map ..).trans (hp.size_eq.trans (pairsOf_size _)))) ?_; rw [sizeLine_eq]; omega))
  rw [hf]
  simp only [bne_self_eq_false,Bool.false_eq_true,if_false]
  exact wpAny_pure (fin st' hp hs)
end
end PyProof.Rows
set_option Elab.async false
set_option linter.all false
set_option maxRecDepth 100000
namespace L2
open PySem PySem.Spec PyProof.Rows
def aJ:List Int→List Int→Bool
 | [],[]=>false
 | [],_ :: _=>true
 | _ :: _,[]=>false
 | a :: r,b :: t=>if a=b then aJ r t else decide (a < b)
theorem bN:∀a,aJ a a=false
 | []=>rfl
 | a :: r=>by rw [aJ,if_pos rfl]; exact bN r
theorem dM:∀a b c,aJ a b=true→aJ b c=true→aJ a c=true
 | [],[],_,h,_=>by cases h
 | [],_ :: _,[],_,h=>by cases h
 | [],_ :: _,_ :: _,_,_=>rfl
 | _ :: _,[],_,h,_=>by cases h
 | _ :: _,_ :: _,[],_,h=>by cases h
 | a :: r,b :: t,c :: u,h1,h2=>by
  rw [aJ] at h1 h2 ⊢
  by_cases e1:a=b
  ·rw [if_pos e1] at h1
   by_cases e2:b=c
   ·rw [if_pos e2] at h2
    rw [if_pos (e1.trans e2)]
    exact dM r t u h1 h2
   ·rw [if_neg e2] at h2
    rw [if_neg (by rw [e1]; exact e2),e1]; exact h2
  ·rw [if_neg e1] at h1
   have h1:=of_decide_eq_true h1
   by_cases e2:b=c
   ·rw [if_neg (by omega)]; exact decide_eq_true (by omega)
   ·rw [if_neg e2] at h2
    have h2:=of_decide_eq_true h2
    rw [if_neg (by omega)]; exact decide_eq_true (by omega)
theorem gh:∀a b c,aJ a c=true→aJ a b=true∨aJ b c=true
 | [],[],_,h=>.inr h
 | [],_ :: _,_,_=>.inl rfl
 | _ :: _,_,[],h=>by cases h
 | _ :: _,[],_ :: _,_=>.inr rfl
 | a :: r,b :: t,c :: u,h=>by
  rw [aJ] at h
  rw [aJ,aJ]
  by_cases e1:a=b
  ·rw [if_pos e1]
   by_cases e2:b=c
   ·rw [if_pos (e1.trans e2)] at h
    rw [if_pos e2]
    exact gh r t u h
   ·rw [if_neg (by rw [e1]; exact e2)] at h
    rw [if_neg e2]
    exact .inr (by rw [← e1]; exact h)
  ·rw [if_neg e1]
   by_cases e3:a=c
   ·rw [if_neg (by omega)]
    by_cases z:a < b
    ·exact .inl (decide_eq_true z)
    ·exact .inr (decide_eq_true (by omega))
   ·rw [if_neg e3] at h
    have h:=of_decide_eq_true h
    by_cases z:a < b
    ·exact .inl (decide_eq_true z)
    ·rw [if_neg (by omega)]; exact .inr (decide_eq_true (by omega))
theorem dN:∀a b,aJ a b=false→aJ b a=false→a=b
 | [],[],_,_=>rfl
 | [],_ :: _,h,_=>by cases h
 | _ :: _,[],_,h=>by cases h
 | a :: r,b :: t,h1,h2=>by
  rw [aJ] at h1 h2
  by_cases e:a=b
  ·rw [if_pos e] at h1
   rw [if_pos e.symm] at h2
   rw [e,dN r t h1 h2]
  ·rw [if_neg e] at h1
   rw [if_neg (Ne.symm e)] at h2
   have:=of_decide_eq_false h1
   have:=of_decide_eq_false h2
   exact absurd (show a=b by omega) e
section
variable {prog:Program} {w:World} {A:Around} {E:Value→Shared→Prop} {s:Shared}
end
theorem fH:∀ {as:List Addr} {its:List Value},Vals (as.map V.ref) its→its=as.map Value.ref
 | [],_,r=>by cases r; rfl
 | a :: as,_,r=>by
  cases r with
  | cons r1 r2 =>
   have e:_=Value.ref a:=r1
   subst e
   rw [List.map_cons,fH r2]
theorem fI:∀as:List Addr,Vals (as.map V.ref) (as.map Value.ref)
 | []=>.nil
 | a :: as=>.cons rfl (fI as)
theorem mq {α β:Type} {f:α→β} (g:β→Option α) (hg:∀a,g (f a)=some a) {l:List β} {as:List α} (h:l.Perm (as.map f)):∃as':List α,l=as'.map f∧as'.Perm as:=by
 refine ⟨l.filterMap g,?_,?_⟩
 ·have all:∀x∈l,∃a,f a=x:=fun x hx=>by
   obtain ⟨a,_,e⟩:=List.mem_map.mp (h.mem_iff.mp hx)
   exact ⟨a,e⟩
  clear h
  induction l with
  | nil=>rfl
  | cons x r ih =>
   obtain ⟨a,rfl⟩:=all x List.mem_cons_self
   rw [List.filterMap_cons,hg a,List.map_cons,← ih fun y hy=>all y (List.mem_cons_of_mem _ hy)]
 ·have:=h.filterMap g
  rw [List.filterMap_map,show (g∘f)=some from funext hg,List.filterMap_some] at this
  exact this
section
variable {X:Cx}
end
end L2
set_option Elab.async false
set_option linter.all false
set_option maxRecDepth 100000
namespace PySem
open Spec
section
variable {prog:Program} {w:World} {A:Around} {E:Value→Shared→Prop} {s:Shared} {l:Addr} {xs:Array (Int×Tok)}
end
end PySem
namespace L2
open PySem PySem.Spec PyProof.Rows
section
variable {X:Cx}
end
end L2
namespace PySem
theorem Paired.getL {α β:Type} {F:α→β→Prop}:∀ {l₁:List α} {l₂:List β} {i:Nat} {y:β},Paired F l₁ l₂→l₂[i]? = some y→∃x,l₁[i]? = some x∧F x y
 | _,_,_,_,.nil,e=>by simp at e
 | _,_,0,_,.cons h _,e=>by simp at e; subst e; exact ⟨_,rfl,h⟩
 | _,_,i + 1,y,.cons _ t,e=>by
  obtain ⟨x,h1,h2⟩:=Paired.getL (i:=i) t (by simpa using e)
  exact ⟨x,by simpa using h1,h2⟩
end PySem
set_option Elab.async false
set_option linter.all false
set_option maxRecDepth 100000
namespace L2
open PySem PySem.Spec PyProof.Rows
mutual
inductive Tl where
 | rest
 | piece (i:Nat) (c:Bool) (x y:Int)
 | row (dn:Bool) (r:Tls)
inductive Tls where
 | nil
 | cons (n:Int) (t:Tl) (r:Tls)
end
def wyL (dn:Bool):Str:=if dn=true then "down" else "across"
def b01 (c:Bool):Int:=if c=true then 1 else 0
theorem gi {a b:Bool} (h:b01 a=b01 b):a=b:=by cases a <;> cases b <;> first | rfl | exact absurd h (by decide)
mutual
def enc:Tl→List Int
 | .rest=>[3]
 | .piece i c x y=>[2,i,b01 c,x,y]
 | .row dn r=>b01 dn :: cI r
def cI:Tls→List Int
 | .nil=>[0]
 | .cons n t r=>1 :: n :: (enc t ++ cI r)
end
mutual
def tlD:Tl→PyData
 | .rest=>.tuple [.str "rest"]
 | .piece i c x y=>.tuple [.str "piece",.int i,.bool c,.int x,.int y]
 | .row dn r=>.tuple [.str (wyL dn),.tuple (bq r)]
def bq:Tls→List PyData
 | .nil=>[]
 | .cons n t r=>.tuple [.int n,tlD t] :: bq r
end
mutual
theorem ey:∀ (t u:Tl) (r r':List Int),enc t ++ r=enc u ++ r'→t=u∧r=r'
 | .rest,.rest,r,r',h=>by simpa [enc] using h
 | .rest,.piece ..,r,r',h=>by simp [enc] at h
 | .rest,.row dn _,r,r',h=>by cases dn <;> simp [enc,b01] at h
 | .piece ..,.rest,r,r',h=>by simp [enc] at h
 | .piece i c x y,.piece i' c' x' y',r,r',h=>by
  simp only [enc,List.cons_append,List.cons.injEq,List.nil_append,true_and] at h
  obtain ⟨h1,h2,h3,h4,h5⟩:=h
  rw [gi h2,h3,h4,show i=i' by omega]
  exact ⟨rfl,h5⟩
 | .piece ..,.row dn _,r,r',h=>by cases dn <;> simp [enc,b01] at h
 | .row dn _,.rest,r,r',h=>by cases dn <;> simp [enc,b01] at h
 | .row dn _,.piece ..,r,r',h=>by cases dn <;> simp [enc,b01] at h
 | .row dn a,.row dn' a',r,r',h=>by
  simp only [enc,List.cons_append,List.cons.injEq] at h
  obtain ⟨h1,h2⟩:=gO a a' r r' h.2
  rw [gi h.1,h1]
  exact ⟨rfl,h2⟩
theorem gO:∀ (t u:Tls) (r r':List Int),cI t ++ r=cI u ++ r'→t=u∧r=r'
 | .nil,.nil,r,r',h=>by simpa [cI] using h
 | .nil,.cons ..,r,r',h=>by simp [cI] at h
 | .cons ..,.nil,r,r',h=>by simp [cI] at h
 | .cons n t a,.cons n' t' a',r,r',h=>by
  simp only [cI,List.cons_append,List.cons.injEq,true_and,List.append_assoc] at h
  obtain ⟨h1,h2⟩:=ey t t' _ _ h.2
  obtain ⟨h3,h4⟩:=gO a a' r r' h2
  rw [h.1,h1,h3]
  exact ⟨rfl,h4⟩
end
theorem oh {t u:Tl} (h:enc t=enc u):t=u:=(ey t u [] [] (by rw [h])).1
theorem jq:∀ (l r r':List Int),aJ (l ++ r) (l ++ r')=aJ r r'
 | [],_,_=>rfl
 | a :: l,r,r'=>by rw [List.cons_append,List.cons_append,aJ,if_pos rfl]; exact jq l r r'
theorem jr:∀ (l l' r r':List Int),(∀z,l ++ z≠l')→(∀z,l≠l' ++ z)→aJ (l ++ r) (l' ++ r')=aJ l l'
 | [],l',_,_,h,_=>absurd rfl (h l')
 | l,[],_,_,_,h=>absurd rfl (h l)
 | a :: l,b :: l',r,r',h1,h2=>by
  rw [List.cons_append,List.cons_append,aJ,aJ]
  by_cases e:a=b
  ·rw [if_pos e,if_pos e]
   exact jr l l' r r' (fun z hz=>h1 z (by rw [List.cons_append,e,hz])) (fun z hz=>h2 z (by rw [List.cons_append,e,hz]))
  ·rw [if_neg e,if_neg e]
theorem oi {t u:Tl} (h:t≠u) (r r':List Int):aJ (enc t ++ r) (enc u ++ r')=aJ (enc t) (enc u) :=
 jr _ _ _ _ (fun z e=>h (ey t u z [] (by rw [List.append_nil]; exact e)).1) (fun z e=>h (ey t u [] z (by rw [List.append_nil]; exact e)).1)
theorem ko (n n':Int) (t t':Tl) (r r':Tls):aJ (cI (.cons n t r)) (cI (.cons n' t' r'))=aJ (n :: (enc t ++ cI r)) (n' :: (enc t' ++ cI r')):=by
 rw [cI,cI,aJ,if_pos rfl]
theorem tE:(PyData.str "piece").canLay0=true:=by decide +kernel
theorem qb (dn:Bool):(PyData.str (wyL dn)).canLay0=true:=by cases dn <;> decide +kernel
mutual
theorem cS:∀t:Tl,(tlD t).canLay0=true
 | .rest=>by decide +kernel
 | .piece i c x y=>by
  have:=tE
  simp only [tlD,PyData.canLay0,PyData.canLayAll0,Bool.and_true] at this ⊢
  exact this
 | .row dn r=>by
  have h1:=qb dn
  have h2:=ez r
  simp only [tlD,PyData.canLay0,PyData.canLayAll0,Bool.and_true] at h1 ⊢
  rw [h1,h2]; rfl
theorem ez:∀t:Tls,PyData.canLayAll0 (bq t)=true
 | .nil=>rfl
 | .cons n t r=>by
  have h1:=cS t
  have h2:=ez r
  simp only [bq,PyData.canLayAll0,PyData.canLay0,Bool.and_true,Bool.true_and]
  rw [h1,h2]; rfl
end
mutual
theorem dO:∀t u:Tl,PyData.eqv (tlD t) (tlD u)=true↔t=u
 | .rest,.rest=>by simp [tlD,PyData.eqv,PyData.eqvAll]
 | .rest,.piece .. => by simp [tlD,PyData.eqv,PyData.eqvAll]
 | .rest,.row dn _=>by simp [tlD,PyData.eqv,PyData.eqvAll]
 | .piece ..,.rest=>by simp [tlD,PyData.eqv,PyData.eqvAll]
 | .piece i c x y,.piece i' c' x' y'=>by
  simp only [tlD,PyData.eqv,PyData.eqvAll,Bool.and_eq_true,beq_iff_eq,true_and,and_true,Tl.piece.injEq]
  constructor
  ·rintro ⟨h1,h2,h3,h4⟩; exact ⟨by omega,h2,h3,h4⟩
  ·rintro ⟨h1,h2,h3,h4⟩; exact ⟨by omega,h2,h3,h4⟩
 | .piece ..,.row dn _=>by simp [tlD,PyData.eqv,PyData.eqvAll]
 | .row dn _,.rest=>by simp [tlD,PyData.eqv,PyData.eqvAll]
 | .row dn _,.piece .. => by simp [tlD,PyData.eqv,PyData.eqvAll]
 | .row dn r,.row dn' r'=>by
  have h:=gj r r'
  simp only [tlD,PyData.eqv,PyData.eqvAll,Bool.and_eq_true,beq_iff_eq,and_true,Tl.row.injEq]
  rw [h]
  constructor
  ·rintro ⟨h1,h2⟩; exact ⟨by cases dn <;> cases dn' <;> first | rfl | exact absurd h1 (by decide +kernel),h2⟩
  ·rintro ⟨h1,h2⟩; rw [h1]; exact ⟨rfl,h2⟩
theorem gj:∀t u:Tls,PyData.eqvAll (bq t) (bq u)=true↔t=u
 | .nil,.nil=>by simp [bq,PyData.eqvAll]
 | .nil,.cons .. => by simp [bq,PyData.eqvAll]
 | .cons ..,.nil=>by simp [bq,PyData.eqvAll]
 | .cons n t r,.cons n' t' r'=>by
  have h1:=dO t t'
  have h2:=gj r r'
  simp only [bq,PyData.eqv,PyData.eqvAll,Bool.and_eq_true,beq_iff_eq,and_true,Tls.cons.injEq]
  rw [h1,h2,and_assoc]
end
theorem oj {t u:Tl} (h:tlD t=tlD u):t=u:=(dO t u).mp (by rw [h]; exact (dO u u).mpr rfl)
end L2
set_option Elab.async false
set_option linter.all false
set_option maxRecDepth 100000
namespace PySem.SeqAt
open AutoSeq1 (wpAny_loadPart')
open MeetsSeq MeetsSeq2 MeetsSeq3 SeqRoads2
def LtAt (A:Around) (s:Shared) (y x:Value) (b:Bool):Prop :=
 ∀ (prog:Program) (w:World) (E:Value→Shared→Prop) (Q:Value→Shared→Prop),Q (.bool b) s→wpAny (model prog w) A (richCompare .Lt y x) Q E s
inductive LexAt (A:Around) (s:Shared) (fin:Bool):List (Value×Value)→Bool→Prop
 | nil:LexAt A s fin [] fin
 | eq {x y:Value} {r:List (Value×Value)} {c:Bool}:EqAt A s x y true→LexAt A s fin r c→LexAt A s fin ((x,y) :: r) c
 | ne {x y:Value} {r:List (Value×Value)} {c:Bool}:EqAt A s x y false→LtAt A s x y c→LexAt A s fin ((x,y) :: r) c
theorem iE (l b:Addr) (items items2:Array Value) (n n2:Nat) (dd dd2:Option Addr) (sl sl2:Array (Option Value)) (c:Bool) :
  Meets (Builtin.«tuple.__lt__» ⟨[.ref l,.ref b],[]⟩)
   (fun A R s=>s.heap.get? l=some { cls:=.type "tuple",dict:=dd,data:=.seq items n,slots:=sl }∧s.heap.get? b=some { cls:=.type "tuple",dict:=dd2,data:=.seq items2 n2,slots:=sl2 } ∧
    LexAt A.in1 s (decide (items.size < items2.size)) (items.toList.zip items2.toList) c∧R (.ok (.ret (.bool c))) s) :=
 .of_wp fun prog w A R s h=>by
  obtain ⟨hp,g,d,tk,os⟩:=s; obtain ⟨hl,hb,he,h⟩:=h
  have f2:=AutoSeq1.sub_tuple_tuple
  wp_walk using wpAny_loadPart' hl,wpAny_loadPart' hb,wpAny_forIn_list _ (fun rest b s'=>b.1=none∧s'=⟨hp,g,d,tk,os⟩∧LexAt A.in1 ⟨hp,g,d,tk,os⟩ (decide (items.size < items2.size)) rest c) _
  case turn =>
   rintro ⟨y,x⟩ rest b s' ⟨hb',rfl,hL⟩
   cases hL with
   | eq h1 h2 =>
    refine wpAny_bind (h1 prog w _ _ ?_)
    wp_walk
    exact ⟨rfl,rfl,h2⟩
   | ne h1 h2 =>
    refine wpAny_bind (h1 prog w _ _ ?_)
    simp only [Bool.not_false,if_true]
    refine wpAny_bind (wpAny_rule ?_)
    refine wpAny_bind (h2 prog w _ _ ?_)
    wp_walk
    exact ⟨_,rfl,h⟩
  case fin =>
   rintro ⟨b1,b2⟩ s' ⟨hb',rfl,hL⟩
   simp only at hb'
   subst hb'
   cases hL
   wp_walk
   exact ⟨_,rfl,by simpa [Builtin.Tuple.tupleCompareSizes] using h⟩
  case h =>
   exact ⟨rfl,rfl,he⟩
theorem LtAt.tuples {A:Around} {s:Shared} {l b:Addr} {items items2:Array Value} {c:Bool} (hl:s.heap.IsTuple l items) (hb:s.heap.IsTuple b items2) (hu:A.units < cLine)
  (he:LexAt A.in1 s (decide (items.size < items2.size)) (items.toList.zip items2.toList) c):LtAt A s (.ref l) (.ref b) c:=fun prog w E Q h=>by
 obtain ⟨⟨cls,dd,data,sl⟩,ho,hc,n,hd⟩:=id hl
 obtain ⟨⟨cls2,dd2,data2,sl2⟩,ho2,hc2,n2,hd2⟩:=id hb
 simp only at hc hd hc2 hd2
 subst hc hd hc2 hd2
 exact richCompare_meets_room (op:=.Lt) ⟨_,ho,rfl⟩ ⟨_,ho2,rfl⟩ F.slot_tuple_lt F.entry_tuple_lt (F.args_tuple_lt_2 _ _) (iE l b items items2 n n2 dd dd2 sl sl2 c)
  ⟨ho,ho2,he,show Value.bool c≠Value.notImplemented∧Q (.bool c) s from ⟨(fun x=>nomatch x),h⟩⟩ hu
end PySem.SeqAt
namespace L2
open PySem PySem.Spec PyProof.Rows PySem.SeqAt
theorem aF {h:Heap} {a:Value} {ds:List PyData} {as:List Addr} (r:Reads h a (.tuple ds) as):∃l vs bs,a=.ref l∧h.IsTuple l (List.toArray vs)∧ReadsAll h vs ds bs:=by
 cases r with
 | @tuple l o vs n xs as h1 h2 h3 h4=>exact ⟨l,vs.toList,_,rfl,⟨o,h1,h2,n,by simpa using h3⟩,h4⟩
theorem ap {h:Heap} {vs:List Value} {d:PyData} {ds:List PyData} {as:List Addr} (r:ReadsAll h vs (d :: ds) as):∃v vs' bs cs,vs=v :: vs'∧Reads h v d bs∧ReadsAll h vs' ds cs:=by
 cases r with
 | cons h1 h2=>exact ⟨_,_,_,_,rfl,h1,h2⟩
theorem aO {h:Heap} {vs:List Value} {as:List Addr} (r:ReadsAll h vs [] as):vs=[]:=by
 cases r; rfl
theorem bO {A:Around} {s:Shared} {x y:Value} {z z':Str} {as bs:List Addr} (hx:Reads s.heap x (.str z) as) (hy:Reads s.heap y (.str z') bs) {c:Bool} (hne:(z == z')=false) (hc:decide (z.cps.toList < z'.cps.toList)=c) {fin:Bool} {r:List (Value×Value)}:LexAt A s fin ((x,y) :: r) c:=by
 cases hx
 cases hy
 rename_i t u
 refine .ne ?_ fun prog w E Q h=>PyProof.Rows.lt_str (by rw [hc]; exact h)
 have:=EqAt.str_str (A:=A) (s:=s) z t z' u
 rw [hne] at this
 exact this
theorem fc {A:Around} {s:Shared} {x y:Value} {z:Str} {as bs:List Addr} (hx:Reads s.heap x (.str z) as) (hy:Reads s.heap y (.str z) bs):EqAt A s x y true:=by
 cases hx
 cases hy
 rename_i t u
 have:=EqAt.str_str (A:=A) (s:=s) z t z u
 rw [beq_self_eq_true] at this
 exact this
theorem js {A:Around} {s:Shared} {x y:Value} {n m:Int} {as bs:List Addr} (hx:Reads s.heap x (.int n) as) (hy:Reads s.heap y (.int m) bs):EqAt A s x y (n == m):=by
 cases hx
 cases hy
 exact EqAt.int_int n _ m _
theorem om {A:Around} {s:Shared} {x y:Value} {n m:Int} {as bs:List Addr} (hx:Reads s.heap x (.int n) as) (hy:Reads s.heap y (.int m) bs):LtAt A s x y (decide (n < m)):=by
 cases hx
 cases hy
 exact fun prog w E Q h=>PyProof.Rows.lt_int h
theorem eA {A:Around} {s:Shared} {x y:Value} {n m:Int} {as bs:List Addr} {fin:Bool} {r:List (Value×Value)} {u v:List Int} (hx:Reads s.heap x (.int n) as) (hy:Reads s.heap y (.int m) bs) (h:n=m→LexAt A s fin r (aJ u v)):LexAt A s fin ((x,y) :: r) (aJ (n :: u) (m :: v)):=by
 have e:=js (A:=A) hx hy
 rw [aJ]
 by_cases c:n=m
 ·rw [if_pos c]
  rw [show (n == m)=true by simpa using c] at e
  exact .eq e (h c)
 ·rw [if_neg c]
  rw [show (n == m)=false by simpa using c] at e
  exact .ne e (om hx hy)
theorem mr {A:Around} {s:Shared} {x y:Value} {n m:Bool} {as bs:List Addr} {fin:Bool} {r:List (Value×Value)} {u v:List Int} (hx:Reads s.heap x (.bool n) as) (hy:Reads s.heap y (.bool m) bs) (h:n=m→LexAt A s fin r (aJ u v)):LexAt A s fin ((x,y) :: r) (aJ (b01 n :: u) (b01 m :: v)):=by
 cases hx
 cases hy
 have e:=EqAt.bool_bool (A:=A) (s:=s) n m
 rw [aJ]
 by_cases c:n=m
 ·rw [if_pos (by rw [c])]
  rw [show (n == m)=true by simpa using c] at e
  exact .eq e (h c)
 ·rw [if_neg (fun z=>c (gi z))]
  rw [show (n == m)=false by simpa using c] at e
  refine .ne e fun prog w E Q h=>PyProof.Rows.lt_bool ?_
  have:decide (b2i n < b2i m)=decide (b01 n < b01 m):=by cases n <;> cases m <;> rfl
  show Q (.bool (decide (b2i n < b2i m))) s
  rw [this]
  exact h
theorem jt {A:Around} {s:Shared} {x y:Value} {fin c:Bool} {p:Prop} {k:Bool} (hp:k=true↔p) (h1:EqAt A s x y k) (h2:¬p→LtAt A s x y c) (h3:p→fin=c):LexAt A s fin [(x,y)] c:=by
 cases k with
 | true =>
  rw [← h3 (hp.mp rfl)]
  exact .eq h1 .nil
 | false=>exact .ne h1 (h2 fun z=>absurd (hp.mpr z) (by decide))
theorem iF (d:PyData) (ds:List PyData):d.depth≤PyData.depthAll (d :: ds)∧PyData.depthAll ds≤PyData.depthAll (d :: ds):=by
 rw [PyData.depthAll]; omega
mutual
theorem pq:∀ (t u:Tl) (A:Around) (s:Shared) (a b:Value) (as bs:List Addr),Reads s.heap a (tlD t) as→Reads s.heap b (tlD u) bs→A.units + (tlD t).depth < cLine→LtAt A s a b (aJ (enc t) (enc u))
 | .rest,u,A,s,a,b,as,bs,ra,rb,hu=>by
  rw [tlD] at ra
  obtain ⟨l,vs,_,rfl,ta,ra⟩:=aF ra
  obtain ⟨v,vs,_,_,rfl,r1,ra⟩:=ap ra
  cases aO ra
  cases u with
  | rest =>
   rw [tlD] at rb
   obtain ⟨l',ws,_,rfl,tb,rb⟩:=aF rb
   obtain ⟨w,ws,_,_,rfl,r2,rb⟩:=ap rb
   cases aO rb
   exact .tuples ta tb (by omega) (.eq (fc r1 r2) .nil)
  | piece i c x y =>
   rw [tlD] at rb
   obtain ⟨l',ws,_,rfl,tb,rb⟩:=aF rb
   obtain ⟨w,ws,_,_,rfl,r2,rb⟩:=ap rb
   exact .tuples ta tb (by omega) (bO r1 r2 (by decide +kernel) (by rw [enc,enc,aJ,if_neg (by decide)]; decide +kernel))
  | row dn r =>
   rw [tlD] at rb
   obtain ⟨l',ws,_,rfl,tb,rb⟩:=aF rb
   obtain ⟨w,ws,_,_,rfl,r2,rb⟩:=ap rb
   exact .tuples ta tb (by omega) (by cases dn <;> exact bO r1 r2 (by decide +kernel) (by rw [enc,enc,aJ,if_neg (by decide)]; decide +kernel))
 | .piece i c x y,u,A,s,a,b,as,bs,ra,rb,hu=>by
  rw [tlD] at ra
  obtain ⟨l,vs,_,rfl,ta,ra⟩:=aF ra
  obtain ⟨v,vs,_,_,rfl,r1,ra⟩:=ap ra
  cases u with
  | rest =>
   rw [tlD] at rb
   obtain ⟨l',ws,_,rfl,tb,rb⟩:=aF rb
   obtain ⟨w,ws,_,_,rfl,r2,rb⟩:=ap rb
   exact .tuples ta tb (by omega) (bO r1 r2 (by decide +kernel) (by rw [enc,enc,aJ,if_neg (by decide)]; decide +kernel))
  | piece i' c' x' y' =>
   rw [tlD] at rb
   obtain ⟨l',ws,_,rfl,tb,rb⟩:=aF rb
   obtain ⟨w,ws,_,_,rfl,r2,rb⟩:=ap rb
   obtain ⟨v1,vs,_,_,rfl,a1,ra⟩:=ap ra
   obtain ⟨v2,vs,_,_,rfl,a2,ra⟩:=ap ra
   obtain ⟨v3,vs,_,_,rfl,a3,ra⟩:=ap ra
   obtain ⟨v4,vs,_,_,rfl,a4,ra⟩:=ap ra
   cases aO ra
   obtain ⟨w1,ws,_,_,rfl,c1,rb⟩:=ap rb
   obtain ⟨w2,ws,_,_,rfl,c2,rb⟩:=ap rb
   obtain ⟨w3,ws,_,_,rfl,c3,rb⟩:=ap rb
   obtain ⟨w4,ws,_,_,rfl,c4,rb⟩:=ap rb
   cases aO rb
   refine .tuples ta tb (by omega) (.eq (fc r1 r2) ?_)
   rw [enc,enc,aJ,if_pos rfl]
   exact eA a1 c1 fun _=>mr a2 c2 fun _=>eA a3 c3 fun _=>eA a4 c4 fun _=>.nil
  | row dn r =>
   rw [tlD] at rb
   obtain ⟨l',ws,_,rfl,tb,rb⟩:=aF rb
   obtain ⟨w,ws,_,_,rfl,r2,rb⟩:=ap rb
   exact .tuples ta tb (by omega) (by cases dn <;> exact bO r1 r2 (by decide +kernel) (by rw [enc,enc,aJ,if_neg (by decide)]; decide +kernel))
 | .row dn r,u,A,s,a,b,as,bs,ra,rb,hu=>by
  rw [tlD] at ra hu
  obtain ⟨l,vs,_,rfl,ta,ra⟩:=aF ra
  obtain ⟨v,vs,_,_,rfl,r1,ra⟩:=ap ra
  cases u with
  | rest =>
   rw [tlD] at rb
   obtain ⟨l',ws,_,rfl,tb,rb⟩:=aF rb
   obtain ⟨w,ws,_,_,rfl,r2,rb⟩:=ap rb
   exact .tuples ta tb (by omega) (by cases dn <;> exact bO r1 r2 (by decide +kernel) (by rw [enc,enc,aJ,if_neg (by decide)]; decide +kernel))
  | piece i c x y =>
   rw [tlD] at rb
   obtain ⟨l',ws,_,rfl,tb,rb⟩:=aF rb
   obtain ⟨w,ws,_,_,rfl,r2,rb⟩:=ap rb
   exact .tuples ta tb (by omega) (by cases dn <;> exact bO r1 r2 (by decide +kernel) (by rw [enc,enc,aJ,if_neg (by decide)]; decide +kernel))
  | row dn' r' =>
   rw [tlD] at rb
   obtain ⟨l',ws,_,rfl,tb,rb⟩:=aF rb
   obtain ⟨w,ws,_,_,rfl,r2,rb9⟩:=ap rb
   by_cases e:dn=dn'
   ·subst e
    obtain ⟨v1,vs,_,_,rfl,a1,ra⟩:=ap ra
    cases aO ra
    obtain ⟨w1,ws,_,_,rfl,c1,rb8⟩:=ap rb9
    cases aO rb8
    have hu:A.units + (max 0 (max (PyData.depthAll (bq r) + 1) 0) + 1) < cLine:=hu
    refine .tuples ta tb (by omega) (.eq (fc r1 r2) ?_)
    rw [enc,enc,aJ,if_pos rfl]
    have k:PyData.eqv (.tuple (bq r)) (.tuple (bq r'))=true↔r=r':=gj r r'
    refine jt k (eqAt_reads _ _ _ s _ _ _ _ a1 c1 (ez r) (ez r') (by rw [PyData.depth]; show A.units + 1 + _ < _; omega)) (fun _=>?_) (fun z=>by rw [z,bN]; rfl)
    obtain ⟨p,ps,_,rfl,tp,rp⟩:=aF a1
    obtain ⟨q,qs,_,rfl,tq,rq⟩:=aF c1
    refine .tuples tp tq (by show A.units + 1 < _; omega) ?_
    exact ju r r' _ s ps qs _ _ rp rq (by show A.units + 1 + 1 + _ < _; omega)
   ·exact .tuples ta tb (by omega) (by cases dn <;> cases dn' <;> first | exact absurd rfl e | exact bO r1 r2 (by decide +kernel) (by rw [enc,enc,aJ,if_neg (by decide)]; decide +kernel))
theorem ju:∀ (r r':Tls) (A:Around) (s:Shared) (vs ws:List Value) (as bs:List Addr),ReadsAll s.heap vs (bq r) as→ReadsAll s.heap ws (bq r') bs→A.units + PyData.depthAll (bq r) < cLine→LexAt A s (decide (vs.length < ws.length)) (vs.zip ws) (aJ (cI r) (cI r'))
 | .nil,.nil,A,s,vs,ws,as,bs,ra,rb,hu=>by
  cases aO ra
  cases aO rb
  exact .nil
 | .nil,.cons ..,A,s,vs,ws,as,bs,ra,rb,hu=>by
  cases aO ra
  rw [bq] at rb
  obtain ⟨w,ws,_,_,rfl,r2,rb⟩:=ap rb
  exact .nil
 | .cons ..,.nil,A,s,vs,ws,as,bs,ra,rb,hu=>by
  cases aO rb
  rw [bq] at ra
  obtain ⟨w,ws,_,_,rfl,r2,ra⟩:=ap ra
  exact .nil
 | .cons n t r,.cons m u r',A,s,vs,ws,as,bs,ra,rb,hu=>by
  rw [bq] at ra rb hu
  obtain ⟨v,vs,_,_,rfl,r1,ra9⟩:=ap ra
  obtain ⟨w,ws,_,_,rfl,r2,rb9⟩:=ap rb
  have hd:=iF (.tuple [.int n,tlD t]) (bq r)
  have h0:(PyData.tuple [.int n,tlD t]).depth=max 0 (max (tlD t).depth 0) + 1:=rfl
  have k:PyData.eqv (.tuple [.int n,tlD t]) (.tuple [.int m,tlD u])=true↔n=m∧t=u:=by
   have:=dO t u
   simp only [PyData.eqv,PyData.eqvAll,Bool.and_eq_true,beq_iff_eq,and_true]
   rw [this]
  have lay:∀ (n:Int) (t:Tl),(PyData.tuple [.int n,tlD t]).canLay0=true:=fun n t=>by
   simp only [PyData.canLay0,PyData.canLayAll0,Bool.and_true,Bool.true_and]
   exact cS t
  have e:=eqAt_reads _ _ A s _ _ _ _ r1 r2 (lay n t) (lay m u) (by omega)
  rw [ko,List.zip_cons_cons,show decide ((v :: vs).length < (w :: ws).length)=decide (vs.length < ws.length) by simp]
  cases z:PyData.eqv (.tuple [.int n,tlD t]) (.tuple [.int m,tlD u]) with
  | true =>
   rw [z] at e
   obtain ⟨rfl,rfl⟩:=k.mp z
   rw [aJ,if_pos rfl,jq]
   exact .eq e (ju r r' A s vs ws _ _ ra9 rb9 (by omega))
  | false =>
   rw [z] at e
   refine .ne e ?_
   have nk:¬(n=m∧t=u):=fun y=>by rw [k.mpr y] at z; cases z
   obtain ⟨p,ps,_,rfl,tp,rp⟩:=aF r1
   obtain ⟨q,qs,_,rfl,tq,rq⟩:=aF r2
   obtain ⟨v1,ps,_,_,rfl,a1,rp⟩:=ap rp
   obtain ⟨v2,ps,_,_,rfl,a2,rp⟩:=ap rp
   cases aO rp
   obtain ⟨w1,qs,_,_,rfl,c1,rq⟩:=ap rq
   obtain ⟨w2,qs,_,_,rfl,c2,rq⟩:=ap rq
   cases aO rq
   refine .tuples tp tq (by omega) (eA a1 c1 fun hn=>?_)
   rw [oi (fun z=>nk ⟨hn,z⟩)]
   exact jt (dO t u) (eqAt_reads _ _ _ s _ _ _ _ a2 c2 (cS t) (cS u) (by show A.units + 1 + _ < _; omega)) (fun _=>pq t u _ s _ _ _ _ a2 c2 (by show A.units + 1 + _ < _; omega)) (fun z=>absurd ⟨hn,z⟩ nk)
end
end L2
set_option Elab.async false
set_option linter.all false
set_option maxRecDepth 100000
namespace PyProof.Rows
open PySem
section
variable {prog:Program} {w:World} {A:Around} {E:Value→Shared→Prop} {s:Shared}
theorem ms {κ:KeyKind} {κ0:SortKind} {l:Addr} {vs:List Value} {Q:Value→Shared→Prop} (hl:s.heap.IsList l vs.toArray) (h0:KeysOf κ (pairsOf vs)) (hkk:∀ (A':Around) (s':Shared),A'.units≤A.units + 4→(∀b o,s.heap.get? b=some o→s'.heap.get? b=some o)→bC prog w A' s' κ0 κ∧∀v₁ v₂ rest,vs=v₁ :: v₂ :: rest→∀ (Q:SortKind→Shared→Prop) (E':Value→Shared→Prop),Q κ0 s'→wpAny (model prog w) A' (keyKind' (v₁ :: v₂ :: rest).toArray) Q E' s') (h64:vs.length < 64)
  (h:∀st':SortSt,(arrOf st').Perm (pairsOf vs)→SortedToK κ (arrOf st') (pairsOf vs).size→Q (.ref (s.heap.objs.size + 1)) { s with heap:=sortedAll s.heap vs ((arrOf st').map (·.2)) }) :
  wpAny (model prog w) A (call (.builtin "sorted") [.ref l]) Q E s:=by
 refine Calls.call_function_entry kind_sorted plain_sorted entry_sorted (args_sorted1 _) ?_
 unfold Builtin.«sorted»
 refine wpAny_bind (m:=checkCount "sorted" 1 1 _) (wpAny_pure ?_)
 refine wpAny_bind (collect_list hl ?_)
 refine wpAny_bind (wpAny_newList ?_)
 have hsz:((s.heap.push (seqObj "list" #[] 0)).update s.heap.objs.size (Obj.mapSeq (· ++ vs.toArray))).objs.size=s.heap.objs.size + 1:=by
  rw [Heap.size_update,size_push']
 have hoL:(((s.heap.push (seqObj "list" #[] 0)).update s.heap.objs.size (Obj.mapSeq (· ++ vs.toArray))).push (seqObj "list" vs.toArray 0)).get? (s.heap.objs.size + 1)=some (seqObj "list" vs.toArray 0):=by
  rw [← hsz]; exact Heap.get?_push_size _ rfl
 show wpAny _ _ _ _ _ { s with heap:=((s.heap.push (seqObj "list" #[] 0)).update s.heap.objs.size (Obj.mapSeq (· ++ vs.toArray))).push (seqObj "list" vs.toArray 0) }
 rw [hsz]
 refine wpAny_bind (wpAny_holding (wpAny_call_entry slot_list_sort ⟨_,hoL,rfl⟩ entry_list_sort (ej hoL h0 (fun s' k=>by refine And.imp id (fun a2 v1 v2 r e Q q=>a2 v1 v2 r e Q _ q) (hkk _ s' ?_ (fun b o e=>k b o (Nat.ne_of_lt (Nat.lt_succ_of_lt (Heap.lt_size e))) (Heap.get?_push_of_some _ (by rw [Heap.get?_update_ne _ _ _ _ (Nat.ne_of_lt (Heap.lt_size e))]; exact Heap.get?_push_of_some _ e)))); show A.units + 1 + 1≤A.units + 4; omega) h64 fun st' a1 a2=>⟨_,rfl,?_⟩) (args_list_sort _)))
 exact wpAny_pure ⟨_,rfl,h st' a1 a2⟩
end
end PyProof.Rows
namespace L2
open PySem PySem.Spec PyProof.Rows PySem.SeqAt
mutual
theorem eB {h h':Heap} (k:∀b o,h.get? b=some o→h'.get? b=some o):∀ {v:Value} {d:PyData} {as:List Addr},Reads h v d as→Reads h' v d as
 | _,_,_,.none=>.none
 | _,_,_,.bool b=>.bool b
 | _,_,_,.int i t=>.int i t
 | _,_,_,.str x t=>.str x t
 | _,_,_,.list h1 h2 h3 h4=>.list (k _ _ h1) h2 h3 (cA k h4)
 | _,_,_,.tuple h1 h2 h3 h4=>.tuple (k _ _ h1) h2 h3 (cA k h4)
 | _,_,_,.dict h1 h2 h3 h4 h5=>.dict (k _ _ h1) h2 h3 (cA k h4) (cA k h5)
theorem cA {h h':Heap} (k:∀b o,h.get? b=some o→h'.get? b=some o):∀ {v:List Value} {d:List PyData} {as:List Addr},ReadsAll h v d as→ReadsAll h' v d as
 | _,_,_,.nil=>.nil
 | _,_,_,.cons a r=>.cons (eB k a) (cA k r)
end
def ItR (h:Heap) (m:Nat) (v:Value) (z:Int×Tl):Prop:=(∃as,Reads h v (.tuple [.int z.1,tlD z.2]) as)∧(tlD z.2).depth≤m
def bD (z:Int×Tl):List Int:=z.1 :: enc z.2
theorem mt {a b:Int×Tl} (h:bD a=bD b):a=b:=by
 obtain ⟨n,t⟩:=a
 obtain ⟨m,u⟩:=b
 have h:n :: enc t=m :: enc u:=h
 injection h with h1 h2
 rw [h1,oh h2]
theorem qc (n:Int) (t:Tl):(PyData.tuple [.int n,tlD t]).canLay0=true:=by
 simp only [PyData.canLay0,PyData.canLayAll0,Bool.and_true,Bool.true_and]
 exact cS t
theorem ItR.uniq {h:Heap} {m:Nat} {v:Value} {a b:Int×Tl} (ha:ItR h m v a) (hb:ItR h m v b):a=b:=by
 obtain ⟨⟨as,ra⟩,_⟩:=ha
 obtain ⟨⟨bs,rb⟩,_⟩:=hb
 have:=Reads.unique _ _ v as bs (qc _ _) ra rb
 obtain ⟨n,t⟩:=a
 obtain ⟨n',t'⟩:=b
 simp only [PyData.tuple.injEq,List.cons.injEq,PyData.int.injEq,and_true] at this
 rw [this.1,oj this.2]
open Classical in
noncomputable def gP (h:Heap) (m:Nat) (v:Value):Option (List Int):=if e:∃z,ItR h m v z then some (bD e.choose) else none
theorem gQ {h:Heap} {m:Nat} {v:Value} {k:List Int} (e:gP h m v=some k):∃z,ItR h m v z∧k=bD z:=by
 unfold gP at e
 split at e
 ·rename_i x
  exact ⟨_,x.choose_spec,(Option.some.inj e).symm⟩
 ·cases e
theorem mv {h:Heap} {m:Nat} {v:Value} {z:Int×Tl} (hz:ItR h m v z):gP h m v=some (bD z):=by
 unfold gP
 rw [dif_pos ⟨z,hz⟩,(Exists.choose_spec (⟨z,hz⟩:∃z,ItR h m v z)).uniq hz]
noncomputable def tlK (h:Heap) (m:Nat):KeyKind where
 α:=List Int
 blt:=aJ
 irrefl:=bN
 trans:=dM
 negTrans:=gh
 total:=dN
 keyOf:=gP h m
 dflt:=[]
section
variable {prog:Program} {w:World} {A:Around} {E:Value→Shared→Prop} {s:Shared}
theorem mw {h:Heap} {m:Nat} (hu:A.units + m < cLine) (k:∀b o,h.get? b=some o→s.heap.get? b=some o):bC prog w A s (tuples' true) (tlK h m):=by
 intro E x y a b Q ha hb q
 obtain ⟨⟨n,t⟩,⟨⟨as,ra⟩,da⟩,rfl⟩:=gQ ha
 obtain ⟨⟨n',t'⟩,⟨⟨bs,rb⟩,db⟩,rfl⟩:=gQ hb
 obtain ⟨l,vs,_,rfl,⟨ox,hx,cx,nx,dx⟩,ra⟩:=aF (eB k ra)
 obtain ⟨l',ws,_,rfl,⟨oy,hy,cy,ny,dy⟩,rb⟩:=aF (eB k rb)
 obtain ⟨v1,vs,_,_,rfl,a1,ra⟩:=ap ra
 obtain ⟨v2,vs,_,_,rfl,a2,ra⟩:=ap ra
 cases aO ra
 obtain ⟨w1,ws,_,_,rfl,c1,rb⟩:=ap rb
 obtain ⟨w2,ws,_,_,rfl,c2,rb⟩:=ap rb
 cases aO rb
 have q:Q (aJ (n :: enc t) (n' :: enc t')) s:=q
 rw [aJ] at q
 refine PySem.W.kat_lt hx dx hy dy (PySem.W.kat_cons (js a1 c1 prog w _ _ (PySem.W.kat_go (fun e=>PySem.W.kat_yes (PySem.W.kat_cons ?_)) (fun e=>PySem.W.kat_no ?_))))
 ·have e:n=n':=by simpa using e
  rw [if_pos e] at q
  have hd:A.units + min (tlD t).depth (tlD t').depth < cLine:=by
   have:(tlD t).depth≤m:=da
   omega
  refine eqAt_reads _ _ A s _ _ _ _ a2 c2 (cS t) (cS t') hd prog w _ _ (PySem.W.kat_go (fun e=>PySem.W.kat_yes (PySem.W.kat_nil ?_)) (fun e=>PySem.W.kat_no (PySem.W.kat_one _ _ ?_)))
  ·rw [(dO t t').mp e,bN] at q
   exact q
  ·have:(tlD t).depth≤m:=da
   exact pq t t' A s _ _ _ _ a2 c2 (by omega) prog w _ _ q
 ·have e:¬n=n':=by simpa using e
  rw [if_neg e] at q
  cases a1
  cases c1
  exact oneLt_int q
end
section
variable {X:Cx}
inductive rSortL (K:PySem.W.Frag) (xs:List V) (H:Hp) (Q:VK):Prop
 | mk (p:Addr) (as:List Addr) (key:Addr→Int×Tl) (h0:xs=[.ref p]) (h1:SqL K H p (as.map V.ref)) (h2:as.length < 64) (h3:∀a∈as,DatV K H (.ref a) (.tuple [.int (key a).1,tlD (key a).2])∧(tlD (key a).2).depth≤200)
  (h4:∀ (l:Addr) (as':List Addr),H l=none→as'.Perm as→(as'.map key).Pairwise (fun x y=>aJ (bD y) (bD x)=false)→Q (.ref l) (upd H l (.lst (as'.map V.ref)))):rSortL K xs H Q
theorem gm (hu:X.A.units + 220 < cLine):bY X (.builtin "sorted") (rSortL X.K):=by
 intro pins s σ H xs us Q I r h
 obtain ⟨p,as,key,rfl,hs,h64,hk,q⟩:=h
 obtain ⟨u,rfl,rfl⟩:=eO r
 obtain ⟨its,rv,pl,_⟩:=I.list hs
 have ei:=fH rv
 subst ei
 have tu:∀a∈as,ItR s.heap 200 (.ref a) (key a):=fun a ha=>by
  obtain ⟨hd,d2⟩:=hk a ha
  obtain ⟨bs,rd⟩:=I.reads hd (u:=.ref a) rfl
  exact ⟨⟨bs,rd⟩,d2⟩
 have kof:∀a∈as,(tlK s.heap 200).keyOf (.ref a)=some (bD (key a)):=fun a ha=>mv (tu a ha)
 refine ms (κ:=tlK s.heap 200) (κ0:=tuples' true) pl.isList ?keys ?kk (by rw [List.length_map]; exact h64) fun st' hp hs'=>?_
 case keys =>
  intro pr hpr
  rw [pairsOf_toList] at hpr
  obtain ⟨a,ha,e⟩:=List.mem_map.mp (List.of_mem_zip (show (pr.1,pr.2)∈_ from hpr)).1
  exact ⟨bD (key a),by rw [← e]; exact kof a ha⟩
 case kk =>
  intro A' s' ua k
  refine ⟨mw (by omega) k,fun v1 v2 rest e Q E' q=>?_⟩
  have firsts:∀bs:List Addr,(∀a∈bs,a∈as)→∃fs,PySem.W.KatTups s'.heap (bs.map Value.ref) fs∧fs.length=bs.length∧∀v∈fs,∃i t,v=Value.int i t:=fun bs=>by
   induction bs with
   | nil=>exact fun _=>⟨[],trivial,rfl,fun v hv=>by cases hv⟩
   | cons a bs ih =>
    intro hb
    obtain ⟨fs,f1,f2,f3⟩:=ih fun b hb'=>hb b (List.mem_cons_of_mem _ hb')
    obtain ⟨⟨cs,rd⟩,_⟩:=tu a (hb a List.mem_cons_self)
    obtain ⟨l,vs,_,el,⟨o,h1,h2,n,h3⟩,ra⟩:=aF (eB k rd)
    cases el
    obtain ⟨x1,vs,_,_,rfl,a1,ra⟩:=ap ra
    cases a1 with
    | int _ t =>
     refine ⟨.int (key a).1 t :: fs,PySem.W.KatTups.cons h1 h2 h3 (by simp) f1,by rw [List.length_cons,List.length_cons,f2],fun v hv=>?_⟩
     rcases List.mem_cons.mp hv with z | z
     ·exact ⟨_,t,z⟩
     ·exact f3 v z
  obtain ⟨fs,f1,f2,f3⟩:=firsts as fun _ h=>h
  rw [e] at f1
  have:(as.map Value.ref).length=rest.length + 2:=by rw [e]; rfl
  rw [List.length_map] at this
  refine PySem.W.kat_kind (T:=.type "int") f1 (by omega) (fun v hv=>?_) rfl q
  obtain ⟨i,t,rfl⟩:=f3 v hv
  exact PySem.W.Looks.of_pure rfl
 have pz:∀l:List Addr,(l.map Value.ref).zip (l.map Value.ref)=l.map fun a=>(Value.ref a,Value.ref a):=fun l=>by
  induction l with
  | nil=>rfl
  | cons a l ih=>rw [List.map_cons,List.zip_cons_cons,ih,List.map_cons]
 have hp':=Array.perm_iff_toList_perm.mp hp
 rw [pairsOf_toList,pz] at hp'
 obtain ⟨as',ea,pa⟩:=mq (f:=fun a=>(Value.ref a,Value.ref a)) (fun pr=>match pr.1 with
  | .ref a=>some a
  | _=>none) (fun a=>rfl) hp'
 have eo:((arrOf st').map (·.2)).toList=as'.map Value.ref:=by
  rw [Array.toList_map,ea,List.map_map]; rfl
 obtain ⟨e,he⟩:=sortedAll_at s.heap (as.map Value.ref) ((arrOf st').map (·.2))
 have hn:H (s.heap.objs.size + 1)=none:=I.hok.fresh (Nat.le_succ _)
 refine ⟨.ref (s.heap.objs.size + 1),upd H (s.heap.objs.size + 1) (.lst (as'.map V.ref)),I.laid (o:=.lst (as'.map V.ref)) (t':=s.toks) (fun _ _=>sortedAll_old) (Nat.le_succ _) (show ObjOk _ _ _ _ _ (.lst _) from ⟨?_,((arrOf st').map (·.2)).toList,e,?_,?_⟩),rfl,q _ as' hn pa ?_⟩
 ·rw [List.length_map,pa.length_eq]
  have:(64:Nat)≤sizeLine:=by decide
  omega
 ·rw [eo]; exact fI as'
 ·rw [he]
 ·rw [List.pairwise_iff_getElem]
  intro i j hi hj hij
  rw [List.length_map] at hi hj
  have sz:(pairsOf (as.map Value.ref)).size=as.length:=by rw [pairsOf_size,List.length_map]
  have kk:∀i (hi:i < as'.length),KK (tlK s.heap 200) (arrOf st') i=bD (key as'[i]):=fun i hi=>by
   have e:(arrOf st')[i]? = some (Value.ref as'[i],Value.ref as'[i]):=by
    rw [← Array.getElem?_toList,ea,List.getElem?_map,List.getElem?_eq_getElem hi]; rfl
   unfold KK
   rw [e]
   show ((tlK s.heap 200).keyOf (.ref as'[i])).getD _=_
   rw [kof _ (pa.mem_iff.mp (List.getElem_mem hi))]; rfl
  have:=hs' i j (by omega) (by rw [sz,← pa.length_eq]; exact hj)
  rw [kk i hi,kk j hj] at this
  rw [List.getElem_map,List.getElem_map]
  exact this
inductive rSortM (K:PySem.W.Frag) (xs:List V) (H:Hp) (Q:VK):Prop
 | mk (p:Addr) (ps:List (Addr×(Int×Tl))) (h0:xs=[.ref p]) (h1:SqL K H p (ps.map fun z=>V.ref z.1)) (h2:ps.length < 64) (h3:∀z∈ps,DatV K H (.ref z.1) (.tuple [.int z.2.1,tlD z.2.2])∧(tlD z.2.2).depth≤200)
  (h4:∀ (l:Addr) (ps':List (Addr×(Int×Tl))),H l=none→ps'.Perm ps→(ps'.map (·.2)).Pairwise (fun x y=>aJ (bD y) (bD x)=false)→Q (.ref l) (upd H l (.lst (ps'.map fun z=>V.ref z.1)))):rSortM K xs H Q
open Classical in
theorem df (hu:X.A.units + 220 < cLine):bY X (.builtin "sorted") (rSortM X.K):=by
 intro pins s σ H xs us Q I r h
 obtain ⟨p,ps,rfl,hs,h64,hk,q⟩:=h
 have tu:∀z∈ps,ItR s.heap 200 (.ref z.1) z.2:=fun z hz=>by
  obtain ⟨hd,d2⟩:=hk z hz
  obtain ⟨bs,rd⟩:=I.reads hd (u:=.ref z.1) rfl
  exact ⟨⟨bs,rd⟩,d2⟩
 have hkey:∃key:Addr→Int×Tl,∀z∈ps,key z.1=z.2:=by
  refine ⟨fun a=>if e:∃z,ItR s.heap 200 (.ref a) z then e.choose else (0,.rest),fun z hz=>?_⟩
  have e:∃y,ItR s.heap 200 (.ref z.1) y:=⟨_,tu z hz⟩
  show (if e:∃y,ItR s.heap 200 (.ref z.1) y then e.choose else (0,.rest))=z.2
  rw [dif_pos e]
  exact e.choose_spec.uniq (tu z hz)
 obtain ⟨key,hkey⟩:=hkey
 have eps:∀l:List (Addr×(Int×Tl)),(∀z∈l,key z.1=z.2)→(l.map (·.1)).map (fun a=>(a,key a))=l:=fun l=>by
  induction l with
  | nil=>exact fun _=>rfl
  | cons z l ih=>exact fun h=>by rw [List.map_cons,List.map_cons,ih fun y hy=>h y (List.mem_cons_of_mem _ hy),h z List.mem_cons_self]
 refine gm hu pins s σ H _ us Q I r ⟨p,ps.map (·.1),key,rfl,by rw [List.map_map]; exact hs,by rw [List.length_map]; exact h64,fun a ha=>?_,fun l as' hl pm pw=>?_⟩
 ·obtain ⟨z,hz,rfl⟩:=List.mem_map.mp ha
  rw [hkey z hz]
  exact hk z hz
 ·have:=q l (as'.map fun a=>(a,key a)) hl (by have:=pm.map fun a=>(a,key a); rw [eps ps hkey] at this; exact this) (by rw [List.map_map]; exact pw)
  rw [List.map_map] at this
  exact this
end
end L2
set_option Elab.async false
set_option linter.all false
set_option maxRecDepth 100000
namespace L2
open PySem PySem.Spec PyProof.Rows
section
variable {X:Cx}
theorem bz (hg:X.A.guards=some []) (hu:X.A.units + 220 < cLine):bY X (.builtin "repr") (fun xs H Q=>∃a d,xs=[.ref a]∧DatV X.K H (.ref a) d∧d.showable=true∧d.hasDict=false∧d.depth≤200∧d.shown.length≤sizeLine∧Q (.str d.shown) H):=by
 intro pins s σ H xs us Q I r h
 obtain ⟨a,d,rfl,hd,h1,h2,h3,h4,q⟩:=h
 obtain ⟨u,rfl,rfl⟩:=eO r
 obtain ⟨as,ra⟩:=I.reads hd (u:=.ref a) rfl
 exact repr_of_reads' ra h1 (fun z=>by rw [h2] at z; cases z) hg (by omega) (fun _ _ e=>e) (fun h' u tk hk=>⟨.str d.shown,H,I.kept hk,⟨_,rfl⟩,q⟩) h4
end
end L2
set_option Elab.async false
set_option linter.all false
set_option maxRecDepth 100000
namespace Pc
open PySem L2
def top (i:Nat):Stmt:=PySem.Challenge.pw_platecuts_k81_tellings_told.main.body.getD i (.Pass ⟨0,0,0,0⟩)
abbrev tF:Stmt:=top 0
abbrev gn:Stmt:=top 10
abbrev gp:Stmt:=top 11
abbrev oq:Stmt:=top 12
abbrev bT:Stmt:=top 13
abbrev eC:Stmt:=top 18
abbrev cF:Stmt:=top 19
abbrev bU:Stmt:=top 26
abbrev gq:Stmt:=top 27
abbrev eD:Stmt:=top 28
abbrev bG:Stmt:=top 29
abbrev eE:Stmt:=top 30
abbrev cf:Stmt:=top 31
abbrev cg:Stmt:=top 33
abbrev aW:Stmt:=top 34
abbrev ci:Stmt:=top 35
abbrev eF:Stmt:=top 39
abbrev eG:Stmt:=top 40
abbrev ca:Stmt:=inClass (top 41) 0
abbrev cj:Stmt:=inClass (top 41) 1
abbrev iG:Stmt:=inClass (top 41) 2
abbrev gR:Stmt:=inClass (top 41) 3
abbrev gS:Stmt:=inClass (top 41) 4
abbrev bH:Stmt:=inClass (top 41) 5
abbrev ck:Stmt:=inClass (top 41) 6
abbrev jv:Stmt:=top 43
abbrev ot:Stmt:=top 44
abbrev jw:Stmt:=top 45
abbrev jx:Stmt:=top 46
abbrev jy:Stmt:=top 47
abbrev gs:Stmt:=top 48
abbrev jz:Stmt:=top 49
abbrev gt:Stmt:=top 50
abbrev eH:Stmt:=top 51
abbrev eI:Stmt:=top 52
abbrev jA:Stmt:=top 53
abbrev fJ:Stmt:=top 54
abbrev fK:Stmt:=top 55
abbrev cT:Stmt:=top 56
abbrev jB:Stmt:=top 57
abbrev gT:Stmt:=top 58
section
variable {P:Program} {w:World} {K:PySem.W.Frag} {mg:Str→Option Value} {base:Heap}
structure Blt (mg:Str→Option Value):Prop where
 isi:mg "isinstance" = none
 int:mg "int" = none
 bool:mg "bool" = none
 list:mg "list" = none
 tuple:mg "tuple" = none
 len:mg "len" = none
 range:mg "range" = none
 max:mg "max" = none
 min:mg "min" = none
 abs:mg "abs" = none
 divmod:mg "divmod" = none
 sum:mg "sum" = none
 sorted:mg "sorted" = none
 all:mg "all" = none
 repr:mg "repr" = none
 zip:mg "zip" = none
 enumerate:mg "enumerate" = none
 mostk:∃t,mg "MOST_KINDS" = some (.int 8 t)
 fivek:∃t,mg "THINGS_OF_A_KIND" = some (.int 5 t)
end
theorem zG {H H':Hp} {p:Addr} (s:Same H H'):But p H H':=fun c o _ e=>s c o e
theorem av {t u:TS} {D:Ends} {σ:St} {H:Hp} (J:St→Hp→Prop) (h1:∀R:St→Hp→Prop,(∀σ' H',J σ' H'→R σ' H')→t { D with nx:=R } σ H) (h2:∀σ' H',J σ' H'→u D σ' H'):sL t u D σ H:=h1 _ h2
section
variable {P:Program} {w:World} {K:PySem.W.Frag} {mg:Str→Option Value} {base:Heap}
theorem ou:FnScope ["thing","least"] ["thing","least"] (defScope gn):=⟨rfl,rfl,rfl,by decide +kernel,rfl,by decide +kernel,by decide +kernel⟩
theorem mx {f:Addr} {fd:FuncData} (F:Fun K "is_whole" "is_whole" gn f fd) (B:Blt mg):FnOk P w K mg base CX0 1 f fd ["thing","least"] (bS K):=by
 refine F.ok ou (fun vs H Q E h=>?_) (fun cdv A outer s H vs Q E hr h=>?_)
 ·obtain ⟨x,T,l,rfl,_⟩:=h
  rfl
 obtain ⟨x,T,l,rfl,⟨tn,ty⟩,q⟩:=h
 refine ⟨_,ag (au (cq (aA bm rfl B.isi PyProof.Rows.boot_isinstance (aa (pv 0) (aa (bR (v:=.ty "int") rfl B.int PyProof.Rows.boot_int rfl) ab)))
  (cq (lH (aA bm rfl B.isi PyProof.Rows.boot_isinstance (aa (pv 0) (aa (bR (v:=.ty "bool") rfl B.bool PyProof.Rows.boot_bool rfl) ab))))
  (cM (bi oY (pv 0) (pv 1) (aB _)))))),?_⟩
 refine ⟨_,rfl,x,_,_,_,_,rfl,ty,rfl,nZ T tn,_,rfl,?_⟩
 have tb:=jo ty
 refine bW (fun c=>?_) (fun c=>?_)
 ·refine ⟨_,rfl,x,_,_,_,_,rfl,ty,rfl,gK T tn,_,rfl,_,rfl,?_⟩
  refine bW (fun c2=>?_) (fun c2=>?_)
  ·have hT:(T == "int")=true:=by
    have:(T == "bool")=false:=by simpa using c2
    rw [this,Bool.or_false] at c; exact c
   obtain ⟨i,rfl⟩:=qa ty tn hT
   exact ⟨_,rfl,_,rfl,_,_,rfl,rfl,q⟩
  ·have hT:ki x=true:=by
    rw [← tb]
    cases e:(T == "bool") with
    | true=>rfl
    | false=>rw [e] at c2; exact absurd rfl c2
   cases x <;> first | exact q | (exact absurd hT Bool.false_ne_true)
 ·have hx:aL x l=false:=by
   cases x with
   | int i =>
    exfalso
    have ty':=ty
    generalize hv:Value.type T=tv at ty'
    cases ty' with
    | int=>cases hv; exact c rfl
   | _=>rfl
  rw [hx] at q
  exact q
theorem oz:FnScope ["thing"] ["thing"] (defScope gp):=⟨rfl,rfl,rfl,by decide +kernel,rfl,by decide +kernel,by decide +kernel⟩
theorem my {f:Addr} {fd:FuncData} (F:Fun K "is_truth" "is_truth" gp f fd) (B:Blt mg):FnOk P w K mg base CX0 1 f fd ["thing"] (ek K):=by
 refine F.ok oz (fun vs H Q E h=>?_) (fun cdv A outer s H vs Q E hr h=>?_)
 ·obtain ⟨x,T,rfl,_⟩:=h
  rfl
 obtain ⟨x,T,rfl,⟨tn,ty⟩,q⟩:=h
 refine ⟨_,ag (au (aA bm rfl B.isi PyProof.Rows.boot_isinstance (aa (pv 0) (aa (bR (v:=.ty "bool") rfl B.bool PyProof.Rows.boot_bool rfl) ab)))),?_⟩
 refine ⟨_,rfl,x,_,_,_,_,rfl,ty,rfl,gK T tn,?_⟩
 rw [jo ty]
 exact q
theorem tG:FnScope ["thing"] ["thing"] (defScope oq):=⟨rfl,rfl,rfl,by decide +kernel,rfl,by decide +kernel,by decide +kernel⟩
theorem qd {f:Addr} {fd:FuncData} (F:Fun K "is_row" "is_row" oq f fd) (B:Blt mg):FnOk P w K mg base CX0 1 f fd ["thing"] (gL K):=by
 refine F.ok tG (fun vs H Q E h=>?_) (fun cdv A outer s H vs Q E hr h=>?_)
 ·obtain ⟨x,T,rfl,_⟩:=h
  rfl
 obtain ⟨x,T,rfl,ty,q⟩:=h
 refine ⟨_,ag (au (aA gf rfl B.isi PyProof.Rows.boot_isinstance (aa (pv 0) (aa (ax (aa (bR (v:=.ty "list") rfl B.list PyProof.Rows.boot_list rfl) (aa (bR (v:=.ty "tuple") rfl B.tuple PyProof.Rows.boot_tuple rfl) ab))) ab)))),?_⟩
 refine ⟨_,rfl,(by show 2≤sizeLine; decide),fun p hp=>?_⟩
 have s1:Same H (upd H p (.tup [.ty "list",.ty "tuple"])):=fun b o e=>by rw [aj (ah e hp)]; exact e
 have t2:=Ty.same s1 ty
 exact ⟨x,p,_,_,_,_,rfl,t2.2,af,rfl,oa T ty.1,q _ s1⟩
theorem scIsKind:FnScope ["thing","wide","high","worth","wanted","turns"] ["thing"] (defScope eF):=⟨rfl,rfl,rfl,by decide +kernel,rfl,by decide +kernel,by decide +kernel⟩
theorem kq {f:Addr} {fd:FuncData} (F:Fun K "is_kind" "is_kind" eF f fd) (B:Blt mg) (DW:Dn P w K mg base "is_whole" ["thing","least"] 1 (bS K)) (DT:Dn P w K mg base "is_truth" ["thing"] 1 (ek K)) (DR:Dn P w K mg base "is_row" ["thing"] 1 (gL K)) :
  FnOk P w K mg base CX0 2 f fd ["thing"] (cZ K):=by
 refine F.ok scIsKind (fun vs H Q E h=>?_) (fun cdv A outer s H vs Q E hr h=>?_)
 ·obtain ⟨x,T,rfl,_⟩:=h
  rfl
 obtain ⟨x,T,rfl,ty,q⟩:=h
 obtain ⟨tk,htk⟩:=B.fivek
 have nd:=scIsKind.nd
 refine ⟨_,ae (aK (PW.pt (bF (aX (aP (ao DR hr rfl (aa (pv 0) ab)))) (bB (aD dU (aA bc rfl B.len PySem.boot_len (aa (pv 0) ab)) (bf (v:=.int 5) rfl htk ⟨tk,rfl⟩) (aB _))))) (ag (au bX)) aE)
  (ae (aZ (pv 0) (md rfl (ai (am (i:=1) nd rfl (Or.inl rfl)) (ai (am (i:=2) nd rfl (Or.inl rfl)) (ai (am (i:=3) nd rfl (Or.inl rfl)) (ai (am (i:=4) nd rfl (Or.inl rfl)) (ai (am (i:=5) nd rfl (Or.inl rfl)) aN)))))))
  (ae (aK (PW.pt (bF (aX (aP (ao DW hr rfl (aa (pv 1) (aa ad ab))))) (bB (aX (aP (ao DW hr rfl (aa (pv 2) (aa ad ab)))))))) (ag (au bX)) aE)
  (ag (au (cq (ao DW hr rfl (aa (pv 3) (aa ad ab))) (cq (ao DW hr rfl (aa (pv 4) (aa ad ab))) (cM (ao DT hr rfl (aa (pv 5) ab))))))))),?_⟩
 refine ⟨_,rfl,x,T,rfl,ty,fun H1 s1=>⟨_,rfl,?_⟩⟩
 rcases q with ⟨n1,n2,q⟩ | ⟨a,xs,rfl,hx,its,q⟩
 ·have e:(T == "list" || T == "tuple")=false:=by simp [n1,n2]
  rw [e]
  refine aI (aI ?_)
  exact q H1 s1
 ·have e:(T == "list" || T == "tuple")=true:=by
   have t2:=ty.2
   generalize hv:Value.type T=tv at t2
   generalize hr:V.ref a=rv at t2
   cases t2 with
   | lst _=>cases hv; rfl
   | frz _=>cases hv; rfl
   | tup _=>cases hv; rfl
   | dK e=>cases hr; rcases hx with z | z <;> (rw [z] at e; cases e)
   | dT e=>cases hr; rcases hx with z | z <;> (rw [z] at e; cases e)
   | ins=>cases hv
   | _=>cases hr
  rw [e]
  have sq:SqL K H1 a xs∨SqT K H1 a xs:=by
   rcases hx with z | z
   ·exact .inl (SqL.of (s1 _ _ z))
   ·exact .inr (SqT.of (s1 _ _ z))
  refine aM ⟨_,rfl,a,xs,rfl,sq,rfl,_,rfl,?_⟩
  refine bW (fun c=>?_) (fun c=>?_)
  ·have hl:xs.length≠5:=fun z=>by rw [z] at c; exact absurd c (by decide)
   have:fF xs=false:=by
    unfold fF
    split
    ·exact absurd rfl hl
    ·rfl
   rw [this] at q
   exact q H1 s1
  ·have hl:xs.length=5:=by
    by_cases z:xs.length=5
    ·exact z
    ·exfalso
     apply c
     have:¬ (V.int (xs.length:Int)=V.int 5):=fun h=>z (by have:=V.int.inj h; omega)
     rw [decide_eq_false this]; rfl
   obtain ⟨x1,x2,x3,x4,x5,rfl⟩:∃x1 x2 x3 x4 x5,xs=[x1,x2,x3,x4,x5]:=by
    match xs,hl with
    | [a,b,c,d,e],_=>exact ⟨a,b,c,d,e,rfl⟩
   obtain ⟨T1,t1⟩:=its x1 (by simp)
   obtain ⟨T2,t2⟩:=its x2 (by simp)
   obtain ⟨T3,t3⟩:=its x3 (by simp)
   obtain ⟨T4,t4⟩:=its x4 (by simp)
   obtain ⟨T5,t5⟩:=its x5 (by simp)
   refine ⟨_,rfl,a,_,rfl,sq,rfl,x1,_,rfl,x2,_,rfl,x3,_,rfl,x4,_,rfl,x5,_,rfl,rfl,?_⟩
   refine ⟨_,rfl,x1,T1,1,rfl,Ty.same s1 t1,_,rfl,?_⟩
   have q':∀b,fF [x1,x2,x3,x4,x5]=b→Q (.bl b) H1:=fun b e=>by rw [← e]; exact q H1 s1
   have k5:fF [x1,x2,x3,x4,x5]=(aL x1 1 && aL x2 1 && aL x3 0 && aL x4 0 && ki x5):=rfl
   cases w1:aL x1 1 with
   | false =>
    refine aI (aI ?_)
    exact q' false (by rw [k5,w1]; rfl)
   | true =>
    refine aM ⟨_,rfl,x2,T2,1,rfl,Ty.same s1 t2,_,rfl,?_⟩
    cases w2:aL x2 1 with
    | false =>
     refine aI ?_
     exact q' false (by rw [k5,w1,w2]; rfl)
    | true =>
     refine aM ⟨_,rfl,x3,T3,0,rfl,Ty.same s1 t3,_,rfl,?_⟩
     cases w3:aL x3 0 with
     | false =>
      refine aM ?_
      exact q' false (by rw [k5,w1,w2,w3]; rfl)
     | true =>
      refine aI ⟨_,rfl,x4,T4,0,rfl,Ty.same s1 t4,_,rfl,?_⟩
      cases w4:aL x4 0 with
      | false =>
       refine aM ?_
       exact q' false (by rw [k5,w1,w2,w3,w4]; rfl)
      | true =>
       refine aI ⟨_,rfl,x5,T5,rfl,Ty.same s1 t5,?_⟩
       exact q' _ (by rw [k5,w1,w2,w3,w4]; rfl)
end
section
variable {P:Program} {w:World} {K:PySem.W.Frag} {mg:Str→Option Value} {base:Heap}
theorem scInit:FnScope ["self","blade","kinds","kind"] ["self","blade","kinds"] (defScope ca):=⟨rfl,rfl,rfl,by decide +kernel,rfl,by decide +kernel,by decide +kernel⟩
theorem oA {f C:Addr} {fd:FuncData} (F:Fun K "__init__" "Shop.__init__" ca f fd) (B:Blt mg) (T:ShopTxt K C) (DW:Dn P w K mg base "is_whole" ["thing","least"] 1 (bS K)) (DR:Dn P w K mg base "is_row" ["thing"] 1 (gL K))
  (DK:Dn P w K mg base "is_kind" ["thing"] 2 (cZ K)):FnOk P w K mg base CX0 3 f fd ["self","blade","kinds"] (iz C):=by
 refine F.ok scInit (fun vs H Q E h=>?_) (fun cdv A outer s H vs Q E hr h=>?_)
 ·obtain ⟨x,dx,ks,b,rs,kds,rfl,_⟩:=h
  rfl
 obtain ⟨x,dx,ks,b,rs,kds,rfl,hx,b0,hks,hrs,hgd,n1,n8,q⟩:=h
 have hr1:=hr.mono (show 1≤2 by decide)
 obtain ⟨tk,htk⟩:=B.mostk
 have nd:=scInit.nd
 have n8':(8:Nat) < sizeLine:=by decide
 refine ⟨_,ae (aK (aX (aP (ao DW hr1 rfl (aa (pv 1) (aa ad ab))))) dk aE)
  (ae (aK (PW.pt (bF (aX (aP (ao DR hr1 rfl (aa (pv 2) ab)))) (bB (aX (lN fq fq ad (aA bc rfl B.len PySem.boot_len (aa (pv 2) ab)) (bf (v:=.int 8) rfl htk ⟨tk,rfl⟩)))))) dk aE)
  (ae (cN PassesOwn.never rfl (me (pv 2)) (am (i:=3) nd rfl (Or.inl rfl)) (ag (aK (aX (aP (ao DK hr rfl (aa (pv 3) ab)))) dk aE)))
  (ae (lQ (pv 0) (pv 1) rfl)
  (ag (lQ (pv 0) (aV bh rfl B.tuple PyProof.Rows.boot_tuple (aa (jm (own:=["kind"]) (cs:=[]) (cap:=[]) rfl (me (pv 2))
   (fE (sc:=defScope ca) (N:=["self","blade","kinds","kind"]) rfl rfl (by decide +kernel))
   (fun _ _ _ _ _=>am (i:=0) (by show List.Nodup (["kind"]:List Str); decide +kernel) rfl (Or.inl rfl) (Or.inr rfl)) (fun _ _ _ _ _=>gI)
   (fun _ _ _ _ _=>aV (r:=mf K) bh rfl B.tuple PyProof.Rows.boot_tuple (aa (pv 0) ab))) ab)) rfl))))),?_⟩
 refine ⟨_,rfl,.int b,_,0,rfl,.int,_,rfl,?_⟩
 have wb:aL (.int b) 0=true:=decide_eq_true b0
 rw [wb]
 refine aM ?_
 have tyk:∃T,Ty K H (.ref ks) T∧(T == "list" || T == "tuple")=true:=by
  rcases hks with e | e
  ·exact ⟨_,.lst e,rfl⟩
  ·exact ⟨_,.tup e,rfl⟩
 obtain ⟨T0,ty0,te0⟩:=tyk
 refine ⟨_,rfl,.ref ks,T0,rfl,ty0,fun H1 s1=>⟨_,rfl,?_⟩⟩
 rw [te0]
 have sq:∀ {H2:Hp},Same H H2→SqL K H2 ks rs∨SqT K H2 ks rs:=fun s2=>by
  rcases hks with z | z
  ·exact .inl (SqL.of (s2 _ _ z))
  ·exact .inr (SqT.of (s2 _ _ z))
 refine aM ⟨_,rfl,ks,rs,rfl,sq s1,_,_,rfl,rfl,_,rfl,?_⟩
 rw [decide_eq_true (show (1:Int)≤(rs.length:Int) by omega)]
 refine aI ⟨_,_,rfl,rfl,_,rfl,?_⟩
 rw [decide_eq_true (show (rs.length:Int)≤8 by omega)]
 refine aM ?_
 have qm:=Paired.length hrs
 refine mh (j:=2) (a:=ks) (xs:=rs) rfl (hks.imp (fun z=>s1 _ _ z) fun z=>s1 _ _ z) (fun i σ H2=>∃v,σ=[some (.ref x),some (.int b),some (.ref ks),v]∧Same H1 H2) ⟨none,rfl,Same.refl _⟩ (fun i σ H2 _ ⟨_,_,s2⟩ o e=>s2 _ _ e) ?_ ?_
 ·rintro i y σ H2 hi ⟨v,rfl,s2⟩
  obtain ⟨k,hk,rk⟩:=Paired.getR hrs hi
  refine ⟨_,rfl,?_⟩
  simp only [nP,List.append_nil]
  refine km ((rk.same s1).same s2) (hgd k (List.mem_of_getElem? hk)) fun H3 s3=>⟨_,rfl,aM ?_⟩
  exact ⟨_,rfl,s2.trans s3⟩
 rintro σ H2 ⟨v,rfl,s12⟩
 have s2:Same H H2:=s1.trans s12
 refine ⟨_,rfl,_,rfl,x,C,dx,[],rfl,s2 _ _ hx,T.cl,T.nB,(by show 0 < 1000; decide),?_⟩
 have k3:∀c o,c≠x→H c=some o→(upd H2 x (.ins C dx (bQ "blade_width" (.int b) []))) c=some o:=fun c o n e=>by rw [aj n]; exact s2 c o e
 have x3:(upd H2 x (.ins C dx (bQ "blade_width" (.int b) []))) x=some (.ins C dx (bQ "blade_width" (.int b) [])):=af
 generalize upd H2 x (.ins C dx (bQ "blade_width" (.int b) []))=H3 at k3 x3 ⊢
 have rx:∀c xs,H c=some (.lst xs)∨H c=some (.tup xs)→c≠x:=fun c xs e z=>by
  subst z
  rcases e with e | e <;> (rw [hx] at e; cases e)
 dsimp only [sV,tCB,pe]
 refine kj (j:=2) (a:=ks) (xs:=rs) rfl (hks.imp (fun z=>k3 _ _ (rx _ _ (.inl z)) z) fun z=>k3 _ _ (rx _ _ (.inr z)) z) (fun i ys H4=>ys.length=i∧Same H3 H4∧Tups H4 ys (kds.take i)) (fun i ys H4 _ ⟨_,s4,_⟩ o e=>s4 _ _ e) ⟨rfl,Same.refl _,.nil⟩ ?_ ?_
 ·rintro i y ys H4 hi ⟨hy,s4,ty4⟩
  have hin:i < rs.length:=(List.getElem?_eq_some_iff.mp hi).1
  obtain ⟨k,hk,rk⟩:=Paired.getR hrs hi
  have tk1:kds.take (i + 1)=kds.take i ++ [k]:=by rw [List.take_add_one,hk]; rfl
  refine ⟨by omega,leS.set rfl,gJ ?_⟩
  rcases rk with ⟨a,rfl,h⟩ | ⟨a,rfl,h⟩
  ·have h4:=s4 _ _ (k3 _ _ (rx _ _ (.inr h)) h)
   exact ⟨_,rfl,a,_,rfl,.inr ⟨SqT.of h4,Nx.of hin ⟨by rw [List.length_append,hy]; rfl,s4,by rw [tk1]; exact Paired.snoc ty4 ⟨a,rfl,h4⟩⟩⟩⟩
  ·have h4:=s4 _ _ (k3 _ _ (rx _ _ (.inl h)) h)
   refine ⟨_,rfl,a,_,rfl,.inl ⟨SqL.of h4,fun l hl=>Nx.of hin ⟨by rw [List.length_append,hy]; rfl,fun c o e=>?_,?_⟩⟩⟩
   ·have e4:=s4 c o e
    rw [aj (ah e4 hl)]; exact e4
   ·rw [tk1]
    exact Paired.snoc (Tups.keep (fun c xs e=>by rw [aj (ah e hl)]; exact e) ty4) ⟨l,rfl,af⟩
 rintro ys H4 ⟨hy,s4,ty4⟩
 refine ⟨by omega,fun p hp=>?_⟩
 refine ⟨p,ys,rfl,.inl ⟨SqL.of af,fun r hr'=>?_⟩⟩
 have hpr:r≠p:=fun z=>by rw [z,af] at hr'; cases hr'
 have hr4:H4 r=none:=by rw [aj hpr] at hr'; exact hr'
 have x4:=s4 _ _ x3
 have xp:x≠p:=ah x4 hp
 have xr:x≠r:=ah x4 hr4
 refine ⟨_,rfl,x,C,dx,_,rfl,(by rw [aj xr,aj xp]; exact x4),T.cl,T.nK,(Nat.lt_of_le_of_lt (cr _ _ _) (by decide)),?_⟩
 rw [qm,List.take_length] at ty4
 refine q _ ⟨dx,r,ys,af,by rw [aj (Ne.symm xr),af],?_⟩ fun c o n e=>?_
 ·refine Tups.keep (fun c xs e=>?_) ty4
  rw [aj (fun z=>by rw [z,x4] at e; cases e),aj (ah e hr4),aj (ah e hp)]
  exact e
 ·have e4:=s4 _ _ (k3 c o n e)
  rw [aj n,aj (ah e4 hr4),aj (ah e4 hp)]
  exact e4
theorem oB:FnScope ["self"] ["self"] (defScope cj):=⟨rfl,rfl,rfl,by decide +kernel,rfl,by decide +kernel,by decide +kernel⟩
theorem mz {f C:Addr} {fd:FuncData} (F:Fun K "blade" "Shop.blade" cj f fd) (T:ShopTxt K C):FnOk P w K mg base CX0 1 f fd ["self"] (em C):=by
 refine F.ok oB (fun vs H Q E h=>?_) (fun cdv A outer s H vs Q E hr h=>?_)
 ·obtain ⟨x,b,ks,rfl,_⟩:=h
  rfl
 obtain ⟨x,b,ks,rfl,⟨dx,r,rs,h1,h2,h3⟩,q⟩:=h
 exact ⟨_,ag (au (fY (pv 0) rfl)),_,rfl,x,C,dx,_,_,rfl,h1,T.cl,T.nB,iy _ _,q⟩
end
section
variable {P:Program} {w:World} {K:PySem.W.Frag} {mg:Str→Option Value} {base:Heap}
theorem mB:FnScope ["kind"] ["kind"] (defScope eG):=⟨rfl,rfl,rfl,by decide +kernel,rfl,by decide +kernel,by decide +kernel⟩
theorem kx {f:Addr} {fd:FuncData} (F:Fun K "can_lie_turned" "can_lie_turned" eG f fd):FnOk P w K mg base CX0 1 f fd ["kind"] (eX K):=by
 refine F.ok mB (fun vs H Q E h=>?_) (fun cdv A outer s H vs Q E hr h=>?_)
 ·obtain ⟨a,k,rfl,_⟩:=h
  rfl
 obtain ⟨a,k,rfl,ha,q⟩:=h
 refine ⟨_,ag (au (cq (ar ix_tup (pv 0) ad (fun _ _=>rfl)) (cM (bi dU (ar ix_tup (pv 0) ad (fun _ _=>rfl)) (ar ix_tup (pv 0) ad (fun _ _=>rfl)) (aB _))))),?_⟩
 refine ⟨_,rfl,a,_,4,_,rfl,rfl,SqT.of ha,rfl,_,rfl,?_⟩
 unfold aT at q
 refine bW (fun c=>?_) (fun c=>?_)
 ·rw [c,Bool.true_and] at q
  refine ⟨_,rfl,a,_,0,_,rfl,rfl,SqT.of ha,rfl,_,rfl,a,_,1,_,rfl,rfl,SqT.of ha,rfl,rfl,?_⟩
  rw [fX]
  rw [show (decide (k.w=k.h))=(k.w == k.h) from rfl] at q
  exact q
 ·have c':k.tu=false:=by simpa using c
  rw [c',Bool.false_and] at q
  exact q
theorem ky:FnScope ["self","kind","turned"] ["self","kind","turned"] (defScope bH):=⟨rfl,rfl,rfl,by decide +kernel,rfl,by decide +kernel,by decide +kernel⟩
theorem iH {f C:Addr} {fd:FuncData} (F:Fun K "is_lying" "Shop.is_lying" bH f fd) (B:Blt mg) (T:ShopTxt K C) (DW:Dn P w K mg base "is_whole" ["thing","least"] 1 (bS K)) (DU:Dn P w K mg base "is_truth" ["thing"] 1 (ek K)) (DT:Dn P w K mg base "can_lie_turned" ["kind"] 1 (eX K)) :
  FnOk P w K mg base CX0 2 f fd ["self","kind","turned"] (cD K C):=by
 refine F.ok ky (fun vs H Q E h=>?_) (fun cdv A outer s H vs Q E hr h=>?_)
 ·obtain ⟨s,b,ks,x,t,T0,U,rfl,_⟩:=h
  rfl
 obtain ⟨s,b,ks,x,t,T0,U,rfl,⟨dx,r,rs,h1,h2,h3⟩,tx,tt,q⟩:=h
 have qo:=Paired.length h3
 refine ⟨_,ae (aK (PW.pt (bF (aX (aP (ao DW hr rfl (aa (pv 1) (aa ad ab))))) (bF (aD oY (pv 1) (aA bc rfl B.len PySem.boot_len (aa (fY (pv 0) rfl) ab)) (aB _))
   (bB (aX (aP (ao DU hr rfl (aa (pv 2) ab)))))))) (ag (au bX)) aE)
  (ag (au (sJ (lH (pv 2)) (cM (ao DT hr rfl (aa (ar ix_tup (fY (pv 0) rfl) (pv 1) (fun _ _=>rfl)) ab)))))),?_⟩
 refine ⟨_,rfl,x,_,0,rfl,tx,_,rfl,?_⟩
 cases hw:aL x 0 with
 | false =>
  have e:cH ks x t=false:=by
   cases x with
   | int i =>
    have h0:decide (0≤i)=false:=hw
    cases t <;> first | rfl | (show (decide (0≤i) && _)=false; rw [h0,Bool.false_and])
   | _=>rfl
  rw [e] at q
  exact aI (aI q)
 | true =>
  have ex:∃i,x=.int i∧0≤i:=by
   cases x with
   | int i=>exact ⟨i,rfl,of_decide_eq_true hw⟩
   | _=>cases hw
  obtain ⟨i,rfl,i0⟩:=ex
  refine aM ⟨_,rfl,_,rfl,s,C,dx,_,_,rfl,h1,T.cl,T.nK,dJ _ _,r,rs,rfl,.inr (SqT.of h2),i,_,rfl,rfl,_,rfl,?_⟩
  by_cases hi:(rs.length:Int)≤i
  ·rw [decide_eq_true hi]
   have e:cH ks (.int i) t=false:=by
    have hn:ks[i.toNat]? = none:=List.getElem?_eq_none (by omega)
    cases t <;> first | rfl | (show (decide (0≤i) && match ks[i.toNat]? with | some k=>_ | none=>false)=false; rw [hn,Bool.and_false])
   rw [e] at q
   exact aI (aI q)
  ·rw [decide_eq_false hi]
   refine aM ⟨_,rfl,t,_,rfl,tt,_,rfl,?_⟩
   have hlt:i.toNat < ks.length:=by omega
   cases hb:ki t with
   | false =>
    have e:cH ks (.int i) t=false:=by cases t <;> first | rfl | cases hb
    rw [e] at q
    exact aI q
   | true =>
    have ex:∃c,t=.bl c:=by cases t <;> first | exact ⟨_,rfl⟩ | cases hb
    obtain ⟨c,rfl⟩:=ex
    obtain ⟨y,hy⟩:∃y,rs[i.toNat]? = some y:=⟨rs[i.toNat]'(by omega),by simp [show i.toNat < rs.length by omega]⟩
    obtain ⟨k,hk,a,rfl,ha⟩:=Paired.getR h3 hy
    have e:cH ks (.int i) (.bl c)=(!c || aT k):=by
     show (decide (0≤i) && match ks[i.toNat]? with | some k=>(!c || aT k) | none=>false)=_
     rw [hk,decide_eq_true i0,Bool.true_and]
    rw [e] at q
    refine aM ⟨_,rfl,c,rfl,_,rfl,?_⟩
    refine bW (fun d=>?_) (fun d=>?_)
    ·rw [d,Bool.true_or] at q
     exact q
    ·have d':(!c)=false:=by simpa using d
     rw [d',Bool.false_or] at q
     have at':atI rs i=some (.ref a):=by
      have en:ixN rs.length i=some i.toNat:=by
       unfold ixN
       rw [if_pos i0,if_pos (by omega)]
      unfold atI
      rw [en]
      exact hy
     exact ⟨_,rfl,s,C,dx,_,_,rfl,h1,T.cl,T.nK,dJ _ _,_,rfl,r,rs,i,_,rfl,rfl,SqT.of h2,at',a,k,rfl,ha,q⟩
end
def mC (k:Kd) (c:Bool):List V:=if c=true then [.int k.h,.int k.w] else [.int k.w,.int k.h]
inductive spSides (K:PySem.W.Frag) (C:Addr) (vs:List V) (H:Hp) (Q:VK) (E_:XK):Prop
 | mk (s:Addr) (b:Int) (ks:List Kd) (x t:V) (T U:String) (e_1:vs=[.ref s,x,t]) (e_2:ShopAt C H s b ks) (e_3:Ty K H x T) (e_4:Ty K H t U) (e_5:cH ks x t=true) (e_6:∀ (i:Int) (c:Bool) (k:Kd) (p:Addr),x=.int i→t=.bl c→ks[i.toNat]? = some k→cH ks x t=true→H p=none→Q (.ref p) (upd H p (.tup (mC k c)))):spSides K C vs H Q E_
theorem fL {ks:List Kd} {x t:V} (h:cH ks x t=true):∃ (i:Int) (c:Bool) (k:Kd),x=.int i∧t=.bl c∧0≤i∧ks[i.toNat]? = some k:=by
 unfold cH at h
 split at h
 ·rename_i i c
  rw [Bool.and_eq_true] at h
  obtain ⟨h1,h2⟩:=h
  split at h2
  ·rename_i k hk
   exact ⟨i,c,k,rfl,rfl,of_decide_eq_true h1,hk⟩
  ·cases h2
 ·cases h
theorem qe {rs:List V} {i:Int} {v:V} (i0:0≤i) (h:rs[i.toNat]? = some v):atI rs i=some v:=by
 have en:ixN rs.length i=some i.toNat:=by
  unfold ixN
  have:=(List.getElem?_eq_some_iff.mp h).1
  rw [if_pos i0,if_pos (by omega)]
 unfold atI
 rw [en]
 exact h
section
variable {P:Program} {w:World} {K:PySem.W.Frag} {mg:Str→Option Value} {base:Heap}
theorem scSides:FnScope ["self","kind","turned","row"] ["self","kind","turned"] (defScope ck):=⟨rfl,rfl,rfl,by decide +kernel,rfl,by decide +kernel,by decide +kernel⟩
theorem mD {f C:Addr} {fd:FuncData} (F:Fun K "sides" "Shop.sides" ck f fd) (T:ShopTxt K C) (ML:Mn P w K mg base C "is_lying" ["self","kind","turned"] 2 (cD K C)) :
  FnOk P w K mg base CX0 3 f fd ["self","kind","turned"] (spSides K C):=by
 refine F.ok scSides (fun vs H Q E h=>?_) (fun cdv A outer s H vs Q E hr h=>?_)
 ·obtain ⟨s,b,ks,x,t,T0,U,rfl,_⟩:=h
  rfl
 obtain ⟨s,b,ks,x,t,T0,U,rfl,S,tx,tt,he,hq⟩:=h
 have nd:=scSides.nd
 refine ⟨_,ae (aK (aX (aP (mn (pv 0) T.cl ML hr (aa (pv 1) (aa (pv 2) ab))))) (ag eL) aE)
  (ae (ay (i:=3) nd rfl (Or.inl rfl) (ar ix_tup (fY (pv 0) rfl) (pv 1) (fun _ _=>rfl)))
  (ae (aK (aP (pv 2)) (ag (au (ax (aa (ar ix_tup (pv 3) ad (fun _ _=>rfl)) (aa (ar ix_tup (pv 3) ad (fun _ _=>rfl)) ab))))) aE)
  (ag (au (ax (aa (ar ix_tup (pv 3) ad (fun _ _=>rfl)) (aa (ar ix_tup (pv 3) ad (fun _ _=>rfl)) ab))))))),?_⟩
 obtain ⟨dx,r,rs,h1,h2,h3⟩:=id S
 refine ⟨_,rfl,s,dx,_,rfl,h1,de _ _ (by decide +kernel) (by decide +kernel),_,rfl,_,rfl,s,b,ks,x,t,T0,U,rfl,S,tx,tt,_,rfl,?_⟩
 cases hl:cH ks x t with
 | false=>rw [hl] at he; cases he
 | true =>
  obtain ⟨i,c,k,rfl,rfl,i0,hk⟩:=fL hl
  have qo:=Paired.length h3
  have hik:=(List.getElem?_eq_some_iff.mp hk).1
  obtain ⟨y,hy⟩:∃y,rs[i.toNat]? = some y:=⟨rs[i.toNat]'(by omega),by simp [show i.toNat < rs.length by omega]⟩
  obtain ⟨k',hk',a,rfl,ha⟩:=Paired.getR h3 hy
  rw [hk] at hk'
  obtain rfl:=Option.some.inj hk'
  refine aM ?_
  refine ⟨_,rfl,s,C,dx,_,_,rfl,h1,T.cl,T.nK,dJ _ _,_,rfl,r,rs,i,_,rfl,rfl,SqT.of h2,qe i0 hy,?_⟩
  refine ⟨_,rfl,_,rfl,?_⟩
  cases c with
  | true =>
   refine aI ?_
   refine ⟨_,rfl,a,_,1,_,rfl,rfl,SqT.of ha,rfl,_,rfl,a,_,0,_,rfl,rfl,SqT.of ha,rfl,(by show 2≤sizeLine; decide),fun p hp=>?_⟩
   exact hq i true k p rfl rfl hk hl hp
  | false =>
   refine aM ?_
   refine ⟨_,rfl,a,_,0,_,rfl,rfl,SqT.of ha,rfl,_,rfl,a,_,1,_,rfl,rfl,SqT.of ha,rfl,(by show 2≤sizeLine; decide),fun p hp=>?_⟩
   exact hq i false k p rfl rfl hk hl hp
end
mutual
inductive Dt (p:Addr) (H:Hp):V→PyData→Prop
 | non:Dt p H .non .none
 | bl (b:Bool):Dt p H (.bl b) (.bool b)
 | int (i:Int):Dt p H (.int i) (.int i)
 | str (z:Str):Dt p H (.str z) (.str z)
 | lst {a:Addr} {xs:List V} {ds:List PyData}:a≠p→H a=some (.lst xs)→Dts p H xs ds→Dt p H (.ref a) (.list ds)
 | tup {a:Addr} {xs:List V} {ds:List PyData}:H a=some (.tup xs)→Dts p H xs ds→Dt p H (.ref a) (.tuple ds)
 | emp {a:Addr}:H a=some (.dK [])→Dt p H (.ref a) (.dict [])
inductive Dts (p:Addr) (H:Hp):List V→List PyData→Prop
 | nil:Dts p H [] []
 | cons {x:V} {d:PyData} {xs:List V} {ds:List PyData}:Dt p H x d→Dts p H xs ds→Dts p H (x :: xs) (d :: ds)
end
mutual
theorem Dt.same {p:Addr} {H H':Hp} (s:Same H H'):∀ {v:V} {d:PyData},Dt p H v d→Dt p H' v d
 | _,_,.non=>.non
 | _,_,.bl b=>.bl b
 | _,_,.int i=>.int i
 | _,_,.str z=>.str z
 | _,_,.lst n h r=>.lst n (s _ _ h) (r.same s)
 | _,_,.tup h r=>.tup (s _ _ h) (r.same s)
 | _,_,.emp h=>.emp (s _ _ h)
theorem Dts.same {p:Addr} {H H':Hp} (s:Same H H'):∀ {vs:List V} {ds:List PyData},Dts p H vs ds→Dts p H' vs ds
 | _,_,.nil=>.nil
 | _,_,.cons a r=>.cons (a.same s) (r.same s)
end
theorem Dts.length {p:Addr} {H:Hp}:∀ {vs:List V} {ds:List PyData},Dts p H vs ds→vs.length=ds.length
 | _,_,.nil=>rfl
 | _,_,.cons _ r=>by rw [List.length_cons,List.length_cons,r.length]
theorem Dt.ty {K:PySem.W.Frag} {p:Addr} {H:Hp} {v:V} {d:PyData} (h:Dt p H v d):∃T,Ty K H v T:=by
 cases h with
 | non=>exact ⟨_,Ty.non⟩
 | bl b=>exact ⟨_,Ty.bl⟩
 | int i=>exact ⟨_,Ty.int⟩
 | str z=>exact ⟨_,Ty.str⟩
 | lst _ h _=>exact ⟨_,Ty.lst h⟩
 | tup h _=>exact ⟨_,Ty.tup h⟩
 | emp h=>exact ⟨_,Ty.dK h⟩
mutual
theorem Dt.but {p:Addr} {H H':Hp} (hp:∃xs,H p=some (.lst xs)) (b:But p H H'):∀ {v:V} {d:PyData},Dt p H v d→Dt p H' v d
 | _,_,.non=>.non
 | _,_,.bl b=>.bl b
 | _,_,.int i=>.int i
 | _,_,.str z=>.str z
 | _,_,.lst n h r=>.lst n (b _ _ n h) (r.but hp b)
 | _,_,.tup h r=>.tup (b _ _ (fun z=>by obtain ⟨_,e⟩:=hp; rw [z,e] at h; cases h) h) (r.but hp b)
 | _,_,.emp h=>.emp (b _ _ (fun z=>by obtain ⟨_,e⟩:=hp; rw [z,e] at h; cases h) h)
theorem Dts.but {p:Addr} {H H':Hp} (hp:∃xs,H p=some (.lst xs)) (b:But p H H'):∀ {vs:List V} {ds:List PyData},Dts p H vs ds→Dts p H' vs ds
 | _,_,.nil=>.nil
 | _,_,.cons a r=>.cons (a.but hp b) (r.but hp b)
end
mutual
def wt:PyData→Nat
 | .str z=>z.length + 1
 | .list ds=>wts ds + 1
 | .tuple ds=>wts ds + 1
 | _=>1
def wts:List PyData→Nat
 | []=>0
 | d :: r=>wt d + wts r
end
theorem mE (d:PyData):1≤wt d:=by cases d <;> simp only [wt] <;> omega
def aU:PyData→Option (List PyData)
 | .list ds=>some ds
 | .tuple ds=>some ds
 | _=>none
theorem mF {d x:PyData} {ds:List PyData} (h:aU d=some ds) (hx:x∈ds):sizeOf x < sizeOf d:=by
 have:=List.sizeOf_lt_of_mem hx
 cases d <;> simp only [aU,Option.some.injEq,reduceCtorEq] at h
 ·subst h; simp; omega
 ·subst h; simp; omega
theorem Dt.row {K:PySem.W.Frag} {p:Addr} {H:Hp} {v:V} {d:PyData} (h:Dt p H v d):(aU d=none∧∃T,Ty K H v T∧(T == "list" || T == "tuple")=false)∨∃a xs ds T,aU d=some ds∧v=.ref a∧(H a=some (.lst xs)∨H a=some (.tup xs))∧Dts p H xs ds∧Ty K H v T∧(T == "list" || T == "tuple")=true:=by
 cases h with
 | non=>exact .inl ⟨rfl,_,Ty.non,rfl⟩
 | bl b=>exact .inl ⟨rfl,_,Ty.bl,rfl⟩
 | int i=>exact .inl ⟨rfl,_,Ty.int,rfl⟩
 | str z=>exact .inl ⟨rfl,_,Ty.str,rfl⟩
 | lst _ h r=>exact .inr ⟨_,_,_,_,rfl,rfl,.inl h,r,Ty.lst h,rfl⟩
 | tup h r=>exact .inr ⟨_,_,_,_,rfl,rfl,.inr h,r,Ty.tup h,rfl⟩
 | emp h=>exact .inl ⟨rfl,_,Ty.dK h,rfl⟩
def bw (d:PyData) (z:Str) (n:Nat):Bool:=match aU d with
 | some (.str y :: r)=>decide (r.length + 1=n) && decide (y=z)
 | _=>false
section
variable {P:Program} {w:World} {K:PySem.W.Frag} {mg:Str→Option Value} {base:Heap}
inductive spBegins (vs:List V) (H:Hp) (Q:VK) (E_:XK):Prop
 | mk (pp:Addr) (v:V) (d:PyData) (z:Str) (n:Nat) (e_1:vs=[v,.str z,.int n]) (e_2:1≤n) (e_3:Dt pp H v d) (e_4:∀H',Same H H'→Q (.bl (bw d z n)) H'):spBegins vs H Q E_
theorem scbegins:FnScope ["thing","word","many"] ["thing","word","many"] (defScope bU):=⟨rfl,rfl,rfl,by decide +kernel,rfl,by decide +kernel,by decide +kernel⟩
theorem kz {f:Addr} {fd:FuncData} (F:Fun K "begins_with" "begins_with" bU f fd) (B:Blt mg) (bs:mg "str" = none) (DR:Dn P w K mg base "is_row" ["thing"] 1 (gL K)):FnOk P w K mg base CX0 2 f fd ["thing","word","many"] (spBegins):=by
 refine F.ok scbegins (fun vs H Q E h=>?_) (fun cdv A outer s H vs Q E hr h=>?_)
 ·obtain ⟨pp,v,d,z,n,rfl,_⟩:=h
  rfl
 obtain ⟨pp,v,d,z,n,rfl,n1,hd,q⟩:=h
 have nd:=scbegins.nd
 refine ⟨_,(@ae _ _ _ _ _ (@aK _ _ _ _ _ _ _ _ (PW.pt (bF (@aX _ _ _ _ (@aP _ _ _ (@ao _ _ _ _ _ _ _ _ _ _ DR hr rfl (@aa _ _ _ _ _ (pv 0) ab rfl) (by decide) rfl rfl) (by intro _; rfl))) (bB (@aD _ _ _ _ _ _ _ _ dU (@aA _ _ _ _ _ _ _ _ _ bc rfl B.len PySem.boot_len (@aa _ _ _ _ _ (pv 0) ab rfl) (by decide) (by decide) rfl rfl) (pv 2) (aB _))))) (@ag _ _ _ (@au _ _ _ _ bX)) aE) (@ag _ _ _ (@au _ _ _ _ (cq (@aA _ _ _ _ _ _ _ _ _ bm rfl B.isi PyProof.Rows.boot_isinstance (@aa _ _ _ _ _ (@ar _ _ _ _ _ _ _ bv (pv 0) ad (fun _ _=>rfl)) (@aa _ _ _ _ _ (bR (v:=.ty "str") rfl bs PyProof.Rows.boot_str rfl) ab rfl) rfl) (by decide) (by decide) rfl rfl) (cM (@bi _ _ _ _ _ _ _ _ bg (@ar _ _ _ _ _ _ _ bv (pv 0) ad (fun _ _=>rfl)) (pv 1) (aB _))))))),?_⟩
 rcases hd.row (K:=K) with ⟨e,T,ty,hT⟩ | ⟨a,xs,ds,T,e,rfl,hx,dx,ty,hT⟩
 ·refine ⟨_,rfl,v,T,rfl,ty,fun H1 s1=>⟨_,rfl,?_⟩⟩
  rw [hT]
  have q1:=q H1 s1
  unfold bw at q1
  rw [e] at q1
  exact aI (aI q1)
 refine ⟨_,rfl,_,T,rfl,ty,fun H1 s1=>⟨_,rfl,?_⟩⟩
 rw [hT]
 have sq:SqL K H1 a xs∨SqT K H1 a xs:=hx.imp (fun z=>SqL.of (s1 _ _ z)) fun z=>SqT.of (s1 _ _ z)
 refine aM ⟨_,rfl,a,_,rfl,sq,_,rfl,rfl,_,rfl,?_⟩
 have q1:=q H1 s1
 have len:=dx.length
 cases dx with
 | nil =>
  rw [show decide (V.int (([]:List V).length:Int)=V.int (n:Int))=false from decide_eq_false (fun z=>by have:=V.int.inj z; simp at this; omega)]
  unfold bw at q1
  rw [e] at q1
  exact aI q1
 | @cons x d1 xs ds hd1 dr =>
  have a0:atI (x :: xs) 0=some x:=aR (Int.le_refl _) rfl
  have ixs:∀Q':VK,Q' x H1→rIx K (.ref a) (.int 0) H1 Q':=fun Q' h=>sq.elim (fun z=>.inl ⟨a,_,0,x,rfl,rfl,z,a0,h⟩) (fun z=>.inr (.inl ⟨a,_,0,x,rfl,rfl,z,a0,h⟩))
  rw [List.length_cons,List.length_cons] at len
  by_cases hn:ds.length + 1=n
  ·rw [show decide (V.int ((x :: xs).length:Int)=V.int (n:Int))=true from decide_eq_true (by rw [List.length_cons,len,hn])]
   refine aM ⟨_,rfl,ixs _ ?_⟩
   cases hd1 with
   | str y =>
    refine ⟨_,_,_,_,_,rfl,(Ty.str (K:=K)).2,rfl,ce "str" (by simp [az]),_,rfl,aI ?_⟩
    refine ⟨_,rfl,ixs _ ⟨_,rfl,rfl,?_⟩⟩
    unfold bw at q1
    rw [e] at q1
    simp only [hn,decide_true,Bool.true_and] at q1
    rw [show decide (V.str y=V.str z)=decide (y=z) from decide_eq_decide.mpr ⟨V.str.inj,congrArg _⟩]
    exact q1
   | non=>exact ⟨_,_,_,_,_,rfl,(Ty.non (K:=K)).2,rfl,ce "NoneType" (by simp [az]),_,rfl,aM (by unfold bw at q1; rw [e] at q1; exact q1)⟩
   | bl b=>exact ⟨_,_,_,_,_,rfl,(Ty.bl (K:=K)).2,rfl,ce "bool" (by simp [az]),_,rfl,aM (by unfold bw at q1; rw [e] at q1; exact q1)⟩
   | int i=>exact ⟨_,_,_,_,_,rfl,(Ty.int (K:=K)).2,rfl,ce "int" (by simp [az]),_,rfl,aM (by unfold bw at q1; rw [e] at q1; exact q1)⟩
   | lst _ h r=>exact ⟨_,_,_,_,_,rfl,(Ty.lst (s1 _ _ h) (K:=K)).2,rfl,ce "list" (by simp [az]),_,rfl,aM (by unfold bw at q1; rw [e] at q1; exact q1)⟩
   | tup h r=>exact ⟨_,_,_,_,_,rfl,(Ty.tup (s1 _ _ h) (K:=K)).2,rfl,ce "tuple" (by simp [az]),_,rfl,aM (by unfold bw at q1; rw [e] at q1; exact q1)⟩
   | emp h=>exact ⟨_,_,_,_,_,rfl,(Ty.dK (s1 _ _ h) (K:=K)).2,rfl,ce "dict" (by simp [az]),_,rfl,aM (by unfold bw at q1; rw [e] at q1; exact q1)⟩
  ·rw [show decide (V.int ((x :: xs).length:Int)=V.int (n:Int))=false from decide_eq_false (fun z=>hn (by have:=V.int.inj z; rw [List.length_cons,len] at this; omega))]
   refine aI ?_
   have z:bw d z n=false:=by
    unfold bw
    rw [e]
    cases d1 <;> simp [hn]
   rw [z] at q1
   exact q1
def sd1 (k:Kd) (c:Bool):Int:=if c=true then k.h else k.w
def sd2 (k:Kd) (c:Bool):Int:=if c=true then k.w else k.h
theorem mG (k:Kd) (c:Bool):mC k c=[.int (sd1 k c),.int (sd2 k c)]:=by cases c <;> rfl
def dP (ks:List Kd) (w h:Int) (kv tv xv yv:V):Bool:=cH ks kv tv && aL xv 0 && aL yv 0 && (match kv,tv,xv,yv with
 | .int i,.bl c,.int x,.int y=>(match ks[i.toNat]? with
  | some k=>decide (x + sd1 k c≤w) && decide (y + sd2 k c≤h)
  | none=>false)
 | _,_,_,_=>false)
inductive spLiesG (K:PySem.W.Frag) (C:Addr) (vs:List V) (H:Hp) (Q:VK) (E_:XK):Prop
 | mk (s:Addr) (b:Int) (ks:List Kd) (w h:Int) (kv tv xv yv:V) (T1 T2 T3 T4:String) (e_1:vs=[.ref s,.int w,.int h,kv,tv,xv,yv]) (e_2:ShopAt C H s b ks) (e_3:Ty K H kv T1) (e_4:Ty K H tv T2) (e_5:Ty K H xv T3) (e_6:Ty K H yv T4) (e_7:∀H',Same H H'→Q (.bl (dP ks w h kv tv xv yv)) H'):spLiesG K C vs H Q E_
theorem scliesG:FnScope ["shop","wide","high","kind","turned","x","y","piece_wide","piece_high"] ["shop","wide","high","kind","turned","x","y"] (defScope eC):=⟨rfl,rfl,rfl,by decide +kernel,rfl,by decide +kernel,by decide +kernel⟩
theorem mH {f C:Addr} {fd:FuncData} (F:Fun K "lies_in" "lies_in" eC f fd) (T:ShopTxt K C) (DW:Dn P w K mg base "is_whole" ["thing","least"] 1 (bS K)) (MI:Mn P w K mg base C "is_lying" ["self","kind","turned"] 2 (cD K C)) (MS:Mn P w K mg base C "sides" ["self","kind","turned"] 3 (spSides K C)):FnOk P w K mg base CX0 4 f fd ["shop","wide","high","kind","turned","x","y"] (spLiesG K C):=by
 refine F.ok scliesG (fun vs H Q E h=>?_) (fun cdv A outer s H vs Q E hr h=>?_)
 ·obtain ⟨s,b,ks,w1,h1,kv,tv,xv,yv,T1,T2,T3,T4,rfl,_⟩:=h
  rfl
 obtain ⟨s,b,ks,w1,h1',kv,tv,xv,yv,T1,T2,T3,T4,rfl,S,t1,t2,t3,t4,q⟩:=h
 have nd:=scliesG.nd
 have hr1:=hr.mono (show 1≤3 by decide)
 have hr2:=hr.mono (show 2≤3 by decide)
 refine ⟨_,(@ae _ _ _ _ _ (@aK _ _ _ _ _ _ _ _ (PW.pt (bF (@aX _ _ _ _ (@aP _ _ _ (mn (pv 0) T.cl MI hr2 (@aa _ _ _ _ _ (pv 3) (@aa _ _ _ _ _ (pv 4) ab rfl) rfl)) (by intro _; rfl))) (bF (@aX _ _ _ _ (@aP _ _ _ (@ao _ _ _ _ _ _ _ _ _ _ DW hr1 rfl (@aa _ _ _ _ _ (pv 5) (@aa _ _ _ _ _ ad ab rfl) rfl) (by decide) rfl rfl) (by intro _; rfl))) (bB (@aX _ _ _ _ (@aP _ _ _ (@ao _ _ _ _ _ _ _ _ _ _ DW hr1 rfl (@aa _ _ _ _ _ (pv 6) (@aa _ _ _ _ _ ad ab rfl) rfl) (by decide) rfl rfl) (by intro _; rfl))))))) (@ag _ _ _ (@au _ _ _ _ bX)) aE) (@ae _ _ _ _ _ (@aZ _ _ _ _ _ _ (mn (pv 0) T.cl MS hr (@aa _ _ _ _ _ (pv 3) (@aa _ _ _ _ _ (pv 4) ab rfl) rfl)) (aY rfl (ai (am (i:=7) nd rfl (Or.inl rfl)) (ai (am (i:=8) nd rfl (Or.inl rfl)) aN))) rfl rfl rfl) (@ag _ _ _ (@au _ _ _ _ (cq (@bi _ _ _ _ _ _ _ _ fq (@aw _ _ _ _ _ _ _ _ aQ (pv 5) (pv 7)) (pv 1) (aB _)) (cM (@bi _ _ _ _ _ _ _ _ fq (@aw _ _ _ _ _ _ _ _ aQ (pv 6) (pv 8)) (pv 2) (aB _)))))))),?_⟩
 obtain ⟨dx,r,rs,h1,h2,h3⟩:=id S
 refine ⟨_,rfl,s,dx,_,rfl,h1,(de _ _ (by decide +kernel) (by decide +kernel)),_,rfl,_,rfl,s,b,ks,kv,tv,T1,T2,rfl,S,t1,t2,_,rfl,?_⟩
 cases ly:cH ks kv tv with
 | false =>
  have q1:=q H (Same.refl _)
  unfold dP at q1
  rw [ly] at q1
  exact aI (aI q1)
 | true =>
 refine aM ⟨_,rfl,xv,T3,0,rfl,t3,_,rfl,?_⟩
 cases hx:aL xv 0 with
 | false =>
  have q1:=q H (Same.refl _)
  unfold dP at q1
  rw [ly,hx] at q1
  exact aI (aI q1)
 | true =>
 refine aM ⟨_,rfl,yv,T4,0,rfl,t4,_,rfl,?_⟩
 cases hy:aL yv 0 with
 | false =>
  have q1:=q H (Same.refl _)
  unfold dP at q1
  rw [ly,hx,hy] at q1
  exact aI q1
 | true =>
 refine aM ?_
 obtain ⟨i,c,k,rfl,rfl,i0,hk⟩:=fL ly
 obtain ⟨x1,rfl⟩:∃i,xv=.int i:=by cases xv <;> first | exact ⟨_,rfl⟩ | cases hx
 obtain ⟨y1,rfl⟩:∃i,yv=.int i:=by cases yv <;> first | exact ⟨_,rfl⟩ | cases hy
 refine ⟨_,rfl,s,dx,_,rfl,h1,(de _ _ (by decide +kernel) (by decide +kernel)),_,rfl,_,rfl,s,b,ks,.int i,.bl c,T1,T2,rfl,S,t1,t2,ly,fun i' c' k' p e1 e2 hk' _ hp=>?_⟩
 cases e1
 cases e2
 rw [hk] at hk'
 cases hk'
 rw [mG]
 have q1:=q _ (Same.new hp (o:=.tup [.int (sd1 k c),.int (sd2 k c)]))
 refine ⟨p,_,rfl,SqT.of af,rfl,_,_,rfl,_,_,rfl,rfl,?_⟩
 refine ⟨_,rfl,_,rfl,_,_,rfl,rfl,_,rfl,_,_,rfl,rfl,_,rfl,?_⟩
 unfold dP at q1
 rw [ly,hx,hy] at q1
 simp only [hk,Bool.true_and] at q1
 refine bW (fun cc=>?_) (fun cc=>?_)
 ·refine ⟨_,rfl,_,rfl,_,_,rfl,rfl,_,rfl,_,_,rfl,rfl,?_⟩
  rw [cc,Bool.true_and] at q1
  exact q1
 ·rw [show decide (x1 + sd1 k c≤w1)=false by simpa using cc,Bool.false_and] at q1
  exact q1
end
theorem Dts.one {p:Addr} {H:Hp} {xs:List V} {ds:List PyData} {n:Nat} (h:Dts p H xs ds) (hl:ds.length=n + 1):∃x d xs' ds',xs=x :: xs'∧ds=d :: ds'∧Dt p H x d∧Dts p H xs' ds'∧ds'.length=n:=by
 cases h with
 | nil=>cases hl
 | cons a r=>exact ⟨_,_,_,_,rfl,rfl,a,r,Nat.succ.inj hl⟩
theorem Dts.zero {p:Addr} {H:Hp} {xs:List V} {ds:List PyData} (h:Dts p H xs ds) (hl:ds.length=0):xs=[]∧ds=[]:=by
 cases h with
 | nil=>exact ⟨rfl,rfl⟩
 | cons a r=>cases hl
theorem Dts.three {p:Addr} {H:Hp} {xs:List V} {ds:List PyData} (h:Dts p H xs ds) (hl:ds.length=3):∃x1 x2 x3 d1 d2 d3,xs=[x1,x2,x3]∧ds=[d1,d2,d3]∧Dt p H x1 d1∧Dt p H x2 d2∧Dt p H x3 d3:=by
 obtain ⟨x1,d1,xs,ds,rfl,rfl,h1,h,hl⟩:=h.one hl
 obtain ⟨x2,d2,xs,ds,rfl,rfl,h2,h,hl⟩:=h.one hl
 obtain ⟨x3,d3,xs,ds,rfl,rfl,h3,h,hl⟩:=h.one hl
 obtain ⟨rfl,rfl⟩:=h.zero hl
 exact ⟨_,_,_,_,_,_,rfl,rfl,h1,h2,h3⟩
theorem Dts.four {p:Addr} {H:Hp} {xs:List V} {ds:List PyData} (h:Dts p H xs ds) (hl:ds.length=4):∃x1 x2 x3 x4 d1 d2 d3 d4,xs=[x1,x2,x3,x4]∧ds=[d1,d2,d3,d4]∧Dt p H x1 d1∧Dt p H x2 d2∧Dt p H x3 d3∧Dt p H x4 d4:=by
 obtain ⟨x1,d1,xs,ds,rfl,rfl,h1,h,hl⟩:=h.one hl
 obtain ⟨x2,x3,x4,d2,d3,d4,rfl,rfl,h2,h3,h4⟩:=h.three hl
 exact ⟨_,_,_,_,_,_,_,_,rfl,rfl,h1,h2,h3,h4⟩
section
variable {P:Program} {w:World} {K:PySem.W.Frag} {mg:Str→Option Value} {base:Heap}
structure TrC (K:PySem.W.Frag) (mg:Str→Option Value) (wa:Addr):Prop where
 dn:∃t,mg "DOWN" = some (.str "down" t)
 rs:∃t,mg "REST" = some (.str "rest" t)
 pc:∃t,mg "PIECE" = some (.str "piece" t)
 n1:∃t,mg "THINGS_OF_A_REST" = some (.int 1 t)
 n5:∃t,mg "THINGS_OF_A_PIECE" = some (.int 5 t)
 n4:∃t,mg "THINGS_OF_A_CUT" = some (.int 4 t)
 wy:mg "WAYS" = some (.ref wa)
 wq:∀H,SqT K H wa [.str "down",.str "across"]
def oC (b side:Int):PyData→Bool
 | .int p=>decide (1≤p) && decide (p + b < side)
 | _=>false
def cL (b side:Int) (d:PyData):Bool:=match aU d with
 | some [_,p,_,_]=>oC b side p
 | _=>false
def isC (b w h:Int) (d:PyData):Bool:=if bw d "down" 4=true then cL b w d else if bw d "across" 4=true then cL b h d else false
def gU (ks:List Kd) (w h:Int):PyData→PyData→PyData→PyData→Bool
 | .int i,.bool c,.int x,.int y=>dP ks w h (.int i) (.bl c) (.int x) (.int y)
 | _,_,_,_=>false
def isL (ks:List Kd) (w h:Int) (d:PyData):Bool:=if bw d "piece" 5=true then (match aU d with
 | some [_,k,t,x,y]=>gU ks w h k t x y
 | _=>false) else bw d "rest" 1
inductive spParts2 (vs:List V) (H:Hp) (Q:VK) (E_:XK):Prop
 | mk (b w h p:Int) (t:Addr) (dn:Bool) (e_1:vs=[.int b, .ref t, .str (if dn=true then "down" else "across"), .int p]) (e_2:H t=some (.tup [.int w, .int h])) (e_3:∀ (u t1 t2:Addr) (H':Hp), H' u=some (.tup [.ref t1, .ref t2])→H' t1=some (.tup (if dn=true then [.int p, .int h] else [.int w, .int p]))→H' t2=some (.tup (if dn=true then [.int (w - p - b), .int h] else [.int w, .int (h - p - b)]))→Same H H'→Q (.ref u) H'):spParts2 vs H Q E_
inductive spCut (vs:List V) (H:Hp) (Q:VK) (E_:XK):Prop
 | mk (pp:Addr) (b x y w h:Int) (sp:Addr) (v:V) (d:PyData) (e_1:vs=[.int b,.ref sp]) (e_2:H sp=some (.tup [.int x,.int y,.int w,.int h,v])) (e_3:Dt pp H v d) (e_4:∀H',Same H H'→Q (.bl (isC b w h d)) H'):spCut vs H Q E_
inductive spLeaf (C:Addr) (vs:List V) (H:Hp) (Q:VK) (E_:XK):Prop
 | mk (pp:Addr) (b' x y w h:Int) (s sp:Addr) (ks:List Kd) (v:V) (d:PyData) (e_1:vs=[.ref s,.ref sp]) (e_2:ShopAt C H s b' ks) (e_3:H sp=some (.tup [.int x,.int y,.int w,.int h,v])) (e_4:Dt pp H v d) (e_5:∀H',Same H H'→Q (.bl (isL ks w h d)) H'):spLeaf C vs H Q E_
inductive spBehind (vs:List V) (H:Hp) (Q:VK) (E_:XK):Prop
 | mk (b x y w h p:Int) (sp a:Addr) (dn:Bool) (l r:V) (e_1:vs=[.int b, .ref sp]) (e_2:H sp=some (.tup [.int x, .int y, .int w, .int h, .ref a])) (e_3:(H a=some (.lst [.str (if dn=true then "down" else "across"), .int p, l, r])∨H a=some (.tup [.str (if dn=true then "down" else "across"), .int p, l, r]))) (e_4:∀ (u t1 t2:Addr) (H':Hp), H u=none→H' u=some (.lst [.ref t1, .ref t2])→H' t1=some (.tup (if dn=true then [.int x, .int y, .int p, .int h, l] else [.int x, .int y, .int w, .int p, l]))→H' t2=some (.tup (if dn=true then [.int (x + (p + b)), .int y, .int (w - p - b), .int h, r] else [.int x, .int (y + (p + b)), .int w, .int (h - p - b), r]))→Same H H'→Q (.ref u) H'):spBehind vs H Q E_
theorem scparts2:FnScope ["blade","part","way","p","wide","high"] ["blade","part","way","p"] (defScope cF):=⟨rfl,rfl,rfl,by decide +kernel,rfl,by decide +kernel,by decide +kernel⟩
theorem kA {f wa:Addr} {fd:FuncData} (F:Fun K "cut_parts" "cut_parts" cF f fd) (Z:TrC K mg wa):FnOk P w K mg base CX0 1 f fd ["blade","part","way","p"] (spParts2):=by
 refine F.ok scparts2 (fun vs H Q E h=>?_) (fun cdv A outer s H vs Q E hr h=>?_)
 ·obtain ⟨b,w1,h1,p1,t,dn,rfl,_⟩:=h
  rfl
 obtain ⟨b,w1,h1,p1,t,dn,rfl,ht,q⟩:=h
 have nd:=scparts2.nd
 obtain ⟨tdn,hdn⟩:=Z.dn
 obtain ⟨trs,hrs⟩:=Z.rs
 obtain ⟨tpc,hpc⟩:=Z.pc
 obtain ⟨tn1,hn1⟩:=Z.n1
 obtain ⟨tn5,hn5⟩:=Z.n5
 obtain ⟨tn4,hn4⟩:=Z.n4
 refine ⟨_,(@ae _ _ _ _ _ (@aZ _ _ _ _ _ _ (pv 1) (aY rfl (ai (am (i:=4) nd rfl (Or.inl rfl)) (ai (am (i:=5) nd rfl (Or.inl rfl)) aN))) rfl rfl rfl) (@ae _ _ _ _ _ (@aK _ _ _ _ _ _ _ _ (@aD _ _ _ _ _ _ _ _ bg (pv 2) (bf (v:=.str "down") rfl hdn ⟨tdn,rfl⟩) (aB _)) (@ag _ _ _ (@au _ _ _ _ (@ax _ _ _ _ _ (@aa _ _ _ _ _ (@ax _ _ _ _ _ (@aa _ _ _ _ _ (pv 3) (@aa _ _ _ _ _ (pv 5) ab rfl) rfl)) (@aa _ _ _ _ _ (@ax _ _ _ _ _ (@aa _ _ _ _ _ (@aw _ _ _ _ _ _ _ _ bd (@aw _ _ _ _ _ _ _ _ bd (pv 4) (pv 3)) (pv 0)) (@aa _ _ _ _ _ (pv 5) ab rfl) rfl)) ab rfl) rfl)))) aE) (@ag _ _ _ (@au _ _ _ _ (@ax _ _ _ _ _ (@aa _ _ _ _ _ (@ax _ _ _ _ _ (@aa _ _ _ _ _ (pv 4) (@aa _ _ _ _ _ (pv 3) ab rfl) rfl)) (@aa _ _ _ _ _ (@ax _ _ _ _ _ (@aa _ _ _ _ _ (pv 4) (@aa _ _ _ _ _ (@aw _ _ _ _ _ _ _ _ bd (@aw _ _ _ _ _ _ _ _ bd (pv 5) (pv 3)) (pv 0)) ab rfl) rfl)) ab rfl) rfl)))))),?_⟩
 refine ⟨_,rfl,t,_,rfl,SqT.of ht,rfl,_,_,rfl,_,_,rfl,rfl,?_⟩
 cases dn with
 | true =>
  refine ⟨_,rfl,rfl,_,rfl,aI ?_⟩
  refine ⟨_,rfl,_,rfl,(by show 2≤sizeLine; decide),fun t1 h1'=>?_⟩
  have sa:Same H (upd H t1 (.tup [.int p1,.int h1])):=Same.new h1'
  have ka:(upd H t1 (.tup [.int p1,.int h1])) t1=some (.tup [.int p1,.int h1]):=af
  generalize upd H t1 (.tup [.int p1,.int h1])=Ha at sa ka ⊢
  refine ⟨_,rfl,_,rfl,_,_,rfl,rfl,_,rfl,_,_,rfl,rfl,_,rfl,(by show 2≤sizeLine; decide),fun t2 h2'=>?_⟩
  have sb:Same Ha (upd Ha t2 (.tup [.int (w1 - p1 - b),.int h1])):=Same.new h2'
  have kb:(upd Ha t2 (.tup [.int (w1 - p1 - b),.int h1])) t2=some (.tup [.int (w1 - p1 - b),.int h1]):=af
  generalize upd Ha t2 (.tup [.int (w1 - p1 - b),.int h1])=Hb at sb kb ⊢
  refine ⟨(by show 2≤sizeLine; decide),fun u hu=>?_⟩
  have sc:Same Hb (upd Hb u (.tup [.ref t1,.ref t2])):=Same.new hu
  have kc:(upd Hb u (.tup [.ref t1,.ref t2])) u=some (.tup [.ref t1,.ref t2]):=af
  generalize upd Hb u (.tup [.ref t1,.ref t2])=Hc at sc kc ⊢
  exact q u t1 t2 Hc kc (sc _ _ (sb _ _ ka)) (sc _ _ kb) ((sa.trans sb).trans sc)
 | false =>
  refine ⟨_,rfl,rfl,_,rfl,aM ?_⟩
  refine ⟨_,rfl,_,rfl,(by show 2≤sizeLine; decide),fun t1 h1'=>?_⟩
  have sa:Same H (upd H t1 (.tup [.int w1,.int p1])):=Same.new h1'
  have ka:(upd H t1 (.tup [.int w1,.int p1])) t1=some (.tup [.int w1,.int p1]):=af
  generalize upd H t1 (.tup [.int w1,.int p1])=Ha at sa ka ⊢
  refine ⟨_,rfl,_,rfl,_,rfl,_,_,rfl,rfl,_,rfl,_,_,rfl,rfl,(by show 2≤sizeLine; decide),fun t2 h2'=>?_⟩
  have sb:Same Ha (upd Ha t2 (.tup [.int w1,.int (h1 - p1 - b)])):=Same.new h2'
  have kb:(upd Ha t2 (.tup [.int w1,.int (h1 - p1 - b)])) t2=some (.tup [.int w1,.int (h1 - p1 - b)]):=af
  generalize upd Ha t2 (.tup [.int w1,.int (h1 - p1 - b)])=Hb at sb kb ⊢
  refine ⟨(by show 2≤sizeLine; decide),fun u hu=>?_⟩
  have sc:Same Hb (upd Hb u (.tup [.ref t1,.ref t2])):=Same.new hu
  have kc:(upd Hb u (.tup [.ref t1,.ref t2])) u=some (.tup [.ref t1,.ref t2]):=af
  generalize upd Hb u (.tup [.ref t1,.ref t2])=Hc at sc kc ⊢
  exact q u t1 t2 Hc kc (sc _ _ (sb _ _ ka)) (sc _ _ kb) ((sa.trans sb).trans sc)
theorem fe {d:PyData} {z:Str} {n:Nat} (h:bw d z n=true):∃r,aU d=some (.str z :: r)∧r.length + 1=n:=by
 unfold bw at h
 split at h
 ·rename_i y r e
  rw [Bool.and_eq_true] at h
  have:=of_decide_eq_true h.2
  subst this
  exact ⟨r,e,of_decide_eq_true h.1⟩
 ·cases h
theorem Dt.ref_row {p:Addr} {H:Hp} {v:V} {d:PyData} {ds:List PyData} (h:Dt p H v d) (e:aU d=some ds):∃a xs,v=.ref a∧(H a=some (.lst xs)∨H a=some (.tup xs))∧Dts p H xs ds:=by
 cases h <;> simp only [aU,Option.some.injEq,reduceCtorEq] at e
 ·subst e; exact ⟨_,_,rfl,.inl ‹_›,‹_›⟩
 ·subst e; exact ⟨_,_,rfl,.inr ‹_›,‹_›⟩
theorem ixR {H H1:Hp} {a:Addr} {xs:List V} (s1:Same H H1) (hx:H a=some (.lst xs)∨H a=some (.tup xs)) {i:Int} {x:V} (e:atI xs i=some x) {Q':VK} (h:Q' x H1):rIx K (.ref a) (.int i) H1 Q' :=
 hx.elim (fun z=>.inl ⟨a,_,i,x,rfl,rfl,SqL.of (s1 _ _ z),e,h⟩) (fun z=>.inr (.inl ⟨a,_,i,x,rfl,rfl,SqT.of (s1 _ _ z),e,h⟩))
theorem sccut:FnScope ["blade","spot","tree","way","side"] ["blade","spot"] (defScope gq):=⟨rfl,rfl,rfl,by decide +kernel,rfl,by decide +kernel,by decide +kernel⟩
theorem qg {f wa:Addr} {fd:FuncData} (F:Fun K "is_cut" "is_cut" gq f fd) (Z:TrC K mg wa) (DB:Dn P w K mg base "begins_with" ["thing","word","many"] 2 spBegins) (DW:Dn P w K mg base "is_whole" ["thing","least"] 1 (bS K)):FnOk P w K mg base CX0 3 f fd ["blade","spot"] (spCut):=by
 refine F.ok sccut (fun vs H Q E h=>?_) (fun cdv A outer s H vs Q E hr h=>?_)
 ·obtain ⟨pp,b,x1,y1,w1,h1,sp,v,d,rfl,_⟩:=h
  rfl
 obtain ⟨pp,b,x0',y0',w1,h1,sp,v,d,rfl,hsp,hd,q⟩:=h
 have nd:=sccut.nd
 obtain ⟨tdn,hdn⟩:=Z.dn
 obtain ⟨trs,hrs⟩:=Z.rs
 obtain ⟨tpc,hpc⟩:=Z.pc
 obtain ⟨tn1,hn1⟩:=Z.n1
 obtain ⟨tn5,hn5⟩:=Z.n5
 obtain ⟨tn4,hn4⟩:=Z.n4
 have hr1:=hr.mono (show 1≤2 by decide)
 refine ⟨_,(@ae _ _ _ _ _ (@ay _ _ 2 _ _ _ _ nd rfl (Or.inl rfl) (@ar _ _ _ _ _ _ _ ix_tup (pv 1) ad (fun _ _=>rfl)) rfl (Or.inl rfl)) (@ae _ _ _ _ _ (@cN _ _ _ _ _ _ _ _ PassesOwn.never rfl (ib (bf (v:=.ref wa) rfl Z.wy rfl)) (am (i:=3) nd rfl (Or.inl rfl)) (@ag _ _ _ (@aK _ _ _ _ _ _ _ _ (@aP _ _ _ (@ao _ _ _ _ _ _ _ _ _ _ DB hr rfl (@aa _ _ _ _ _ (pv 2) (@aa _ _ _ _ _ (pv 3) (@aa _ _ _ _ _ (bf (v:=.int 4) rfl hn4 ⟨tn4,rfl⟩) ab rfl) rfl) rfl) (by decide) rfl rfl) (by intro _; rfl)) (@ae _ _ _ _ _ (@ay _ _ 4 _ _ _ _ nd rfl (Or.inl rfl) (eK (@aD _ _ _ _ _ _ _ _ bg (pv 3) (bf (v:=.str "down") rfl hdn ⟨tdn,rfl⟩) (aB _)) (@ar _ _ _ _ _ _ _ ix_tup (pv 1) ad (fun _ _=>rfl)) (@ar _ _ _ _ _ _ _ ix_tup (pv 1) ad (fun _ _=>rfl))) rfl (Or.inl rfl)) (@ag _ _ _ (@au _ _ _ _ (cq (@ao _ _ _ _ _ _ _ _ _ _ DW hr1 rfl (@aa _ _ _ _ _ (@ar _ _ _ _ _ _ _ bv (pv 2) ad (fun _ _=>rfl)) (@aa _ _ _ _ _ ad ab rfl) rfl) (by decide) rfl rfl) (cM (@bi _ _ _ _ _ _ _ _ lM (@aw _ _ _ _ _ _ _ _ aQ (@ar _ _ _ _ _ _ _ bv (pv 2) ad (fun _ _=>rfl)) (pv 0)) (pv 4) (aB _))))))) aE)) (by intro _; rfl)) (@ag _ _ _ (@au _ _ _ _ bX)))),?_⟩
 refine ⟨_,rfl,sp,_,4,_,rfl,rfl,SqT.of hsp,rfl,?_⟩
 refine ⟨wa, rfl, ⟨_, Z.wq H⟩, jd (xs:=[.str "down", .str "across"]) (fun i σ H'=>(∃v3 v4, σ=[some (.int b), some (.ref sp), some v, v3, v4])∧Same H H'∧(1≤i→bw d "down" 4=false)∧(2≤i→bw d "across" 4=false)) ⟨⟨_, _, rfl⟩, Same.refl _, fun z=>absurd z (by decide), fun z=>absurd z (by decide)⟩ (fun i σ H' _ _=>Z.wq H') ?_ ?_⟩
 ·rintro i y σ H1 hi ⟨⟨v3,v4,rfl⟩,s1,g1,g2⟩
  match i,hi with
  | 0,hi =>
   cases hi
   refine ⟨_,rfl,_,rfl,pp,v,d,"down",4,rfl,by decide,hd.same s1,fun H2 s12=>⟨_,rfl,?_⟩⟩
   have s2:=s1.trans s12
   refine bW (fun hb=>?_) (fun hb=>⟨⟨_,_,rfl⟩,s2,fun _=>by simpa using hb,fun z=>absurd z (by decide)⟩)
   obtain ⟨r0,er,rl⟩:=fe hb
   obtain ⟨a,xs,rfl,hx,dx⟩:=hd.ref_row er
   cases dx with
   | @cons x0 _ xs0 _ hd0 dx =>
   obtain ⟨x1,x2,x3,d1,d2,d3,rfl,rfl,hd1,hd2,hd3⟩:=dx.three (by simpa using rl)
   have sp2:=s2 _ _ hsp
   have co:cL b w1 d=oC b w1 d1:=by
    unfold cL
    rw [er]
   refine ⟨_,rfl,rfl,_,rfl,aI ⟨_,rfl,sp,_,2,_,rfl,rfl,SqT.of sp2,rfl,?_⟩⟩
   have at1:atI [x0,x1,x2,x3] 1=some x1:=aR (by decide) rfl
   obtain ⟨T1,t1⟩:=(hd1.same s2).ty (K:=K)
   refine ⟨_,rfl,ixR s2 hx at1 ⟨x1,T1,1,rfl,t1,_,rfl,?_⟩⟩
   have q1:=q H2 s2
   unfold isC at q1
   rw [if_pos hb,co] at q1
   cases hd1 with
   | int p =>
    have q1:Q (.bl (decide (1≤p) && decide (p + b < w1))) H2:=q1
    refine bW (fun cc=>?_) (fun cc=>?_)
    ·have cc:decide (1≤p)=true:=cc
     refine ⟨_,rfl,ixR s2 hx at1 ⟨_,rfl,_,_,rfl,rfl,_,rfl,_,_,rfl,rfl,?_⟩⟩
     rw [cc,Bool.true_and] at q1
     exact q1
    ·have cc:¬ decide (1≤p)=true:=cc
     rw [show decide (1≤p)=false by simpa using cc,Bool.false_and] at q1
     exact q1
   | _=>exact aM q1
  | 1,hi =>
   cases hi
   have hb0:=g1 (by decide)
   refine ⟨_,rfl,_,rfl,pp,v,d,"across",4,rfl,by decide,hd.same s1,fun H2 s12=>⟨_,rfl,?_⟩⟩
   have s2:=s1.trans s12
   refine bW (fun hb=>?_) (fun hb=>⟨⟨_,_,rfl⟩,s2,fun _=>hb0,fun _=>by simpa using hb⟩)
   obtain ⟨r0,er,rl⟩:=fe hb
   obtain ⟨a,xs,rfl,hx,dx⟩:=hd.ref_row er
   cases dx with
   | @cons x0 _ xs0 _ hd0 dx =>
   obtain ⟨x1,x2,x3,d1,d2,d3,rfl,rfl,hd1,hd2,hd3⟩:=dx.three (by simpa using rl)
   have sp2:=s2 _ _ hsp
   have co:cL b h1 d=oC b h1 d1:=by
    unfold cL
    rw [er]
   refine ⟨_,rfl,rfl,_,rfl,aM ⟨_,rfl,sp,_,3,_,rfl,rfl,SqT.of sp2,rfl,?_⟩⟩
   have at1:atI [x0,x1,x2,x3] 1=some x1:=aR (by decide) rfl
   obtain ⟨T1,t1⟩:=(hd1.same s2).ty (K:=K)
   refine ⟨_,rfl,ixR s2 hx at1 ⟨x1,T1,1,rfl,t1,_,rfl,?_⟩⟩
   have q1:=q H2 s2
   unfold isC at q1
   rw [if_neg (by rw [hb0]; decide),if_pos hb,co] at q1
   cases hd1 with
   | int p =>
    have q1:Q (.bl (decide (1≤p) && decide (p + b < h1))) H2:=q1
    refine bW (fun cc=>?_) (fun cc=>?_)
    ·have cc:decide (1≤p)=true:=cc
     refine ⟨_,rfl,ixR s2 hx at1 ⟨_,rfl,_,_,rfl,rfl,_,rfl,_,_,rfl,rfl,?_⟩⟩
     rw [cc,Bool.true_and] at q1
     exact q1
    ·have cc:¬ decide (1≤p)=true:=cc
     rw [show decide (1≤p)=false by simpa using cc,Bool.false_and] at q1
     exact q1
   | _=>exact aM q1
 ·rintro σ H1 ⟨⟨v3,v4,rfl⟩,s1,g1,g2⟩
  have q1:=q H1 s1
  unfold isC at q1
  rw [if_neg (by rw [g1 (by decide)]; decide),if_neg (by rw [g2 (by decide)]; decide)] at q1
  exact q1
theorem gW {C:Addr} {H H':Hp} {s:Addr} {b:Int} {ks:List Kd} (k:Same H H') (S:ShopAt C H s b ks):ShopAt C H' s b ks:=S.keep (fun c o e=>k _ _ e) (fun c C' d fs e=>k _ _ e)
theorem scleaf:FnScope ["shop","spot","x","y","wide","high","tree"] ["shop","spot"] (defScope eD):=⟨rfl,rfl,rfl,by decide +kernel,rfl,by decide +kernel,by decide +kernel⟩
theorem oE {f wa C:Addr} {fd:FuncData} (F:Fun K "is_leaf" "is_leaf" eD f fd) (Z:TrC K mg wa) (DB:Dn P w K mg base "begins_with" ["thing","word","many"] 2 spBegins) (DL:Dn P w K mg base "lies_in" ["shop","wide","high","kind","turned","x","y"] 4 (spLiesG K C)):FnOk P w K mg base CX0 5 f fd ["shop","spot"] (spLeaf C):=by
 refine F.ok scleaf (fun vs H Q E h=>?_) (fun cdv A outer s H vs Q E hr h=>?_)
 ·obtain ⟨pp,b',x1,y1,w1,h1,s,sp,ks,v,d,rfl,_⟩:=h
  rfl
 obtain ⟨pp,b',x0',y0',w1,h1,s,sp,ks,v,d,rfl,S,hsp,hd,q⟩:=h
 have nd:=scleaf.nd
 obtain ⟨tdn,hdn⟩:=Z.dn
 obtain ⟨trs,hrs⟩:=Z.rs
 obtain ⟨tpc,hpc⟩:=Z.pc
 obtain ⟨tn1,hn1⟩:=Z.n1
 obtain ⟨tn5,hn5⟩:=Z.n5
 obtain ⟨tn4,hn4⟩:=Z.n4
 have hr2:=hr.mono (show 2≤4 by decide)
 refine ⟨_,(@ae _ _ _ _ _ (@aZ _ _ _ _ _ _ (pv 1) (aY rfl (ai (am (i:=2) nd rfl (Or.inl rfl)) (ai (am (i:=3) nd rfl (Or.inl rfl)) (ai (am (i:=4) nd rfl (Or.inl rfl)) (ai (am (i:=5) nd rfl (Or.inl rfl)) (ai (am (i:=6) nd rfl (Or.inl rfl)) aN)))))) rfl rfl rfl) (@ae _ _ _ _ _ (@aK _ _ _ _ _ _ _ _ (@aP _ _ _ (@ao _ _ _ _ _ _ _ _ _ _ DB hr2 rfl (@aa _ _ _ _ _ (pv 6) (@aa _ _ _ _ _ (bf (v:=.str "piece") rfl hpc ⟨tpc,rfl⟩) (@aa _ _ _ _ _ (bf (v:=.int 5) rfl hn5 ⟨tn5,rfl⟩) ab rfl) rfl) rfl) (by decide) rfl rfl) (by intro _; rfl)) (@ag _ _ _ (@au _ _ _ _ (@ao _ _ _ _ _ _ _ _ _ _ DL hr rfl (@aa _ _ _ _ _ (pv 0) (@aa _ _ _ _ _ (pv 4) (@aa _ _ _ _ _ (pv 5) (@aa _ _ _ _ _ (@ar _ _ _ _ _ _ _ bv (pv 6) ad (fun _ _=>rfl)) (@aa _ _ _ _ _ (@ar _ _ _ _ _ _ _ bv (pv 6) ad (fun _ _=>rfl)) (@aa _ _ _ _ _ (@ar _ _ _ _ _ _ _ bv (pv 6) ad (fun _ _=>rfl)) (@aa _ _ _ _ _ (@ar _ _ _ _ _ _ _ bv (pv 6) ad (fun _ _=>rfl)) ab rfl) rfl) rfl) rfl) rfl) rfl) rfl) (by decide) rfl rfl))) aE) (@ag _ _ _ (@au _ _ _ _ (@ao _ _ _ _ _ _ _ _ _ _ DB hr2 rfl (@aa _ _ _ _ _ (pv 6) (@aa _ _ _ _ _ (bf (v:=.str "rest") rfl hrs ⟨trs,rfl⟩) (@aa _ _ _ _ _ (bf (v:=.int 1) rfl hn1 ⟨tn1,rfl⟩) ab rfl) rfl) rfl) (by decide) rfl rfl))))),?_⟩
 refine ⟨_,rfl,sp,_,rfl,SqT.of hsp,rfl,_,_,rfl,_,_,rfl,_,_,rfl,_,_,rfl,_,_,rfl,rfl,?_⟩
 refine ⟨_,rfl,pp,v,d,"piece",5,rfl,by decide,hd,fun H1 s1=>⟨_,rfl,?_⟩⟩
 refine bW (fun hb=>?_) (fun hb=>?_)
 ·obtain ⟨r0,er,rl⟩:=fe hb
  obtain ⟨a,xs,rfl,hx,dx⟩:=hd.ref_row er
  cases dx with
  | @cons x0 _ xs0 _ hd0 dx =>
  obtain ⟨x1,x2,x3,x4,d1,d2,d3,d4,rfl,rfl,hd1,hd2,hd3,hd4⟩:=dx.four (by simpa using rl)
  have a1:atI [x0,x1,x2,x3,x4] 1=some x1:=aR (by decide) rfl
  have a2:atI [x0,x1,x2,x3,x4] 2=some x2:=aR (by decide) rfl
  have a3:atI [x0,x1,x2,x3,x4] 3=some x3:=aR (by decide) rfl
  have a4:atI [x0,x1,x2,x3,x4] 4=some x4:=aR (by decide) rfl
  obtain ⟨T1,t1⟩:=(hd1.same s1).ty (K:=K)
  obtain ⟨T2,t2⟩:=(hd2.same s1).ty (K:=K)
  obtain ⟨T3,t3⟩:=(hd3.same s1).ty (K:=K)
  obtain ⟨T4,t4⟩:=(hd4.same s1).ty (K:=K)
  refine ⟨_,rfl,_,rfl,_,rfl,_,rfl,ixR s1 hx a1 ⟨_,rfl,ixR s1 hx a2 ⟨_,rfl,ixR s1 hx a3 ⟨_,rfl,ixR s1 hx a4 ?_⟩⟩⟩⟩
  refine ⟨s,b',ks,w1,h1,x1,x2,x3,x4,T1,T2,T3,T4,rfl,gW s1 S,t1,t2,t3,t4,fun H2 s2=>?_⟩
  have q1:=q H2 (s1.trans s2)
  unfold isL at q1
  rw [if_pos hb,er] at q1
  have e:gU ks w1 h1 d1 d2 d3 d4=dP ks w1 h1 x1 x2 x3 x4:=by
   cases hd1 with
   | int i=>cases hd2 with
    | bl c=>cases hd3 with
     | int x=>cases hd4 with
      | int y=>rfl
      | _=>simp [gU,dP,aL]
     | _=>simp [gU,dP,aL]
    | _=>simp [gU,dP,cH]
   | _=>simp [gU,dP,cH]
  have q1:Q (.bl (gU ks w1 h1 d1 d2 d3 d4)) H2:=q1
  rw [e] at q1
  exact q1
 ·refine ⟨_,rfl,pp,v,d,"rest",1,rfl,by decide,hd.same s1,fun H2 s2=>?_⟩
  have q1:=q H2 (s1.trans s2)
  unfold isL at q1
  rw [if_neg hb] at q1
  exact q1
theorem scbehind:FnScope ["blade","spot","x","y","wide","high","tree","way","p","first","second","wide_ahead","high_ahead","wide_behind","high_behind","step","far_x","far_y"] ["blade","spot"] (defScope bG):=⟨rfl,rfl,rfl,by decide +kernel,rfl,by decide +kernel,by decide +kernel⟩
set_option maxHeartbeats 1000000 in
theorem kB {f wa:Addr} {fd:FuncData} (F:Fun K "spots_behind" "spots_behind" bG f fd) (Z:TrC K mg wa) (DP:Dn P w K mg base "cut_parts" ["blade","part","way","p"] 1 spParts2):FnOk P w K mg base CX0 2 f fd ["blade","spot"] (spBehind):=by
 refine F.ok scbehind (fun vs H Q E h=>?_) (fun cdv A outer s H vs Q E hr h=>?_)
 ·obtain ⟨b,x1,y1,w1,h1,p1,sp,a,dn,l,r,rfl,_⟩:=h
  rfl
 obtain ⟨b,x1,y1,w1,h1,p1,sp,a,dn,l,r,rfl,hsp,ha,q⟩:=h
 have nd:=scbehind.nd
 obtain ⟨tdn,hdn⟩:=Z.dn
 obtain ⟨trs,hrs⟩:=Z.rs
 obtain ⟨tpc,hpc⟩:=Z.pc
 obtain ⟨tn1,hn1⟩:=Z.n1
 obtain ⟨tn5,hn5⟩:=Z.n5
 obtain ⟨tn4,hn4⟩:=Z.n4
 refine ⟨_,(@ae _ _ _ _ _ (@aZ _ _ _ _ _ _ (pv 1) (aY rfl (ai (am (i:=2) nd rfl (Or.inl rfl)) (ai (am (i:=3) nd rfl (Or.inl rfl)) (ai (am (i:=4) nd rfl (Or.inl rfl)) (ai (am (i:=5) nd rfl (Or.inl rfl)) (ai (am (i:=6) nd rfl (Or.inl rfl)) aN)))))) rfl rfl rfl) (@ae _ _ _ _ _ (@aZ _ _ _ _ _ _ (pv 6) (md rfl (ai (am (i:=7) nd rfl (Or.inl rfl)) (ai (am (i:=8) nd rfl (Or.inl rfl)) (ai (am (i:=9) nd rfl (Or.inl rfl)) (ai (am (i:=10) nd rfl (Or.inl rfl)) aN))))) rfl rfl rfl) (@ae _ _ _ _ _ (@aZ _ _ _ _ _ _ (@ao _ _ _ _ _ _ _ _ _ _ DP hr rfl (@aa _ _ _ _ _ (pv 0) (@aa _ _ _ _ _ (@ax _ _ _ _ _ (@aa _ _ _ _ _ (pv 4) (@aa _ _ _ _ _ (pv 5) ab rfl) rfl)) (@aa _ _ _ _ _ (pv 7) (@aa _ _ _ _ _ (pv 8) ab rfl) rfl) rfl) rfl) (by decide) rfl rfl) (aY rfl (ai (aY rfl (ai (am (i:=11) nd rfl (Or.inl rfl)) (ai (am (i:=12) nd rfl (Or.inl rfl)) aN))) (ai (aY rfl (ai (am (i:=13) nd rfl (Or.inl rfl)) (ai (am (i:=14) nd rfl (Or.inl rfl)) aN))) aN))) rfl rfl rfl) (@ae _ _ _ _ _ (@ay _ _ 15 _ _ _ _ nd rfl (Or.inl rfl) (@aw _ _ _ _ _ _ _ _ aQ (pv 8) (pv 0)) rfl (Or.inl rfl)) (@ae _ _ _ _ _ (@aZ _ _ _ _ _ _ (eK (@aD _ _ _ _ _ _ _ _ bg (pv 7) (bf (v:=.str "down") rfl hdn ⟨tdn,rfl⟩) (aB _)) (@ax _ _ _ _ _ (@aa _ _ _ _ _ (@aw _ _ _ _ _ _ _ _ aQ (pv 2) (pv 15)) (@aa _ _ _ _ _ (pv 3) ab rfl) rfl)) (@ax _ _ _ _ _ (@aa _ _ _ _ _ (pv 2) (@aa _ _ _ _ _ (@aw _ _ _ _ _ _ _ _ aQ (pv 3) (pv 15)) ab rfl) rfl))) (aY rfl (ai (am (i:=16) nd rfl (Or.inl rfl)) (ai (am (i:=17) nd rfl (Or.inl rfl)) aN))) rfl rfl rfl) (@ag _ _ _ (@au _ _ _ _ (@aH _ _ _ _ (@aa _ _ _ _ _ (@ax _ _ _ _ _ (@aa _ _ _ _ _ (pv 2) (@aa _ _ _ _ _ (pv 3) (@aa _ _ _ _ _ (pv 11) (@aa _ _ _ _ _ (pv 12) (@aa _ _ _ _ _ (pv 9) ab rfl) rfl) rfl) rfl) rfl)) (@aa _ _ _ _ _ (@ax _ _ _ _ _ (@aa _ _ _ _ _ (pv 16) (@aa _ _ _ _ _ (pv 17) (@aa _ _ _ _ _ (pv 13) (@aa _ _ _ _ _ (pv 14) (@aa _ _ _ _ _ (pv 10) ab rfl) rfl) rfl) rfl) rfl)) ab rfl) rfl))))))))),?_⟩
 refine ⟨_,rfl,sp,_,rfl,SqT.of hsp,rfl,_,_,rfl,_,_,rfl,_,_,rfl,_,_,rfl,_,_,rfl,rfl,?_⟩
 have sq:SqL K H a [.str (if dn=true then "down" else "across"),.int p1,l,r]∨SqT K H a [.str (if dn=true then "down" else "across"),.int p1,l,r]:=ha.imp (fun z=>SqL.of z) fun z=>SqT.of z
 refine ⟨_,rfl,a,_,rfl,sq,rfl,_,_,rfl,_,_,rfl,_,_,rfl,_,_,rfl,rfl,?_⟩
 clear sq
 cases dn with
 | true =>
  refine ⟨_,rfl,_,rfl,_,rfl,(by show 2≤sizeLine; decide),fun tp htp=>?_⟩
  have sa:Same H (upd H tp (.tup [.int w1,.int h1])):=Same.new htp
  have ka:(upd H tp (.tup [.int w1,.int h1])) tp=some (.tup [.int w1,.int h1]):=af
  generalize upd H tp (.tup [.int w1,.int h1])=Ha at sa ka ⊢
  refine ⟨_,rfl,_,rfl,b,w1,h1,p1,tp,true,rfl,ka,fun u t1 t2 Hb ku k1 k2 sb=>?_⟩
  refine ⟨u,_,rfl,SqT.of ku,rfl,_,_,rfl,t1,_,rfl,SqT.of k1,rfl,_,_,rfl,_,_,rfl,rfl,_,_,rfl,t2,_,rfl,SqT.of k2,rfl,_,_,rfl,_,_,rfl,rfl,rfl,?_⟩
  refine av (fun σ' H'=>σ'=[some (.int b), some (.ref sp), some (.int x1), some (.int y1), some (.int w1), some (.int h1), some (.ref a), some (.str "down"), some (.int p1), some l, some r, some (.int p1), some (.int h1), some (.int (w1 - p1 - b)), some (.int h1), none, none, none]∧Hb=H') (fun R hR=>hR _ _ ⟨rfl, rfl⟩) ?_
  rintro _ _ ⟨rfl,rfl⟩
  refine ⟨_,rfl,_,rfl,_,_,rfl,rfl,?_⟩
  refine ⟨_,rfl,rfl,_,rfl,aI ⟨_,rfl,_,rfl,_,_,rfl,rfl,_,rfl,(by show 2≤sizeLine; decide),fun tf hf=>?_⟩⟩
  have sd:Same Hb (upd Hb tf (.tup [.int (x1 + (p1 + b)),.int y1])):=Same.new hf
  have kd:(upd Hb tf (.tup [.int (x1 + (p1 + b)),.int y1])) tf=some (.tup [.int (x1 + (p1 + b)),.int y1]):=af
  generalize upd Hb tf (.tup [.int (x1 + (p1 + b)),.int y1])=Hd at sd kd ⊢
  refine ⟨tf,_,rfl,SqT.of kd,rfl,_,_,rfl,_,_,rfl,rfl,?_⟩
  refine ⟨_,rfl,_,rfl,_,rfl,_,rfl,_,rfl,(by show 5≤sizeLine; decide),fun g1 hg1=>?_⟩
  have se:Same Hd (upd Hd g1 (.tup [.int x1,.int y1,.int p1,.int h1,l])):=Same.new hg1
  have ke:(upd Hd g1 (.tup [.int x1,.int y1,.int p1,.int h1,l])) g1=some (.tup [.int x1,.int y1,.int p1,.int h1,l]):=af
  generalize upd Hd g1 (.tup [.int x1,.int y1,.int p1,.int h1,l])=He at se ke ⊢
  refine ⟨_,rfl,_,rfl,_,rfl,_,rfl,_,rfl,(by show 5≤sizeLine; decide),fun g2 hg2=>?_⟩
  have sf:Same He (upd He g2 (.tup [.int (x1 + (p1 + b)),.int y1,.int (w1 - p1 - b),.int h1,r])):=Same.new hg2
  have kf:(upd He g2 (.tup [.int (x1 + (p1 + b)),.int y1,.int (w1 - p1 - b),.int h1,r])) g2=some (.tup [.int (x1 + (p1 + b)),.int y1,.int (w1 - p1 - b),.int h1,r]):=af
  generalize upd He g2 (.tup [.int (x1 + (p1 + b)),.int y1,.int (w1 - p1 - b),.int h1,r])=Hf at sf kf ⊢
  refine ⟨(by show 2≤sizeLine; decide),fun lu hlu=>?_⟩
  have sg:Same Hf (upd Hf lu (.lst [.ref g1,.ref g2])):=Same.new hlu
  have kg:(upd Hf lu (.lst [.ref g1,.ref g2])) lu=some (.lst [.ref g1,.ref g2]):=af
  generalize upd Hf lu (.lst [.ref g1,.ref g2])=Hg at sg kg ⊢
  have sA:=((((sa.trans sb).trans sd).trans se).trans sf)
  exact q lu g1 g2 Hg (sA.free hlu) kg (sg _ _ (sf _ _ ke)) (sg _ _ kf) (sA.trans sg)
 | false =>
  refine ⟨_,rfl,_,rfl,_,rfl,(by show 2≤sizeLine; decide),fun tp htp=>?_⟩
  have sa:Same H (upd H tp (.tup [.int w1,.int h1])):=Same.new htp
  have ka:(upd H tp (.tup [.int w1,.int h1])) tp=some (.tup [.int w1,.int h1]):=af
  generalize upd H tp (.tup [.int w1,.int h1])=Ha at sa ka ⊢
  refine ⟨_,rfl,_,rfl,b,w1,h1,p1,tp,false,rfl,ka,fun u t1 t2 Hb ku k1 k2 sb=>?_⟩
  refine ⟨u,_,rfl,SqT.of ku,rfl,_,_,rfl,t1,_,rfl,SqT.of k1,rfl,_,_,rfl,_,_,rfl,rfl,_,_,rfl,t2,_,rfl,SqT.of k2,rfl,_,_,rfl,_,_,rfl,rfl,rfl,?_⟩
  refine av (fun σ' H'=>σ'=[some (.int b), some (.ref sp), some (.int x1), some (.int y1), some (.int w1), some (.int h1), some (.ref a), some (.str "across"), some (.int p1), some l, some r, some (.int w1), some (.int p1), some (.int w1), some (.int (h1 - p1 - b)), none, none, none]∧Hb=H') (fun R hR=>hR _ _ ⟨rfl, rfl⟩) ?_
  rintro _ _ ⟨rfl,rfl⟩
  refine ⟨_,rfl,_,rfl,_,_,rfl,rfl,?_⟩
  refine ⟨_,rfl,rfl,_,rfl,aM ⟨_,rfl,_,rfl,_,rfl,_,_,rfl,rfl,(by show 2≤sizeLine; decide),fun tf hf=>?_⟩⟩
  have sd:Same Hb (upd Hb tf (.tup [.int x1,.int (y1 + (p1 + b))])):=Same.new hf
  have kd:(upd Hb tf (.tup [.int x1,.int (y1 + (p1 + b))])) tf=some (.tup [.int x1,.int (y1 + (p1 + b))]):=af
  generalize upd Hb tf (.tup [.int x1,.int (y1 + (p1 + b))])=Hd at sd kd ⊢
  refine ⟨tf,_,rfl,SqT.of kd,rfl,_,_,rfl,_,_,rfl,rfl,?_⟩
  refine ⟨_,rfl,_,rfl,_,rfl,_,rfl,_,rfl,(by show 5≤sizeLine; decide),fun g1 hg1=>?_⟩
  have se:Same Hd (upd Hd g1 (.tup [.int x1,.int y1,.int w1,.int p1,l])):=Same.new hg1
  have ke:(upd Hd g1 (.tup [.int x1,.int y1,.int w1,.int p1,l])) g1=some (.tup [.int x1,.int y1,.int w1,.int p1,l]):=af
  generalize upd Hd g1 (.tup [.int x1,.int y1,.int w1,.int p1,l])=He at se ke ⊢
  refine ⟨_,rfl,_,rfl,_,rfl,_,rfl,_,rfl,(by show 5≤sizeLine; decide),fun g2 hg2=>?_⟩
  have sf:Same He (upd He g2 (.tup [.int x1,.int (y1 + (p1 + b)),.int w1,.int (h1 - p1 - b),r])):=Same.new hg2
  have kf:(upd He g2 (.tup [.int x1,.int (y1 + (p1 + b)),.int w1,.int (h1 - p1 - b),r])) g2=some (.tup [.int x1,.int (y1 + (p1 + b)),.int w1,.int (h1 - p1 - b),r]):=af
  generalize upd He g2 (.tup [.int x1,.int (y1 + (p1 + b)),.int w1,.int (h1 - p1 - b),r])=Hf at sf kf ⊢
  refine ⟨(by show 2≤sizeLine; decide),fun lu hlu=>?_⟩
  have sg:Same Hf (upd Hf lu (.lst [.ref g1,.ref g2])):=Same.new hlu
  have kg:(upd Hf lu (.lst [.ref g1,.ref g2])) lu=some (.lst [.ref g1,.ref g2]):=af
  generalize upd Hf lu (.lst [.ref g1,.ref g2])=Hg at sg kg ⊢
  have sA:=((((sa.trans sb).trans sd).trans se).trans sf)
  exact q lu g1 g2 Hg (sA.free hlu) kg (sg _ _ (sf _ _ ke)) (sg _ _ kf) (sA.trans sg)
end
def isT (b:Int) (ks:List Kd) (w h:Int) (d:PyData):Bool :=
 if isC b w h d=true then
  match e:aU d with
  | some [_,.int p,l,r]=>if bw d "down" 4=true then isT b ks p h l && isT b ks (w - p - b) h r else isT b ks w p l && isT b ks w (h - p - b) r
  | _=>false
 else isL ks w h d
termination_by sizeOf d
decreasing_by all_goals (apply mF e; simp)
theorem ff {b:Int} {ks:List Kd} {w h:Int} {d:PyData} (hc:isC b w h d=false):isT b ks w h d=isL ks w h d:=by
 rw [isT,if_neg (by rw [hc]; decide)]
theorem jC {b:Int} {ks:List Kd} {w h:Int} {d:PyData} (hc:isC b w h d=true):∃ (dn:Bool) (p:Int) (l r:PyData),aU d=some [.str (if dn=true then "down" else "across"),.int p,l,r]∧1≤p∧(dn=true→p + b < w)∧(dn=false→p + b < h) ∧
  isT b ks w h d=(if dn=true then isT b ks p h l && isT b ks (w - p - b) h r else isT b ks w p l && isT b ks w (h - p - b) r):=by
 have key:∀side,cL b side d=true→∃x p l r,aU d=some [x,.int p,l,r]∧1≤p∧p + b < side:=fun side h=>by
  unfold cL at h
  split at h
  ·rename_i x p l r e
   unfold oC at h
   split at h
   ·rename_i p'
    rw [Bool.and_eq_true] at h
    exact ⟨x,p',l,r,e,of_decide_eq_true h.1,of_decide_eq_true h.2⟩
   ·cases h
  ·cases h
 have hc':=hc
 unfold isC at hc
 by_cases hb:bw d "down" 4=true
 ·rw [if_pos hb] at hc
  obtain ⟨x,p,l,r,e,p1,p2⟩:=key _ hc
  obtain ⟨r',e',_⟩:=fe hb
  rw [e] at e'
  cases e'
  refine ⟨true,p,l,r,e,p1,fun _=>p2,fun z=>(by cases z),?_⟩
  rw [isT,if_pos hc']
  split
  ·rename_i y p' l' r' e2
   rw [e] at e2
   cases e2
   rw [if_pos hb]; rfl
  ·rename_i z
   exact absurd e (z _ _ _ _)
 ·rw [if_neg hb] at hc
  by_cases hb2:bw d "across" 4=true
  ·rw [if_pos hb2] at hc
   obtain ⟨x,p,l,r,e,p1,p2⟩:=key _ hc
   obtain ⟨r',e',_⟩:=fe hb2
   rw [e] at e'
   cases e'
   refine ⟨false,p,l,r,e,p1,fun z=>(by cases z),fun _=>p2,?_⟩
   rw [isT,if_pos hc']
   split
   ·rename_i y p' l' r' e2
    rw [e] at e2
    cases e2
    rw [if_neg hb]; rfl
   ·rename_i z
    exact absurd e (z _ _ _ _)
  ·rw [if_neg hb2] at hc
   cases hc
structure Spot where
 x:Int
 y:Int
 w:Int
 h:Int
 d:PyData
def SpAt (p:Addr) (H0 H:Hp) (v:V) (t:Spot):Prop:=∃a u,v=.ref a∧H a=some (.tup [.int t.x,.int t.y,.int t.w,.int t.h,u])∧Dt p H0 u t.d
theorem SpAt.keep {p:Addr} {H0 H H':Hp} (k:∀a xs,H a=some (.tup xs)→H' a=some (.tup xs)) {v:V} {t:Spot} (h:SpAt p H0 H v t):SpAt p H0 H' v t:=by
 obtain ⟨a,u,e,h1,h2⟩:=h
 exact ⟨a,u,e,k _ _ h1,h2⟩
def dQ (ts:List Spot):Nat:=(ts.map fun t=>wt t.d).sum
theorem cB (a b:List Spot):dQ (a ++ b)=dQ a + dQ b:=by unfold dQ; rw [List.map_append,List.sum_append]
theorem gX:∀ts:List Spot,ts.length≤dQ ts
 | []=>Nat.le_refl _
 | t :: r=>by
  have:=gX r
  have:=mE t.d
  show r.length + 1≤wt t.d + dQ r
  omega
theorem kC {d x y l r:PyData} (h:aU d=some [x,y,l,r]):wt l + wt r < wt d:=by
 cases d <;> simp only [aU,Option.some.injEq,reduceCtorEq] at h
 ·subst h; simp only [wt,wts]; omega
 ·subst h; simp only [wt,wts]; omega
theorem jD {α β:Type} {R:α→β→Prop} {x:α}:∀ {xs:List α} {zs:List β},Paired R (xs ++ [x]) zs→∃ys y,zs=ys ++ [y]∧Paired R xs ys∧R x y
 | [],zs,h=>by
  cases h with
  | cons a t=>cases t; exact ⟨[],_,rfl,.nil,a⟩
 | z :: xs,zs,h=>by
  cases h with
  | cons a t =>
   obtain ⟨ys,y,rfl,p,r⟩:=jD t
   exact ⟨_ :: ys,y,rfl,.cons a p,r⟩
theorem fj {α β:Type} {R:α→β→Prop}:∀ {xs:List α} {ys:List β} {xs':List α} {ys':List β},Paired R xs ys→Paired R xs' ys'→Paired R (xs ++ xs') (ys ++ ys')
 | _,_,_,_,.nil,h=>h
 | _,_,_,_,.cons a t,h=>.cons a (fj t h)
section
variable {P:Program} {w:World} {K:PySem.W.Frag} {mg:Str→Option Value} {base:Heap}
inductive spCP (vs:List V) (H:Hp) (Q:VK) (E_:XK):Prop
 | mk (w h:Int) (e_1:vs=[.int w,.int h]) (e_2:1≤w) (e_3:1≤h) (e_4:Q .non H):spCP vs H Q E_
inductive spIsTree (C:Addr) (vs:List V) (H:Hp) (Q:VK) (E_:XK):Prop
 | mk (pp s:Addr) (b w h:Int) (ks:List Kd) (v:V) (d:PyData) (e_1:vs=[.ref s,.int w,.int h,v]) (e_2:ShopAt C H s b ks) (e_3:1≤w) (e_4:1≤h) (e_5:Dt pp H v d) (e_6:wt d≤30000) (e_7:∀H',Same H H'→Q (.bl (isT b ks w h d)) H'):spIsTree C vs H Q E_
theorem sccplate:FnScope ["wide","high"] ["wide","high"] (defScope bT):=⟨rfl,rfl,rfl,by decide +kernel,rfl,by decide +kernel,by decide +kernel⟩
theorem kD {f:Addr} {fd:FuncData} (F:Fun K "check_plate" "check_plate" bT f fd) (DW:Dn P w K mg base "is_whole" ["thing","least"] 1 (bS K)):FnOk P w K mg base CX0 2 f fd ["wide","high"] (spCP):=by
 refine F.ok sccplate (fun vs H Q E h=>?_) (fun cdv A outer s H vs Q E hr h=>?_)
 ·obtain ⟨w1,h1,rfl,_⟩:=h
  rfl
 obtain ⟨w1,h1,rfl,w0,h0,q⟩:=h
 have nd:=sccplate.nd
 refine ⟨_,(@ag _ _ _ (@aK _ _ _ _ _ _ _ _ (PW.pt (bF (@aX _ _ _ _ (@aP _ _ _ (@ao _ _ _ _ _ _ _ _ _ _ DW hr rfl (@aa _ _ _ _ _ (pv 0) (@aa _ _ _ _ _ ad ab rfl) rfl) (by decide) rfl rfl) (by intro _; rfl))) (bB (@aX _ _ _ _ (@aP _ _ _ (@ao _ _ _ _ _ _ _ _ _ _ DW hr rfl (@aa _ _ _ _ _ (pv 1) (@aa _ _ _ _ _ ad ab rfl) rfl) (by decide) rfl rfl) (by intro _; rfl)))))) (@ag _ _ _ eL) aE)),?_⟩
 refine ⟨_,rfl,.int w1,"int",1,rfl,Ty.int,_,rfl,?_⟩
 rw [show aL (.int w1) 1=true from decide_eq_true w0]
 refine aM ⟨_,rfl,.int h1,"int",1,rfl,Ty.int,_,rfl,?_⟩
 rw [show aL (.int h1) 1=true from decide_eq_true h0]
 exact aM q
theorem scistree:FnScope ["shop","wide","high","thing","blade","waiting","spot"] ["shop","wide","high","thing"] (defScope eE):=⟨rfl,rfl,rfl,by decide +kernel,rfl,by decide +kernel,by decide +kernel⟩
theorem kF {f C:Addr} {fd:FuncData} (F:Fun K "is_tree" "is_tree" eE f fd) (T:ShopTxt K C) (MB:Mn P w K mg base C "blade" ["self"] 1 (em C)) (DCP:Dn P w K mg base "check_plate" ["wide","high"] 2 (spCP)) (DC:Dn P w K mg base "is_cut" ["blade","spot"] 3 (spCut)) (DF:Dn P w K mg base "is_leaf" ["shop","spot"] 5 (spLeaf C)) (DS:Dn P w K mg base "spots_behind" ["blade","spot"] 2 (spBehind)):FnOk P w K mg base CX0 6 f fd ["shop","wide","high","thing"] (spIsTree C):=by
 refine F.ok scistree (fun vs H Q E h=>?_) (fun cdv A outer s H vs Q E hr h=>?_)
 ·obtain ⟨pp,s,b,w1,h1,ks,v,d,rfl,_⟩:=h
  rfl
 obtain ⟨pp,s,b,w1,h1,ks,v,d,rfl,S,w0,h0,hd,dz,q⟩:=h
 have nd:=scistree.nd
 have hr1:=hr.mono (show 1≤5 by decide)
 have hr2:=hr.mono (show 2≤5 by decide)
 have hr3:=hr.mono (show 3≤5 by decide)
 refine ⟨_,(@ae _ _ _ _ _ (@bp _ _ _ _ (@ao _ _ _ _ _ _ _ _ _ _ DCP hr2 rfl (@aa _ _ _ _ _ (pv 1) (@aa _ _ _ _ _ (pv 2) ab rfl) rfl) (by decide) rfl rfl) rfl) (@ae _ _ _ _ _ (@ay _ _ 4 _ _ _ _ nd rfl (Or.inl rfl) (mi (pv 0) T.cl MB hr1) rfl (Or.inl rfl)) (@ae _ _ _ _ _ (@ay _ _ 5 _ _ _ _ nd rfl (Or.inl rfl) (@aH _ _ _ _ (@aa _ _ _ _ _ (@ax _ _ _ _ _ (@aa _ _ _ _ _ ad (@aa _ _ _ _ _ ad (@aa _ _ _ _ _ (pv 1) (@aa _ _ _ _ _ (pv 2) (@aa _ _ _ _ _ (pv 3) ab rfl) rfl) rfl) rfl) rfl)) ab rfl)) rfl (Or.inl rfl)) (@ae _ _ _ _ _ (eM PassesOwn.never (gD (pv 5) (fun _=>rfl)) (@ae _ _ _ _ _ (@ay _ _ 6 _ _ _ _ nd rfl (Or.inl rfl) (gc PySem.F.plainAttrs_list PySem.F.slot_list_pop PySem.F.type_list_pop ir (pv 5)) rfl (Or.inl rfl)) (@ag _ _ _ (@aK _ _ _ _ _ _ _ _ (@aP _ _ _ (@ao _ _ _ _ _ _ _ _ _ _ DC hr3 rfl (@aa _ _ _ _ _ (pv 4) (@aa _ _ _ _ _ (pv 6) ab rfl) rfl) (by decide) rfl rfl) (by intro _; rfl)) (@ag _ _ _ (@bp _ _ _ _ (@dZ _ _ _ _ _ _ _ _ _ _ _ _ PySem.F.plainAttrs_list PySem.F.slot_list_extend PySem.F.type_list_extend fC (pv 5) (@aa _ _ _ _ _ (@ao _ _ _ _ _ _ _ _ _ _ DS hr2 rfl (@aa _ _ _ _ _ (pv 4) (@aa _ _ _ _ _ (pv 6) ab rfl) rfl) (by decide) rfl rfl) ab rfl) rfl rfl rfl rfl rfl) rfl)) (@ag _ _ _ (@aK _ _ _ _ _ _ _ _ (@aX _ _ _ _ (@aP _ _ _ (@ao _ _ _ _ _ _ _ _ _ _ DF hr rfl (@aa _ _ _ _ _ (pv 0) (@aa _ _ _ _ _ (pv 6) ab rfl) rfl) (by decide) rfl rfl) (by intro _; rfl))) (@ag _ _ _ (@au _ _ _ _ bX)) aE)))))) (@ag _ _ _ (@au _ _ _ _ bX)))))),?_⟩
 have sz:(40000:Nat)≤sizeLine:=by decide
 refine ⟨_,rfl,_,rfl,w1,h1,rfl,w0,h0,?_⟩
 obtain ⟨dx,r,rs,S1,S2,S3⟩:=id S
 refine ⟨_,rfl,s,dx,_,rfl,S1,(de _ _ (by decide +kernel) (by decide +kernel)),s,b,ks,rfl,S,?_⟩
 refine ⟨_,rfl,_,rfl,_,rfl,(by show 5≤sizeLine; decide),fun t ht=>?_⟩
 have sa:Same H (upd H t (.tup [.int 0,.int 0,.int w1,.int h1,v])):=Same.new ht
 have ka:(upd H t (.tup [.int 0,.int 0,.int w1,.int h1,v])) t=some (.tup [.int 0,.int 0,.int w1,.int h1,v]):=af
 generalize upd H t (.tup [.int 0,.int 0,.int w1,.int h1,v])=Ha at sa ka ⊢
 refine ⟨(by show 1≤sizeLine; decide),fun wl hwl=>?_⟩
 have sb:Same Ha (upd Ha wl (.lst [.ref t])):=Same.new hwl
 have kb:(upd Ha wl (.lst [.ref t])) wl=some (.lst [.ref t]):=af
 generalize upd Ha wl (.lst [.ref t])=Hb at sb kb ⊢
 have fw:H wl=none:=sa.free hwl
 have sab:=sa.trans sb
 refine ⟨fun m σ H'=>∃ (vs:List V) (ts:List Spot) (v6:Option V),σ=[some (.ref s),some (.int w1),some (.int h1),some v,some (.int b),some (.ref wl),v6]∧m=dQ ts∧H' wl=some (.lst vs)∧Paired (SpAt pp H H') vs ts∧dQ ts≤30000∧isT b ks w1 h1 d=ts.all (fun t=>isT b ks t.w t.h t.d)∧Same H H',⟨_,[.ref t],[⟨0,0,w1,h1,d⟩],none,rfl,rfl,kb,.cons ⟨t,v,rfl,sb _ _ ka,hd⟩ .nil,by show wt d + 0≤30000; omega,by rw [List.all_cons,List.all_nil,Bool.and_true],sab⟩,?_⟩
 rintro m σ H1 ⟨vs,ts,v6,rfl,rfl,hw,pr,sz1,al,s1⟩
 refine ⟨_,rfl,_,.inl ⟨vs,SqL.of hw,rfl⟩,?_⟩
 rcases List.eq_nil_or_concat vs with rfl | ⟨vs',v0,rfl⟩
 ·have ets:ts=[]:=by
   have:=Paired.length pr
   cases ts with
   | nil=>rfl
   | cons _ _=>simp at this
  subst ets
  have q1:=q H1 s1
  rw [al] at q1
  exact aM q1
 rw [List.concat_eq_append] at pr hw ⊢
 obtain ⟨ts',t0,rfl,prp,⟨sp,u,rfl,hsp,hdu⟩⟩:=jD pr
 rw [show (!(vs' ++ [V.ref sp]).isEmpty)=true by cases vs' <;> rfl]
 have ssz:dQ (ts' ++ [t0])=dQ ts' + wt t0.d:=by rw [cB]; show _ + (wt t0.d + 0)=_; omega
 rw [ssz] at sz1 ⊢
 refine aI ⟨fun σ' H'=>∃ (vs:List V) (ts:List Spot) (v6:Option V),σ'=[some (.ref s),some (.int w1),some (.int h1),some v,some (.int b),some (.ref wl),v6]∧dQ ts < dQ ts' + wt t0.d∧H' wl=some (.lst vs)∧Paired (SpAt pp H H') vs ts∧dQ ts≤30000∧isT b ks w1 h1 d=ts.all (fun t=>isT b ks t.w t.h t.d)∧Same H H',fun σ' H' ⟨vs,ts,v6,e,l,r⟩=>⟨_,l,vs,ts,v6,e,rfl,r⟩,?_⟩
 rw [List.all_append,List.all_cons,List.all_nil,Bool.and_true] at al
 have ml:(vs' ++ [V.ref sp]).length=vs'.length + 1:=by rw [List.length_append]; rfl
 have keep:∀ {Hx:Hp} {o:HO},Same H Hx→Same H (upd Hx wl o):=fun {Hx o} sx c oo e=>by
  rw [aj (fun z=>by rw [z,fw] at e; cases e)]
  exact sx _ _ e
 refine av (fun σ' H'=>σ'=[some (.ref s),some (.int w1),some (.int h1),some v,some (.int b),some (.ref wl),some (.ref sp)]∧H' wl=some (.lst vs')∧Paired (SpAt pp H H') vs' ts'∧H' sp=some (.tup [.int t0.x,.int t0.y,.int t0.w,.int t0.h,u])∧Same H H') (fun R hR=>?_) ?_
 ·refine ⟨_,rfl,.inl ⟨rfl,_,SqL.of hw⟩,wl,_,.ref sp,rfl,rfl,hw,(by rw [ml]; simp),?_⟩
  rw [List.dropLast_concat]
  have kt:∀ {c:Addr} {xs:List V},H1 c=some (.tup xs)→(upd H1 wl (.lst vs')) c=some (.tup xs):=fun {c xs} e=>by
   rw [aj (fun z=>by rw [z,hw] at e; cases e)]; exact e
  exact hR _ _ ⟨rfl,af,Paired.mapP prp fun v t h=>h.keep fun a xs e=>kt e,kt hsp,keep s1⟩
 rintro _ H2 ⟨rfl,hw2,pr2,hsp2,s2⟩
 refine ⟨_,rfl,_,rfl,pp,b,t0.x,t0.y,t0.w,t0.h,sp,u,t0.d,rfl,hsp2,hdu.same s2,fun H3 s3=>⟨_,rfl,?_⟩⟩
 have s03:=s2.trans s3
 refine bW (fun hc=>?_) (fun hc=>?_)
 ·obtain ⟨dn,p,l,r,er,p1,pw,ph,eT⟩:=jC (ks:=ks) hc
  obtain ⟨a,xs,rfl,hx,dxs⟩:=hdu.ref_row er
  cases dxs with
  | @cons x0 _ xs0 _ hd0 dxs =>
  cases dxs with
  | @cons x1 _ xs1 _ hd1 dxs =>
  cases dxs with
  | @cons lv _ xs2 _ hdl dxs =>
  cases dxs with
  | @cons rv _ xs3 _ hdr dxs =>
  cases dxs
  cases hd0
  cases hd1
  refine ⟨_,rfl,.inl ⟨rfl,_,SqL.of (s3 _ _ hw2)⟩,_,rfl,_,rfl,?_⟩
  refine ⟨b,t0.x,t0.y,t0.w,t0.h,p,sp,a,dn,lv,rv,rfl,s3 _ _ hsp2,hx.imp (s03 _ _) (s03 _ _),fun lu t1 t2 H4 hlu ku k1 k2 s4=>?_⟩
  have hw4:=s4 _ _ (s3 _ _ hw2)
  have pl:=Paired.length pr2
  have sl:=gX ts'
  have two:=kC er
  refine ⟨wl,lu,_,_,rfl,rfl,hw4,ku,by show _ + 2≤_; omega,?_⟩
  have kt:∀ {c:Addr} {xs:List V},H4 c=some (.tup xs)→(upd H4 wl (.lst (vs' ++ [.ref t1,.ref t2]))) c=some (.tup xs):=fun {c xs} e=>by
   rw [aj (fun z=>by rw [z,hw4] at e; cases e)]; exact e
  have pr4:Paired (SpAt pp H (upd H4 wl (.lst (vs' ++ [.ref t1,.ref t2])))) vs' ts':=Paired.mapP pr2 fun v t h=>h.keep fun a xs e=>kt (s4 _ _ (s3 _ _ e))
  cases dn with
  | true =>
   have k1:H4 t1=some (.tup [.int t0.x,.int t0.y,.int p,.int t0.h,lv]):=k1
   have k2:H4 t2=some (.tup [.int (t0.x + (p + b)),.int t0.y,.int (t0.w - p - b),.int t0.h,rv]):=k2
   refine ⟨vs' ++ [.ref t1,.ref t2],ts' ++ [⟨t0.x,t0.y,p,t0.h,l⟩,⟨t0.x + (p + b),t0.y,t0.w - p - b,t0.h,r⟩],_,rfl,?_,af,fj pr4 (.cons ⟨t1,lv,rfl,kt k1,hdl⟩ (.cons ⟨t2,rv,rfl,kt k2,hdr⟩ .nil)),?_,?_,keep (s03.trans s4)⟩
   ·rw [cB]; show _ + (wt l + (wt r + 0)) < _; omega
   ·rw [cB]; show _ + (wt l + (wt r + 0))≤_; omega
   ·rw [al,eT,List.all_append]
    simp only [if_true,List.all_cons,List.all_nil,Bool.and_true]
  | false =>
   have k1:H4 t1=some (.tup [.int t0.x,.int t0.y,.int t0.w,.int p,lv]):=k1
   have k2:H4 t2=some (.tup [.int t0.x,.int (t0.y + (p + b)),.int t0.w,.int (t0.h - p - b),rv]):=k2
   refine ⟨vs' ++ [.ref t1,.ref t2],ts' ++ [⟨t0.x,t0.y,t0.w,p,l⟩,⟨t0.x,t0.y + (p + b),t0.w,t0.h - p - b,r⟩],_,rfl,?_,af,fj pr4 (.cons ⟨t1,lv,rfl,kt k1,hdl⟩ (.cons ⟨t2,rv,rfl,kt k2,hdr⟩ .nil)),?_,?_,keep (s03.trans s4)⟩
   ·rw [cB]; show _ + (wt l + (wt r + 0)) < _; omega
   ·rw [cB]; show _ + (wt l + (wt r + 0))≤_; omega
   ·rw [al,eT,List.all_append]
    simp only [Bool.false_eq_true,if_false,List.all_cons,List.all_nil,Bool.and_true]
 ·have hc:isC b t0.w t0.h t0.d=false:=by simpa using hc
  have lf:=ff (ks:=ks) hc
  refine ⟨_,rfl,_,rfl,pp,b,t0.x,t0.y,t0.w,t0.h,s,sp,ks,u,t0.d,rfl,gW s03 S,s3 _ _ hsp2,hdu.same s03,fun H4 s4=>⟨_,rfl,?_⟩⟩
  have s04:=s03.trans s4
  have sp0:=mE t0.d
  cases hl:isL ks t0.w t0.h t0.d with
  | true =>
   rw [lf,hl,Bool.and_true] at al
   exact aM ⟨vs',ts',_,rfl,by omega,s4 _ _ (s3 _ _ hw2),Paired.mapP pr2 fun v t h=>h.keep fun a xs e=>s4 _ _ (s3 _ _ e),by omega,al,s04⟩
  | false =>
   rw [lf,hl,Bool.and_false] at al
   have q1:=q H4 s04
   rw [al] at q1
   exact aI q1
end
def jE (k:Kd):List Bool:=if aT k=true then [false,true] else [false]
inductive Tr where
 | rest
 | piece (i:Nat) (c:Bool) (x y:Int)
 | cut (dn:Bool) (p:Int) (l r:Tr)
def toD:Tr→PyData
 | .rest=>.tuple [.str "rest"]
 | .piece i c x y=>.tuple [.str "piece",.int i,.bool c,.int x,.int y]
 | .cut dn p l r=>.tuple [.str (if dn=true then "down" else "across"),.int p,toD l,toD r]
def lvN:Tr→Nat
 | .cut _ _ l r=>lvN l + lvN r
 | _=>1
theorem zg:∀t:Tr,1≤(toD t).depth
 | .rest=>by decide +kernel
 | .piece .. => by show 1≤PyData.depthAll _ + 1; omega
 | .cut .. => by show 1≤PyData.depthAll _ + 1; omega
def TrV (H:Hp):Tr→V→Prop
 | .rest,v=>∃a,v=.ref a∧H a=some (.tup [.str "rest"])
 | .piece i c x y,v=>∃a,v=.ref a∧H a=some (.tup [.str "piece",.int i,.bl c,.int x,.int y])
 | .cut dn p l r,v=>∃a x y,v=.ref a∧H a=some (.tup [.str (if dn=true then "down" else "across"),.int p,x,y])∧TrV H l x∧TrV H r y
theorem TrV.keep {H H':Hp} (k:∀a xs,H a=some (.tup xs)→H' a=some (.tup xs)):∀ (t:Tr) {v:V},TrV H t v→TrV H' t v
 | .rest,_,⟨a,e,h⟩=>⟨a,e,k _ _ h⟩
 | .piece ..,_,⟨a,e,h⟩=>⟨a,e,k _ _ h⟩
 | .cut _ _ l r,_,⟨a,x,y,e,h,h1,h2⟩=>⟨a,x,y,e,k _ _ h,TrV.keep k l h1,TrV.keep k r h2⟩
theorem TrV.dt {p:Addr} {H:Hp}:∀ (t:Tr) {v:V},TrV H t v→Dt p H v (toD t)
 | .rest,_,⟨a,e,h⟩=>by subst e; exact .tup h (.cons (.str _) .nil)
 | .piece ..,_,⟨a,e,h⟩=>by subst e; exact .tup h (.cons (.str _) (.cons (.int _) (.cons (.bl _) (.cons (.int _) (.cons (.int _) .nil)))))
 | .cut _ _ l r,_,⟨a,x,y,e,h,h1,h2⟩=>by subst e; exact .tup h (.cons (.str _) (.cons (.int _) (.cons (TrV.dt l h1) (.cons (TrV.dt r h2) .nil))))
def okT (b:Int) (ks:List Kd):Int→Int→Tr→Prop
 | _,_,.rest=>True
 | w,h,.piece i c x y=>∃k,ks[i]? = some k∧c∈jE k∧0≤x∧0≤y∧x + sd1 k c≤w∧y + sd2 k c≤h
 | w,h,.cut dn p l r=>1≤p∧(if dn=true then p + b < w∧okT b ks p h l∧okT b ks (w - p - b) h r else p + b < h∧okT b ks w p l∧okT b ks w (h - p - b) r)
theorem oF {ks:List Kd} {i:Nat} {c:Bool} {k:Kd} (hk:ks[i]? = some k) (hc:c∈jE k):cH ks (.int i) (.bl c)=true:=by
 unfold cH
 simp only [Int.toNat_natCast,hk]
 rw [decide_eq_true (show (0:Int)≤i by omega),Bool.true_and]
 cases c with
 | false=>rfl
 | true =>
  unfold jE at hc
  cases t:aT k with
  | true=>rfl
  | false=>rw [t] at hc; simp at hc
def But2 (p q:Addr) (H H':Hp):Prop:=∀c o,c≠p→c≠q→H c=some o→H' c=some o
theorem But2.trans {p q:Addr} {H H' H'':Hp} (a:But2 p q H H') (b:But2 p q H' H''):But2 p q H H'':=fun c o n1 n2 e=>b c o n1 n2 (a c o n1 n2 e)
theorem But2.but {p q:Addr} {H H':Hp} (a:But p H H'):But2 p q H H':=fun c o n1 _ e=>a c o n1 e
theorem ef {d:PyData} {y:Str} {r:List PyData} (e:aU d=some (.str y :: r)) (z:Str) (n:Nat):bw d z n=(decide (r.length + 1=n) && decide (y=z)):=by
 unfold bw
 rw [e]
def pcD (ks:List Kd) (w h:Int):List PyData→Bool
 | [k,t,x,y]=>gU ks w h k t x y
 | _=>false
theorem fM {b:Int} {ks:List Kd} {w h:Int} {d:PyData} {y:Str} {r:List PyData} (e:aU d=some (.str y :: r)) (h1:(decide (y = "down"))=false) (h2:(decide (y = "across"))=false):isT b ks w h d=(if decide (y = "rest")=true then decide (r.length + 1=1) else if decide (y = "piece")=true then pcD ks w h r else false):=by
 have hc:isC b w h d=false:=by
  unfold isC
  rw [ef e,ef e,h1,h2]
  simp only [Bool.and_false]
  rfl
 rw [ff hc]
 unfold isL
 rw [ef e,ef e,e]
 by_cases hr:y = "rest"
 ·subst hr
  rw [show decide ((Str.ofString "rest")=(Str.ofString "piece"))=false by decide +kernel,Bool.and_false,if_neg Bool.false_ne_true,decide_eq_true (rfl:(Str.ofString "rest")=Str.ofString "rest"),if_pos rfl,Bool.and_true]
 ·rw [decide_eq_false hr,if_neg Bool.false_ne_true]
  by_cases hp:y = "piece"
  ·subst hp
   rw [decide_eq_true (rfl:(Str.ofString "piece")=Str.ofString "piece"),Bool.and_true,if_pos (rfl:true=true),Bool.and_false]
   match r with
   | []=>rfl
   | [_]=>rfl
   | [_,_]=>rfl
   | [_,_,_]=>rfl
   | [_,_,_,_]=>rfl
   | _ :: _ :: _ :: _ :: _ :: r=>simp [pcD]
  ·rw [decide_eq_false hp,Bool.and_false,Bool.and_false,if_neg Bool.false_ne_true,if_neg Bool.false_ne_true]
theorem jF {b:Int} {ks:List Kd} {w h:Int} {d:PyData} {dn:Bool} {r:List PyData} (e:aU d=some (.str (if dn=true then "down" else "across") :: r)):isT b ks w h d=(match r with
  | [.int p,l,r']=>decide (1≤p) && (if dn=true then decide (p + b < w) && (isT b ks p h l && isT b ks (w - p - b) h r') else decide (p + b < h) && (isT b ks w p l && isT b ks w (h - p - b) r'))
  | _=>false):=by
 have leafF:isC b w h d=false→isT b ks w h d=false:=fun hc=>by
  rw [ff hc]
  unfold isL
  rw [ef e,ef e]
  cases dn
  ·rw [show decide ((if false=true then (Str.ofString "down") else Str.ofString "across")=Str.ofString "piece")=false by decide +kernel,show decide ((if false=true then (Str.ofString "down") else Str.ofString "across")=Str.ofString "rest")=false by decide +kernel,Bool.and_false,Bool.and_false,if_neg Bool.false_ne_true]
  ·rw [show decide ((if true=true then (Str.ofString "down") else Str.ofString "across")=Str.ofString "piece")=false by decide +kernel,show decide ((if true=true then (Str.ofString "down") else Str.ofString "across")=Str.ofString "rest")=false by decide +kernel,Bool.and_false,Bool.and_false,if_neg Bool.false_ne_true]
 cases hc:isC b w h d with
 | false =>
  rw [leafF hc]
  split
  ·rename_i p l r' e
   unfold isC at hc
   rw [ef e,ef e] at hc
   cases dn
   ·rw [show decide ((if false=true then (Str.ofString "down") else Str.ofString "across")=Str.ofString "down")=false by decide +kernel,show decide ((if false=true then (Str.ofString "down") else Str.ofString "across")=Str.ofString "across")=true by decide +kernel] at hc
    unfold cL at hc
    rw [e] at hc
    have hc:(decide (1≤p) && decide (p + b < h))=false:=hc
    rw [if_neg Bool.false_ne_true,← Bool.and_assoc,hc,Bool.false_and]
   ·rw [show decide ((if true=true then (Str.ofString "down") else Str.ofString "across")=Str.ofString "down")=true by decide +kernel] at hc
    unfold cL at hc
    rw [e] at hc
    have hc:(decide (1≤p) && decide (p + b < w))=false:=hc
    rw [if_pos rfl,← Bool.and_assoc,hc,Bool.false_and]
  ·rfl
 | true =>
  obtain ⟨dn',p,l,r',e',p1,pw,ph,eT⟩:=jC (ks:=ks) hc
  rw [e] at e'
  have hdn:dn=dn':=by
   have:=PyData.str.inj (List.cons.inj (Option.some.inj e')).1
   cases dn <;> cases dn' <;> first | rfl | exact absurd this (by decide +kernel)
  subst hdn
  cases e'
  rw [eT]
  cases dn
  ·simp only [Bool.false_eq_true,if_false]
   rw [decide_eq_true p1,decide_eq_true (ph rfl)]; rfl
  ·simp only [if_true]
   rw [decide_eq_true p1,decide_eq_true (pw rfl)]; rfl
def TrD:Tr→PyData→Prop
 | .rest,d=>aU d=some [.str "rest"]
 | .piece i c x y,d=>aU d=some [.str "piece",.int i,.bool c,.int x,.int y]
 | .cut dn p l r,d=>∃dl dr,aU d=some [.str (if dn=true then "down" else "across"),.int p,dl,dr]∧TrD l dl∧TrD r dr
theorem TrD.to:∀t:Tr,TrD t (toD t)
 | .rest=>rfl
 | .piece .. => rfl
 | .cut _ _ l r=>⟨toD l,toD r,rfl,TrD.to l,TrD.to r⟩
theorem TrD.good {b:Int} {ks:List Kd}:∀ (t:Tr) (d:PyData) (w h:Int),TrD t d→okT b ks w h t→isT b ks w h d=true
 | .rest,d,w,h,e,_=>by
  have e:aU d=some (.str "rest" :: []):=e
  rw [fM e (by decide +kernel) (by decide +kernel),if_pos (by decide +kernel)]; rfl
 | .piece i c x y,d,w,h,e,⟨k,hk,hc,x0,y0,hx,hy⟩=>by
  have e:aU d=some (.str "piece" :: [.int i,.bool c,.int x,.int y]):=e
  rw [fM e (by decide +kernel) (by decide +kernel),if_neg (by decide +kernel),if_pos (by decide +kernel)]
  show dP ks w h (.int i) (.bl c) (.int x) (.int y)=true
  unfold dP
  rw [oF hk hc]
  simp only [Int.toNat_natCast,hk]
  rw [show aL (.int x) 0=true from decide_eq_true x0,show aL (.int y) 0=true from decide_eq_true y0,decide_eq_true hx,decide_eq_true hy]
  rfl
 | .cut true p l r,d,w,h,⟨dl,dr,e,tl,tr⟩,⟨p1,hp,hl,hr⟩=>by
  have eT:isT b ks w h d=(decide (1≤p) && (decide (p + b < w) && (isT b ks p h dl && isT b ks (w - p - b) h dr))):=jF (dn:=true) (r:=[.int p,dl,dr]) e
  rw [eT,decide_eq_true p1,decide_eq_true hp,TrD.good l dl p h tl hl,TrD.good r dr _ h tr hr]; rfl
 | .cut false p l r,d,w,h,⟨dl,dr,e,tl,tr⟩,⟨p1,hp,hl,hr⟩=>by
  have eT:isT b ks w h d=(decide (1≤p) && (decide (p + b < h) && (isT b ks w p dl && isT b ks w (h - p - b) dr))):=jF (dn:=false) (r:=[.int p,dl,dr]) e
  rw [eT,decide_eq_true p1,decide_eq_true hp,TrD.good l dl w p tl hl,TrD.good r dr w _ tr hr]; rfl
def dT:Tr→Nat
 | .cut _ _ l r=>max (dT l) (dT r) + 1
 | _=>0
def szT:Tr→Nat
 | .cut _ _ l r=>szT l + szT r + 1
 | _=>1
theorem mI (t:Tr):1≤szT t:=by cases t <;> simp only [szT] <;> omega
theorem fN {x:PyData}:∀ {ds:List PyData},x∈ds→x.depth≤PyData.depthAll ds
 | d :: r,h=>by
  rw [PyData.depthAll]
  rcases List.mem_cons.mp h with h | h
  ·rw [h]; omega
  ·have:=fN h; omega
theorem kG {C x dx:Addr} {H:Hp} (hx:H x=none) (hd:H dx=none):Same H (upd (upd H dx (.own x)) x (.ins C dx [])):=fun c o e=>by
 rw [aj (ah e hx),aj (ah e hd)]; exact e
def dpT:Tr→Nat
 | .cut _ _ l r=>max (dpT l) (dpT r) + 1
 | _=>0
mutual
theorem Dt.fresh {p q:Addr} {H:Hp} (hq:H q=none):∀ {v:V} {d:PyData},Dt p H v d→Dt q H v d
 | _,_,.non=>.non
 | _,_,.bl b=>.bl b
 | _,_,.int i=>.int i
 | _,_,.str z=>.str z
 | _,_,.lst n h r=>.lst (ah h hq) h (r.fresh hq)
 | _,_,.tup h r=>.tup h (r.fresh hq)
 | _,_,.emp h=>.emp h
theorem Dts.fresh {p q:Addr} {H:Hp} (hq:H q=none):∀ {vs:List V} {ds:List PyData},Dts p H vs ds→Dts q H vs ds
 | _,_,.nil=>.nil
 | _,_,.cons a r=>.cons (a.fresh hq) (r.fresh hq)
end
def okU (b:Int) (ks:List Kd):Int→Int→Tr→Prop
 | _,_,.rest=>True
 | w,h,.piece i c x y=>∃k,ks[i]? = some k∧(i,c)∈lyK ks 0∧0≤x∧0≤y∧x + sd1 k c≤w∧y + sd2 k c≤h
 | w,h,.cut dn p l r=>1≤p∧(if dn=true then p + b < w∧okU b ks p h l∧okU b ks (w - p - b) h r else p + b < h∧okU b ks w p l∧okU b ks w (h - p - b) r)
theorem iI:∀ {ks:List Kd} {i:Nat} {q:Nat×Bool},q∈lyK ks i→i≤q.1∧∃k,ks[q.1 - i]? = some k∧(q.2=false∨aT k=true)
 | [],_,_,h=>by simp [lyK] at h
 | x :: ks,i,q,h=>by
  rcases List.mem_append.mp (show q∈lyT i x ++ lyK ks (i + 1) from h) with h | h
  ·unfold lyT at h
   rcases List.mem_cons.mp h with rfl | h
   ·exact ⟨Nat.le_refl _,x,by simp,.inl rfl⟩
   ·split at h
    ·rename_i ht
     rw [List.mem_singleton.mp h]
     exact ⟨Nat.le_refl _,x,by simp,.inr ht⟩
    ·simp at h
  ·obtain ⟨h1,k,h2,h3⟩:=iI h
   exact ⟨by omega,k,by rw [show q.1 - i=(q.1 - (i + 1)) + 1 by omega,List.getElem?_cons_succ]; exact h2,h3⟩
theorem qh {ds:List PyData} (d3:PyData.canLayAll0 ds=true) (d4:PyData.depthAll ds≤1):SeqAt.shaped (.list ds)=true∧(ds=[]→PyData.eqv (.list ds) (.list [])=true)∧(ds≠[]→PyData.eqv (.list ds) (.list [])=false):=by
 refine ⟨?_,fun e=>by subst e; exact PySem.SeqAt.eqv_refl _ rfl,fun e=>?_⟩
 ·unfold SeqAt.shaped
  rw [PyData.canLay0,d3,PyData.depth,decide_eq_true (show PyData.depthAll ds + 1≤64 by omega)]; rfl
 ·cases ds with
  | nil=>exact absurd rfl e
  | cons d r=>rfl
def PotC (H:Hp) (p:Addr):Prop:=∃a b:Int,0≤a∧0≤b∧b < 4294967296∧H p=some (.lst [.int a,.int b])
theorem PotC.same {H H':Hp} {p:Addr} (x:PotC H p) (s:Same H H'):PotC H' p:=by
 obtain ⟨a,b,h1,h2,h3,e⟩:=x
 exact ⟨a,b,h1,h2,h3,s _ _ e⟩
theorem PotC.new {H:Hp} {p q:Addr} {o:HO} (x:PotC H p) (h:H q=none):PotC (upd H q o) p:=x.same (Same.new h)
theorem PotC.some {H:Hp} {p:Addr} (x:PotC H p):H p≠none:=by
 obtain ⟨a,b,h1,h2,h3,e⟩:=x
 rw [e]; exact fun z=>by cases z
theorem PotC.ne {H:Hp} {p q:Addr} (x:PotC H p) (h:H q=none):p≠q:=fun z=>x.some (z ▸ h)
theorem fk {H:Hp} {p:Addr} (h:PotC H p):∃xs,H p=some (.lst xs):=by
 obtain ⟨_,_,_,_,_,e⟩:=h
 exact ⟨_,e⟩
theorem PotC.put {H:Hp} {p l:Addr} {o:HO} (x:PotC H p) (n:p≠l):PotC (upd H l o) p:=by
 obtain ⟨a,b,h1,h2,h3,e⟩:=x
 exact ⟨a,b,h1,h2,h3,by rw [aj n]; exact e⟩
theorem But.freeC {p q:Addr} {H H':Hp} (b:But p H H') (x:PotC H' p) (h:H' q=none):q≠p∧H q=none:=by
 have n:q≠p:=fun z=>x.some (z ▸ h)
 refine ⟨n,?_⟩
 cases e:H q with
 | none=>rfl
 | some o=>rw [b q o n e] at h; cases h
theorem bP {p c:Addr} {H0 H:Hp} {o:HO} (b:But p H0 H) (pt:PotC H p) (h:H c=none):∃H',upd H c o=H'∧H' c=some o∧c≠p∧Same H H'∧But p H0 H'∧PotC H' p :=
 ⟨_,rfl,af,Ne.symm (pt.ne h),Same.new h,b.trans (But.new h),pt.new h⟩
theorem dR {p:Addr} {H H':Hp} (b:But p H H') (pt:PotC H p) {c:Addr} {xs:List V} (e:H c=some (.tup xs)):H' c=some (.tup xs):=by
 obtain ⟨_,hp⟩:=fk pt
 exact b _ _ (fun z=>by rw [z,hp] at e; cases e) e
theorem pC {p:Addr} {rs:List V} {ks:List Kd} {H H':Hp} (b:But p H H') (pt:PotC H p) (h:Tups H rs ks):Tups H' rs ks:=Tups.keep (fun x xs e=>dR b pt e) h
theorem But.refl' {p:Addr} {H:Hp}:But p H H:=fun _ _ _ e=>e
section
variable {P:Program} {w:World} {K:PySem.W.Frag} {mg:Str→Option Value} {base:Heap}
inductive spPotC (vs:List V) (H:Hp) (Q:VK) (E_:XK):Prop
 | mk (c k:Int) (e_1:vs=[.int c,.int k]) (e_2:0≤k) (e_3:k≤63) (e_4:∀ (p:Addr) (H':Hp),H p=none→PotC H' p→Same H H'→Q (.ref p) H'):spPotC vs H Q E_
inductive spTake (vs:List V) (H:Hp) (Q:VK) (E_:XK):Prop
 | mk (p:Addr) (m:Int) (e_1:vs=[.ref p,.int m]) (e_2:PotC H p) (e_3:0 < m) (e_4:m≤10 ^ 60) (e_5:∀ (r:Int) (H':Hp),0≤r→r < m→PotC H' p→But p H H'→Q (.int r) H'):spTake vs H Q E_
inductive spUnit (vs:List V) (H:Hp) (Q:VK) (E_:XK):Prop
 | mk (p:Addr) (e_1:vs=[.ref p]) (e_2:PotC H p) (e_3:∀ (r:Int) (H':Hp),1≤r→r < 2 * 10 ^ 56→PotC H' p→But p H H'→Q (.int r) H'):spUnit vs H Q E_
inductive spSideC (vs:List V) (H:Hp) (Q:VK) (E_:XK):Prop
 | mk (p:Addr) (u m:Int) (e_1:vs=[.ref p,.int u,.int m]) (e_2:PotC H p) (e_3:1≤u) (e_4:u < 2 * 10 ^ 56) (e_5:1≤m) (e_6:m≤40) (e_7:∀ (r:Int) (H':Hp),1≤r→r < 10 ^ 58→PotC H' p→But p H H'→Q (.int r) H'):spSideC vs H Q E_
inductive spWorthC (vs:List V) (H:Hp) (Q:VK) (E_:XK):Prop
 | mk (p:Addr) (e_1:vs=[.ref p]) (e_2:PotC H p) (e_3:∀ (r:Int) (H':Hp),0≤r→r < 10 ^ 60→PotC H' p→But p H H'→Q (.int r) H'):spWorthC vs H Q E_
theorem sccell:FnScope ["_law_script","_law_k"] ["_law_script","_law_k"] (defScope jv):=⟨rfl,rfl,rfl,by decide +kernel,rfl,by decide +kernel,by decide +kernel⟩
theorem oG {f:Addr} {fd:FuncData} (F:Fun K "_law_cell" "_law_cell" jv f fd) (B:Blt mg):FnOk P w K mg base CX0 1 f fd ["_law_script","_law_k"] (iC K):=by
 refine F.ok sccell (fun vs H Q E h=>?_) (fun cdv A outer s H vs Q E hr h=>?_)
 ·obtain ⟨a,ns,n,rfl,_⟩:=h
  rfl
 obtain ⟨a,ns,n,rfl,hS,n0,q⟩:=h
 have nd:=sccell.nd
 refine ⟨_,(@ae _ _ _ _ _ (@aK _ _ _ _ _ _ _ _ (@aD _ _ _ _ _ _ _ _ lM (pv 1) (@aA _ _ _ _ _ _ _ _ _ bc rfl B.len PySem.boot_len (@aa _ _ _ _ _ (pv 0) ab rfl) (by decide) (by decide) rfl rfl) (aB _)) (@ag _ _ _ (@au _ _ _ _ (@ar _ _ _ _ _ _ _ ix_list (pv 0) (pv 1) (fun _ _=>rfl)))) aE) (@ag _ _ _ (@au _ _ _ _ ad))),?_⟩
 have hl:(ns.map V.int).length=ns.length:=List.length_map _
 refine ⟨_,rfl,_,rfl,a,_,rfl,.inl hS,_,_,rfl,rfl,_,rfl,?_⟩
 refine bW (fun c=>?_) (fun c=>?_)
 ·have c':n < ((ns.map V.int).length:Int):=of_decide_eq_true c
  rw [hl] at c'
  have hk:n.toNat < ns.length:=by omega
  have hv:atI (ns.map V.int) n=some (.int ns[n.toNat]):=aR n0 (by rw [List.getElem?_map,List.getElem?_eq_getElem hk]; rfl)
  exact ⟨_,rfl,_,rfl,a,_,_,_,rfl,rfl,hS,hv,q _⟩
 ·exact q _
theorem scpotc:FnScope ["_law_cell_here","_law_k"] ["_law_cell_here","_law_k"] (defScope ot):=⟨rfl,rfl,rfl,by decide +kernel,rfl,by decide +kernel,by decide +kernel⟩
theorem oH {f:Addr} {fd:FuncData} (F:Fun K "_law_pot" "_law_pot" ot f fd) (B:Blt mg):FnOk P w K mg base CX0 1 f fd ["_law_cell_here","_law_k"] (spPotC):=by
 refine F.ok scpotc (fun vs H Q E h=>?_) (fun cdv A outer s H vs Q E hr h=>?_)
 ·obtain ⟨c,k,rfl,_⟩:=h
  rfl
 obtain ⟨c,k,rfl,k0,k1,q⟩:=h
 have nd:=scpotc.nd
 refine ⟨_,(@ag _ _ _ (@au _ _ _ _ (@aH _ _ _ _ (@aa _ _ _ _ _ (@aA _ _ _ _ _ _ _ _ _ (fu rfl) rfl B.max PyProof.Rows.boot_max (@aa _ _ _ _ _ ad (@aa _ _ _ _ _ (@aw _ _ _ _ _ _ _ _ bd (@aA _ _ _ _ _ _ _ _ _ gE rfl B.abs PyProof.Rows.boot_abs (@aa _ _ _ _ _ (pv 0) ab rfl) (by decide) (by decide) rfl rfl) (@aw _ _ _ _ _ _ _ _ dD ad ad)) ab rfl) rfl) (by decide) (by decide) rfl rfl) (@aa _ _ _ _ _ (@aw _ _ _ _ _ _ _ _ aQ (@aw _ _ _ _ _ _ _ _ aQ (@aw _ _ _ _ _ _ _ _ dC (@aA _ _ _ _ _ _ _ _ _ gE rfl B.abs PyProof.Rows.boot_abs (@aa _ _ _ _ _ (pv 0) ab rfl) (by decide) (by decide) rfl rfl) ad) (@aw _ _ _ _ _ _ _ _ dB ad (pv 1))) ad) ab rfl) rfl)))),?_⟩
 refine ⟨_,rfl,_,rfl,_,_,rfl,rfl,⟨by decide,by decide,by decide⟩,_,_,rfl,rfl,_,_,rfl,_,rfl,_,rfl,_,_,rfl,rfl,(by show (0:Int) < 2147483563; decide),_,rfl,_,_,rfl,rfl,.inl ⟨by decide,by decide⟩,_,_,rfl,rfl,_,_,rfl,rfl,(by show 2≤sizeLine; decide),fun p hp=>?_⟩
 have e1:=Int.emod_nonneg (if c < 0 then -c else c) (show (2147483563:Int)≠0 by decide)
 have e2:=Int.emod_lt_of_pos (if c < 0 then -c else c) (show (0:Int) < 2147483563 by decide)
 refine q p _ hp ⟨_,_,?_,?_,?_,af⟩ (Same.new hp)
 ·split <;> omega
 ·omega
 ·omega
theorem sctake:FnScope ["_law_pot_here","_law_many","_law_digit"] ["_law_pot_here","_law_many"] (defScope jw):=⟨rfl,rfl,rfl,by decide +kernel,rfl,by decide +kernel,by decide +kernel⟩
theorem oI {f:Addr} {fd:FuncData} (F:Fun K "_law_take" "_law_take" jw f fd) (B:Blt mg):FnOk P w K mg base CX0 1 f fd ["_law_pot_here","_law_many"] (spTake):=by
 refine F.ok sctake (fun vs H Q E h=>?_) (fun cdv A outer s H vs Q E hr h=>?_)
 ·obtain ⟨p,m,rfl,_⟩:=h
  rfl
 obtain ⟨p,m,rfl,⟨a,b,a0,b0,b1,hp⟩,m0,m1,q⟩:=h
 have nd:=sctake.nd
 refine ⟨_,(@ae _ _ _ _ _ (@aK _ _ _ _ _ _ _ _ (@aD _ _ _ _ _ _ _ _ oX (@ar _ _ _ _ _ _ _ ix_list (pv 0) ad (fun _ _=>rfl)) ad (aB _)) (@ae _ _ _ _ _ (@ay _ _ 2 _ _ _ _ nd rfl (Or.inl rfl) (@aw _ _ _ _ _ _ _ _ dC (@ar _ _ _ _ _ _ _ ix_list (pv 0) ad (fun _ _=>rfl)) (pv 1)) rfl (Or.inl rfl)) (@ae _ _ _ _ _ (@aZ _ _ _ _ _ _ (@aw _ _ _ _ _ _ _ _ cX (@ar _ _ _ _ _ _ _ ix_list (pv 0) ad (fun _ _=>rfl)) (pv 1)) (hW (pv 0) ad eQ) rfl rfl rfl) (@ag _ _ _ (@au _ _ _ _ (pv 2))))) aE) (@ae _ _ _ _ _ (@aZ _ _ _ _ _ _ (@aw _ _ _ _ _ _ _ _ dC (@aw _ _ _ _ _ _ _ _ aQ (@aw _ _ _ _ _ _ _ _ dB (@ar _ _ _ _ _ _ _ ix_list (pv 0) ad (fun _ _=>rfl)) ad) ad) ad) (hW (pv 0) ad eQ) rfl rfl rfl) (@ag _ _ _ (@au _ _ _ _ (@aw _ _ _ _ _ _ _ _ dC (@aw _ _ _ _ _ _ _ _ cX (@aw _ _ _ _ _ _ _ _ dC (@aw _ _ _ _ _ _ _ _ dB (@ar _ _ _ _ _ _ _ ix_list (pv 0) ad (fun _ _=>rfl)) (@ar _ _ _ _ _ _ _ ix_list (pv 0) ad (fun _ _=>rfl))) ad) ad) (pv 1)))))),?_⟩
 have at0:atI [V.int a,V.int b] 0=some (.int a):=rfl
 have at1:atI [V.int a,V.int b] 1=some (.int b):=rfl
 refine ⟨_,rfl,p,_,_,_,rfl,rfl,SqL.of hp,at0,_,_,rfl,rfl,_,rfl,?_⟩
 refine bW (fun c=>?_) (fun c=>?_)
 ·have c':0 < a:=of_decide_eq_true c
  refine ⟨_,rfl,p,_,_,_,rfl,rfl,SqL.of hp,at0,_,rfl,_,_,rfl,rfl,m0,?_⟩
  refine ⟨_,rfl,p,_,_,_,rfl,rfl,SqL.of hp,at0,_,rfl,_,_,rfl,rfl,⟨m0,m1⟩,_,rfl,p,_,_,_,rfl,rfl,hp,rfl,?_⟩
  refine ⟨_,rfl,q _ _ (Int.emod_nonneg _ (by omega)) (Int.emod_lt_of_pos _ m0) ⟨a / m,b,Int.ediv_nonneg a0 (by omega),b0,b1,af⟩ But.upd⟩
 ·refine ⟨_,rfl,p,_,_,_,rfl,rfl,SqL.of hp,at1,_,_,rfl,rfl,.inr ⟨by decide,by decide⟩,_,_,rfl,rfl,_,_,rfl,rfl,(by show (0:Int) < 2147483629; decide),_,rfl,p,_,_,_,rfl,rfl,hp,rfl,?_⟩
  have n0:0≤(b * 39373 + 7919) % 2147483629:=Int.emod_nonneg _ (by decide)
  have n1:(b * 39373 + 7919) % 2147483629 < 2147483629:=Int.emod_lt_of_pos _ (by decide)
  refine ⟨_,rfl,p,_,_,_,rfl,rfl,SqL.of af,rfl,_,rfl,p,_,_,_,rfl,rfl,SqL.of af,rfl,_,_,rfl,rfl,.inl ⟨by omega,by omega⟩,_,_,rfl,rfl,(by show (0:Int) < 2147483563; decide),_,_,rfl,rfl,⟨by decide,by decide⟩,_,rfl,_,_,rfl,rfl,m0,?_⟩
  exact q _ _ (Int.emod_nonneg _ (by omega)) (Int.emod_lt_of_pos _ m0) ⟨a,_,a0,n0,by omega,af⟩ But.upd
theorem scunit:FnScope ["_law_pot_here","_law_some"] ["_law_pot_here"] (defScope jx):=⟨rfl,rfl,rfl,by decide +kernel,rfl,by decide +kernel,by decide +kernel⟩
theorem oJ {f:Addr} {fd:FuncData} (F:Fun K "_law_unit" "_law_unit" jx f fd) (B:Blt mg) (DD:Dn P w K mg base "_law_take" ["_law_pot_here","_law_many"] 1 (spTake)):FnOk P w K mg base CX0 2 f fd ["_law_pot_here"] (spUnit):=by
 refine F.ok scunit (fun vs H Q E h=>?_) (fun cdv A outer s H vs Q E hr h=>?_)
 ·obtain ⟨p,rfl,_⟩:=h
  rfl
 obtain ⟨p,rfl,pt,q⟩:=h
 have nd:=scunit.nd
 refine ⟨_,(@ae _ _ _ _ _ (@ay _ _ 1 _ _ _ _ nd rfl (Or.inl rfl) (@aH _ _ _ _ (@aa _ _ _ _ _ ad (@aa _ _ _ _ _ ad (@aa _ _ _ _ _ (@aw _ _ _ _ _ _ _ _ aQ ad (@ao _ _ _ _ _ _ _ _ _ _ DD hr rfl (@aa _ _ _ _ _ (pv 0) (@aa _ _ _ _ _ (@aw _ _ _ _ _ _ _ _ dD ad ad) ab rfl) rfl) (by decide) rfl rfl)) (@aa _ _ _ _ _ (@aw _ _ _ _ _ _ _ _ aQ (@aw _ _ _ _ _ _ _ _ dD ad ad) (@ao _ _ _ _ _ _ _ _ _ _ DD hr rfl (@aa _ _ _ _ _ (pv 0) (@aa _ _ _ _ _ (@aw _ _ _ _ _ _ _ _ dD ad ad) ab rfl) rfl) (by decide) rfl rfl)) ab rfl) rfl) rfl) rfl)) rfl (Or.inl rfl)) (@ag _ _ _ (@au _ _ _ _ (@ar _ _ _ _ _ _ _ ix_list (pv 1) (@ao _ _ _ _ _ _ _ _ _ _ DD hr rfl (@aa _ _ _ _ _ (pv 0) (@aa _ _ _ _ _ ad ab rfl) rfl) (by decide) rfl rfl) (fun _ _=>rfl))))),?_⟩
 have e56:(10:Int) ^ (56:Int).toNat=10 ^ 56:=rfl
 have e66:(10:Int) ^ 6 < 10 ^ 56:=by decide
 refine av (fun σ' H'=>∃ (l:Addr) (c d:Int),σ'=[some (.ref p),some (.ref l)]∧l≠p∧H' l=some (.lst [.int 1,.int 1,.int c,.int d])∧1≤c∧c < 2 * 10 ^ 56∧1≤d∧d < 2 * 10 ^ 56∧PotC H' p∧But p H H') (fun R hR=>?_) ?_
 ·refine ⟨_,rfl,_,_,rfl,rfl,⟨by decide,by decide,by decide⟩,p,_,rfl,pt,(by show (0:Int) < 10 ^ (6:Int).toNat; decide),(by show (10:Int) ^ (6:Int).toNat≤10 ^ 60; decide),fun r H1 r0 r1 pt1 b1=>⟨_,_,rfl,rfl,_,_,rfl,rfl,⟨by decide,by decide,by decide⟩,_,rfl,_,_,rfl,rfl,⟨by decide,by decide,by decide⟩,p,_,rfl,pt1,(by show (0:Int) < 10 ^ (56:Int).toNat; decide),(by show (10:Int) ^ (56:Int).toNat≤10 ^ 60; decide),fun r2 H2 r20 r21 pt2 b2=>⟨_,_,rfl,rfl,(by show 4≤sizeLine; decide),fun l hl=>?_⟩⟩⟩
  have r1:r < 10 ^ 6:=r1
  rw [e56] at r21
  obtain ⟨H3,e3,k3,n3,s3,b3,pt3⟩:=bP (o:=.lst [.int 1,.int 1,.int (1 + r),.int (10 ^ (56:Int).toNat + r2)]) (b1.trans b2) pt2 hl
  rw [show upd H2 l _=H3 from e3]
  exact hR _ _ ⟨l,_,_,rfl,n3,k3,by omega,by omega,by rw [e56]; omega,by rw [e56]; omega,pt3,b3⟩
 rintro _ H1 ⟨l,c,d,rfl,nlp,hl1,c0,c1,d0,d1,pt1,b1⟩
 refine ⟨_,rfl,_,rfl,p,4,rfl,pt1,by decide,by decide,fun r H2 r0 r1 pt2 b2=>?_⟩
 have hl2:=b2 _ _ nlp hl1
 have one:(1:Int) < 2 * 10 ^ 56:=by decide
 obtain ⟨x,hx,x0,x1⟩:∃x:Int,atI [V.int 1,V.int 1,V.int c,V.int d] r=some (.int x)∧1≤x∧x < 2 * 10 ^ 56:=by
  have:r=0∨r=1∨r=2∨r=3:=by omega
  rcases this with rfl | rfl | rfl | rfl
  ·exact ⟨1,rfl,by decide,one⟩
  ·exact ⟨1,rfl,by decide,one⟩
  ·exact ⟨c,rfl,c0,c1⟩
  ·exact ⟨d,rfl,d0,d1⟩
 exact ⟨l,_,_,_,rfl,rfl,SqL.of hl2,hx,q x H2 x0 x1 pt2 (b1.trans b2)⟩
theorem scsidecc:FnScope ["_law_pot_here","_law_unit_here","_law_most"] ["_law_pot_here","_law_unit_here","_law_most"] (defScope jy):=⟨rfl,rfl,rfl,by decide +kernel,rfl,by decide +kernel,by decide +kernel⟩
theorem kH {f:Addr} {fd:FuncData} (F:Fun K "_law_side" "_law_side" jy f fd) (B:Blt mg) (DD:Dn P w K mg base "_law_take" ["_law_pot_here","_law_many"] 1 (spTake)):FnOk P w K mg base CX0 2 f fd ["_law_pot_here","_law_unit_here","_law_most"] (spSideC):=by
 refine F.ok scsidecc (fun vs H Q E h=>?_) (fun cdv A outer s H vs Q E hr h=>?_)
 ·obtain ⟨p,u,m,rfl,_⟩:=h
  rfl
 obtain ⟨p,u,m,rfl,pt,u0,u1,m1,m40,q⟩:=h
 have nd:=scsidecc.nd
 refine ⟨_,(@ae _ _ _ _ _ (@aK _ _ _ _ _ _ _ _ (@aD _ _ _ _ _ _ _ _ bg (@ao _ _ _ _ _ _ _ _ _ _ DD hr rfl (@aa _ _ _ _ _ (pv 0) (@aa _ _ _ _ _ ad ab rfl) rfl) (by decide) rfl rfl) ad (aB _)) (@ag _ _ _ (@au _ _ _ _ (@aw _ _ _ _ _ _ _ _ dB (pv 1) (@aw _ _ _ _ _ _ _ _ aQ ad (@ao _ _ _ _ _ _ _ _ _ _ DD hr rfl (@aa _ _ _ _ _ (pv 0) (@aa _ _ _ _ _ (pv 2) ab rfl) rfl) (by decide) rfl rfl))))) aE) (@ag _ _ _ (@au _ _ _ _ (@aw _ _ _ _ _ _ _ _ aQ ad (@ao _ _ _ _ _ _ _ _ _ _ DD hr rfl (@aa _ _ _ _ _ (pv 0) (@aa _ _ _ _ _ (@aw _ _ _ _ _ _ _ _ dB (pv 2) (pv 1)) ab rfl) rfl) (by decide) rfl rfl))))),?_⟩
 have e58:40 * (2 * 10 ^ 56) < (10:Int) ^ 58:=by decide
 have e60:40 * (2 * 10 ^ 56) < (10:Int) ^ 60:=by decide
 have mu:m * u≤40 * (2 * 10 ^ 56):=Int.mul_le_mul m40 (Int.le_of_lt u1) (by omega) (by decide)
 have mu1:1≤m * u:=by have:=Int.mul_le_mul m1 u0 (by decide) (by omega); omega
 refine av (fun σ' H'=>σ'=[some (.ref p),some (.int u),some (.int m)]∧PotC H' p∧But p H H') (fun R hR=>?_) ?_
 ·refine ⟨_,rfl,p,2,rfl,pt,by decide,by decide,fun z H1 z0 z1 pt1 b1=>⟨rfl,_,rfl,?_⟩⟩
  refine bW (fun cc=>?_) (fun cc=>hR _ _ ⟨rfl,pt1,b1⟩)
  refine ⟨_,rfl,_,rfl,_,rfl,p,m,rfl,pt1,by omega,by omega,fun r H2 r0 r1 pt2 b2=>⟨_,_,rfl,rfl,_,_,rfl,rfl,.inr ⟨by omega,by omega⟩,q _ H2 ?_ ?_ pt2 (b1.trans b2)⟩⟩
  ·have:=Int.mul_le_mul u0 (show (1:Int)≤1 + r by omega) (by decide) (by omega)
   omega
  ·have:u * (1 + r)≤u * m:=Int.mul_le_mul_of_nonneg_left (by omega) (by omega)
   rw [Int.mul_comm u m] at this
   omega
 rintro _ H1 ⟨rfl,pt1,b1⟩
 exact ⟨_,rfl,_,rfl,_,rfl,_,_,rfl,rfl,.inl ⟨by omega,by omega⟩,p,m * u,rfl,pt1,by omega,by omega,fun r H2 r0 r1 pt2 b2=>⟨_,_,rfl,rfl,q _ H2 (by omega) (by omega) pt2 (b1.trans b2)⟩⟩
theorem scworthc:FnScope ["_law_pot_here","_law_some"] ["_law_pot_here"] (defScope gs):=⟨rfl,rfl,rfl,by decide +kernel,rfl,by decide +kernel,by decide +kernel⟩
theorem kI {f:Addr} {fd:FuncData} (F:Fun K "_law_worth" "_law_worth" gs f fd) (B:Blt mg) (DD:Dn P w K mg base "_law_take" ["_law_pot_here","_law_many"] 1 (spTake)):FnOk P w K mg base CX0 2 f fd ["_law_pot_here"] (spWorthC):=by
 refine F.ok scworthc (fun vs H Q E h=>?_) (fun cdv A outer s H vs Q E hr h=>?_)
 ·obtain ⟨p,rfl,_⟩:=h
  rfl
 obtain ⟨p,rfl,pt,q⟩:=h
 have nd:=scworthc.nd
 refine ⟨_,(@ae _ _ _ _ _ (@ay _ _ 1 _ _ _ _ nd rfl (Or.inl rfl) (@aH _ _ _ _ (@aa _ _ _ _ _ (@ao _ _ _ _ _ _ _ _ _ _ DD hr rfl (@aa _ _ _ _ _ (pv 0) (@aa _ _ _ _ _ ad ab rfl) rfl) (by decide) rfl rfl) (@aa _ _ _ _ _ (@ao _ _ _ _ _ _ _ _ _ _ DD hr rfl (@aa _ _ _ _ _ (pv 0) (@aa _ _ _ _ _ (@aw _ _ _ _ _ _ _ _ dD ad ad) ab rfl) rfl) (by decide) rfl rfl) (@aa _ _ _ _ _ (@aw _ _ _ _ _ _ _ _ bd (@aw _ _ _ _ _ _ _ _ bd (@aw _ _ _ _ _ _ _ _ dD ad ad) ad) (@ao _ _ _ _ _ _ _ _ _ _ DD hr rfl (@aa _ _ _ _ _ (pv 0) (@aa _ _ _ _ _ ad ab rfl) rfl) (by decide) rfl rfl)) ab rfl) rfl) rfl)) rfl (Or.inl rfl)) (@ag _ _ _ (@au _ _ _ _ (@ar _ _ _ _ _ _ _ ix_list (pv 1) (@ao _ _ _ _ _ _ _ _ _ _ DD hr rfl (@aa _ _ _ _ _ (pv 0) (@aa _ _ _ _ _ ad ab rfl) rfl) (by decide) rfl rfl) (fun _ _=>rfl))))),?_⟩
 have e60:(10:Int) ^ (60:Int).toNat=10 ^ 60:=rfl
 have e100:(100:Int) < 10 ^ 60:=by decide
 refine av (fun σ' H'=>∃ (l:Addr) (c d e:Int),σ'=[some (.ref p),some (.ref l)]∧l≠p∧H' l=some (.lst [.int c,.int d,.int e])∧0≤c∧c < 10 ^ 60∧0≤d∧d < 10 ^ 60∧0≤e∧e < 10 ^ 60∧PotC H' p∧But p H H') (fun R hR=>?_) ?_
 ·refine ⟨_,rfl,p,10,rfl,pt,by decide,by decide,fun r H1 r0 r1 pt1 b1=>⟨_,rfl,_,_,rfl,rfl,⟨by decide,by decide,by decide⟩,p,_,rfl,pt1,(by show (0:Int) < 10 ^ (60:Int).toNat; decide),(by show (10:Int) ^ (60:Int).toNat≤10 ^ 60; decide),fun r2 H2 r20 r21 pt2 b2=>⟨_,_,rfl,rfl,⟨by decide,by decide,by decide⟩,_,_,rfl,rfl,_,rfl,p,10,rfl,pt2,by decide,by decide,fun r3 H3 r30 r31 pt3 b3=>⟨_,_,rfl,rfl,(by show 3≤sizeLine; decide),fun l hl=>?_⟩⟩⟩⟩
  rw [e60] at r21
  obtain ⟨H4,e4,k4,n4,s4,b4,pt4⟩:=bP (o:=.lst [.int r,.int r2,.int (10 ^ (60:Int).toNat - 1 - r3)]) (b1.trans (b2.trans b3)) pt3 hl
  rw [show upd H3 l _=H4 from e4]
  exact hR _ _ ⟨l,_,_,_,rfl,n4,k4,r0,by omega,r20,r21,by rw [e60]; omega,by rw [e60]; omega,pt4,b4⟩
 rintro _ H1 ⟨l,c,d,e,rfl,nlp,hl1,c0,c1,d0,d1,e0,e1,pt1,b1⟩
 refine ⟨_,rfl,_,rfl,p,3,rfl,pt1,by decide,by decide,fun r H2 r0 r1 pt2 b2=>?_⟩
 have hl2:=b2 _ _ nlp hl1
 obtain ⟨x,hx,x0,x1⟩:∃x:Int,atI [V.int c,V.int d,V.int e] r=some (.int x)∧0≤x∧x < 10 ^ 60:=by
  have:r=0∨r=1∨r=2:=by omega
  rcases this with rfl | rfl | rfl
  ·exact ⟨c,rfl,c0,c1⟩
  ·exact ⟨d,rfl,d0,d1⟩
  ·exact ⟨e,rfl,e0,e1⟩
 exact ⟨l,_,_,_,rfl,rfl,SqL.of hl2,hx,q x H2 x0 x1 pt2 (b1.trans b2)⟩
end
def LS (H:Hp) (t:Addr) (b:Int) (ks:List Kd) (kl:Addr):Prop:=∃rs,H t=some (.tup [.int b,.ref kl])∧H kl=some (.lst rs)∧Tups H rs ks
theorem LS.same {H H':Hp} {t kl:Addr} {b:Int} {ks:List Kd} (x:LS H t b ks kl) (s:Same H H'):LS H' t b ks kl:=by
 obtain ⟨rs,h1,h2,h3⟩:=x
 exact ⟨rs,s _ _ h1,s _ _ h2,Tups.keep (fun c xs e=>s _ _ e) h3⟩
theorem LS.but {p:Addr} {H H':Hp} {t kl:Addr} {b:Int} {ks:List Kd} (x:LS H t b ks kl) (n:kl≠p) (pt:PotC H p) (bt:But p H H'):LS H' t b ks kl:=by
 obtain ⟨rs,h1,h2,h3⟩:=x
 exact ⟨rs,dR bt pt h1,bt _ _ n h2,pC bt pt h3⟩
def LyC (H:Hp) (v:V) (q:Nat×Bool):Prop:=∃a,v=.ref a∧H a=some (.tup [.int q.1,.bl q.2])
theorem LyC.keep {H H':Hp} (k:∀a xs,H a=some (.tup xs)→H' a=some (.tup xs)) {v:V} {q:Nat×Bool} (h:LyC H v q):LyC H' v q:=by
 obtain ⟨a,e,h⟩:=h
 exact ⟨a,e,k _ _ h⟩
structure Pq where
 k:Nat
 c:Bool
 x:Int
 y:Int
def pqV (p:Pq):List V:=[.int p.k,.bl p.c,.int p.x,.int p.y]
structure Bx where
 a:Int
 b:Int
 c:Int
 d:Int
def bxV (x:Bx):List V:=[.int x.a,.int x.b,.int x.c,.int x.d]
def zH (k:Kd) (p:Pq):Bx:=⟨p.x,p.y,p.x + sd1 k p.c,p.y + sd2 k p.c⟩
def apB (o r:Bx):Bool:=decide (o.c≤r.a) || decide (r.c≤o.a) || decide (o.d≤r.b) || decide (r.d≤o.b)
def Sq (H:Hp) (a:Addr) (xs:List V):Prop:=H a=some (.lst xs)∨H a=some (.tup xs)
def mJ (k:Kd):Prop:=Good k∧k.w < 10 ^ 58∧k.h < 10 ^ 58
section
variable {P:Program} {w:World} {K:PySem.W.Frag} {mg:Str→Option Value} {base:Heap}
inductive spShopC (vs:List V) (H:Hp) (Q:VK) (E_:XK):Prop
 | mk (p:Addr) (u:Int) (e_1:vs=[.ref p,.int u]) (e_2:PotC H p) (e_3:1≤u) (e_4:u < 2 * 10 ^ 56) (e_5:∀ (t kl:Addr) (b:Int) (ks:List Kd) (H':Hp),LS H' t b ks kl→kl≠p→H kl=none→(∀k∈ks,mJ k)→1≤ks.length→ks.length≤8→0≤b→b < 10 ^ 58→PotC H' p→But p H H'→Q (.ref t) H'):spShopC vs H Q E_
inductive spSidesC (vs:List V) (H:Hp) (Q:VK) (E_:XK):Prop
 | mk (t kl:Addr) (b:Int) (ks:List Kd) (i:Nat) (c:Bool) (k:Kd) (e_1:vs=[.ref t,.int i,.bl c]) (e_2:LS H t b ks kl) (e_3:ks[i]? = some k) (e_4:∀ (r:Addr) (H':Hp),H' r=some (.tup [.int (sd1 k c),.int (sd2 k c)])→Same H H'→Q (.ref r) H'):spSidesC vs H Q E_
inductive spLyingsC (vs:List V) (H:Hp) (Q:VK) (E_:XK):Prop
 | mk (t kl:Addr) (b:Int) (ks:List Kd) (e_1:vs=[.ref t]) (e_2:LS H t b ks kl) (e_3:ks.length≤8) (e_4:∀ (l:Addr) (ys:List V) (H':Hp),H' l=some (.lst ys)→H l=none→Paired (LyC H') ys (lyK ks 0)→Same H H'→Q (.ref l) H'):spLyingsC vs H Q E_
inductive spBox (vs:List V) (H:Hp) (Q:VK) (E_:XK):Prop
 | mk (t kl a:Addr) (b:Int) (ks:List Kd) (p:Pq) (k:Kd) (e_1:vs=[.ref t,.ref a]) (e_2:LS H t b ks kl) (e_3:Sq H a (pqV p)) (e_4:ks[p.k]? = some k) (e_5:∀ (r:Addr) (H':Hp),H' r=some (.tup (bxV (zH k p)))→Same H H'→Q (.ref r) H'):spBox vs H Q E_
inductive spApart (vs:List V) (H:Hp) (Q:VK) (E_:XK):Prop
 | mk (a1 a2:Addr) (o r:Bx) (e_1:vs=[.ref a1,.ref a2]) (e_2:H a1=some (.tup (bxV o))) (e_3:H a2=some (.tup (bxV r))) (e_4:Q (.bl (apB o r)) H):spApart vs H Q E_
theorem scshopc:FnScope ["_law_pot_here","_law_unit_here","_law_blade","_law_kinds","_law_k","_law_wide","_law_high"] ["_law_pot_here","_law_unit_here"] (defScope jz):=⟨rfl,rfl,rfl,by decide +kernel,rfl,by decide +kernel,by decide +kernel⟩
theorem mK {f:Addr} {fd:FuncData} (F:Fun K "_law_shop" "_law_shop" jz f fd) (B:Blt mg) (DD:Dn P w K mg base "_law_take" ["_law_pot_here","_law_many"] 1 (spTake)) (DSi:Dn P w K mg base "_law_side" ["_law_pot_here","_law_unit_here","_law_most"] 2 (spSideC)) (DWo:Dn P w K mg base "_law_worth" ["_law_pot_here"] 2 (spWorthC)):FnOk P w K mg base CX0 3 f fd ["_law_pot_here","_law_unit_here"] (spShopC):=by
 refine F.ok scshopc (fun vs H Q E h=>?_) (fun cdv A outer s H vs Q E hr h=>?_)
 ·obtain ⟨p,u,rfl,_⟩:=h
  rfl
 obtain ⟨p,u,rfl,pt,u0,u1,q⟩:=h
 have nd:=scshopc.nd
 refine ⟨_,(@ae _ _ _ _ _ (@ay _ _ 2 _ _ _ _ nd rfl (Or.inl rfl) (@ar _ _ _ _ _ _ _ ix_list (@aH _ _ _ _ (@aa _ _ _ _ _ ad (@aa _ _ _ _ _ (pv 1) (@aa _ _ _ _ _ (@ao _ _ _ _ _ _ _ _ _ _ DD (hr.mono (by decide)) rfl (@aa _ _ _ _ _ (pv 0) (@aa _ _ _ _ _ ad ab rfl) rfl) (by decide) rfl rfl) (@aa _ _ _ _ _ (@ao _ _ _ _ _ _ _ _ _ _ DD (hr.mono (by decide)) rfl (@aa _ _ _ _ _ (pv 0) (@aa _ _ _ _ _ (@aw _ _ _ _ _ _ _ _ aQ (@aw _ _ _ _ _ _ _ _ dB ad (pv 1)) ad) ab rfl) rfl) (by decide) rfl rfl) ab rfl) rfl) rfl) rfl)) (@ao _ _ _ _ _ _ _ _ _ _ DD (hr.mono (by decide)) rfl (@aa _ _ _ _ _ (pv 0) (@aa _ _ _ _ _ ad ab rfl) rfl) (by decide) rfl rfl) (fun _ _=>rfl)) rfl (Or.inl rfl)) (@ae _ _ _ _ _ (@ay _ _ 3 _ _ _ _ nd rfl (Or.inl rfl) (@aH _ _ _ _ ab) rfl (Or.inl rfl)) (@ae _ _ _ _ _ (@cN _ _ _ _ _ _ _ _ PassesOwn.never rfl (dw rfl B.range (@aa _ _ _ _ _ (@aw _ _ _ _ _ _ _ _ aQ ad (@ao _ _ _ _ _ _ _ _ _ _ DD (hr.mono (by decide)) rfl (@aa _ _ _ _ _ (pv 0) (@aa _ _ _ _ _ ad ab rfl) rfl) (by decide) rfl rfl)) ab rfl)) (am (i:=4) nd rfl (Or.inl rfl)) (@ae _ _ _ _ _ (@ay _ _ 5 _ _ _ _ nd rfl (Or.inl rfl) (@ao _ _ _ _ _ _ _ _ _ _ DSi hr rfl (@aa _ _ _ _ _ (pv 0) (@aa _ _ _ _ _ (pv 1) (@aa _ _ _ _ _ ad ab rfl) rfl) rfl) (by decide) rfl rfl) rfl (Or.inl rfl)) (@ae _ _ _ _ _ (@ay _ _ 6 _ _ _ _ nd rfl (Or.inl rfl) (@ar _ _ _ _ _ _ _ ix_list (@aH _ _ _ _ (@aa _ _ _ _ _ (pv 5) (@aa _ _ _ _ _ (@ao _ _ _ _ _ _ _ _ _ _ DSi hr rfl (@aa _ _ _ _ _ (pv 0) (@aa _ _ _ _ _ (pv 1) (@aa _ _ _ _ _ ad ab rfl) rfl) rfl) (by decide) rfl rfl) ab rfl) rfl)) (@aV _ _ _ _ _ _ _ _ _ bI rfl B.int PyProof.Rows.boot_int (@aa _ _ _ _ _ (@bi _ _ _ _ _ _ _ _ oX (@ao _ _ _ _ _ _ _ _ _ _ DD (hr.mono (by decide)) rfl (@aa _ _ _ _ _ (pv 0) (@aa _ _ _ _ _ ad ab rfl) rfl) (by decide) rfl rfl) ad (aB _)) ab rfl) (by decide) (by decide) rfl rfl) (fun _ _=>rfl)) rfl (Or.inl rfl)) (@ag _ _ _ (@bp _ _ _ _ (@dZ _ _ _ _ _ _ _ _ _ _ _ _ PySem.F.plainAttrs_list PySem.F.slot_list_append PySem.F.type_list_append bJ (pv 3) (@aa _ _ _ _ _ (@ax _ _ _ _ _ (@aa _ _ _ _ _ (pv 5) (@aa _ _ _ _ _ (pv 6) (@aa _ _ _ _ _ (@ao _ _ _ _ _ _ _ _ _ _ DWo hr rfl (@aa _ _ _ _ _ (pv 0) ab rfl) (by decide) rfl rfl) (@aa _ _ _ _ _ (@ao _ _ _ _ _ _ _ _ _ _ DWo hr rfl (@aa _ _ _ _ _ (pv 0) ab rfl) (by decide) rfl rfl) (@aa _ _ _ _ _ (@bi _ _ _ _ _ _ _ _ bg (@ao _ _ _ _ _ _ _ _ _ _ DD (hr.mono (by decide)) rfl (@aa _ _ _ _ _ (pv 0) (@aa _ _ _ _ _ ad ab rfl) rfl) (by decide) rfl rfl) ad (aB _)) ab rfl) rfl) rfl) rfl) rfl)) ab rfl) rfl rfl rfl rfl rfl) rfl)))) (by intro _; rfl)) (@ag _ _ _ (@au _ _ _ _ (@ax _ _ _ _ _ (@aa _ _ _ _ _ (pv 2) (@aa _ _ _ _ _ (pv 3) ab rfl) rfl))))))),?_⟩
 have e60:(100:Int) < 10 ^ 60:=by decide
 have e58:(10:Int) ^ 58 < 10 ^ 60:=by decide
 have e59:2 * (2 * 10 ^ 56) + 100 < (10:Int) ^ 58:=by decide
 have e57:2 * (2 * 10 ^ 56) + 1 < (10:Int) ^ 60:=by decide
 have sz:(100:Nat) < sizeLine:=by decide
 refine av (fun σ' H'=>∃b:Int,σ'=[some (.ref p),some (.int u),some (.int b),none,none,none,none]∧0≤b∧b < 10 ^ 58∧PotC H' p∧But p H H') (fun R hR=>?_) ?_
 ·refine ⟨_,rfl,_,rfl,p,3,rfl,pt,by decide,by decide,fun r1 H1 r10 r11 pt1 b1=>⟨_,rfl,_,rfl,_,_,rfl,rfl,.inl ⟨by decide,by decide⟩,_,_,rfl,rfl,p,_,rfl,pt1,by omega,by omega,fun r2 H2 r20 r21 pt2 b2=>⟨(by show 4≤sizeLine; decide),fun l hl=>?_⟩⟩⟩
  obtain ⟨H3,e3,k3,n3,s3,b3,pt3⟩:=bP (o:=.lst [.int 0,.int u,.int r1,.int r2]) (b1.trans b2) pt2 hl
  rw [show upd H2 l _=H3 from e3]
  refine ⟨_,rfl,p,4,rfl,pt3,by decide,by decide,fun r H4 r0 r1' pt4 b4=>?_⟩
  have hl4:=b4 _ _ n3 k3
  obtain ⟨x,hx,x0,x1⟩:∃x:Int,atI [V.int 0,V.int u,V.int r1,V.int r2] r=some (.int x)∧0≤x∧x < 10 ^ 58:=by
   have:r=0∨r=1∨r=2∨r=3:=by omega
   rcases this with rfl | rfl | rfl | rfl
   ·exact ⟨0,rfl,by decide,by omega⟩
   ·exact ⟨u,rfl,by omega,by omega⟩
   ·exact ⟨r1,rfl,r10,by omega⟩
   ·exact ⟨r2,rfl,r20,by omega⟩
  exact ⟨l,_,_,_,rfl,rfl,SqL.of hl4,hx,hR _ _ ⟨x,rfl,x0,x1,pt4,b3.trans b4⟩⟩
 rintro _ H1 ⟨b,rfl,b0,b1',pt1,b1⟩
 refine av (fun σ' H'=>∃l:Addr,σ'=[some (.ref p),some (.int u),some (.int b),some (.ref l),none,none,none]∧l≠p∧H1 l=none∧H' l=some (.lst [])∧PotC H' p∧But p H H') (fun R hR=>?_) ?_
 ·refine ⟨by decide,fun l hl=>?_⟩
  obtain ⟨H2,e2,k2,n2,s2,b2,pt2⟩:=bP (o:=.lst []) b1 pt1 hl
  rw [show upd H1 l _=H2 from e2]
  exact hR _ _ ⟨l,rfl,n2,hl,k2,pt2,b2⟩
 rintro _ H2 ⟨l,rfl,nlp,hl1,hl2,pt2,b2⟩
 have hl0:H l=none:=(b1.freeC pt1 hl1).2
 refine av (fun σ' H'=>(∃ (v4 v5 v6:Option V) (rs:List V) (ks:List Kd),σ'=[some (.ref p),some (.int u),some (.int b),some (.ref l),v4,v5,v6]∧H' l=some (.lst rs)∧Tups H' rs ks∧(∀k∈ks,mJ k)∧(1≤rs.length∧rs.length≤8)∧PotC H' p∧But p H H')) (fun R hR=>?_) ?_
 ·refine ⟨_,rfl,p,8,rfl,pt2,by decide,by decide,fun m H3 m0 m1 pt3 b3=>⟨_,_,rfl,rfl,_,rfl,by omega,by omega,?_⟩⟩
  refine dA (n:=(1 + m).toNat) (fun i σ' H'=>(∃ (v4 v5 v6:Option V) (rs:List V) (ks:List Kd),σ'=[some (.ref p),some (.int u),some (.int b),some (.ref l),v4,v5,v6]∧H' l=some (.lst rs)∧Tups H' rs ks∧(∀k∈ks,mJ k)∧rs.length=i∧PotC H' p∧But p H H')) ⟨_,_,_,[],[],rfl,b3 _ _ nlp hl2,.nil,fun k hk=>by simp at hk,rfl,pt3,b2.trans b3⟩ ?_ ?_
  ·rintro i _ H4 hi ⟨v4,v5,v6,rs,ks,rfl,hl4,tp4,gk4,rl4,pt4,bt4⟩
   refine ⟨_,rfl,_,rfl,p,u,6,rfl,pt4,u0,u1,by decide,by decide,fun w1 H5 w0 w1' pt5 b5=>?_⟩
   refine ⟨_,rfl,_,rfl,_,rfl,p,u,6,rfl,pt5,u0,u1,by decide,by decide,fun h1 H6 h0 h1' pt6 b6=>⟨(by show 2≤sizeLine; decide),fun l2 hl2'=>?_⟩⟩
   obtain ⟨H7,e7,k7,n7,s7,b7,pt7⟩:=bP (o:=.lst [.int w1,.int h1]) (b5.trans b6) pt6 hl2'
   rw [show upd H6 l2 _=H7 from e7]
   refine ⟨_,rfl,p,5,rfl,pt7,by decide,by decide,fun z H8 z0 z1 pt8 b8=>⟨_,_,rfl,rfl,.inr ⟨_,rfl,?_⟩⟩⟩
   have l28:=b8 _ _ n7 k7
   obtain ⟨nn,hnn,nn0,nn1⟩:∃nn:Int,atI [V.int w1,V.int h1] (if decide (0 < z)=true then (1:Int) else 0)=some (.int nn)∧1≤nn∧nn < 10 ^ 58:=by
    by_cases c:(0:Int) < z
    ·exact ⟨h1,by rw [decide_eq_true c]; rfl,h0,h1'⟩
    ·exact ⟨w1,by rw [decide_eq_false c]; rfl,w0,w1'⟩
   refine ⟨l2,_,_,_,rfl,rfl,SqL.of l28,hnn,?_⟩
   have b48:=b7.trans b8
   have hl8:=b48 _ _ nlp hl4
   refine ⟨_,rfl,.inl ⟨rfl,_,SqL.of hl8⟩,_,rfl,_,rfl,_,rfl,p,rfl,pt8,fun wo H9 wo0 wo1 pt9 b9=>?_⟩
   refine ⟨_,rfl,p,rfl,pt9,fun wa Ha wa0 wa1 pta ba=>?_⟩
   refine ⟨_,rfl,p,2,rfl,pta,by decide,by decide,fun tu Hb tu0 tu1 ptb bb=>⟨rfl,(by show 5≤sizeLine; decide),fun t ht=>?_⟩⟩
   have b4b:=b48.trans (b9.trans (ba.trans bb))
   obtain ⟨H12,e12,k12,n12,s12,b12,pt12⟩:=bP (o:=.tup [.int w1,.int nn,.int wo,.int wa,.bl (decide (V.int tu=V.int 0))]) (bt4.trans b4b) ptb ht
   rw [show upd Hb t _=H12 from e12]
   have k12:H12 t=some (.tup (kdV ⟨w1,nn,wo,wa,decide (V.int tu=V.int 0)⟩)):=k12
   have hlc:=s12 _ _ (b4b _ _ nlp hl4)
   refine ⟨l,_,_,rfl,rfl,hlc,(by have:i < (1 + m).toNat:=hi; omega),?_⟩
   have kt:∀ {c:Addr} {xs:List V},H12 c=some (.tup xs)→(upd H12 l (.lst (rs ++ [.ref t]))) c=some (.tup xs):=fun {c xs} e=>by
    rw [aj (fun z=>by rw [z,hlc] at e; cases e)]; exact e
   refine ⟨_,_,_,rs ++ [.ref t],ks ++ [⟨w1,nn,wo,wa,decide (V.int tu=V.int 0)⟩],rfl,af,?_,fun k hk=>?_,by rw [List.length_append,rl4]; rfl,pt12.put (Ne.symm nlp),fun c o n e=>?_⟩
   ·exact fj (Tups.keep (fun c xs e=>kt (s12 _ _ e)) (pC b4b pt4 tp4)) (.cons ⟨t,rfl,kt k12⟩ .nil)
   ·rcases List.mem_append.mp hk with hk | hk
    ·exact gk4 k hk
    ·rw [List.mem_singleton.mp hk]
     exact ⟨⟨by show (1:Int)≤w1; omega,by show (1:Int)≤nn; omega,wo0,wa0,by show w1 < _; omega,by show nn < _; omega,wo1,wa1⟩,w1',nn1⟩
   ·rw [aj (fun z=>by rw [z,hl0] at e; cases e)]
    exact b12 _ _ n e
  ·rintro _ H4 ⟨v4,v5,v6,rs,ks,rfl,hl4,tp4,gk4,rl4,pt4,bt4⟩
   exact hR _ _ ⟨_,_,_,rs,ks,rfl,hl4,tp4,gk4,⟨by omega,by omega⟩,pt4,bt4⟩
 rintro _ H3 ⟨v4,v5,v6,rs,ks,rfl,hl3,tp3,gk3,⟨r1,r8⟩,pt3,bt3⟩
 refine ⟨_,rfl,_,rfl,(by show 2≤sizeLine; decide),fun t ht=>?_⟩
 obtain ⟨H6,e6,k6,n6,s6,b6,pt6⟩:=bP (o:=.tup [.int b,.ref l]) bt3 pt3 ht
 rw [show upd H3 t _=H6 from e6]
 have rl:=Paired.length tp3
 exact q t l b ks H6 ⟨rs,k6,s6 _ _ hl3,Tups.keep (fun c xs e=>s6 _ _ e) tp3⟩ nlp hl0 gk3 (by omega) (by omega) b0 b1' pt6 b6
theorem scsidesc:FnScope ["_law_shop_here","_law_kind","_law_turned","_law_wide","_law_high"] ["_law_shop_here","_law_kind","_law_turned"] (defScope gt):=⟨rfl,rfl,rfl,by decide +kernel,rfl,by decide +kernel,by decide +kernel⟩
theorem kJ {f:Addr} {fd:FuncData} (F:Fun K "_law_sides" "_law_sides" gt f fd) (B:Blt mg):FnOk P w K mg base CX0 1 f fd ["_law_shop_here","_law_kind","_law_turned"] (spSidesC):=by
 refine F.ok scsidesc (fun vs H Q E h=>?_) (fun cdv A outer s H vs Q E hr h=>?_)
 ·obtain ⟨t,kl,b,ks,i,c,k,rfl,_⟩:=h
  rfl
 obtain ⟨t,kl,b,ks,i,c,k,rfl,sh,hi,q⟩:=h
 have nd:=scsidesc.nd
 refine ⟨_,(@ae _ _ _ _ _ (@aZ _ _ _ _ _ _ (@lU _ _ _ _ _ _ _ _ _ _ pQ (@ar _ _ _ _ _ _ _ ix_list (@ar _ _ _ _ _ _ _ ix_tup (pv 0) ad (fun _ _=>rfl)) (pv 1) (fun _ _=>rfl)) nU (nV ad)) (aY rfl (ai (am (i:=3) nd rfl (Or.inl rfl)) (ai (am (i:=4) nd rfl (Or.inl rfl)) aN))) rfl rfl rfl) (@ag _ _ _ (@au _ _ _ _ (@ar _ _ _ _ _ _ _ ix_list (@aH _ _ _ _ (@aa _ _ _ _ _ (@ax _ _ _ _ _ (@aa _ _ _ _ _ (pv 3) (@aa _ _ _ _ _ (pv 4) ab rfl) rfl)) (@aa _ _ _ _ _ (@ax _ _ _ _ _ (@aa _ _ _ _ _ (pv 4) (@aa _ _ _ _ _ (pv 3) ab rfl) rfl)) ab rfl) rfl)) (@aV _ _ _ _ _ _ _ _ _ bI rfl B.int PyProof.Rows.boot_int (@aa _ _ _ _ _ (pv 2) ab rfl) (by decide) (by decide) rfl rfl) (fun _ _=>rfl))))),?_⟩
 have sz:(100:Nat) < sizeLine:=by decide
 obtain ⟨rs,h1,h2,h3⟩:=id sh
 obtain ⟨vv,hvv,ak,rfl,hak⟩:=Paired.getL h3 hi
 have hak:H ak=some (.tup [.int k.w,.int k.h,.int k.wo,.int k.wa,.bl k.tu]):=hak
 have hat:atI rs (i:Int)=some (.ref ak):=aR (by omega) (by rw [Int.toNat_natCast]; exact hvv)
 refine av (fun σ' H'=>σ'=[some (.ref t),some (.int i),some (.bl c),some (.int k.w),some (.int k.h)]∧Same H H') (fun R hR=>?_) ?_
 ·refine ⟨_,rfl,t,_,1,_,rfl,rfl,SqT.of h1,rfl,_,rfl,kl,_,_,_,rfl,rfl,SqL.of h2,hat,_,rfl,ak,_,rfl,SqT.of hak,(fun z=>absurd z.2 (show ¬ HT.sIx 5 5 (some 2)=5 by decide)),fun a ha=>?_⟩
  obtain ⟨H1,e1,k1,s1⟩:∃H',upd H a (.tup (gH [.int k.w,.int k.h,.int k.wo,.int k.wa,.bl k.tu] none (some 2)))=H'∧H' a=some (.tup (gH [.int k.w,.int k.h,.int k.wo,.int k.wa,.bl k.tu] none (some 2)))∧Same H H':=⟨_,rfl,af,Same.new ha⟩
  rw [show upd H a _=H1 from e1]
  exact ⟨a,_,rfl,SqT.of (show H1 a=some (.tup [.int k.w,.int k.h]) from k1),rfl,_,_,rfl,_,_,rfl,rfl,hR _ _ ⟨rfl,s1⟩⟩
 rintro _ H1 ⟨rfl,s1⟩
 refine ⟨_,rfl,_,rfl,(by show 2≤sizeLine; decide),fun a ha=>?_⟩
 obtain ⟨H2,e2,k2,s2⟩:∃H',upd H1 a (.tup [.int k.w,.int k.h])=H'∧H' a=some (.tup [.int k.w,.int k.h])∧Same H1 H':=⟨_,rfl,af,Same.new ha⟩
 rw [show upd H1 a _=H2 from e2]
 refine ⟨_,rfl,_,rfl,(by show 2≤sizeLine; decide),fun a2 ha2=>?_⟩
 obtain ⟨H3,e3,k3,s3⟩:∃H',upd H2 a2 (.tup [.int k.h,.int k.w])=H'∧H' a2=some (.tup [.int k.h,.int k.w])∧Same H2 H':=⟨_,rfl,af,Same.new ha2⟩
 rw [show upd H2 a2 _=H3 from e3]
 refine ⟨(by show 2≤sizeLine; decide),fun l hl=>?_⟩
 obtain ⟨H4,e4,k4,s4⟩:∃H',upd H3 l (.lst [.ref a,.ref a2])=H'∧H' l=some (.lst [.ref a,.ref a2])∧Same H3 H':=⟨_,rfl,af,Same.new hl⟩
 rw [show upd H3 l _=H4 from e4]
 refine ⟨_,rfl,.inr ⟨_,rfl,?_⟩⟩
 cases c with
 | true=>exact ⟨l,_,_,_,rfl,rfl,SqL.of k4,rfl,q a2 H4 (s4 _ _ k3) (s1.trans (s2.trans (s3.trans s4)))⟩
 | false=>exact ⟨l,_,_,_,rfl,rfl,SqL.of k4,rfl,q a H4 (s4 _ _ (s3 _ _ k2)) (s1.trans (s2.trans (s3.trans s4)))⟩
theorem sclyingsc:FnScope ["_law_shop_here","_law_found","_law_k","_law_kind"] ["_law_shop_here"] (defScope eH):=⟨rfl,rfl,rfl,by decide +kernel,rfl,by decide +kernel,by decide +kernel⟩
theorem iJ {f:Addr} {fd:FuncData} (F:Fun K "_law_lyings" "_law_lyings" eH f fd) (B:Blt mg):FnOk P w K mg base CX0 1 f fd ["_law_shop_here"] (spLyingsC):=by
 refine F.ok sclyingsc (fun vs H Q E h=>?_) (fun cdv A outer s H vs Q E hr h=>?_)
 ·obtain ⟨t,kl,b,ks,rfl,_⟩:=h
  rfl
 obtain ⟨t,kl,b,ks,rfl,sh,k8,q⟩:=h
 have nd:=sclyingsc.nd
 refine ⟨_,(@ae _ _ _ _ _ (@ay _ _ 1 _ _ _ _ nd rfl (Or.inl rfl) (@aH _ _ _ _ ab) rfl (Or.inl rfl)) (@ae _ _ _ _ _ (@cN _ _ _ _ _ _ _ _ PassesOwn.never rfl (oe rfl B.enumerate (@aa _ _ _ _ _ (@ar _ _ _ _ _ _ _ ix_tup (pv 0) ad (fun _ _=>rfl)) ab rfl)) (aY rfl (ai (am (i:=2) nd rfl (Or.inl rfl)) (ai (am (i:=3) nd rfl (Or.inl rfl)) aN))) (@ae _ _ _ _ _ (@bp _ _ _ _ (@dZ _ _ _ _ _ _ _ _ _ _ _ _ PySem.F.plainAttrs_list PySem.F.slot_list_append PySem.F.type_list_append bJ (pv 1) (@aa _ _ _ _ _ (@ax _ _ _ _ _ (@aa _ _ _ _ _ (pv 2) (@aa _ _ _ _ _ bX ab rfl) rfl)) ab rfl) rfl rfl rfl rfl rfl) rfl) (@ag _ _ _ (@aK _ _ _ _ _ _ _ _ (PW.pt (lG (@aP _ _ _ (@ar _ _ _ _ _ _ _ ix_tup (pv 3) ad (fun _ _=>rfl)) (by intro _; rfl)) (jb (@aD _ _ _ _ _ _ _ _ dU (@ar _ _ _ _ _ _ _ ix_tup (pv 3) ad (fun _ _=>rfl)) (@ar _ _ _ _ _ _ _ ix_tup (pv 3) ad (fun _ _=>rfl)) (aB _))))) (@ag _ _ _ (@bp _ _ _ _ (@dZ _ _ _ _ _ _ _ _ _ _ _ _ PySem.F.plainAttrs_list PySem.F.slot_list_append PySem.F.type_list_append bJ (pv 1) (@aa _ _ _ _ _ (@ax _ _ _ _ _ (@aa _ _ _ _ _ (pv 2) (@aa _ _ _ _ _ bX ab rfl) rfl)) ab rfl) rfl rfl rfl rfl rfl) rfl)) aE))) (by intro _; rfl)) (@ag _ _ _ (@au _ _ _ _ (pv 1))))),?_⟩
 have sz:(100:Nat) < sizeLine:=by decide
 obtain ⟨rs,h1,h2,h3⟩:=id sh
 have rl:=Paired.length h3
 refine av (fun σ' H'=>∃l:Addr,σ'=[some (.ref t),some (.ref l),none,none]∧H l=none∧H' l=some (.lst [])∧Same H H') (fun R hR=>?_) ?_
 ·refine ⟨by decide,fun l hl=>?_⟩
  obtain ⟨H1,e1,k1,s1⟩:∃H',upd H l (.lst [])=H'∧H' l=some (.lst [])∧Same H H':=⟨_,rfl,af,Same.new hl⟩
  rw [show upd H l _=H1 from e1]
  exact hR _ _ ⟨l,rfl,hl,k1,s1⟩
 rintro _ H1 ⟨l,rfl,hl,hl1,s1⟩
 have nkl:kl≠l:=ah h2 hl
 refine av (fun σ' H'=>(∃v2 v3:Option V,σ'=[some (.ref t),some (.ref l),v2,v3])∧(∃ys,H' l=some (.lst ys)∧Paired (LyC H') ys (lyK ks 0))∧But l H1 H') (fun R hR=>?_) ?_
 ·refine ⟨_,rfl,t,_,1,_,rfl,rfl,SqT.of (s1 _ _ h1),rfl,kl,rs,rfl,.inl ⟨s1 _ _ h2,mm (f:=.lst) (fun _ _ e=>by cases e; rfl) (l:=kl) (xs:=rs) (fun i σ' H'=>(∃ (v2 v3:Option V) (ys:List V),σ'=[some (.ref t),some (.ref l),v2,v3]∧H' l=some (.lst ys)∧Paired (LyC H') ys (lyK (ks.take i) 0)∧But l H1 H')) ⟨_,_,[],rfl,hl1,.nil,fun _ _ _ e=>e⟩ (fun i σ Hx ⟨v2,v3,ys,_,_,_,b⟩=>b _ _ nkl (s1 _ _ h2)) ?_ (fun σ Hx ⟨v2,v3,ys,e,hy,py,b⟩=>hR _ _ ⟨⟨v2,v3,e⟩,⟨ys,hy,by rw [rl,List.take_length] at py; exact py⟩,b⟩)⟩⟩
  rintro i x pp σ H2 hx hp ⟨v2,v3,ys,rfl,l2,py,b2⟩
  obtain ⟨k,hk',ka,rfl,hka⟩:=Paired.getR h3 hx
  have hin:i < rs.length:=(List.getElem?_eq_some_iff.mp hx).1
  obtain ⟨H3,e3,k3,s3⟩:∃H',upd H2 pp (.tup [.int i,.ref ka])=H'∧H' pp=some (.tup [.int i,.ref ka])∧Same H2 H':=⟨_,rfl,af,Same.new hp⟩
  rw [show upd H2 pp _=H3 from e3]
  have nka:ka≠l:=ah hka hl
  have ka3:H3 ka=some (.tup [.int k.w,.int k.h,.int k.wo,.int k.wa,.bl k.tu]):=s3 _ _ (b2 _ _ nka (s1 _ _ hka))
  have yl:=Paired.length py
  have yl2:=gg (ks.take i) 0
  rw [List.length_take] at yl2
  have lt:lyK (ks.take (i + 1)) 0=lyK (ks.take i) 0 ++ lyT i k:=by
   rw [List.take_add_one,hk']
   show lyK (ks.take i ++ [k]) 0=_
   rw [gN,List.length_take,Nat.zero_add,Nat.min_eq_left (by omega)]
  refine ⟨pp,_,rfl,SqT.of k3,rfl,_,_,rfl,_,_,rfl,rfl,?_⟩
  have app:∀ (Hx:Hp) (a:Addr) (zs:List V) (q:Nat×Bool) (L:List (Nat×Bool)),Hx l=some (.lst zs)→Paired (LyC Hx) zs L→Hx a=some (.tup [.int q.1,.bl q.2])→But l H1 Hx→Paired (LyC (upd Hx l (.lst (zs ++ [.ref a])))) (zs ++ [.ref a]) (L ++ [q])∧But l H1 (upd Hx l (.lst (zs ++ [.ref a]))):=fun Hx a zs q L hx pz ha bx=>by
   have kt:∀c xs,Hx c=some (.tup xs)→(upd Hx l (.lst (zs ++ [.ref a]))) c=some (.tup xs):=fun c xs e=>by
    rw [aj (fun z=>by rw [z,hx] at e; cases e)]; exact e
   exact ⟨fj (Paired.mapP pz fun v q h=>h.keep kt) (.cons ⟨a,rfl,kt _ _ ha⟩ .nil),fun c o n e=>by rw [aj n]; exact bx _ _ n e⟩
  refine av (fun σ' H'=>σ'=[some (.ref t),some (.ref l),some (.int i),some (.ref ka)]∧(∃ys,H' l=some (.lst ys)∧ys.length≤2 * i + 1∧Paired (LyC H') ys (lyK (ks.take i) 0 ++ [(i,false)]))∧But l H1 H') (fun R hR=>?_) ?_
  ·refine ⟨_,rfl,.inl ⟨rfl,_,SqL.of (s3 _ _ l2)⟩,_,rfl,(by show 2≤sizeLine; decide),fun a ha=>?_⟩
   obtain ⟨H4,e4,k4,s4⟩:∃H',upd H3 a (.tup [.int i,.bl false])=H'∧H' a=some (.tup [.int i,.bl false])∧Same H3 H':=⟨_,rfl,af,Same.new ha⟩
   rw [show upd H3 a _=H4 from e4]
   have l4:=s4 _ _ (s3 _ _ l2)
   obtain ⟨a1,a2⟩:=app H4 a ys (i,false) _ l4 (Paired.mapP py fun v q h=>h.keep fun c xs e=>s4 _ _ (s3 _ _ e)) k4 (fun c o n e=>s4 _ _ (s3 _ _ (b2 _ _ n e)))
   exact ⟨l,_,_,rfl,rfl,l4,by omega,hR _ _ ⟨rfl,⟨_,af,by rw [List.length_append]; show ys.length + 1≤_; omega,a1⟩,a2⟩⟩
  rintro _ H4 ⟨rfl,⟨zs,l4,zl,py4⟩,b4⟩
  have ka4:H4 ka=some (.tup [.int k.w,.int k.h,.int k.wo,.int k.wa,.bl k.tu]):=b4 _ _ nka (s1 _ _ hka)
  have no:aT k=false→(∃ (v2 v3:Option V) (ys:List V),([some (.ref t),some (.ref l),some (.int i),some (.ref ka)]:St)=[some (.ref t),some (.ref l),v2,v3]∧H4 l=some (.lst ys)∧Paired (LyC H4) ys (lyK (ks.take (i + 1)) 0)∧But l H1 H4):=fun ht=>⟨_,_,zs,rfl,l4,by rw [lt]; unfold lyT; rw [ht]; exact py4,b4⟩
  refine ⟨_,rfl,ka,_,4,_,rfl,rfl,SqT.of ka4,rfl,_,rfl,?_⟩
  cases htu:k.tu with
  | false=>exact aM (no (by unfold aT; rw [htu]; rfl))
  | true =>
   refine aI ⟨_,rfl,ka,_,0,_,rfl,rfl,SqT.of ka4,rfl,_,rfl,ka,_,1,_,rfl,rfl,SqT.of ka4,rfl,rfl,_,rfl,?_⟩
   by_cases hwh:k.w=k.h
   ·rw [show (!decide (V.int k.w=V.int k.h))=false by rw [decide_eq_true (by rw [hwh])]; rfl]
    exact aM (no (by unfold aT; rw [decide_eq_true hwh]; simp))
   ·rw [show (!decide (V.int k.w=V.int k.h))=true by rw [decide_eq_false (fun z=>hwh (V.int.inj z))]; rfl]
    have ht:aT k=true:=by unfold aT; rw [htu,decide_eq_false hwh]; rfl
    refine aI ⟨_,rfl,.inl ⟨rfl,_,SqL.of l4⟩,_,rfl,(by show 2≤sizeLine; decide),fun a ha=>?_⟩
    obtain ⟨H5,e5,k5,s5⟩:∃H',upd H4 a (.tup [.int i,.bl true])=H'∧H' a=some (.tup [.int i,.bl true])∧Same H4 H':=⟨_,rfl,af,Same.new ha⟩
    rw [show upd H4 a _=H5 from e5]
    have l5:=s5 _ _ l4
    obtain ⟨a1,a2⟩:=app H5 a zs (i,true) _ l5 (Paired.mapP py4 fun v q h=>h.keep fun c xs e=>s5 _ _ e) k5 (fun c o n e=>s5 _ _ (b4 _ _ n e))
    exact ⟨l,_,_,rfl,rfl,l5,by omega,_,_,_,rfl,af,by rw [lt]; unfold lyT; rw [if_pos ht]; rw [List.append_assoc] at a1; exact a1,a2⟩
 rintro _ H2 ⟨⟨v2,v3,rfl⟩,⟨ys,hy,py⟩,b2⟩
 exact ⟨_,rfl,q l ys H2 hy hl py (fun c o e=>b2 _ _ (ah e hl) (s1 _ _ e))⟩
end
def wyS (dn:Bool):Str:=if dn=true then "down" else "across"
theorem tH {K:PySem.W.Frag} {H:Hp}:∀ {ys:List V} {qs:List (Nat×Bool)},Paired (LyC H) ys qs→∃ds,DatVs K H ys ds∧ds.length=ys.length∧PyData.canLayAll0 ds=true∧PyData.depthAll ds≤1
 | _,_,.nil=>⟨[],.nil,rfl,rfl,Nat.zero_le _⟩
 | _,_,.cons ⟨a,e,ha⟩ r=>by
  subst e
  obtain ⟨ds,d1,d2,d3,d4⟩:=tH (K:=K) r
  refine ⟨_ :: ds,.cons (.tup (SqT.of ha) (.cons (.int _) (.cons (.bl _) .nil))) d1,by rw [List.length_cons,List.length_cons,d2],?_,?_⟩
  ·simp [PyData.canLayAll0,PyData.canLay0,d3]
  ·simp only [PyData.depthAll,PyData.depth]; omega
theorem LS.keep2 {H H':Hp} {t kl p rm:Addr} {b:Int} {ks:List Kd} {xs ys:List V} (x:LS H t b ks kl) (hp:H p=some (.lst xs)) (hr:H rm=some (.lst ys)) (n1:kl≠p) (n2:kl≠rm) (bt:But2 p rm H H'):LS H' t b ks kl:=by
 obtain ⟨rs,h1,h2,h3⟩:=x
 have k:∀a zs,H a=some (.tup zs)→H' a=some (.tup zs):=fun a zs e=>bt _ _ (fun z=>by rw [z,hp] at e; cases e) (fun z=>by rw [z,hr] at e; cases e) e
 exact ⟨rs,k _ _ h1,bt _ _ n1 n2 h2,Tups.keep k h3⟩
def FtL (ks:List Kd) (W h:Int) (q:Nat×Bool):Prop:=q∈lyK ks 0∧∃k,ks[q.1]? = some k∧sd1 k q.2≤W∧sd2 k q.2≤h
theorem jG {c:Bool} {a b:Prop} (h:c=true) (x:a):if c=true then a else b:=by rw [if_pos h]; exact x
theorem jH {c:Bool} {a b:Prop} (h:c=false) (x:b):if c=true then a else b:=by rw [if_neg (by rw [h]; exact Bool.false_ne_true)]; exact x
section
variable {P:Program} {w:World} {K:PySem.W.Frag} {mg:Str→Option Value} {base:Heap}
inductive spBeh (vs:List V) (H:Hp) (Q:VK) (E_:XK):Prop
 | mk (t kl:Addr) (b W h p:Int) (ks:List Kd) (dn:Bool) (e_1:vs=[.ref t,.int W,.int h,.str (wyS dn),.int p]) (e_2:LS H t b ks kl) (e_3:∀ (r r1 r2:Addr) (H':Hp),H' r=some (.tup [.ref r1,.ref r2])→H' r1=some (.tup [.int (if dn=true then p else W),.int (if dn=true then h else p)])→H' r2=some (.tup [.int (if dn=true then W - p - b else W),.int (if dn=true then h else h - p - b)])→Same H H'→Q (.ref r) H'):spBeh vs H Q E_
inductive spLeafC (vs:List V) (H:Hp) (Q:VK) (E_:XK):Prop
 | mk (p t kl:Addr) (b W h:Int) (ks:List Kd) (e_1:vs=[.ref p,.ref t,.int W,.int h]) (e_2:PotC H p) (e_3:LS H t b ks kl) (e_4:kl≠p) (e_5:ks.length≤8) (e_6:(∀k∈ks,Good k)) (e_7:W < (9 * 10 ^ 59)) (e_8:h < (9 * 10 ^ 59)) (e_9:∀ (v:V) (T:Tr) (H':Hp),TrV H' T v→(∀b,okU b ks W h T)→lvN T=1→dT T=0→PotC H' p→But p H H'→Q v H'):spLeafC vs H Q E_
inductive spTreeC (n:Nat) (vs:List V) (H:Hp) (Q:VK) (E_:XK):Prop
 | mk (p t kl rm:Addr) (b W h r:Int) (ks:List Kd) (deep:Nat) (e_1:vs=[.ref p,.ref t,.int W,.int h,.int deep,.ref rm]) (e_2:PotC H p) (e_3:LS H t b ks kl) (e_4:kl≠p) (e_5:kl≠rm) (e_6:rm≠p) (e_7:ks.length≤8) (e_8:(∀k∈ks,Good k)) (e_9:0≤b) (e_10:W < (9 * 10 ^ 59)) (e_11:h < (9 * 10 ^ 59)) (e_12:H rm=some (.lst [.int r])) (e_13:0≤r) (e_14:deep < n) (e_15:∀ (v:V) (T:Tr) (r':Int) (H':Hp),TrV H' T v→okU b ks W h T→0≤r'→(lvN T:Int)≤r - r' + 1→dT T≤deep→H' rm=some (.lst [.int r'])→PotC H' p→But2 p rm H H'→Q v H'):spTreeC n vs H Q E_
theorem scbeh:FnScope ["_law_shop_here","_law_wide","_law_high","_law_way","_law_p"] ["_law_shop_here","_law_wide","_law_high","_law_way","_law_p"] (defScope eI):=⟨rfl,rfl,rfl,by decide +kernel,rfl,by decide +kernel,by decide +kernel⟩
theorem qi {f:Addr} {fd:FuncData} (F:Fun K "_law_behind" "_law_behind" eI f fd) (B:Blt mg):FnOk P w K mg base CX0 1 f fd ["_law_shop_here","_law_wide","_law_high","_law_way","_law_p"] (spBeh):=by
 refine F.ok scbeh (fun vs H Q E h=>?_) (fun cdv A outer s H vs Q E hr h=>?_)
 ·obtain ⟨t,kl,b,W,h1,p,ks,dn,rfl,_⟩:=h
  rfl
 obtain ⟨t,kl,b,W,h1,p,ks,dn,rfl,sh,q⟩:=h
 have nd:=scbeh.nd
 refine ⟨_,(@ae _ _ _ _ _ (@aK _ _ _ _ _ _ _ _ (@aD _ _ _ _ _ _ _ _ bg (pv 3) bo (aB _)) (@ag _ _ _ (@au _ _ _ _ (@ax _ _ _ _ _ (@aa _ _ _ _ _ (@ax _ _ _ _ _ (@aa _ _ _ _ _ (pv 4) (@aa _ _ _ _ _ (pv 2) ab rfl) rfl)) (@aa _ _ _ _ _ (@ax _ _ _ _ _ (@aa _ _ _ _ _ (@aw _ _ _ _ _ _ _ _ bd (@aw _ _ _ _ _ _ _ _ bd (pv 1) (pv 4)) (@ar _ _ _ _ _ _ _ ix_tup (pv 0) ad (fun _ _=>rfl))) (@aa _ _ _ _ _ (pv 2) ab rfl) rfl)) ab rfl) rfl)))) aE) (@ag _ _ _ (@au _ _ _ _ (@ax _ _ _ _ _ (@aa _ _ _ _ _ (@ax _ _ _ _ _ (@aa _ _ _ _ _ (pv 1) (@aa _ _ _ _ _ (pv 4) ab rfl) rfl)) (@aa _ _ _ _ _ (@ax _ _ _ _ _ (@aa _ _ _ _ _ (pv 1) (@aa _ _ _ _ _ (@aw _ _ _ _ _ _ _ _ bd (@aw _ _ _ _ _ _ _ _ bd (pv 2) (pv 4)) (@ar _ _ _ _ _ _ _ ix_tup (pv 0) ad (fun _ _=>rfl))) ab rfl) rfl)) ab rfl) rfl))))),?_⟩
 obtain ⟨kr,ht,_⟩:=id sh
 refine av (fun σ' H'=>σ'=[some (.ref t),some (.int W),some (.int h1),some (.str (wyS dn)),some (.int p)]∧H=H'∧dn=false) (fun R hR=>?_) ?_
 ·refine ⟨_,rfl,rfl,_,rfl,?_⟩
  cases dn with
  | false=>exact jH (by decide +kernel) (hR _ _ ⟨rfl,rfl,rfl⟩)
  | true =>
   refine jG (by decide +kernel) ?_
   refine ⟨_,rfl,_,rfl,(by show 2≤sizeLine; decide),fun r1 hr1=>?_⟩
   obtain ⟨H1,e1,k1,s1⟩:∃H',upd H r1 (.tup [.int p,.int h1])=H'∧H' r1=some (.tup [.int p,.int h1])∧Same H H':=⟨_,rfl,af,Same.new hr1⟩
   rw [show upd H r1 _=H1 from e1]
   refine ⟨_,rfl,_,rfl,_,_,rfl,rfl,_,rfl,t,_,0,_,rfl,rfl,SqT.of (s1 _ _ ht),rfl,_,_,rfl,rfl,_,rfl,(by show 2≤sizeLine; decide),fun r2 hr2=>?_⟩
   obtain ⟨H2,e2,k2,s2⟩:∃H',upd H1 r2 (.tup [.int (W - p - b),.int h1])=H'∧H' r2=some (.tup [.int (W - p - b),.int h1])∧Same H1 H':=⟨_,rfl,af,Same.new hr2⟩
   rw [show upd H1 r2 _=H2 from e2]
   refine ⟨(by show 2≤sizeLine; decide),fun r hr=>?_⟩
   obtain ⟨H3,e3,k3,s3⟩:∃H',upd H2 r (.tup [.ref r1,.ref r2])=H'∧H' r=some (.tup [.ref r1,.ref r2])∧Same H2 H':=⟨_,rfl,af,Same.new hr⟩
   rw [show upd H2 r _=H3 from e3]
   exact q r r1 r2 H3 k3 (s3 _ _ (s2 _ _ k1)) (s3 _ _ k2) (s1.trans (s2.trans s3))
 rintro _ _ ⟨rfl,rfl,rfl⟩
 refine ⟨_,rfl,_,rfl,(by show 2≤sizeLine; decide),fun r1 hr1=>?_⟩
 obtain ⟨H1,e1,k1,s1⟩:∃H',upd H r1 (.tup [.int W,.int p])=H'∧H' r1=some (.tup [.int W,.int p])∧Same H H':=⟨_,rfl,af,Same.new hr1⟩
 rw [show upd H r1 _=H1 from e1]
 refine ⟨_,rfl,_,rfl,_,rfl,_,_,rfl,rfl,_,rfl,t,_,0,_,rfl,rfl,SqT.of (s1 _ _ ht),rfl,_,_,rfl,rfl,(by show 2≤sizeLine; decide),fun r2 hr2=>?_⟩
 obtain ⟨H2,e2,k2,s2⟩:∃H',upd H1 r2 (.tup [.int W,.int (h1 - p - b)])=H'∧H' r2=some (.tup [.int W,.int (h1 - p - b)])∧Same H1 H':=⟨_,rfl,af,Same.new hr2⟩
 rw [show upd H1 r2 _=H2 from e2]
 refine ⟨(by show 2≤sizeLine; decide),fun r hr=>?_⟩
 obtain ⟨H3,e3,k3,s3⟩:∃H',upd H2 r (.tup [.ref r1,.ref r2])=H'∧H' r=some (.tup [.ref r1,.ref r2])∧Same H2 H':=⟨_,rfl,af,Same.new hr⟩
 rw [show upd H2 r _=H3 from e3]
 exact q r r1 r2 H3 k3 (s3 _ _ (s2 _ _ k1)) (s3 _ _ k2) (s1.trans (s2.trans s3))
theorem scleafc:FnScope ["_law_pot_here","_law_shop_here","_law_wide","_law_high","_law_some","_law_kind","_law_turned","_law_own"] ["_law_pot_here","_law_shop_here","_law_wide","_law_high"] (defScope jA):=⟨rfl,rfl,rfl,by decide +kernel,rfl,by decide +kernel,by decide +kernel⟩
theorem mL {f:Addr} {fd:FuncData} (F:Fun K "_law_leaf" "_law_leaf" jA f fd) (B:Blt mg) (DD:Dn P w K mg base "_law_take" ["_law_pot_here","_law_many"] 1 (spTake)) (DSd:Dn P w K mg base "_law_sides" ["_law_shop_here","_law_kind","_law_turned"] 1 (spSidesC)) (DLy:Dn P w K mg base "_law_lyings" ["_law_shop_here"] 1 (spLyingsC)):FnOk P w K mg base CX0 2 f fd ["_law_pot_here","_law_shop_here","_law_wide","_law_high"] (spLeafC):=by
 refine F.ok scleafc (fun vs H Q E h=>?_) (fun cdv A outer s H vs Q E hr h=>?_)
 ·obtain ⟨p,t,kl,b,W,h1,ks,rfl,_⟩:=h
  rfl
 obtain ⟨p,t,kl,b,W,h1,ks,rfl,pt,sh,nk,k8,gk,w58,h58,q⟩:=h
 have nd:=scleafc.nd
 have hu:=hr.units
 refine ⟨_,(@ae _ _ _ _ _ (@ay _ _ 4 _ _ _ _ nd rfl (Or.inl rfl) (@aH _ _ _ _ ab) rfl (Or.inl rfl)) (@ae _ _ _ _ _ (@cN _ _ _ _ _ _ _ _ PassesOwn.never rfl (jc (@ao _ _ _ _ _ _ _ _ _ _ DLy (hr.mono (by decide)) rfl (@aa _ _ _ _ _ (pv 1) ab rfl) (by decide) rfl rfl)) (aY rfl (ai (am (i:=5) nd rfl (Or.inl rfl)) (ai (am (i:=6) nd rfl (Or.inl rfl)) aN))) (@ae _ _ _ _ _ (@ay _ _ 7 _ _ _ _ nd rfl (Or.inl rfl) (@ao _ _ _ _ _ _ _ _ _ _ DSd (hr.mono (by decide)) rfl (@aa _ _ _ _ _ (pv 1) (@aa _ _ _ _ _ (pv 5) (@aa _ _ _ _ _ (pv 6) ab rfl) rfl) rfl) (by decide) rfl rfl) rfl (Or.inl rfl)) (@ag _ _ _ (@aK _ _ _ _ _ _ _ _ (PW.pt (lG (@aD _ _ _ _ _ _ _ _ fq (@ar _ _ _ _ _ _ _ ix_tup (pv 7) ad (fun _ _=>rfl)) (pv 2) (aB _)) (jb (@aD _ _ _ _ _ _ _ _ fq (@ar _ _ _ _ _ _ _ ix_tup (pv 7) ad (fun _ _=>rfl)) (pv 3) (aB _))))) (@ag _ _ _ (@bp _ _ _ _ (@dZ _ _ _ _ _ _ _ _ _ _ _ _ PySem.F.plainAttrs_list PySem.F.slot_list_append PySem.F.type_list_append bJ (pv 4) (@aa _ _ _ _ _ (@ax _ _ _ _ _ (@aa _ _ _ _ _ (pv 5) (@aa _ _ _ _ _ (pv 6) ab rfl) rfl)) ab rfl) rfl rfl rfl rfl rfl) rfl)) aE))) (by intro _; rfl)) (@ae _ _ _ _ _ (@aK _ _ _ _ _ _ _ _ (PW.pt (bF (@aD _ _ _ _ _ _ _ _ (pY hu) (pv 4) (@aH _ _ _ _ ab) (aB _)) (bB (@aD _ _ _ _ _ _ _ _ bg (@ao _ _ _ _ _ _ _ _ _ _ DD (hr.mono (by decide)) rfl (@aa _ _ _ _ _ (pv 0) (@aa _ _ _ _ _ ad ab rfl) rfl) (by decide) rfl rfl) ad (aB _))))) (@ag _ _ _ (@au _ _ _ _ (@ax _ _ _ _ _ (@aa _ _ _ _ _ bo ab rfl)))) aE) (@ae _ _ _ _ _ (@aZ _ _ _ _ _ _ (@ar _ _ _ _ _ _ _ ix_list (pv 4) (@ao _ _ _ _ _ _ _ _ _ _ DD (hr.mono (by decide)) rfl (@aa _ _ _ _ _ (pv 0) (@aa _ _ _ _ _ (@aA _ _ _ _ _ _ _ _ _ bc rfl B.len PySem.boot_len (@aa _ _ _ _ _ (pv 4) ab rfl) (by decide) (by decide) rfl rfl) ab rfl) rfl) (by decide) rfl rfl) (fun _ _=>rfl)) (aY rfl (ai (am (i:=5) nd rfl (Or.inl rfl)) (ai (am (i:=6) nd rfl (Or.inl rfl)) aN))) rfl rfl rfl) (@ae _ _ _ _ _ (@ay _ _ 7 _ _ _ _ nd rfl (Or.inl rfl) (@ao _ _ _ _ _ _ _ _ _ _ DSd (hr.mono (by decide)) rfl (@aa _ _ _ _ _ (pv 1) (@aa _ _ _ _ _ (pv 5) (@aa _ _ _ _ _ (pv 6) ab rfl) rfl) rfl) (by decide) rfl rfl) rfl (Or.inl rfl)) (@ag _ _ _ (@au _ _ _ _ (@ax _ _ _ _ _ (@aa _ _ _ _ _ bo (@aa _ _ _ _ _ (pv 5) (@aa _ _ _ _ _ (pv 6) (@aa _ _ _ _ _ (@ao _ _ _ _ _ _ _ _ _ _ DD (hr.mono (by decide)) rfl (@aa _ _ _ _ _ (pv 0) (@aa _ _ _ _ _ (@aw _ _ _ _ _ _ _ _ aQ (@aw _ _ _ _ _ _ _ _ bd (pv 2) (@ar _ _ _ _ _ _ _ ix_tup (pv 7) ad (fun _ _=>rfl))) ad) ab rfl) rfl) (by decide) rfl rfl) (@aa _ _ _ _ _ (@ao _ _ _ _ _ _ _ _ _ _ DD (hr.mono (by decide)) rfl (@aa _ _ _ _ _ (pv 0) (@aa _ _ _ _ _ (@aw _ _ _ _ _ _ _ _ aQ (@aw _ _ _ _ _ _ _ _ bd (pv 3) (@ar _ _ _ _ _ _ _ ix_tup (pv 7) ad (fun _ _=>rfl))) ad) ab rfl) rfl) (by decide) rfl rfl) ab rfl) rfl) rfl) rfl) rfl))))))))),?_⟩
 have sz:(1000:Nat) < sizeLine:=by decide
 have e58:(10:Int) ^ 58 + 10 < 10 ^ 60:=by decide
 have e60:(100:Int) < 10 ^ 60:=by decide
 have ly8:=gg ks 0
 refine av (fun σ' H'=>∃so:Addr,σ'=[some (.ref p),some (.ref t),some (.int W),some (.int h1),some (.ref so),none,none,none]∧H so=none∧H' so=some (.lst [])∧Same H H') (fun R hR=>?_) ?_
 ·refine ⟨by decide,fun so hso=>?_⟩
  obtain ⟨H1,e1,k1,s1⟩:∃H',upd H so (.lst [])=H'∧H' so=some (.lst [])∧Same H H':=⟨_,rfl,af,Same.new hso⟩
  rw [show upd H so _=H1 from e1]
  exact hR _ _ ⟨so,rfl,hso,k1,s1⟩
 rintro _ H1 ⟨so,rfl,hso0,hso1,s1⟩
 have sh1:=sh.same s1
 have pt1:=pt.same s1
 have nsp:so≠p:=Ne.symm (pt.ne hso0)
 obtain ⟨kr,lst1,lst2,lst3⟩:=id sh
 have nks:kl≠so:=ah lst2 hso0
 have shk:∀ {Hx:Hp},But so H1 Hx→LS Hx t b ks kl:=fun bx=>by
  have k:∀a zs,H a=some (.tup zs)→_:=fun a zs e=>bx _ _ (ah e hso0) (s1 _ _ e)
  exact ⟨kr,k _ _ lst1,bx _ _ nks (s1 _ _ lst2),Tups.keep k lst3⟩
 have tks:∀ {Hx Hy:Hp} {us:List V},Hx so=some (.lst us)→But so Hx Hy→∀a zs,Hx a=some (.tup zs)→Hy a=some (.tup zs):=fun h bx a zs e=>bx _ _ (fun z=>by rw [z,h] at e; cases e) e
 refine av (fun σ' H'=>∃ (v5 v6 v7:Option V) (us:List V) (qs:List (Nat×Bool)),σ'=[some (.ref p),some (.ref t),some (.int W),some (.int h1),some (.ref so),v5,v6,v7]∧H' so=some (.lst us)∧Paired (LyC H') us qs∧(∀q∈qs,FtL ks W h1 q)∧us.length≤16∧But so H1 H') (fun R hR=>?_) ?_
 ·refine ⟨_,rfl,t,kl,b,ks,rfl,sh1,k8,fun l ys H2 hl hl0 pl s2=>?_⟩
  have yl:=Paired.length pl
  have nls:l≠so:=fun z=>by rw [z,hso1] at hl0; cases hl0
  refine ⟨l,rfl,⟨_,SqL.of hl⟩,gC (xs:=ys) (fun i σ' H'=>(∃ (v5 v6 v7:Option V) (us:List V) (qs:List (Nat×Bool)),σ'=[some (.ref p),some (.ref t),some (.int W),some (.int h1),some (.ref so),v5,v6,v7]∧H' so=some (.lst us)∧Paired (LyC H') us qs∧(∀q∈qs,FtL ks W h1 q)∧us.length≤i∧But so H1 H')∧But so H2 H') ⟨⟨_,_,_,[],[],rfl,s2 _ _ hso1,.nil,(fun q hq=>by simp at hq),Nat.le_refl _,zG s2⟩,But.refl'⟩ (fun i σ H' _ h=>SqL.of (h.2 _ _ nls hl)) ?_ (fun σ H' h=>hR _ _ (by obtain ⟨v5,v6,v7,us,qs,h1,h2,h3,h4,h5,h6⟩:=h.1; exact ⟨v5,v6,v7,us,qs,h1,h2,h3,h4,by omega,h6⟩))⟩
  rintro i x _ H3 hi ⟨⟨v5,v6,v7,us,qs,rfl,hu3,pu3,ft3,ul3,b13⟩,b23⟩
  obtain ⟨q0,hq0,aq,rfl,haq⟩:=Paired.getR pl hi
  have hin:i < ys.length:=(List.getElem?_eq_some_iff.mp hi).1
  have hly:=List.mem_of_getElem? hq0
  obtain ⟨_,kk,hkk,_⟩:=iI hly
  have hkk:ks[q0.1]? = some kk:=by simpa using hkk
  have haq3:=tks (s2 _ _ hso1) b23 _ _ haq
  refine ⟨aq,_,rfl,SqT.of haq3,rfl,_,_,rfl,_,_,rfl,rfl,?_⟩
  refine av (fun σ' H'=>∃ow:Addr,σ'=[some (.ref p),some (.ref t),some (.int W),some (.int h1),some (.ref so),some (.int q0.1),some (.bl q0.2),some (.ref ow)]∧H' ow=some (.tup [.int (sd1 kk q0.2),.int (sd2 kk q0.2)])∧Same H3 H') (fun R hR=>?_) ?_
  ·exact ⟨_,rfl,_,rfl,_,rfl,t,kl,b,ks,q0.1,q0.2,kk,rfl,shk b13,hkk,fun r H4 hr s4=>hR _ _ ⟨r,rfl,hr,s4⟩⟩
  rintro _ H4 ⟨ow,rfl,how,s34⟩
  have hu4:=s34 _ _ hu3
  have pu4:Paired (LyC H4) us qs:=Paired.mapP pu3 fun v q h=>h.keep fun a xs e=>s34 _ _ e
  have b14:But so H1 H4:=fun c o n e=>s34 _ _ (b13 _ _ n e)
  have b24:But so H2 H4:=fun c o n e=>s34 _ _ (b23 _ _ n e)
  have skip:(∃ (v5 v6 v7:Option V) (us':List V) (qs':List (Nat×Bool)),[some (.ref p),some (.ref t),some (.int W),some (.int h1),some (.ref so),some (.int q0.1),some (.bl q0.2),some (.ref ow)]=[some (.ref p),some (.ref t),some (.int W),some (.int h1),some (.ref so),v5,v6,v7]∧H4 so=some (.lst us')∧Paired (LyC H4) us' qs'∧(∀q∈qs',FtL ks W h1 q)∧us'.length≤i + 1∧But so H1 H4)∧But so H2 H4:=⟨⟨_,_,_,us,qs,rfl,hu4,pu4,ft3,by omega,b14⟩,b24⟩
  refine ⟨_,rfl,ow,_,0,_,rfl,rfl,SqT.of how,rfl,_,rfl,_,_,rfl,rfl,_,rfl,?_⟩
  refine bW (fun c1=>?_) (fun c1=>skip)
  refine ⟨_,rfl,ow,_,1,_,rfl,rfl,SqT.of how,rfl,_,rfl,_,_,rfl,rfl,_,rfl,?_⟩
  refine bW (fun c2=>?_) (fun c2=>skip)
  refine ⟨_,rfl,.inl ⟨rfl,_,SqL.of hu4⟩,_,rfl,_,rfl,(by show 2≤sizeLine; decide),fun tp htp=>?_⟩
  obtain ⟨H5,e5,k5,s5⟩:∃H',upd H4 tp (.tup [.int q0.1,.bl q0.2])=H'∧H' tp=some (.tup [.int q0.1,.bl q0.2])∧Same H4 H':=⟨_,rfl,af,Same.new htp⟩
  rw [show upd H4 tp _=H5 from e5]
  have hu5:=s5 _ _ hu4
  have bu:But so H5 (upd H5 so (.lst (us ++ [.ref tp]))):=fun c o n e=>by rw [aj n]; exact e
  refine ⟨so,_,_,rfl,rfl,hu5,by omega,⟨_,_,_,us ++ [.ref tp],qs ++ [q0],rfl,af,?_,fun q hq=>?_,by rw [List.length_append]; show us.length + 1≤_; omega,fun c o n e=>bu _ _ n (s5 _ _ (b14 _ _ n e))⟩,fun c o n e=>bu _ _ n (s5 _ _ (b24 _ _ n e))⟩
  ·exact fj (Paired.mapP pu4 fun v q h=>h.keep fun a xs e=>tks hu5 bu _ _ (s5 _ _ e)) (.cons ⟨tp,rfl,tks hu5 bu _ _ k5⟩ .nil)
  ·rcases List.mem_append.mp hq with hq | hq
   ·exact ft3 q hq
   ·rw [List.mem_singleton.mp hq]
    exact ⟨hly,kk,hkk,of_decide_eq_true c1,of_decide_eq_true c2⟩
 rintro _ H2 ⟨v5,v6,v7,us,qs,rfl,hu2,pu2,ft,ul,b12⟩
 have pt2:PotC H2 p:=by
  obtain ⟨a,b,h1,h2,h3,e⟩:=pt1
  exact ⟨a,b,h1,h2,h3,b12 _ _ (Ne.symm nsp) e⟩
 have b02:But p H H2:=fun c o n e=>b12 _ _ (ah e hso0) (s1 _ _ e)
 have sh2:=shk b12
 have rest:∀Hx,But p H Hx→PotC Hx p→∀r,Hx r=none→Q (.ref r) (upd Hx r (.tup [.str "rest"])):=fun Hx bx px r hr=>by
  obtain ⟨H9,e9,k9,n9,s9,b9,pt9⟩:=bP (o:=.tup [.str "rest"]) bx px hr
  rw [show upd Hx r _=H9 from e9]
  exact q _ .rest H9 ⟨r,rfl,k9⟩ (fun _=>trivial) rfl rfl pt9 b9
 refine av (fun σ' H'=>σ'=[some (.ref p),some (.ref t),some (.int W),some (.int h1),some (.ref so),v5,v6,v7]∧us≠[]∧H' so=some (.lst us)∧Paired (LyC H') us qs∧LS H' t b ks kl∧PotC H' p∧But p H H') (fun R hR=>?_) ?_
 ·refine ⟨_,rfl,by decide,fun e he=>?_⟩
  obtain ⟨H3,e3,k3,n3,s3,b3,pt3⟩:=bP (o:=.lst []) b02 pt2 he
  rw [show upd H2 e _=H3 from e3]
  obtain ⟨ds,d1,d2,d3,d4⟩:=tH (K:=K) (Paired.mapP pu2 fun v q h=>h.keep fun a xs e=>s3 _ _ e)
  obtain ⟨sh1,sh2',sh3⟩:=qh d3 d4
  refine ⟨.list ds,.list [],.lst (SqL.of (s3 _ _ hu2)) d1,.lst (SqL.of k3) .nil,sh1,by decide +kernel,_,rfl,?_⟩
  by_cases hz0:us=[]
  ·rw [sh2' (by rw [hz0] at d2; exact List.eq_nil_of_length_eq_zero d2)]
   exact aI (aI ⟨(by show 1≤sizeLine; decide),fun r hr=>rest _ b3 pt3 r hr⟩)
  rw [sh3 (fun z=>hz0 (by rw [z] at d2; exact List.eq_nil_of_length_eq_zero d2.symm))]
  refine aM ⟨_,rfl,p,5,rfl,pt3,by decide,by decide,fun z H4 z0 z1 pt4 b4=>⟨rfl,_,rfl,?_⟩⟩
  refine bW (fun cc=>⟨(by show 1≤sizeLine; decide),fun r hr=>rest _ (b3.trans b4) pt4 r hr⟩) (fun cc=>?_)
  exact hR _ _ ⟨rfl,hz0,b4 _ _ nsp (s3 _ _ hu2),Paired.mapP pu2 (fun v q h=>h.keep fun a xs e=>dR b4 pt3 (s3 _ _ e)),(sh2.same s3).but nk pt3 b4,pt4,b3.trans b4⟩
 rintro _ H3 ⟨rfl,une,hu3,pu3,sh3,pt3,b03⟩
 have u1:1≤us.length:=Nat.pos_of_ne_zero fun z=>une (List.eq_nil_of_length_eq_zero z)
 refine av (fun σ' H'=>∃ (i:Nat) (c:Bool) (k:Kd),σ'=[some (.ref p),some (.ref t),some (.int W),some (.int h1),some (.ref so),some (.int i),some (.bl c),v7]∧(i,c)∈lyK ks 0∧ks[i]? = some k∧sd1 k c≤W∧sd2 k c≤h1∧LS H' t b ks kl∧PotC H' p∧But p H H') (fun R hR=>?_) ?_
 ·refine ⟨_,rfl,_,rfl,_,rfl,so,_,rfl,.inl (SqL.of hu3),p,_,rfl,pt3,by omega,by omega,fun r H4 r0 r1 pt4 b4=>?_⟩
  obtain ⟨v,hv⟩:∃v,us[r.toNat]? = some v:=⟨_,List.getElem?_eq_getElem (show r.toNat < us.length by omega)⟩
  obtain ⟨q0,hq0,aq,rfl,haq⟩:=Paired.getR pu3 hv
  obtain ⟨f1,k,hk,f2,f3⟩:=ft q0 (List.mem_of_getElem? hq0)
  exact ⟨so,_,_,_,rfl,rfl,SqL.of (b4 _ _ nsp hu3),aR r0 hv,aq,_,rfl,SqT.of (dR b4 pt3 haq),rfl,_,_,rfl,_,_,rfl,rfl,hR _ _ ⟨q0.1,q0.2,k,rfl,f1,hk,f2,f3,sh3.but nk pt3 b4,pt4,b03.trans b4⟩⟩
 rintro _ H4 ⟨i,c,k,rfl,hly,hk,f2,f3,sh4,pt4,b04⟩
 refine av (fun σ' H'=>∃ow:Addr,σ'=[some (.ref p),some (.ref t),some (.int W),some (.int h1),some (.ref so),some (.int i),some (.bl c),some (.ref ow)]∧H' ow=some (.tup [.int (sd1 k c),.int (sd2 k c)])∧PotC H' p∧But p H H') (fun R hR=>?_) ?_
 ·exact ⟨_,rfl,_,rfl,_,rfl,t,kl,b,ks,i,c,k,rfl,sh4,hk,fun r H5 hr s5=>hR _ _ ⟨r,rfl,hr,pt4.same s5,fun c o n e=>s5 _ _ (b04 _ _ n e)⟩⟩
 rintro _ H5 ⟨ow,rfl,how,pt5,b05⟩
 have g:=gk k (List.mem_of_getElem? hk)
 have sp:1≤sd1 k c∧1≤sd2 k c:=by have:=g.w; have:=g.h; cases c <;> exact ⟨by assumption,by assumption⟩
 refine ⟨_,rfl,_,rfl,_,rfl,_,rfl,_,rfl,ow,_,0,_,rfl,rfl,SqT.of how,rfl,_,_,rfl,rfl,_,_,rfl,rfl,p,W - sd1 k c + 1,rfl,pt5,by omega,by omega,fun x H6 x0 x1 pt6 b6=>?_⟩
 have how6:=dR b6 pt5 how
 refine ⟨_,rfl,_,rfl,_,rfl,ow,_,1,_,rfl,rfl,SqT.of how6,rfl,_,_,rfl,rfl,_,_,rfl,rfl,p,h1 - sd2 k c + 1,rfl,pt6,by omega,by omega,fun y H7 y0 y1 pt7 b7=>?_⟩
 refine ⟨(by show 5≤sizeLine; decide),fun r hr=>?_⟩
 obtain ⟨H8,e8,k8,n8,s8,b8,pt8⟩:=bP (o:=.tup [.str "piece",.int i,.bl c,.int x,.int y]) ((b05.trans b6).trans b7) pt7 hr
 rw [show upd H7 r _=H8 from e8]
 exact q _ (.piece i c x y) H8 ⟨r,rfl,k8⟩ (fun _=>⟨k,hk,hly,x0,y0,by omega,by omega⟩) rfl rfl pt8 b8
end
section
variable {P:Program} {w:World} {K:PySem.W.Frag} {mg:Str→Option Value} {base:Heap}
theorem sctreec:FnScope ["_law_pot_here","_law_shop_here","_law_wide","_law_high","_law_deep_here","_law_room","_law_way","_law_side_here","_law_p","_law_one","_law_other","_law_first"] ["_law_pot_here","_law_shop_here","_law_wide","_law_high","_law_deep_here","_law_room"] (defScope fJ):=⟨rfl,rfl,rfl,by decide +kernel,rfl,by decide +kernel,by decide +kernel⟩
set_option maxHeartbeats 1000000 in
theorem mM {f:Addr} {fd:FuncData} (F:Fun K "_law_tree" "_law_tree" fJ f fd) (B:Blt mg) (n:Nat) (DD:Dn P w K mg base "_law_take" ["_law_pot_here","_law_many"] 1 (spTake)) (DBh:Dn P w K mg base "_law_behind" ["_law_shop_here","_law_wide","_law_high","_law_way","_law_p"] 1 (spBeh)) (DLf:Dn P w K mg base "_law_leaf" ["_law_pot_here","_law_shop_here","_law_wide","_law_high"] 2 (spLeafC)) (DT:Dn P w K mg base "_law_tree" ["_law_pot_here","_law_shop_here","_law_wide","_law_high","_law_deep_here","_law_room"] (3 + n) (spTreeC n)):FnOk P w K mg base CX0 (3 + (n + 1)) f fd ["_law_pot_here","_law_shop_here","_law_wide","_law_high","_law_deep_here","_law_room"] (spTreeC (n + 1)):=by
 refine F.ok sctreec (fun vs H Q E h=>?_) (fun cdv A outer s H vs Q E hr h=>?_)
 ·obtain ⟨p,t,kl,rm,b,W,h1,r,ks,deep,rfl,_⟩:=h
  rfl
 obtain ⟨p,t,kl,rm,b,W,h1,r,ks,deep,rfl,pt,sh,nk,nkr,nrp,k8,gk,b0,w58,h58,hrm,r0,dn0,q⟩:=h
 have nd:=sctreec.nd
 refine ⟨_,(@ae _ _ _ _ _ (@ay _ _ 6 _ _ _ _ nd rfl (Or.inl rfl) (@ar _ _ _ _ _ _ _ ix_list (@aH _ _ _ _ (@aa _ _ _ _ _ bo (@aa _ _ _ _ _ bo ab rfl) rfl)) (@ao _ _ _ _ _ _ _ _ _ _ DD (hr.mono (show 1≤3 + n by omega)) rfl (@aa _ _ _ _ _ (pv 0) (@aa _ _ _ _ _ ad ab rfl) rfl) (by decide) rfl rfl) (fun _ _=>rfl)) rfl (Or.inl rfl)) (@ae _ _ _ _ _ (@ay _ _ 7 _ _ _ _ nd rfl (Or.inl rfl) (@aw _ _ _ _ _ _ _ _ bd (@aw _ _ _ _ _ _ _ _ bd (@ar _ _ _ _ _ _ _ ix_list (@aH _ _ _ _ (@aa _ _ _ _ _ (pv 2) (@aa _ _ _ _ _ (pv 3) ab rfl) rfl)) (@aV _ _ _ _ _ _ _ _ _ bI rfl B.int PyProof.Rows.boot_int (@aa _ _ _ _ _ (@bi _ _ _ _ _ _ _ _ bg (pv 6) bo (aB _)) ab rfl) (by decide) (by decide) rfl rfl) (fun _ _=>rfl)) (@ar _ _ _ _ _ _ _ ix_tup (pv 1) ad (fun _ _=>rfl))) ad) rfl (Or.inl rfl)) (@ae _ _ _ _ _ (@aK _ _ _ _ _ _ _ _ (PW.pt (bF (@aD _ _ _ _ _ _ _ _ bg (pv 4) ad (aB _)) (bF (@aD _ _ _ _ _ _ _ _ bg (@ar _ _ _ _ _ _ _ ix_list (pv 5) ad (fun _ _=>rfl)) ad (aB _)) (bF (@aD _ _ _ _ _ _ _ _ lM (pv 7) ad (aB _)) (bB (@aD _ _ _ _ _ _ _ _ bg (@ao _ _ _ _ _ _ _ _ _ _ DD (hr.mono (show 1≤3 + n by omega)) rfl (@aa _ _ _ _ _ (pv 0) (@aa _ _ _ _ _ ad ab rfl) rfl) (by decide) rfl rfl) ad (aB _))))))) (@ag _ _ _ (@au _ _ _ _ (@ao _ _ _ _ _ _ _ _ _ _ DLf (hr.mono (show 2≤3 + n by omega)) rfl (@aa _ _ _ _ _ (pv 0) (@aa _ _ _ _ _ (pv 1) (@aa _ _ _ _ _ (pv 2) (@aa _ _ _ _ _ (pv 3) ab rfl) rfl) rfl) rfl) (by decide) rfl rfl))) aE) (@ae _ _ _ _ _ (@aZ _ _ _ _ _ _ (@aw _ _ _ _ _ _ _ _ bd (@ar _ _ _ _ _ _ _ ix_list (pv 5) ad (fun _ _=>rfl)) ad) (hW (pv 5) ad eQ) rfl rfl rfl) (@ae _ _ _ _ _ (@ay _ _ 8 _ _ _ _ nd rfl (Or.inl rfl) (@aw _ _ _ _ _ _ _ _ aQ ad (@ar _ _ _ _ _ _ _ ix_list (@aH _ _ _ _ (@aa _ _ _ _ _ (@ao _ _ _ _ _ _ _ _ _ _ DD (hr.mono (show 1≤3 + n by omega)) rfl (@aa _ _ _ _ _ (pv 0) (@aa _ _ _ _ _ (pv 7) ab rfl) rfl) (by decide) rfl rfl) (@aa _ _ _ _ _ (@aw _ _ _ _ _ _ _ _ cX (pv 7) ad) (@aa _ _ _ _ _ (@ao _ _ _ _ _ _ _ _ _ _ DD (hr.mono (show 1≤3 + n by omega)) rfl (@aa _ _ _ _ _ (pv 0) (@aa _ _ _ _ _ (@aA _ _ _ _ _ _ _ _ _ (dF rfl) rfl B.min PyProof.Rows.boot_min (@aa _ _ _ _ _ (pv 7) (@aa _ _ _ _ _ ad ab rfl) rfl) (by decide) (by decide) rfl rfl) ab rfl) rfl) (by decide) rfl rfl) ab rfl) rfl) rfl)) (@ao _ _ _ _ _ _ _ _ _ _ DD (hr.mono (show 1≤3 + n by omega)) rfl (@aa _ _ _ _ _ (pv 0) (@aa _ _ _ _ _ ad ab rfl) rfl) (by decide) rfl rfl) (fun _ _=>rfl))) rfl (Or.inl rfl)) (@ae _ _ _ _ _ (@ay _ _ 8 _ _ _ _ nd rfl (Or.inl rfl) (@aA _ _ _ _ _ _ _ _ _ (dF rfl) rfl B.min PyProof.Rows.boot_min (@aa _ _ _ _ _ (pv 8) (@aa _ _ _ _ _ (pv 7) ab rfl) rfl) (by decide) (by decide) rfl rfl) rfl (Or.inl rfl)) (@ae _ _ _ _ _ (@aZ _ _ _ _ _ _ (@ao _ _ _ _ _ _ _ _ _ _ DBh (hr.mono (show 1≤3 + n by omega)) rfl (@aa _ _ _ _ _ (pv 1) (@aa _ _ _ _ _ (pv 2) (@aa _ _ _ _ _ (pv 3) (@aa _ _ _ _ _ (pv 6) (@aa _ _ _ _ _ (pv 8) ab rfl) rfl) rfl) rfl) rfl) (by decide) rfl rfl) (aY rfl (ai (am (i:=9) nd rfl (Or.inl rfl)) (ai (am (i:=10) nd rfl (Or.inl rfl)) aN))) rfl rfl rfl) (@ae _ _ _ _ _ (@ay _ _ 11 _ _ _ _ nd rfl (Or.inl rfl) (@ao _ _ _ _ _ _ _ _ _ _ DT hr rfl (@aa _ _ _ _ _ (pv 0) (@aa _ _ _ _ _ (pv 1) (@aa _ _ _ _ _ (@ar _ _ _ _ _ _ _ ix_tup (pv 9) ad (fun _ _=>rfl)) (@aa _ _ _ _ _ (@ar _ _ _ _ _ _ _ ix_tup (pv 9) ad (fun _ _=>rfl)) (@aa _ _ _ _ _ (@aw _ _ _ _ _ _ _ _ bd (pv 4) ad) (@aa _ _ _ _ _ (pv 5) ab rfl) rfl) rfl) rfl) rfl) rfl) (by decide) rfl rfl) rfl (Or.inl rfl)) (@ag _ _ _ (@au _ _ _ _ (@ax _ _ _ _ _ (@aa _ _ _ _ _ (pv 6) (@aa _ _ _ _ _ (pv 8) (@aa _ _ _ _ _ (pv 11) (@aa _ _ _ _ _ (@ao _ _ _ _ _ _ _ _ _ _ DT hr rfl (@aa _ _ _ _ _ (pv 0) (@aa _ _ _ _ _ (pv 1) (@aa _ _ _ _ _ (@ar _ _ _ _ _ _ _ ix_tup (pv 10) ad (fun _ _=>rfl)) (@aa _ _ _ _ _ (@ar _ _ _ _ _ _ _ ix_tup (pv 10) ad (fun _ _=>rfl)) (@aa _ _ _ _ _ (@aw _ _ _ _ _ _ _ _ bd (pv 4) ad) (@aa _ _ _ _ _ (pv 5) ab rfl) rfl) rfl) rfl) rfl) rfl) (by decide) rfl rfl) ab rfl) rfl) rfl) rfl)))))))))))),?_⟩
 have e58:(10:Int) ^ 58 + 10 < 10 ^ 60:=by decide
 have e60:(100:Int) < 10 ^ 60:=by decide
 have sz:(1000:Nat) < sizeLine:=by decide
 obtain ⟨_,hp0⟩:=fk pt
 refine av (fun σ' H'=>∃dn:Bool,σ'=[some (.ref p),some (.ref t),some (.int W),some (.int h1),some (.int deep),some (.ref rm),some (.str (wyS dn)),none,none,none,none,none]∧PotC H' p∧But p H H') (fun R hR=>?_) ?_
 ·refine ⟨(by show 2≤sizeLine; decide),fun l hl=>?_⟩
  obtain ⟨H1, e1, k1, n1, s1, b1, pt1⟩:=bP (o:=.lst [.str "down", .str "across"]) But.refl' pt hl
  rw [show upd H l _=H1 from e1]
  refine ⟨_,rfl,p,2,rfl,pt1,by decide,by decide,fun z H2 z0 z1 pt2 b2=>?_⟩
  have:z=0∨z=1:=by omega
  rcases this with rfl | rfl
  ·exact ⟨l,_,_,_,rfl,rfl,SqL.of (b2 _ _ n1 k1),rfl,hR _ _ ⟨true,rfl,pt2,b1.trans b2⟩⟩
  ·exact ⟨l,_,_,_,rfl,rfl,SqL.of (b2 _ _ n1 k1),rfl,hR _ _ ⟨false,rfl,pt2,b1.trans b2⟩⟩
 rintro _ H1 ⟨dn,rfl,pt1,b1⟩
 have sh1:=sh.but nk pt b1
 have hrm1:=b1 _ _ nrp hrm
 refine av (fun σ' H'=>∃sd:Int,σ'=[some (.ref p),some (.ref t),some (.int W),some (.int h1),some (.int deep),some (.ref rm),some (.str (wyS dn)),some (.int sd),none,none,none,none]∧sd=(if dn=true then W else h1) - b - 1∧Same H1 H') (fun R hR=>?_) ?_
 ·refine ⟨_,rfl,_,rfl,(by show 2≤sizeLine; decide),fun rl hrl=>?_⟩
  obtain ⟨H2,e2,k2,s2⟩:∃H',upd H1 rl (.lst [.int W,.int h1])=H'∧H' rl=some (.lst [.int W,.int h1])∧Same H1 H':=⟨_,rfl,af,Same.new hrl⟩
  rw [show upd H1 rl _=H2 from e2]
  obtain ⟨kr,ht,_⟩:=id (sh1.same s2)
  refine ⟨_,rfl,rfl,.inr ⟨_,rfl,rl,_,_,.int (if dn=true then W else h1),rfl,rfl,SqL.of k2,?_,_,rfl,t,_,0,_,rfl,rfl,SqT.of ht,rfl,_,_,rfl,rfl,_,_,rfl,rfl,hR _ _ ⟨_,rfl,rfl,s2⟩⟩⟩
  cases dn with
  | true =>
   rw [show decide (V.str (wyS true)=V.str "across")=false by decide +kernel]
   rfl
  | false =>
   rw [show decide (V.str (wyS false)=V.str "across")=true by decide +kernel]
   rfl
 rintro _ H2 ⟨sd,rfl,esd,s12⟩
 have pt2:=pt1.same s12
 have sh2:=sh1.same s12
 have hrm2:=s12 _ _ hrm1
 have b2:But p H H2:=fun c o n e=>s12 _ _ (b1 _ _ n e)
 have leaf:∀Hx,But p H Hx→PotC Hx p→spLeafC [.ref p,.ref t,.int W,.int h1] Hx Q E0:=fun Hx bx px =>
  ⟨p,t,kl,b,W,h1,ks,rfl,px,sh.but nk pt bx,nk,k8,gk,w58,h58,fun v T H' tv ok ln d0 pt' b'=>q v T r H' tv (ok b) r0 (by omega) (by omega) (b' _ _ nrp (bx _ _ nrp hrm)) pt' (But2.but (bx.trans b'))⟩
 refine av (fun σ' H'=>σ'=[some (.ref p),some (.ref t),some (.int W),some (.int h1),some (.int deep),some (.ref rm),some (.str (wyS dn)),some (.int sd),none,none,none,none]∧1≤r∧1≤deep∧1≤sd∧PotC H' p∧But p H H') (fun R hR=>?_) ?_
 ·refine ⟨_,rfl,rfl,_,rfl,?_⟩
  by_cases c1:deep=0
  ·rw [show decide (V.int (deep:Int)=V.int 0)=true from decide_eq_true (by rw [c1]; rfl)]
   exact aI (aI ⟨_,rfl,_,rfl,_,rfl,_,rfl,leaf _ b2 pt2⟩)
  rw [show decide (V.int (deep:Int)=V.int 0)=false from decide_eq_false (fun z=>c1 (by have:=V.int.inj z; omega))]
  refine aM ⟨_,rfl,rm,_,0,_,rfl,rfl,SqL.of hrm2,rfl,rfl,_,rfl,?_⟩
  by_cases c2:r=0
  ·rw [show decide (V.int r=V.int 0)=true from decide_eq_true (by rw [c2])]
   exact aI (aI ⟨_,rfl,_,rfl,_,rfl,_,rfl,leaf _ b2 pt2⟩)
  rw [show decide (V.int r=V.int 0)=false from decide_eq_false (fun z=>c2 (V.int.inj z))]
  refine aM ⟨_,rfl,_,_,rfl,rfl,_,rfl,?_⟩
  by_cases c3:sd < 1
  ·rw [decide_eq_true c3]
   exact aI (aI ⟨_,rfl,_,rfl,_,rfl,_,rfl,leaf _ b2 pt2⟩)
  rw [decide_eq_false c3]
  refine aM ⟨_,rfl,p,4,rfl,pt2,by decide,by decide,fun z H3 z0 z1 pt3 b3=>⟨rfl,_,rfl,?_⟩⟩
  refine bW (fun cc=>⟨_,rfl,_,rfl,_,rfl,_,rfl,leaf _ (b2.trans b3) pt3⟩) (fun cc=>hR _ _ ⟨rfl,by omega,by omega,by omega,pt3,b2.trans b3⟩)
 clear leaf sh2 pt2 b2 hrm2 s12 sh1 hrm1 b1 pt1
 clear H2 H1
 rintro _ H3 ⟨rfl,r1,deep1,sd1',pt3,b3⟩
 have hrm3:=b3 _ _ nrp hrm
 obtain ⟨d',hd'⟩:∃d',deep=d' + 1:=⟨deep - 1,by omega⟩
 have ed:((deep:Int) - 1)=(d':Int):=by omega
 refine av (fun σ' H'=>σ'=[some (.ref p),some (.ref t),some (.int W),some (.int h1),some (.int deep),some (.ref rm),some (.str (wyS dn)),some (.int sd),none,none,none,none]∧H' rm=some (.lst [.int (r - 1)])∧PotC H' p∧But2 p rm H H') (fun R hR=>?_) ?_
 ·exact ⟨_,rfl,rm,_,0,_,rfl,rfl,SqL.of hrm3,rfl,_,_,rfl,rfl,_,rfl,rm,_,0,0,rfl,rfl,hrm3,rfl,hR _ _ ⟨rfl,af,pt3.put (Ne.symm nrp),fun c o n1 n2 e=>by rw [aj n2]; exact b3 _ _ n1 e⟩⟩
 rintro _ H4 ⟨rfl,hrm4,pt4,b4⟩
 have sdm:sd < (9 * 10 ^ 59):=by rw [esd]; cases dn <;> simp only [if_true,Bool.false_eq_true,if_false] <;> omega
 refine av (fun σ' H'=>∃pl:Int,σ'=[some (.ref p),some (.ref t),some (.int W),some (.int h1),some (.int deep),some (.ref rm),some (.str (wyS dn)),some (.int sd),some (.int pl),none,none,none]∧1≤pl∧PotC H' p∧But p H4 H') (fun R hR=>?_) ?_
 ·refine ⟨_,rfl,_,rfl,p,sd,rfl,pt4,by omega,by omega,fun z1 H5 z10 z11 pt5 b5=>⟨_,rfl,_,_,rfl,rfl,⟨by decide,by decide⟩,_,rfl,_,rfl,_,_,rfl,p,_,rfl,pt5,?_,?_,fun z2 H6 z20 z21 pt6 b6=>⟨(by show 3≤sizeLine; decide),fun l hl=>?_⟩⟩⟩
  ·show 0 < (if (9:Int) < sd then 9 else sd)
   split <;> omega
  ·show (if (9:Int) < sd then 9 else sd)≤_
   split <;> omega
  obtain ⟨H7,e7,k7,n7,s7,b7,pt7⟩:=bP (o:=.lst [.int z1,.int (sd / 2),.int z2]) (b5.trans b6) pt6 hl
  rw [show upd H6 l _=H7 from e7]
  refine ⟨_,rfl,p,3,rfl,pt7,by decide,by decide,fun z H8 z0 z1' pt8 b8=>?_⟩
  have d0:0≤sd / 2:=Int.ediv_nonneg (by omega) (by decide)
  obtain ⟨xx,hxx,xx0⟩:∃xx:Int,atI [V.int z1,V.int (sd / 2),V.int z2] z=some (.int xx)∧0≤xx:=by
   have:z=0∨z=1∨z=2:=by omega
   rcases this with rfl | rfl | rfl
   ·exact ⟨_,rfl,z10⟩
   ·exact ⟨_,rfl,d0⟩
   ·exact ⟨_,rfl,z20⟩
  exact ⟨l,_,_,_,rfl,rfl,SqL.of (b8 _ _ n7 k7),hxx,_,_,rfl,rfl,hR _ _ ⟨1 + xx,rfl,by omega,pt8,b7.trans b8⟩⟩
 rintro _ H5 ⟨pl0,rfl,pl01,pt5,b45⟩
 refine av (fun σ' H'=>∃pl:Int,σ'=[some (.ref p),some (.ref t),some (.int W),some (.int h1),some (.int deep),some (.ref rm),some (.str (wyS dn)),some (.int sd),some (.int pl),none,none,none]∧1≤pl∧pl≤sd∧H5=H') (fun R hR=>?_) ?_
 ·refine ⟨_,rfl,_,rfl,_,_,rfl,hR _ _ ⟨_,rfl,?_,?_,rfl⟩⟩
  ·split <;> omega
  ·split <;> omega
 rintro _ _ ⟨pl,rfl,pl1,pls,rfl⟩
 have b05:But2 p rm H H5:=b4.trans (But2.but b45)
 have hrm5:=b45 _ _ nrp hrm4
 have sh5:LS H5 t b ks kl:=sh.keep2 hp0 hrm nk nkr b05
 refine av (fun σ' H'=>∃ (o1 o2:Addr),σ'=[some (.ref p),some (.ref t),some (.int W),some (.int h1),some (.int deep),some (.ref rm),some (.str (wyS dn)),some (.int sd),some (.int pl),some (.ref o1),some (.ref o2),none]∧H' o1=some (.tup [.int (if dn=true then pl else W),.int (if dn=true then h1 else pl)])∧H' o2=some (.tup [.int (if dn=true then W - pl - b else W),.int (if dn=true then h1 else h1 - pl - b)])∧Same H5 H') (fun R hR=>?_) ?_
 ·exact ⟨_,rfl,_,rfl,_,rfl,_,rfl,_,rfl,t,kl,b,W,h1,pl,ks,dn,rfl,sh5,fun rr r1 r2 H6 e1 e2 e3 s6=>⟨rr,_,rfl,SqT.of e1,rfl,_,_,rfl,_,_,rfl,rfl,hR _ _ ⟨r1,r2,rfl,e2,e3,s6⟩⟩⟩
 rintro _ H6 ⟨o1,o2,rfl,ho1,ho2,s56⟩
 have pt6:=pt5.same s56
 have hrm6:=s56 _ _ hrm5
 have sh6:=sh5.same s56
 obtain ⟨_,hp6⟩:=fk pt6
 have a1:(if dn=true then pl else W) < (9 * 10 ^ 59):=by split <;> omega
 have a2:(if dn=true then h1 else pl) < (9 * 10 ^ 59):=by cases dn <;> simp only [if_true,Bool.false_eq_true,if_false] at * <;> omega
 have a3:(if dn=true then W - pl - b else W) < (9 * 10 ^ 59):=by split <;> omega
 have a4:(if dn=true then h1 else h1 - pl - b) < (9 * 10 ^ 59):=by split <;> omega
 refine av (fun σ' H'=>∃ (v1:V) (T1:Tr) (r1:Int),σ'=[some (.ref p),some (.ref t),some (.int W),some (.int h1),some (.int deep),some (.ref rm),some (.str (wyS dn)),some (.int sd),some (.int pl),some (.ref o1),some (.ref o2),some v1]∧TrV H' T1 v1∧okU b ks (if dn=true then pl else W) (if dn=true then h1 else pl) T1∧0≤r1∧(lvN T1:Int)≤r - 1 - r1 + 1∧dT T1≤d'∧H' rm=some (.lst [.int r1])∧PotC H' p∧But2 p rm H6 H') (fun R hR=>?_) ?_
 ·exact ⟨_,rfl,_,rfl,_,rfl,o1,_,0,_,rfl,rfl,SqT.of ho1,rfl,_,rfl,o1,_,1,_,rfl,rfl,SqT.of ho1,rfl,_,rfl,_,_,rfl,rfl,_,rfl,p,t,kl,rm,b,_,_,r - 1,ks,d',(by rw [← ed]; rfl),pt6,sh6,nk,nkr,nrp,k8,gk,b0,a1,a2,hrm6,by omega,by omega,fun v T r' H7 tv ok r0' ln dp hrm7 pt7 b7=>hR _ _ ⟨v,T,r',rfl,tv,ok,r0',ln,dp,hrm7,pt7,b7⟩⟩
 rintro _ H7 ⟨v1,T1,q1,rfl,tv1,ok1,q10,ln1,dp1,hrm7,pt7,b67⟩
 have sh7:=sh6.keep2 hp6 hrm6 nk nkr b67
 have kt:∀ {Ha Hb:Hp} {xs ys:List V},Ha p=some (.lst xs)→Ha rm=some (.lst ys)→But2 p rm Ha Hb→∀a zs,Ha a=some (.tup zs)→Hb a=some (.tup zs):=fun e1 e2 bb a zs e=>bb _ _ (fun z=>by rw [z,e1] at e; cases e) (fun z=>by rw [z,e2] at e; cases e) e
 have ho2':=kt hp6 hrm6 b67 _ _ ho2
 refine ⟨_,rfl,_,rfl,_,rfl,_,rfl,_,rfl,_,rfl,o2,_,0,_,rfl,rfl,SqT.of ho2',rfl,_,rfl,o2,_,1,_,rfl,rfl,SqT.of ho2',rfl,_,rfl,_,_,rfl,rfl,_,rfl,p,t,kl,rm,b,_,_,q1,ks,d',(by rw [← ed]; rfl),pt7,sh7,nk,nkr,nrp,k8,gk,b0,a3,a4,hrm7,q10,by omega,fun v2 T2 q2 H8 tv2 ok2 q20 ln2 dp2 hrm8 pt8 b78=>?_⟩
 obtain ⟨_,hp7⟩:=fk pt7
 refine ⟨(by show 4≤sizeLine; decide),fun tt htt=>?_⟩
 obtain ⟨H9,e9,k9,s9⟩:∃H',upd H8 tt (.tup [.str (wyS dn),.int pl,v1,v2])=H'∧H' tt=some (.tup [.str (wyS dn),.int pl,v1,v2])∧Same H8 H':=⟨_,rfl,af,Same.new htt⟩
 rw [show upd H8 tt _=H9 from e9]
 refine q _ (.cut dn pl T1 T2) q2 H9 ⟨tt,v1,v2,rfl,k9,TrV.keep (fun a xs e=>s9 _ _ (kt hp7 hrm7 b78 _ _ e)) T1 tv1,TrV.keep (fun a xs e=>s9 _ _ e) T2 tv2⟩ ⟨pl1,?_⟩ q20 (by show ((lvN T1 + lvN T2:Nat):Int)≤_; omega) (by show max (dT T1) (dT T2) + 1≤_; omega) (s9 _ _ hrm8) (pt8.same s9) (fun c o n1 n2 e=>s9 _ _ (b78 _ _ n1 n2 (b67 _ _ n1 n2 (s56 _ _ (b05 _ _ n1 n2 e)))))
 cases dn with
 | true =>
  have esd:sd=W - b - 1:=esd
  exact ⟨by omega,ok1,ok2⟩
 | false =>
  have esd:sd=h1 - b - 1:=esd
  exact ⟨by omega,ok1,ok2⟩
theorem kL {f:Addr} {fd:FuncData} (F:Fun K "_law_tree" "_law_tree" fJ f fd):FnOk P w K mg base CX0 3 f fd ["_law_pot_here","_law_shop_here","_law_wide","_law_high","_law_deep_here","_law_room"] (spTreeC 0):=by
 refine F.ok sctreec (fun vs H Q E h=>?_) (fun cdv A outer s H vs Q E hr h=>?_)
 ·obtain ⟨p,t,kl,rm,b,W,h1,r,ks,deep,rfl,_⟩:=h
  rfl
 ·obtain ⟨p,t,kl,rm,b,W,h1,r,ks,deep,_,_,_,_,_,_,_,_,_,_,_,_,_,z,_⟩:=h
  exact absurd z (Nat.not_lt_zero _)
theorem fO {f:Addr} {fd:FuncData} (F:Fun K "_law_tree" "_law_tree" fJ f fd) (B:Blt mg) (DD:Dn P w K mg base "_law_take" ["_law_pot_here","_law_many"] 1 (spTake)) (DBh:Dn P w K mg base "_law_behind" ["_law_shop_here","_law_wide","_law_high","_law_way","_law_p"] 1 (spBeh)) (DLf:Dn P w K mg base "_law_leaf" ["_law_pot_here","_law_shop_here","_law_wide","_law_high"] 2 (spLeafC)) (mk:∀n,FnOk P w K mg base CX0 (3 + n) f fd ["_law_pot_here","_law_shop_here","_law_wide","_law_high","_law_deep_here","_law_room"] (spTreeC n)→Dn P w K mg base "_law_tree" ["_law_pot_here","_law_shop_here","_law_wide","_law_high","_law_deep_here","_law_room"] (3 + n) (spTreeC n)):∀n,FnOk P w K mg base CX0 (3 + n) f fd ["_law_pot_here","_law_shop_here","_law_wide","_law_high","_law_deep_here","_law_room"] (spTreeC n)
 | 0=>kL F
 | n + 1=>mM F B n DD DBh DLf (mk n (fO F B DD DBh DLf mk n))
end
def ofL:List (Int×Tl)→Tls
 | []=>.nil
 | z :: r=>.cons z.1 z.2 (ofL r)
def srt (l:List (Int×Tl)):List (Int×Tl):=l.mergeSort fun a b=>Bool.not (aJ (bD b) (bD a))
theorem dg (l:List (Int×Tl)):(srt l).Perm l:=List.mergeSort_perm _ _
theorem qj (l:List (Int×Tl)):(srt l).Pairwise fun x y=>aJ (bD y) (bD x)=false:=by
 refine (List.pairwise_mergeSort (fun a b c h1 h2=>?_) (fun a b=>?_) l).imp (fun h=>by simpa using h)
 ·simp only [Bool.not_eq_true'] at h1 h2 ⊢
  cases e:aJ (bD c) (bD a) with
  | false=>rfl
  | true =>
   rcases gh _ (bD b) _ e with z | z
   ·rw [z] at h2; cases h2
   ·rw [z] at h1; cases h1
 ·cases e:aJ (bD b) (bD a) with
  | false=>rfl
  | true =>
   cases e2:aJ (bD a) (bD b) with
   | false=>rfl
   | true =>
    have:=dM _ _ _ e e2
    rw [bN] at this
    cases this
theorem mN {l l':List (Int×Tl)} (h:l'.Perm l) (h1:l'.Pairwise fun x y=>aJ (bD y) (bD x)=false):l'=srt l :=
 (h.trans (dg l).symm).eq_of_pairwise (fun a c _ _ x y=>mt (dN _ _ y x)) h1 (qj l)
def tel (b:Int):Tr→Int→Int→Tl×List (Int×Tl)×List (Int×Tl)
 | .rest,w,h=>(.rest,[(w,.rest)],[(h,.rest)])
 | .piece i c x y,w,h=>(.piece i c x y,[(w,.piece i c x y)],[(h,.piece i c x y)])
 | .cut true p l r,w,h=>(.row true (ofL (srt ((tel b l p h).2.1 ++ (tel b r (w - p - b) h).2.1))),(tel b l p h).2.1 ++ (tel b r (w - p - b) h).2.1,[(h,.row true (ofL (srt ((tel b l p h).2.1 ++ (tel b r (w - p - b) h).2.1))))])
 | .cut false p l r,w,h=>(.row false (ofL (srt ((tel b l w p).2.2 ++ (tel b r w (h - p - b)).2.2))),[(w,.row false (ofL (srt ((tel b l w p).2.2 ++ (tel b r w (h - p - b)).2.2))))],(tel b l w p).2.2 ++ (tel b r w (h - p - b)).2.2)
def bE (b:Int) (t:Tr) (w h:Int):Tl:=(tel b t w h).1
def cJ (b:Int) (dn:Bool) (t:Tr) (w h:Int):List (Int×Tl):=if dn=true then (tel b t w h).2.1 else (tel b t w h).2.2
def isW (dn:Bool):Tr→Bool
 | .cut d _ _ _=>d == dn
 | _=>false
theorem mO (b:Int) (dn:Bool) (p:Int) (l r:Tr) (w h:Int):cJ b dn (.cut dn p l r) w h=cJ b dn l (if dn=true then p else w) (if dn=true then h else p) ++ cJ b dn r (if dn=true then w - p - b else w) (if dn=true then h else h - p - b):=by
 cases dn <;> rfl
theorem mP {b:Int} {dn:Bool} {t:Tr} (e:isW dn t=false) (w h:Int):cJ b dn t w h=[(if dn=true then w else h,bE b t w h)]:=by
 cases t with
 | rest=>cases dn <;> rfl
 | piece=>cases dn <;> rfl
 | cut d=>cases d <;> cases dn <;> first | rfl | cases e
theorem mQ (b:Int) (dn:Bool) (p:Int) (l r:Tr) (w h:Int):bE b (.cut dn p l r) w h=.row dn (ofL (srt (cJ b dn (.cut dn p l r) w h))):=by
 cases dn <;> rfl
theorem cm (b:Int):∀ (t:Tr) (w h:Int),(tel b t w h).2.1.length≤lvN t∧(tel b t w h).2.2.length≤lvN t∧1≤lvN t
 | .rest,_,_=>⟨Nat.le_refl _,Nat.le_refl _,Nat.le_refl _⟩
 | .piece ..,_,_=>⟨Nat.le_refl _,Nat.le_refl _,Nat.le_refl _⟩
 | .cut true p l r,w,h=>by
  have h1:=cm b l p h
  have h2:=cm b r (w - p - b) h
  show List.length (_ ++ _)≤lvN l + lvN r∧1≤lvN l + lvN r∧1≤lvN l + lvN r
  rw [List.length_append]; omega
 | .cut false p l r,w,h=>by
  have h1:=cm b l w p
  have h2:=cm b r w (h - p - b)
  show 1≤lvN l + lvN r∧List.length (_ ++ _)≤lvN l + lvN r∧1≤lvN l + lvN r
  rw [List.length_append]; omega
theorem dh (b:Int) (dn:Bool) (t:Tr) (w h:Int):(cJ b dn t w h).length≤lvN t:=by
 have:=cm b t w h
 cases dn
 ·exact this.2.1
 ·exact this.1
theorem fP {m:Nat}:∀ {l:List (Int×Tl)},(∀z∈l,(tlD z.2).depth≤m)→PyData.depthAll (bq (ofL l))≤m + 1
 | [],_=>Nat.zero_le _
 | z :: l,h=>by
  have h1:=h z List.mem_cons_self
  have h2:=fP (l:=l) fun y hy=>h y (List.mem_cons_of_mem _ hy)
  show max (max 0 (max (tlD z.2).depth 0) + 1) (PyData.depthAll (bq (ofL l)))≤m + 1
  omega
theorem fQ {m:Nat} {dn:Bool} {l:List (Int×Tl)} (h:∀z∈l,(tlD z.2).depth≤m):(tlD (.row dn (ofL (srt l)))).depth≤m + 3:=by
 have:=fP (l:=srt l) fun z hz=>h z ((dg l).mem_iff.mp hz)
 show max 0 (max (PyData.depthAll (bq (ofL (srt l))) + 1) 0) + 1≤m + 3
 omega
theorem bK (b:Int):∀ (t:Tr) (w h:Int),(tlD (tel b t w h).1).depth≤3 * dT t + 1∧(∀z∈(tel b t w h).2.1,(tlD z.2).depth≤3 * dT t + 1)∧(∀z∈(tel b t w h).2.2,(tlD z.2).depth≤3 * dT t + 1)
 | .rest,_,_=>⟨Nat.le_refl _,fun z hz=>by rw [List.mem_singleton.mp hz]; exact Nat.le_refl _,fun z hz=>by rw [List.mem_singleton.mp hz]; exact Nat.le_refl _⟩
 | .piece ..,_,_=>⟨Nat.le_refl _,fun z hz=>by rw [List.mem_singleton.mp hz]; exact Nat.le_refl _,fun z hz=>by rw [List.mem_singleton.mp hz]; exact Nat.le_refl _⟩
 | .cut true p l r,w,h=>by
  have h1:=(bK b l p h).2.1
  have h2:=(bK b r (w - p - b) h).2.1
  have all:∀z∈(tel b l p h).2.1 ++ (tel b r (w - p - b) h).2.1,(tlD z.2).depth≤3 * max (dT l) (dT r) + 1:=fun z hz=>by
   rcases List.mem_append.mp hz with hz | hz
   ·have:=h1 z hz; omega
   ·have:=h2 z hz; omega
  have k:=fQ (dn:=true) all
  refine ⟨by show (tlD (.row true _)).depth≤3 * (max (dT l) (dT r) + 1) + 1; omega,fun z hz=>?_,fun z hz=>?_⟩
  ·have:=all z hz
   show _≤3 * (max (dT l) (dT r) + 1) + 1
   omega
  ·rw [List.mem_singleton.mp hz]
   show (tlD (.row true _)).depth≤3 * (max (dT l) (dT r) + 1) + 1
   omega
 | .cut false p l r,w,h=>by
  have h1:=(bK b l w p).2.2
  have h2:=(bK b r w (h - p - b)).2.2
  have all:∀z∈(tel b l w p).2.2 ++ (tel b r w (h - p - b)).2.2,(tlD z.2).depth≤3 * max (dT l) (dT r) + 1:=fun z hz=>by
   rcases List.mem_append.mp hz with hz | hz
   ·have:=h1 z hz; omega
   ·have:=h2 z hz; omega
  have k:=fQ (dn:=false) all
  refine ⟨by show (tlD (.row false _)).depth≤3 * (max (dT l) (dT r) + 1) + 1; omega,fun z hz=>?_,fun z hz=>?_⟩
  ·rw [List.mem_singleton.mp hz]
   show (tlD (.row false _)).depth≤3 * (max (dT l) (dT r) + 1) + 1
   omega
  ·have:=all z hz
   show _≤3 * (max (dT l) (dT r) + 1) + 1
   omega
theorem fg {b:Int} {dn:Bool} {t:Tr} {w h:Int} {z:Int×Tl} (hz:z∈cJ b dn t w h):(tlD z.2).depth≤3 * dT t + 1:=by
 have:=bK b t w h
 cases dn
 ·exact this.2.2 z hz
 ·exact this.2.1 z hz
mutual
def TlV (H:Hp):Tl→V→Prop
 | .rest,v=>∃a,v=.ref a∧H a=some (.tup [.str "rest"])
 | .piece i c x y,v=>∃a,v=.ref a∧H a=some (.tup [.str "piece",.int i,.bl c,.int x,.int y])
 | .row dn r,v=>∃a q xs,v=.ref a∧H a=some (.tup [.str (wyL dn),.ref q])∧H q=some (.tup xs)∧TlsV H r xs
def TlsV (H:Hp):Tls→List V→Prop
 | .nil,xs=>xs=[]
 | .cons n t r,xs=>∃a u ys,xs=.ref a :: ys∧H a=some (.tup [.int n,u])∧TlV H t u∧TlsV H r ys
end
mutual
theorem TlV.keep {H H':Hp} (k:∀a xs,H a=some (.tup xs)→H' a=some (.tup xs)):∀ (t:Tl) {v:V},TlV H t v→TlV H' t v
 | .rest,_,h=>by
  rw [TlV] at h ⊢
  obtain ⟨a,e,h⟩:=h
  exact ⟨a,e,k _ _ h⟩
 | .piece ..,_,h=>by
  rw [TlV] at h ⊢
  obtain ⟨a,e,h⟩:=h
  exact ⟨a,e,k _ _ h⟩
 | .row dn r,_,h=>by
  rw [TlV] at h ⊢
  obtain ⟨a,q,xs,e,h1,h2,h3⟩:=h
  exact ⟨a,q,xs,e,k _ _ h1,k _ _ h2,TlsV.keep k r h3⟩
theorem TlsV.keep {H H':Hp} (k:∀a xs,H a=some (.tup xs)→H' a=some (.tup xs)):∀ (t:Tls) {v:List V},TlsV H t v→TlsV H' t v
 | .nil,_,h=>by rw [TlsV] at h ⊢; exact h
 | .cons n t r,_,h=>by
  rw [TlsV] at h ⊢
  obtain ⟨a,u,ys,e,h1,h2,h3⟩:=h
  exact ⟨a,u,ys,e,k _ _ h1,TlV.keep k t h2,TlsV.keep k r h3⟩
end
mutual
theorem TlV.dat {K:PySem.W.Frag} {H:Hp}:∀ (t:Tl) {v:V},TlV H t v→DatV K H v (tlD t)
 | .rest,_,h=>by
  rw [TlV] at h
  obtain ⟨a,e,h⟩:=h
  subst e
  exact .tup (SqT.of h) (.cons (.str _) .nil)
 | .piece ..,_,h=>by
  rw [TlV] at h
  obtain ⟨a,e,h⟩:=h
  subst e
  exact .tup (SqT.of h) (.cons (.str _) (.cons (.int _) (.cons (.bl _) (.cons (.int _) (.cons (.int _) .nil)))))
 | .row dn r,_,h=>by
  rw [TlV] at h
  obtain ⟨a,q,xs,e,h1,h2,h3⟩:=h
  subst e
  exact .tup (SqT.of h1) (.cons (.str _) (.cons (.tup (SqT.of h2) (TlsV.dat r h3)) .nil))
theorem TlsV.dat {K:PySem.W.Frag} {H:Hp}:∀ (t:Tls) {v:List V},TlsV H t v→DatVs K H v (bq t)
 | .nil,_,h=>by rw [TlsV] at h; subst h; exact .nil
 | .cons n t r,_,h=>by
  rw [TlsV] at h
  obtain ⟨a,u,ys,e,h1,h2,h3⟩:=h
  subst e
  exact .cons (.tup (SqT.of h1) (.cons (.int _) (.cons (TlV.dat t h2) .nil))) (TlsV.dat r h3)
end
def ItV (H:Hp) (v:V) (z:Int×Tl):Prop:=∃a u,v=.ref a∧H a=some (.tup [.int z.1,u])∧TlV H z.2 u
theorem ItV.keep {H H':Hp} (k:∀a xs,H a=some (.tup xs)→H' a=some (.tup xs)) {v:V} {z:Int×Tl} (h:ItV H v z):ItV H' v z:=by
 obtain ⟨a,u,e,h1,h2⟩:=h
 exact ⟨a,u,e,k _ _ h1,TlV.keep k _ h2⟩
theorem ItV.dat {K:PySem.W.Frag} {H:Hp} {a:Addr} {z:Int×Tl} (h:ItV H (.ref a) z):DatV K H (.ref a) (.tuple [.int z.1,tlD z.2]):=by
 obtain ⟨c,u,e,h1,h2⟩:=h
 cases e
 exact .tup (SqT.of h1) (.cons (.int _) (.cons (TlV.dat _ h2) .nil))
theorem gu {H:Hp}:∀ {vs:List V} {zs:List (Int×Tl)},Paired (ItV H) vs zs→TlsV H (ofL zs) vs
 | _,_,.nil=>by rw [ofL,TlsV]
 | _,_,.cons ⟨a,u,e,h1,h2⟩ r=>by
  rw [ofL,TlsV]
  exact ⟨a,u,_,by rw [e],h1,h2,gu r⟩
theorem iK {H:Hp}:∀ {vs:List V} {zs:List (Int×Tl)},Paired (ItV H) vs zs→∃ps:List (Addr×(Int×Tl)),vs=ps.map (fun z=>V.ref z.1)∧zs=ps.map (·.2)∧∀z∈ps,ItV H (.ref z.1) z.2
 | _,_,.nil=>⟨[],rfl,rfl,fun z hz=>by cases hz⟩
 | _,_,.cons (b:=z) ⟨a,u,e,h1,h2⟩ r=>by
  obtain ⟨ps,e1,e2,h⟩:=iK r
  refine ⟨(a,z) :: ps,by rw [e,e1]; rfl,by rw [e2]; rfl,fun y hy=>?_⟩
  rcases List.mem_cons.mp hy with hy | hy
  ·rw [hy]; exact ⟨a,u,rfl,h1,h2⟩
  ·exact h y hy
theorem iL {H:Hp}:∀ {ps:List (Addr×(Int×Tl))},(∀z∈ps,ItV H (.ref z.1) z.2)→Paired (ItV H) (ps.map fun z=>V.ref z.1) (ps.map (·.2))
 | [],_=>.nil
 | z :: ps,h=>.cons (h z List.mem_cons_self) (iL fun y hy=>h y (List.mem_cons_of_mem _ hy))
theorem di:∀t:Tr,szT t + 1=2 * lvN t
 | .rest=>rfl
 | .piece .. => rfl
 | .cut _ _ l r=>by
  have h1:=di l
  have h2:=di r
  show szT l + szT r + 1 + 1=2 * (lvN l + lvN r)
  omega
theorem dS:∀t:Tr,dT t + 1≤lvN t
 | .rest=>Nat.le_refl _
 | .piece .. => Nat.le_refl _
 | .cut _ _ l r=>by
  have h1:=dS l
  have h2:=dS r
  show max (dT l) (dT r) + 1 + 1≤lvN l + lvN r
  omega
theorem Room.units220 {k:Nat} {A:Around} (r:Room k A) (h:2≤k):A.units + 220 < cLine:=by have:=r.un; omega
structure Wa where
 w:Int
 h:Int
 t:Tr
def WaAt (p:Addr) (H0 H:Hp) (v:V) (z:Wa):Prop:=∃a c u d,v=.ref a∧H a=some (.tup [.ref c,u])∧H c=some (.tup [.int z.w,.int z.h])∧Dt p H0 u d∧TrD z.t d
theorem WaAt.keep {p:Addr} {H0 H H':Hp} (k:∀a xs,H a=some (.tup xs)→H' a=some (.tup xs)) {v:V} {z:Wa} (h:WaAt p H0 H v z):WaAt p H0 H' v z:=by
 obtain ⟨a,c,u,d,e,h1,h2,h3,h4⟩:=h
 exact ⟨a,c,u,d,e,k _ _ h1,k _ _ h2,h3,h4⟩
def wsz (ts:List Wa):Nat:=(ts.map fun t=>szT t.t).sum
theorem bA (a b:List Wa):wsz (a ++ b)=wsz a + wsz b:=by unfold wsz; rw [List.map_append,List.sum_append]
theorem gv:∀ts:List Wa,ts.length≤wsz ts
 | []=>Nat.le_refl _
 | t :: r=>by
  have:=gv r
  have:=mI t.t
  show r.length + 1≤szT t.t + wsz r
  omega
def wrw (b:Int) (dn:Bool) (ts:List Wa):List (Int×Tl):=ts.flatMap fun z=>cJ b dn z.t z.w z.h
theorem cG (b:Int) (dn:Bool) (s t:List Wa):wrw b dn (s ++ t)=wrw b dn s ++ wrw b dn t:=List.flatMap_append
theorem bV (b:Int) (dn:Bool) (z:Wa):wrw b dn [z]=cJ b dn z.t z.w z.h:=by
 show cJ b dn z.t z.w z.h ++ []=_
 rw [List.append_nil]
theorem tI (dn:Bool):inV (V.str (wyL dn)) [V.str "down",V.str "across"]=true:=by cases dn <;> decide +kernel
theorem tJ (d dn:Bool):decide (V.str (wyL d)=V.str (wyL dn))=(d == dn):=by cases d <;> cases dn <;> decide +kernel
def hdW:Tr→Str
 | .rest => "rest"
 | .piece .. => "piece"
 | .cut dn _ _ _=>wyL dn
theorem mR (t:Tr) (dn:Bool):decide (V.str (hdW t)=V.str (wyL dn))=isW dn t:=by
 cases t with
 | rest=>cases dn <;> decide +kernel
 | piece =>
  show decide (V.str "piece" = V.str (wyL dn))=false
  cases dn <;> decide +kernel
 | cut d=>exact tJ d dn
theorem TrD.head {t:Tr} {d:PyData} (h:TrD t d):∃ys,aU d=some (.str (hdW t) :: ys):=by
 cases t with
 | rest=>exact ⟨_,h⟩
 | piece=>exact ⟨_,h⟩
 | cut dn p l r =>
  obtain ⟨dl,dr,e,_⟩:=h
  exact ⟨_,e⟩
theorem Dt.head {p:Addr} {H:Hp} {v:V} {d:PyData} {y:Str} {ys:List PyData} (h:Dt p H v d) (er:aU d=some (.str y :: ys)):∃a xs,v=.ref a∧(H a=some (.lst (.str y :: xs))∨H a=some (.tup (.str y :: xs)))∧Dts p H xs ys:=by
 obtain ⟨a,xs,e,hx,dxs⟩:=h.ref_row er
 cases dxs with
 | cons hd0 dxs =>
  cases hd0
  exact ⟨a,_,e,hx,dxs⟩
theorem mS (dn:Bool) (p:Int) (l r:Tr):dT l < dT (.cut dn p l r)∧dT r < dT (.cut dn p l r)∧szT (.cut dn p l r)=szT l + szT r + 1∧lvN (.cut dn p l r)=lvN l + lvN r:=by
 refine ⟨?_,?_,rfl,rfl⟩
 ·show dT l < max (dT l) (dT r) + 1; omega
 ·show dT r < max (dT l) (dT r) + 1; omega
section
variable {P:Program} {w:World} {K:PySem.W.Frag} {mg:Str→Option Value} {base:Heap}
inductive spCheckT (C:Addr) (vs:List V) (H:Hp) (Q:VK) (E_:XK):Prop
 | mk (pp s:Addr) (b w h:Int) (ks:List Kd) (v:V) (d:PyData) (e_1:vs=[.ref s,.int w,.int h,v]) (e_2:ShopAt C H s b ks) (e_3:1≤w) (e_4:1≤h) (e_5:Dt pp H v d) (e_6:wt d≤30000) (e_7:isT b ks w h d=true) (e_8:∀H',Same H H'→Q .non H'):spCheckT C vs H Q E_
inductive spSideA (vs:List V) (H:Hp) (Q:VK) (E_:XK):Prop
 | mk (c:Addr) (w h:Int) (dn:Bool) (e_1:vs=[.ref c,.str (wyL dn)]) (e_2:H c=some (.tup [.int w,.int h])) (e_3:Q (.int (if dn=true then w else h)) H):spSideA vs H Q E_
inductive spTell (n:Nat) (vs:List V) (H:Hp) (Q:VK) (E_:XK):Prop
 | mk (pp c:Addr) (b w h:Int) (v:V) (d:PyData) (t:Tr) (e_1:vs=[.int b,.ref c,v]) (e_2:H c=some (.tup [.int w,.int h])) (e_3:Dt pp H v d) (e_4:TrD t d) (e_5:lvN t≤63) (e_6:dT t < n) (e_7:∀ (u:V) (H':Hp),TlV H' (bE b t w h) u→Same H H'→Q u H'):spTell n vs H Q E_
inductive spTellO (C:Addr) (vs:List V) (H:Hp) (Q:VK) (E_:XK):Prop
 | mk (pp s:Addr) (b w h:Int) (ks:List Kd) (v:V) (d:PyData) (t:Tr) (e_1:vs=[.ref s,.int w,.int h,v]) (e_2:ShopAt C H s b ks) (e_3:1≤w) (e_4:1≤h) (e_5:Dt pp H v d) (e_6:wt d≤30000) (e_7:TrD t d) (e_8:okT b ks w h t) (e_9:lvN t≤63) (e_10:dT t < 50) (e_11:∀ (u:V) (H':Hp),TlV H' (bE b t w h) u→Same H H'→Q u H'):spTellO C vs H Q E_
theorem sccheckt:FnScope ["shop","wide","high","thing"] ["shop","wide","high","thing"] (defScope cf):=⟨rfl,rfl,rfl,by decide +kernel,rfl,by decide +kernel,by decide +kernel⟩
theorem kM {f C:Addr} {fd:FuncData} (F:Fun K "check_tree" "check_tree" cf f fd) (DI:Dn P w K mg base "is_tree" ["shop","wide","high","thing"] 6 (spIsTree C)):FnOk P w K mg base CX0 7 f fd ["shop","wide","high","thing"] (spCheckT C):=by
 refine F.ok sccheckt (fun vs H Q E h=>?_) (fun cdv A outer s H vs Q E hr h=>?_)
 ·obtain ⟨pp,s,b,w1,h1,ks,v,d,rfl,_⟩:=h
  rfl
 obtain ⟨pp,s,b,w1,h1,ks,v,d,rfl,SH,w0,h0,hd,dz,ht,q⟩:=h
 have nd:=sccheckt.nd
 refine ⟨_,(@ag _ _ _ (@aK _ _ _ _ _ _ _ _ (@aX _ _ _ _ (@aP _ _ _ (@ao _ _ _ _ _ _ _ _ _ _ DI hr rfl (@aa _ _ _ _ _ (pv 0) (@aa _ _ _ _ _ (pv 1) (@aa _ _ _ _ _ (pv 2) (@aa _ _ _ _ _ (pv 3) ab rfl) rfl) rfl) rfl) (by decide) rfl rfl) (by intro _; rfl))) (@ag _ _ _ eL) aE)),?_⟩
 refine ⟨_,rfl,_,rfl,_,rfl,_,rfl,pp,s,b,w1,h1,ks,v,d,rfl,SH,w0,h0,hd,dz,fun H1 s1=>⟨_,rfl,?_⟩⟩
 rw [ht]
 exact aM (q _ s1)
theorem scsidea:FnScope ["part","way"] ["part","way"] (defScope cg):=⟨rfl,rfl,rfl,by decide +kernel,rfl,by decide +kernel,by decide +kernel⟩
theorem mT {f wa:Addr} {fd:FuncData} (F:Fun K "side_along" "side_along" cg f fd) (Z:TrC K mg wa):FnOk P w K mg base CX0 1 f fd ["part","way"] (spSideA):=by
 refine F.ok scsidea (fun vs H Q E h=>?_) (fun cdv A outer s H vs Q E hr h=>?_)
 ·obtain ⟨c,w1,h1,dn,rfl,_⟩:=h
  rfl
 obtain ⟨c,w1,h1,dn,rfl,hc,q⟩:=h
 have nd:=scsidea.nd
 obtain ⟨tdn,hdn⟩:=Z.dn
 refine ⟨_,(@ag _ _ _ (@au _ _ _ _ (eK (@aD _ _ _ _ _ _ _ _ bg (pv 1) (bf (v:=.str "down") rfl hdn ⟨tdn,rfl⟩) (aB _)) (@ar _ _ _ _ _ _ _ ix_tup (pv 0) ad (fun _ _=>rfl)) (@ar _ _ _ _ _ _ _ ix_tup (pv 0) ad (fun _ _=>rfl))))),?_⟩
 refine ⟨_,rfl,rfl,_,rfl,?_⟩
 cases dn with
 | true=>exact jG (by decide +kernel) ⟨_,rfl,c,_,0,_,rfl,rfl,SqT.of hc,rfl,q⟩
 | false=>exact jH (by decide +kernel) ⟨_,rfl,c,_,1,_,rfl,rfl,SqT.of hc,rfl,q⟩
theorem sctell:FnScope ["blade","part","tree","way","row","waiting","inner_part","inner_tree","first","second"] ["blade","part","tree"] (defScope aW):=⟨rfl,rfl,rfl,by decide +kernel,rfl,by decide +kernel,by decide +kernel⟩
set_option maxHeartbeats 1000000 in
theorem oK {f wa:Addr} {fd:FuncData} (F:Fun K "telling_of_part" "telling_of_part" aW f fd) (B:Blt mg) (Z:TrC K mg wa) (n:Nat) (n60:n≤60) (DC:Dn P w K mg base "cut_parts" ["blade","part","way","p"] 1 (spParts2)) (DSA:Dn P w K mg base "side_along" ["part","way"] 1 (spSideA)) (DT:Dn P w K mg base "telling_of_part" ["blade","part","tree"] (3 + n) (spTell n)):FnOk P w K mg base CX0 (3 + (n + 1)) f fd ["blade","part","tree"] (spTell (n + 1)):=by
 refine F.ok sctell (fun vs H Q E h=>?_) (fun cdv A outer s H vs Q E hr h=>?_)
 ·obtain ⟨pp,c,b,w1,h1,v,d,t,rfl,_⟩:=h
  rfl
 obtain ⟨pp,c,b,w1,h1,v,d,t,rfl,hc,hd,td,l63,dn0,q⟩:=h
 have nd:=sctell.nd
 have hu:=Room.units220 hr (show 2≤3 + n by omega)
 refine ⟨_,(@ae _ _ _ _ _ (@ay _ _ 3 _ _ _ _ nd rfl (Or.inl rfl) (@ar _ _ _ _ _ _ _ bv (pv 2) ad (fun _ _=>rfl)) rfl (Or.inl rfl)) (@ae _ _ _ _ _ (@aK _ _ _ _ _ _ _ _ (@aD _ _ _ _ _ _ _ _ gb (pv 3) (bf (v:=.ref wa) rfl Z.wy rfl) rfl) (@ag _ _ _ (@au _ _ _ _ (@aV _ _ _ _ _ _ _ _ _ bh rfl B.tuple PyProof.Rows.boot_tuple (@aa _ _ _ _ _ (pv 2) ab rfl) (by decide) (by decide) rfl rfl))) aE) (@ae _ _ _ _ _ (@ay _ _ 4 _ _ _ _ nd rfl (Or.inl rfl) (@aH _ _ _ _ ab) rfl (Or.inl rfl)) (@ae _ _ _ _ _ (@ay _ _ 5 _ _ _ _ nd rfl (Or.inl rfl) (@aH _ _ _ _ (@aa _ _ _ _ _ (@ax _ _ _ _ _ (@aa _ _ _ _ _ (pv 1) (@aa _ _ _ _ _ (pv 2) ab rfl) rfl)) ab rfl)) rfl (Or.inl rfl)) (@ae _ _ _ _ _ (eM PassesOwn.never (gD (pv 5) (fun _=>rfl)) (@ae _ _ _ _ _ (@aZ _ _ _ _ _ _ (gc PySem.F.plainAttrs_list PySem.F.slot_list_pop PySem.F.type_list_pop ir (pv 5)) (aY rfl (ai (am (i:=6) nd rfl (Or.inl rfl)) (ai (am (i:=7) nd rfl (Or.inl rfl)) aN))) rfl rfl rfl) (@ag _ _ _ (@aK _ _ _ _ _ _ _ _ (@aD _ _ _ _ _ _ _ _ bg (@ar _ _ _ _ _ _ _ bv (pv 7) ad (fun _ _=>rfl)) (pv 3) (aB _)) (@ae _ _ _ _ _ (@aZ _ _ _ _ _ _ (@ao _ _ _ _ _ _ _ _ _ _ DC (hr.mono (show 1≤3 + n by omega)) rfl (@aa _ _ _ _ _ (pv 0) (@aa _ _ _ _ _ (pv 6) (@aa _ _ _ _ _ (pv 3) (@aa _ _ _ _ _ (@ar _ _ _ _ _ _ _ bv (pv 7) ad (fun _ _=>rfl)) ab rfl) rfl) rfl) rfl) (by decide) rfl rfl) (aY rfl (ai (am (i:=8) nd rfl (Or.inl rfl)) (ai (am (i:=9) nd rfl (Or.inl rfl)) aN))) rfl rfl rfl) (@ag _ _ _ (@bp _ _ _ _ (@dZ _ _ _ _ _ _ _ _ _ _ _ _ PySem.F.plainAttrs_list PySem.F.slot_list_extend PySem.F.type_list_extend fC (pv 5) (@aa _ _ _ _ _ (@aH _ _ _ _ (@aa _ _ _ _ _ (@ax _ _ _ _ _ (@aa _ _ _ _ _ (pv 8) (@aa _ _ _ _ _ (@ar _ _ _ _ _ _ _ bv (pv 7) ad (fun _ _=>rfl)) ab rfl) rfl)) (@aa _ _ _ _ _ (@ax _ _ _ _ _ (@aa _ _ _ _ _ (pv 9) (@aa _ _ _ _ _ (@ar _ _ _ _ _ _ _ bv (pv 7) ad (fun _ _=>rfl)) ab rfl) rfl)) ab rfl) rfl)) ab rfl) rfl rfl rfl rfl rfl) rfl))) (@ag _ _ _ (@bp _ _ _ _ (@dZ _ _ _ _ _ _ _ _ _ _ _ _ PySem.F.plainAttrs_list PySem.F.slot_list_append PySem.F.type_list_append bJ (pv 4) (@aa _ _ _ _ _ (@ax _ _ _ _ _ (@aa _ _ _ _ _ (@ao _ _ _ _ _ _ _ _ _ _ DSA (hr.mono (show 1≤3 + n by omega)) rfl (@aa _ _ _ _ _ (pv 6) (@aa _ _ _ _ _ (pv 3) ab rfl) rfl) (by decide) rfl rfl) (@aa _ _ _ _ _ (@ao _ _ _ _ _ _ _ _ _ _ DT (hr.mono (show 3 + n≤3 + n by omega)) rfl (@aa _ _ _ _ _ (pv 0) (@aa _ _ _ _ _ (pv 6) (@aa _ _ _ _ _ (pv 7) ab rfl) rfl) rfl) (by decide) rfl rfl) ab rfl) rfl)) ab rfl) rfl rfl rfl rfl rfl) rfl)))))) (@ag _ _ _ (@au _ _ _ _ (@ax _ _ _ _ _ (@aa _ _ _ _ _ (pv 3) (@aa _ _ _ _ _ (@aV _ _ _ _ _ _ _ _ _ bh rfl B.tuple PyProof.Rows.boot_tuple (@aa _ _ _ _ _ (@aA _ _ _ _ _ _ _ _ _ (df hu) rfl B.sorted PyProof.Rows.boot_sorted (@aa _ _ _ _ _ (pv 4) ab rfl) (by decide) (by decide) rfl rfl) ab rfl) (by decide) (by decide) rfl rfl) ab rfl) rfl))))))))),?_⟩
 have sz:(40000:Nat)≤sizeLine:=by decide
 obtain ⟨ys,er⟩:=TrD.head td
 obtain ⟨a,xs,rfl,hx,dxs⟩:=hd.head er
 refine ⟨_,rfl,ixR (Same.refl _) hx (aR (Int.le_refl _) rfl) ?_⟩
 cases t with
 | rest =>
  have td:aU d=some [.str "rest"]:=td
  rw [td] at er
  cases er
  cases dxs
  refine ⟨_,rfl,wa,_,rfl,.inr (Z.wq _),rfl,rfl,_,rfl,?_⟩
  show (if (!inV (V.str "rest") [V.str "down",V.str "across"])=true then _ else _)
  rw [show inV (V.str "rest") [V.str "down",V.str "across"]=false by decide +kernel]
  refine aI ?_
  rcases hx with hx | hx
  ·refine ⟨_,rfl,a,_,rfl,.inl ⟨SqL.of hx,fun l hl=>q _ _ ?_ (Same.new hl)⟩⟩
   show TlV _ (.rest) _
   rw [TlV]
   exact ⟨l,rfl,af⟩
  ·refine ⟨_,rfl,a,_,rfl,.inr ⟨SqT.of hx,q _ _ ?_ (Same.refl _)⟩⟩
   show TlV _ (.rest) _
   rw [TlV]
   exact ⟨a,rfl,hx⟩
 | piece i cc x y =>
  have td:aU d=some [.str "piece",.int i,.bool cc,.int x,.int y]:=td
  rw [td] at er
  cases er
  cases dxs with
  | cons g1 dxs =>
  cases dxs with
  | cons g2 dxs =>
  cases dxs with
  | cons g3 dxs =>
  cases dxs with
  | cons g4 dxs =>
  cases dxs
  cases g1
  cases g2
  cases g3
  cases g4
  refine ⟨_,rfl,wa,_,rfl,.inr (Z.wq _),rfl,rfl,_,rfl,?_⟩
  show (if (!inV (V.str "piece") [V.str "down",V.str "across"])=true then _ else _)
  rw [show inV (V.str "piece") [V.str "down",V.str "across"]=false by decide +kernel]
  refine aI ?_
  rcases hx with hx | hx
  ·refine ⟨_,rfl,a,_,rfl,.inl ⟨SqL.of hx,fun l hl=>q _ _ ?_ (Same.new hl)⟩⟩
   show TlV _ (.piece i cc x y) _
   rw [TlV]
   exact ⟨l,rfl,af⟩
  ·refine ⟨_,rfl,a,_,rfl,.inr ⟨SqT.of hx,q _ _ ?_ (Same.refl _)⟩⟩
   show TlV _ (.piece i cc x y) _
   rw [TlV]
   exact ⟨a,rfl,hx⟩
 | cut dn pl tl tr =>
  obtain ⟨t,et⟩:∃t,t=Tr.cut dn pl tl tr:=⟨_,rfl⟩
  rw [← et] at td l63 dn0 q er
  have szt:=di t
  have dl:=dS t
  refine ⟨_,rfl,wa,_,rfl,.inr (Z.wq _),rfl,rfl,_,rfl,?_⟩
  show (if (!inV (V.str (wyL dn)) [V.str "down",V.str "across"])=true then _ else _)
  rw [tI]
  refine aM ⟨by decide,fun rl hrl=>?_⟩
  obtain ⟨H0,e0,k0,s0⟩:∃H',upd H rl (.lst [])=H'∧H' rl=some (.lst [])∧Same H H':=⟨_,rfl,af,Same.new hrl⟩
  rw [show upd H rl _=H0 from e0]
  refine ⟨_,rfl,_,rfl,(by show 2≤sizeLine; decide),fun t' ht=>?_⟩
  obtain ⟨Ha,ea,ka,sa⟩:∃H',upd H0 t' (.tup [.ref c,.ref a])=H'∧H' t'=some (.tup [.ref c,.ref a])∧Same H0 H':=⟨_,rfl,af,Same.new ht⟩
  rw [show upd H0 t' _=Ha from ea]
  refine ⟨(by show 1≤sizeLine; decide),fun wl hwl=>?_⟩
  obtain ⟨Hb,eb,kb,sb⟩:∃H',upd Ha wl (.lst [.ref t'])=H'∧H' wl=some (.lst [.ref t'])∧Same Ha H':=⟨_,rfl,af,Same.new hwl⟩
  rw [show upd Ha wl _=Hb from eb]
  have fw:H wl=none:=(s0.trans sa).free hwl
  have nrw:rl≠wl:=fun z=>by rw [← z,sa _ _ k0] at hwl; cases hwl
  have sab:=(s0.trans sa).trans sb
  obtain ⟨v,ev⟩:∃v,v=V.ref a:=⟨_,rfl⟩
  rw [← ev] at hd ka ⊢
  clear ev hx dxs e0 ea eb
  refine ⟨fun m σ H'=>∃ (vs us:List V) (ts:List Wa) (L:List (Int×Tl)) (v6 v7 v8 v9:Option V),σ=[some (.int b),some (.ref c),some v,some (.str (wyL dn)),some (.ref rl),some (.ref wl),v6,v7,v8,v9]∧m=wsz ts∧H' wl=some (.lst vs)∧H' rl=some (.lst us)∧Paired (WaAt pp H H') vs ts∧Paired (ItV H') us L∧(L ++ wrw b dn ts).Perm (cJ b dn t w1 h1)∧(∀z∈ts,(z.t=t∨dT z.t < dT t)∧lvN z.t≤63)∧wsz ts≤10000∧Same H H',⟨_,[.ref t'],[],[⟨w1,h1,t⟩],[],none,none,none,none,rfl,rfl,kb,sb _ _ (sa _ _ k0),.cons ⟨t',c,v,d,rfl,sb _ _ ka,sab _ _ hc,hd,td⟩ .nil,.nil,?_,?_,(by show szT t + 0≤10000; omega),sab⟩,?_⟩
  ·rw [bV]
   exact .refl _
  ·intro z hz
   rw [List.mem_singleton.mp hz]
   exact ⟨.inl rfl,l63⟩
  rintro m σ H1 ⟨vs,us,ts,L,v6,v7,v8,v9,rfl,rfl,hw,hl,pr,pu,pm,dz,sz1,s1⟩
  refine ⟨_,rfl,_,.inl ⟨vs,SqL.of hw,rfl⟩,?_⟩
  rcases List.eq_nil_or_concat vs with rfl | ⟨vs',v0,rfl⟩
  ·have ets:ts=[]:=by
    have:=Paired.length pr
    cases ts with
    | nil=>rfl
    | cons _ _=>simp at this
   subst ets
   rw [show wrw b dn []=[] from rfl,List.append_nil] at pm
   obtain ⟨ps,rfl,rfl,ips⟩:=iK pu
   have ll:=dh b dn t w1 h1
   have pl':=pm.length_eq
   rw [List.length_map] at pl'
   refine aM ⟨_,rfl,_,rfl,rl,ps,rfl,SqL.of hl,by omega,fun z hz=>⟨(ips z hz).dat,?_⟩,fun l ps' hl' pm' pw=>?_⟩
   ·have:=fg (pm.mem_iff.mp (List.mem_map.mpr ⟨z,hz,rfl⟩))
    omega
   obtain ⟨H2,e2,k2,s2⟩:∃H',upd H1 l (.lst (ps'.map fun z=>V.ref z.1))=H'∧H' l=some (.lst (ps'.map fun z=>V.ref z.1))∧Same H1 H':=⟨_,rfl,af,Same.new hl'⟩
   rw [show upd H1 l _=H2 from e2]
   refine ⟨l,_,rfl,.inl ⟨SqL.of k2,fun tq htq=>?_⟩⟩
   obtain ⟨H3,e3,k3,s3⟩:∃H',upd H2 tq (.tup (ps'.map fun z=>V.ref z.1))=H'∧H' tq=some (.tup (ps'.map fun z=>V.ref z.1))∧Same H2 H':=⟨_,rfl,af,Same.new htq⟩
   rw [show upd H2 tq _=H3 from e3]
   refine ⟨(by show 2≤sizeLine; decide),fun fr hfr=>?_⟩
   obtain ⟨H4,e4,k4,s4⟩:∃H',upd H3 fr (.tup [.str (wyL dn),.ref tq])=H'∧H' fr=some (.tup [.str (wyL dn),.ref tq])∧Same H3 H':=⟨_,rfl,af,Same.new hfr⟩
   rw [show upd H3 fr _=H4 from e4]
   have s14:=s2.trans (s3.trans s4)
   refine q _ H4 ?_ (s1.trans s14)
   rw [et,mQ,← et,TlV]
   refine ⟨fr,tq,_,rfl,k4,s4 _ _ k3,?_⟩
   have ee:ps'.map (·.2)=srt (cJ b dn t w1 h1):=mN ((pm'.map _).trans pm) pw
   rw [← ee]
   exact gu (iL fun z hz=>(ips z (pm'.mem_iff.mp hz)).keep fun a xs e=>s14 _ _ e)
  rw [List.concat_eq_append] at pr hw ⊢
  obtain ⟨ts',t0,rfl,prp,⟨sp,c0,u,du,rfl,hsp,hc0,hdu,tdu⟩⟩:=jD pr
  rw [show (!(vs' ++ [V.ref sp]).isEmpty)=true by cases vs' <;> rfl]
  have ssz:wsz (ts' ++ [t0])=wsz ts' + szT t0.t:=by rw [bA]; show _ + (szT t0.t + 0)=_; omega
  rw [ssz] at sz1 ⊢
  refine aI ⟨fun σ' H'=>∃ (vs us:List V) (ts:List Wa) (L:List (Int×Tl)) (v6 v7 v8 v9:Option V),σ'=[some (.int b),some (.ref c),some v,some (.str (wyL dn)),some (.ref rl),some (.ref wl),v6,v7,v8,v9]∧wsz ts < wsz ts' + szT t0.t∧H' wl=some (.lst vs)∧H' rl=some (.lst us)∧Paired (WaAt pp H H') vs ts∧Paired (ItV H') us L∧(L ++ wrw b dn ts).Perm (cJ b dn t w1 h1)∧(∀z∈ts,(z.t=t∨dT z.t < dT t)∧lvN z.t≤63)∧wsz ts≤10000∧Same H H',fun σ' H' ⟨vs,us,ts,L,v6,v7,v8,v9,e,l,r⟩=>⟨_,l,vs,us,ts,L,v6,v7,v8,v9,e,rfl,r⟩,?_⟩
  rw [cG,bV] at pm
  have ml:(vs' ++ [V.ref sp]).length=vs'.length + 1:=by rw [List.length_append]; rfl
  have keep:∀ {Hx:Hp} {o:HO},Same H Hx→Same H (upd Hx wl o):=fun {Hx o} sx c oo e=>by
   rw [aj (fun z=>by rw [z,fw] at e; cases e)]
   exact sx _ _ e
  have keepL:∀ {Hx:Hp} {o:HO},Same H Hx→Same H (upd Hx rl o):=fun {Hx o} sx c oo e=>by
   rw [aj (fun z=>by rw [z,hrl] at e; cases e)]
   exact sx _ _ e
  refine av (fun σ' H'=>σ'=[some (.int b),some (.ref c),some v,some (.str (wyL dn)),some (.ref rl),some (.ref wl),some (.ref c0),some u,v8,v9]∧H' wl=some (.lst vs')∧H' rl=some (.lst us)∧Paired (WaAt pp H H') vs' ts'∧Paired (ItV H') us L∧H' c0=some (.tup [.int t0.w,.int t0.h])∧Same H H') (fun R hR=>?_) ?_
  ·refine ⟨_,rfl,.inl ⟨rfl,_,SqL.of hw⟩,wl,_,.ref sp,rfl,rfl,hw,(by rw [ml]; simp),?_⟩
   rw [List.dropLast_concat]
   have kt:∀ {c:Addr} {xs:List V},H1 c=some (.tup xs)→(upd H1 wl (.lst vs')) c=some (.tup xs):=fun {c xs} e=>by
    rw [aj (fun z=>by rw [z,hw] at e; cases e)]; exact e
   refine ⟨sp,_,rfl,SqT.of (kt hsp),rfl,_,_,rfl,_,_,rfl,rfl,?_⟩
   exact hR _ _ ⟨rfl,af,by rw [aj nrw]; exact hl,Paired.mapP prp fun v t h=>h.keep fun a xs e=>kt e,Paired.mapP pu fun v t h=>h.keep fun a xs e=>kt e,kt hc0,keep s1⟩
  clear hw hl pr prp pu hsp hc0
  rintro _ H2 ⟨rfl,hw2,hl2,pr2,pu2,hc2,s02⟩
  obtain ⟨ys0,er0⟩:=TrD.head tdu
  obtain ⟨a0,xs0,rfl,hx0,dx0⟩:=hdu.head er0
  have sl:=gv ts'
  have pl2:=Paired.length pr2
  refine ⟨_,rfl,ixR s02 hx0 (aR (Int.le_refl _) rfl) ⟨_,rfl,rfl,_,rfl,?_⟩⟩
  show (if (decide (V.str (hdW t0.t)=V.str (wyL dn)))=true then _ else _)
  rw [mR]
  have dz0:=dz t0 (List.mem_append.mpr (.inr (List.mem_singleton.mpr rfl)))
  have dz':∀z∈ts',(z.t=t∨dT z.t < dT t)∧lvN z.t≤63:=fun z hz=>dz z (List.mem_append.mpr (.inl hz))
  cases hw0:isW dn t0.t with
  | false =>
   have nt:t0.t≠t:=fun z=>by
    rw [z,et] at hw0
    simp [isW] at hw0
   have dlt:=dz0.1.resolve_left nt
   have sp0:=mI t0.t
   have pul:=Paired.length pu2
   have l0:=dS t0.t
   rw [mP hw0] at pm
   have lml:=dh b dn t w1 h1
   have pml:=pm.length_eq
   rw [List.length_append,List.length_append,List.length_singleton] at pml
   refine aM ⟨_,rfl,.inl ⟨rfl,_,SqL.of hl2⟩,_,rfl,_,rfl,c0,t0.w,t0.h,dn,rfl,hc2,_,rfl,_,rfl,_,rfl,pp,c0,b,t0.w,t0.h,.ref a0,du,t0.t,rfl,hc2,hdu.same s02,tdu,dz0.2,by omega,fun uu H3 tv s3=>⟨(by show 2≤sizeLine; decide),fun it hit=>?_⟩⟩
   obtain ⟨H4,e4,k4,s4⟩:∃H',upd H3 it (.tup [.int (if dn=true then t0.w else t0.h),uu])=H'∧H' it=some (.tup [.int (if dn=true then t0.w else t0.h),uu])∧Same H3 H':=⟨_,rfl,af,Same.new hit⟩
   rw [show upd H3 it _=H4 from e4]
   have s24:=s3.trans s4
   have hl4:=s24 _ _ hl2
   refine ⟨rl,us,_,rfl,rfl,hl4,by omega,?_⟩
   have kt:∀ {c:Addr} {xs:List V},H4 c=some (.tup xs)→(upd H4 rl (.lst (us ++ [.ref it]))) c=some (.tup xs):=fun {c xs} e=>by
    rw [aj (fun z=>by rw [z,hl4] at e; cases e)]; exact e
   refine ⟨vs',us ++ [.ref it],ts',L ++ [(if dn=true then t0.w else t0.h,bE b t0.t t0.w t0.h)],_,_,_,_,rfl,by omega,by rw [aj (Ne.symm nrw)]; exact s24 _ _ hw2,af,Paired.mapP pr2 fun v t h=>h.keep fun a xs e=>kt (s24 _ _ e),fj (Paired.mapP pu2 fun v t h=>h.keep fun a xs e=>kt (s24 _ _ e)) (.cons ⟨it,uu,rfl,kt k4,TlV.keep (fun a xs e=>kt (s4 _ _ e)) _ tv⟩ .nil),?_,dz',by omega,keepL (s02.trans s24)⟩
   refine List.Perm.trans ?_ pm
   rw [List.append_assoc]
   exact (List.Perm.append_left _ List.perm_append_comm)
  | true =>
   obtain ⟨p0,l0,r0,e0⟩:∃p0 l0 r0,t0.t=.cut dn p0 l0 r0:=by
    cases z:t0.t with
    | rest=>rw [z] at hw0; cases hw0
    | piece=>rw [z] at hw0; cases hw0
    | cut d p0 l0 r0 =>
     rw [z] at hw0
     have:d=dn:=by simpa [isW] using hw0
     rw [this]
     exact ⟨_,_,_,rfl⟩
   rw [e0] at tdu er0 hx0 dz0
   obtain ⟨q1,q2,q3,q4⟩:=mS dn p0 l0 r0
   have szt0:szT t0.t=szT l0 + szT r0 + 1:=by rw [e0]; exact q3
   obtain ⟨dl0,dr0,er1,tdl,tdr⟩:=tdu
   rw [er1] at er0
   cases er0
   cases dx0 with
   | @cons x1 _ xs1 _ g1 dx0 =>
   cases dx0 with
   | @cons lv _ xs2 _ gl dx0 =>
   cases dx0 with
   | @cons rv _ xs3 _ gr dx0 =>
   cases dx0
   cases g1
   have hx0:H a0=some (.lst [.str (wyL dn),.int p0,lv,rv])∨H a0=some (.tup [.str (wyL dn),.int p0,lv,rv]):=hx0
   refine aI ?_
   refine av (fun σ' H'=>∃t1 t2,σ'=[some (.int b),some (.ref c),some v,some (.str (wyL dn)),some (.ref rl),some (.ref wl),some (.ref c0),some (.ref a0),some (.ref t1),some (.ref t2)]∧H' t1=some (.tup [.int (if dn=true then p0 else t0.w),.int (if dn=true then t0.h else p0)])∧H' t2=some (.tup [.int (if dn=true then t0.w - p0 - b else t0.w),.int (if dn=true then t0.h else t0.h - p0 - b)])∧Same H2 H') (fun R hR=>?_) ?_
   ·refine ⟨_,rfl,_,rfl,_,rfl,_,rfl,ixR s02 hx0 (aR (by decide) rfl) ⟨b,t0.w,t0.h,p0,c0,dn,rfl,hc2,fun u t1 t2 H3 ku k1 k2 s3=>⟨u,_,rfl,SqT.of ku,rfl,_,_,rfl,_,_,rfl,rfl,hR _ _ ⟨t1,t2,rfl,?_,?_,s3⟩⟩⟩⟩
    ·rw [k1]; cases dn <;> rfl
    ·rw [k2]; cases dn <;> rfl
   rintro _ H3 ⟨t1,t2,rfl,k1,k2,s23⟩
   have s03:=s02.trans s23
   refine ⟨_,rfl,.inl ⟨rfl,_,SqL.of (s23 _ _ hw2)⟩,_,rfl,_,rfl,ixR s03 hx0 (aR (by decide) rfl) ⟨(by show 2≤sizeLine; decide),fun i1 hi1=>?_⟩⟩
   obtain ⟨H4,e4,k4,s4⟩:∃H',upd H3 i1 (.tup [.ref t1,lv])=H'∧H' i1=some (.tup [.ref t1,lv])∧Same H3 H':=⟨_,rfl,af,Same.new hi1⟩
   rw [show upd H3 i1 _=H4 from e4]
   refine ⟨_,rfl,_,rfl,ixR (s03.trans s4) hx0 (aR (by decide) rfl) ⟨(by show 2≤sizeLine; decide),fun i2 hi2=>?_⟩⟩
   obtain ⟨H5,e5,k5,s5⟩:∃H',upd H4 i2 (.tup [.ref t2,rv])=H'∧H' i2=some (.tup [.ref t2,rv])∧Same H4 H':=⟨_,rfl,af,Same.new hi2⟩
   rw [show upd H4 i2 _=H5 from e5]
   refine ⟨(by show 2≤sizeLine; decide),fun lu hlu=>?_⟩
   obtain ⟨H6,e6,k6,s6⟩:∃H',upd H5 lu (.lst [.ref i1,.ref i2])=H'∧H' lu=some (.lst [.ref i1,.ref i2])∧Same H5 H':=⟨_,rfl,af,Same.new hlu⟩
   rw [show upd H5 lu _=H6 from e6]
   have s36:=s4.trans (s5.trans s6)
   have s26:=s23.trans s36
   have hw6:=s26 _ _ hw2
   refine ⟨wl,lu,_,_,rfl,rfl,hw6,k6,by show _ + 2≤_; omega,?_⟩
   have kt:∀ {c:Addr} {xs:List V},H6 c=some (.tup xs)→(upd H6 wl (.lst (vs' ++ [.ref i1,.ref i2]))) c=some (.tup xs):=fun {c xs} e=>by
    rw [aj (fun z=>by rw [z,hw6] at e; cases e)]; exact e
   have dl9:dT l0 < dT t∧dT r0 < dT t:=by
    rcases dz0.1 with z | z
    ·rw [← z]; exact ⟨q1,q2⟩
    ·exact ⟨Nat.lt_trans q1 z,Nat.lt_trans q2 z⟩
   refine ⟨vs' ++ [.ref i1,.ref i2],us,ts' ++ ([⟨if dn=true then p0 else t0.w,if dn=true then t0.h else p0,l0⟩] ++ [⟨if dn=true then t0.w - p0 - b else t0.w,if dn=true then t0.h else t0.h - p0 - b,r0⟩]),L,_,_,_,_,rfl,?_,af,by rw [aj nrw]; exact s26 _ _ hl2,fj (Paired.mapP pr2 fun v t h=>h.keep fun a xs e=>kt (s26 _ _ e)) (.cons ⟨i1,t1,lv,dl0,rfl,kt (s6 _ _ (s5 _ _ k4)),kt (s36 _ _ k1),gl,tdl⟩ (.cons ⟨i2,t2,rv,dr0,rfl,kt (s6 _ _ k5),kt (s36 _ _ k2),gr,tdr⟩ .nil)),Paired.mapP pu2 fun v t h=>h.keep fun a xs e=>kt (s26 _ _ e),?_,fun z hz=>?_,?_,keep (s02.trans s26)⟩
   ·rw [bA,bA]; show _ + ((szT l0 + 0) + (szT r0 + 0)) < _; omega
   ·rw [cG,cG,bV,bV]
    rw [e0,mO] at pm
    exact pm
   ·rcases List.mem_append.mp hz with hz | hz
    ·exact dz' z hz
    ·rcases List.mem_append.mp hz with hz | hz
     ·rw [List.mem_singleton.mp hz]; exact ⟨.inr dl9.1,by show lvN l0≤63; have:=dz0.2; have:=(cm b r0 0 0).2.2; omega⟩
     ·rw [List.mem_singleton.mp hz]; exact ⟨.inr dl9.2,by show lvN r0≤63; have:=dz0.2; have:=(cm b l0 0 0).2.2; omega⟩
   ·rw [bA,bA]; show _ + ((szT l0 + 0) + (szT r0 + 0))≤_; omega
theorem mU {f:Addr} {fd:FuncData} (F:Fun K "telling_of_part" "telling_of_part" aW f fd):FnOk P w K mg base CX0 3 f fd ["blade","part","tree"] (spTell 0):=by
 refine F.ok sctell (fun vs H Q E h=>?_) (fun cdv A outer s H vs Q E hr h=>?_)
 ·obtain ⟨pp,c,b,w1,h1,v,d,t,rfl,_⟩:=h
  rfl
 ·obtain ⟨pp,c,b,w1,h1,v,d,t,rfl,_,_,_,_,z,_⟩:=h
  exact absurd z (Nat.not_lt_zero _)
theorem gY {f wa:Addr} {fd:FuncData} (F:Fun K "telling_of_part" "telling_of_part" aW f fd) (B:Blt mg) (Z:TrC K mg wa) (DC:Dn P w K mg base "cut_parts" ["blade","part","way","p"] 1 (spParts2)) (DSA:Dn P w K mg base "side_along" ["part","way"] 1 (spSideA)) (mk:∀n,FnOk P w K mg base CX0 (3 + n) f fd ["blade","part","tree"] (spTell n)→Dn P w K mg base "telling_of_part" ["blade","part","tree"] (3 + n) (spTell n)):∀n,n≤60→FnOk P w K mg base CX0 (3 + n) f fd ["blade","part","tree"] (spTell n)
 | 0,_=>mU F
 | n + 1,h=>oK F B Z n (by omega) DC DSA (mk n (gY F B Z DC DSA mk n (by omega)))
theorem sctello:FnScope ["shop","wide","high","tree"] ["shop","wide","high","tree"] (defScope ci):=⟨rfl,rfl,rfl,by decide +kernel,rfl,by decide +kernel,by decide +kernel⟩
theorem mV {f C:Addr} {fd:FuncData} (F:Fun K "telling_of" "telling_of" ci f fd) (T:ShopTxt K C) (MB:Mn P w K mg base C "blade" ["self"] 1 (em C)) (DCt:Dn P w K mg base "check_tree" ["shop","wide","high","thing"] 7 (spCheckT C)) (DT:Dn P w K mg base "telling_of_part" ["blade","part","tree"] 53 (spTell 50)):FnOk P w K mg base CX0 54 f fd ["shop","wide","high","tree"] (spTellO C):=by
 refine F.ok sctello (fun vs H Q E h=>?_) (fun cdv A outer s H vs Q E hr h=>?_)
 ·obtain ⟨pp,s,b,w1,h1,ks,v,d,t,rfl,_⟩:=h
  rfl
 obtain ⟨pp,s,b,w1,h1,ks,v,d,t,rfl,SH,w0,h0,hd,dz,td,okt,l63,dlt,q⟩:=h
 have nd:=sctello.nd
 refine ⟨_,(@ae _ _ _ _ _ (@bp _ _ _ _ (@ao _ _ _ _ _ _ _ _ _ _ DCt (hr.mono (by decide)) rfl (@aa _ _ _ _ _ (pv 0) (@aa _ _ _ _ _ (pv 1) (@aa _ _ _ _ _ (pv 2) (@aa _ _ _ _ _ (pv 3) ab rfl) rfl) rfl) rfl) (by decide) rfl rfl) rfl) (@ag _ _ _ (@au _ _ _ _ (@ao _ _ _ _ _ _ _ _ _ _ DT hr rfl (@aa _ _ _ _ _ (mi (pv 0) T.cl MB (hr.mono (by decide))) (@aa _ _ _ _ _ (@ax _ _ _ _ _ (@aa _ _ _ _ _ (pv 1) (@aa _ _ _ _ _ (pv 2) ab rfl) rfl)) (@aa _ _ _ _ _ (pv 3) ab rfl) rfl) rfl) (by decide) rfl rfl)))),?_⟩
 obtain ⟨dx,r,rs,S1,S2,S3⟩:=id SH
 refine ⟨_,rfl,_,rfl,_,rfl,_,rfl,pp,s,b,w1,h1,ks,v,d,rfl,SH,w0,h0,hd,dz,TrD.good t d w1 h1 td okt,fun H1 s1=>?_⟩
 have SH1:=gW s1 SH
 obtain ⟨dx',r',rs',S1',S2',S3'⟩:=id SH1
 refine ⟨_,rfl,s,dx',_,rfl,S1',(de _ _ (by decide +kernel) (by decide +kernel)),s,b,ks,rfl,SH1,_,rfl,_,rfl,(by show 2≤sizeLine; decide),fun c hc=>?_⟩
 obtain ⟨H2,e2,k2,s2⟩:∃H',upd H1 c (.tup [.int w1,.int h1])=H'∧H' c=some (.tup [.int w1,.int h1])∧Same H1 H':=⟨_,rfl,af,Same.new hc⟩
 rw [show upd H1 c _=H2 from e2]
 exact ⟨_,rfl,pp,c,b,w1,h1,v,d,t,rfl,k2,hd.same (s1.trans s2),td,l63,dlt,fun u H3 tv s3=>q u H3 tv (s1.trans (s2.trans s3))⟩
end
theorem TrV.dat {K:PySem.W.Frag} {H:Hp}:∀ (t:Tr) {v:V},TrV H t v→DatV K H v (toD t)
 | .rest,_,⟨a,e,h⟩=>by subst e; exact .tup (SqT.of h) (.cons (.str _) .nil)
 | .piece ..,_,⟨a,e,h⟩=>by subst e; exact .tup (SqT.of h) (.cons (.str _) (.cons (.int _) (.cons (.bl _) (.cons (.int _) (.cons (.int _) .nil)))))
 | .cut _ _ l r,_,⟨a,x,y,e,h,h1,h2⟩=>by subst e; exact .tup (SqT.of h) (.cons (.str _) (.cons (.int _) (.cons (TrV.dat l h1) (.cons (TrV.dat r h2) .nil))))
theorem gw:∀t:Tr,(toD t).canLay0=true∧(toD t).depth=dT t + 1
 | .rest=>⟨by decide +kernel,rfl⟩
 | .piece .. => ⟨by simp [toD,PyData.canLay0,PyData.canLayAll0]; decide +kernel,rfl⟩
 | .cut dn p l r=>by
  obtain ⟨l1,l2⟩:=gw l
  obtain ⟨r1,r2⟩:=gw r
  refine ⟨?_,?_⟩
  ·simp [toD,PyData.canLay0,PyData.canLayAll0,l1,r1]
   cases dn <;> decide +kernel
  ·simp only [toD,PyData.depth,PyData.depthAll,l2,r2,dT]
   omega
theorem TrV.head {H:Hp}:∀ (t:Tr) {v:V},TrV H t v→∃a xs,v=.ref a∧H a=some (.tup (.str (hdW t) :: xs))
 | .rest,_,⟨a,e,h⟩=>⟨a,_,e,h⟩
 | .piece ..,_,⟨a,e,h⟩=>⟨a,_,e,h⟩
 | .cut ..,_,⟨a,x,y,e,h,_⟩=>⟨a,_,e,h⟩
def WtV (H:Hp) (v:V) (z:Wa):Prop:=∃a u,v=.ref a∧H a=some (.tup [.int z.w,.int z.h,u])∧TrV H z.t u
theorem WtV.keep {H H':Hp} (k:∀a xs,H a=some (.tup xs)→H' a=some (.tup xs)) {v:V} {z:Wa} (h:WtV H v z):WtV H' v z:=by
 obtain ⟨a,u,e,h1,h2⟩:=h
 exact ⟨a,u,e,k _ _ h1,TrV.keep k _ h2⟩
theorem mW {K:PySem.W.Frag} {H:Hp}:∀ {vs:List V} {ts:List Wa},Paired (WtV H) vs ts→(∀z∈ts,dT z.t≤55)→∃ds,DatVs K H vs ds∧ds.length=vs.length∧PyData.canLayAll0 ds=true∧PyData.depthAll ds≤60
 | _,_,.nil,_=>⟨[],.nil,rfl,rfl,Nat.zero_le _⟩
 | _,_,.cons (b:=z) ⟨a,u,e,h,tv⟩ r,hz=>by
  subst e
  obtain ⟨ds,d1,d2,d3,d4⟩:=mW (K:=K) r fun y hy=>hz y (List.mem_cons_of_mem _ hy)
  obtain ⟨l1,l2⟩:=gw z.t
  have:=hz z List.mem_cons_self
  refine ⟨_ :: ds,.cons (.tup (SqT.of h) (.cons (.int _) (.cons (.int _) (.cons (TrV.dat _ tv) .nil)))) d1,by rw [List.length_cons,List.length_cons,d2],?_,?_⟩
  ·simp only [PyData.canLayAll0,PyData.canLay0,l1,d3,Bool.and_true]
  ·simp only [PyData.depthAll,PyData.depth,l2]; omega
theorem qk {ds:List PyData} (d3:PyData.canLayAll0 ds=true) (d4:PyData.depthAll ds≤60):SeqAt.shaped (.list ds)=true:=by
 unfold SeqAt.shaped
 rw [show (PyData.list ds).canLay0=true by simpa [PyData.canLay0] using d3,decide_eq_true (show (PyData.list ds).depth≤64 by show PyData.depthAll ds + 1≤64; omega)]
 rfl
section
variable {P:Program} {w:World} {K:PySem.W.Frag} {mg:Str→Option Value} {base:Heap}
inductive spToldL (n:Nat) (vs:List V) (H:Hp) (Q:VK) (E_:XK):Prop
 | mk (t kl:Addr) (b W h:Int) (ks:List Kd) (v:V) (T:Tr) (e_1:vs=[.ref t,.int W,.int h,v]) (e_2:LS H t b ks kl) (e_3:TrV H T v) (e_4:lvN T≤63) (e_5:dT T < n) (e_6:∀ (u:V) (H':Hp),TlV H' (bE b T W h) u→Same H H'→Q u H'):spToldL n vs H Q E_
theorem sctold:FnScope ["_law_shop_here","_law_wide","_law_high","_law_tree_here","_law_way","_law_things","_law_waiting","_law_own_wide","_law_own_high","_law_part","_law_one","_law_other","_law_size"] ["_law_shop_here","_law_wide","_law_high","_law_tree_here"] (defScope fK):=⟨rfl,rfl,rfl,by decide +kernel,rfl,by decide +kernel,by decide +kernel⟩
set_option maxHeartbeats 1000000 in
theorem oM {f:Addr} {fd:FuncData} (F:Fun K "_law_told" "_law_told" fK f fd) (B:Blt mg) (n:Nat) (n55:n≤55) (DBh:Dn P w K mg base "_law_behind" ["_law_shop_here","_law_wide","_law_high","_law_way","_law_p"] 1 (spBeh)) (DT:Dn P w K mg base "_law_told" ["_law_shop_here","_law_wide","_law_high","_law_tree_here"] (3 + n) (spToldL n)):FnOk P w K mg base CX0 (3 + (n + 1)) f fd ["_law_shop_here","_law_wide","_law_high","_law_tree_here"] (spToldL (n + 1)):=by
 refine F.ok sctold (fun vs H Q E h=>?_) (fun cdv A outer s H vs Q E hr h=>?_)
 ·obtain ⟨t,kl,b,W,h1,ks,v,T,rfl,_⟩:=h
  rfl
 obtain ⟨t,kl,b,W,h1,ks,v,T,rfl,sh,tv,l63,dn0,q⟩:=h
 have nd:=sctold.nd
 have hu:=Room.units220 hr (show 2≤3 + n by omega)
 have hu6:=hr.units
 refine ⟨_,(@ae _ _ _ _ _ (@aK _ _ _ _ _ _ _ _ (@aD _ _ _ _ _ _ _ _ jX (@ar _ _ _ _ _ _ _ ix_tup (pv 3) ad (fun _ _=>rfl)) (@ax _ _ _ _ _ (@aa _ _ _ _ _ bo (@aa _ _ _ _ _ bo ab rfl) rfl)) rfl) (@ag _ _ _ (@au _ _ _ _ (pv 3))) aE) (@ae _ _ _ _ _ (@ay _ _ 4 _ _ _ _ nd rfl (Or.inl rfl) (@ar _ _ _ _ _ _ _ ix_tup (pv 3) ad (fun _ _=>rfl)) rfl (Or.inl rfl)) (@ae _ _ _ _ _ (@ay _ _ 5 _ _ _ _ nd rfl (Or.inl rfl) (@aH _ _ _ _ ab) rfl (Or.inl rfl)) (@ae _ _ _ _ _ (@ay _ _ 6 _ _ _ _ nd rfl (Or.inl rfl) (@aH _ _ _ _ (@aa _ _ _ _ _ (@ax _ _ _ _ _ (@aa _ _ _ _ _ (pv 1) (@aa _ _ _ _ _ (pv 2) (@aa _ _ _ _ _ (pv 3) ab rfl) rfl) rfl)) ab rfl)) rfl (Or.inl rfl)) (@ae _ _ _ _ _ (eM PassesOwn.never (@aD _ _ _ _ _ _ _ _ (pX hu6) (pv 6) (@aH _ _ _ _ ab) (aB _)) (@ae _ _ _ _ _ (@aZ _ _ _ _ _ _ (gc PySem.F.plainAttrs_list PySem.F.slot_list_pop PySem.F.type_list_pop ir (pv 6)) (aY rfl (ai (am (i:=7) nd rfl (Or.inl rfl)) (ai (am (i:=8) nd rfl (Or.inl rfl)) (ai (am (i:=9) nd rfl (Or.inl rfl)) aN)))) rfl rfl rfl) (@ag _ _ _ (@aK _ _ _ _ _ _ _ _ (@aD _ _ _ _ _ _ _ _ bg (@ar _ _ _ _ _ _ _ ix_tup (pv 9) ad (fun _ _=>rfl)) (pv 4) (aB _)) (@ae _ _ _ _ _ (@aZ _ _ _ _ _ _ (@ao _ _ _ _ _ _ _ _ _ _ DBh (hr.mono (show 1≤3 + n by omega)) rfl (@aa _ _ _ _ _ (pv 0) (@aa _ _ _ _ _ (pv 7) (@aa _ _ _ _ _ (pv 8) (@aa _ _ _ _ _ (pv 4) (@aa _ _ _ _ _ (@ar _ _ _ _ _ _ _ ix_tup (pv 9) ad (fun _ _=>rfl)) ab rfl) rfl) rfl) rfl) rfl) (by decide) rfl rfl) (aY rfl (ai (am (i:=10) nd rfl (Or.inl rfl)) (ai (am (i:=11) nd rfl (Or.inl rfl)) aN))) rfl rfl rfl) (@ag _ _ _ (@ay _ _ 6 _ _ _ _ nd rfl (Or.inl rfl) (@aw _ _ _ _ _ _ _ _ pU (pv 6) (@aH _ _ _ _ (@aa _ _ _ _ _ (@aw _ _ _ _ _ _ _ _ ji (pv 10) (@ax _ _ _ _ _ (@aa _ _ _ _ _ (@ar _ _ _ _ _ _ _ ix_tup (pv 9) ad (fun _ _=>rfl)) ab rfl))) (@aa _ _ _ _ _ (@aw _ _ _ _ _ _ _ _ ji (pv 11) (@ax _ _ _ _ _ (@aa _ _ _ _ _ (@ar _ _ _ _ _ _ _ ix_tup (pv 9) ad (fun _ _=>rfl)) ab rfl))) ab rfl) rfl))) rfl (Or.inl rfl)))) (@ae _ _ _ _ _ (@ay _ _ 12 _ _ _ _ nd rfl (Or.inl rfl) (@ar _ _ _ _ _ _ _ ix_list (@aH _ _ _ _ (@aa _ _ _ _ _ (pv 7) (@aa _ _ _ _ _ (pv 8) ab rfl) rfl)) (@aV _ _ _ _ _ _ _ _ _ bI rfl B.int PyProof.Rows.boot_int (@aa _ _ _ _ _ (@bi _ _ _ _ _ _ _ _ bg (pv 4) bo (aB _)) ab rfl) (by decide) (by decide) rfl rfl) (fun _ _=>rfl)) rfl (Or.inl rfl)) (@ag _ _ _ (@bp _ _ _ _ (@dZ _ _ _ _ _ _ _ _ _ _ _ _ PySem.F.plainAttrs_list PySem.F.slot_list_append PySem.F.type_list_append bJ (pv 5) (@aa _ _ _ _ _ (@ax _ _ _ _ _ (@aa _ _ _ _ _ (pv 12) (@aa _ _ _ _ _ (@ao _ _ _ _ _ _ _ _ _ _ DT (hr.mono (show 3 + n≤3 + n by omega)) rfl (@aa _ _ _ _ _ (pv 0) (@aa _ _ _ _ _ (pv 7) (@aa _ _ _ _ _ (pv 8) (@aa _ _ _ _ _ (pv 9) ab rfl) rfl) rfl) rfl) (by decide) rfl rfl) ab rfl) rfl)) ab rfl) rfl rfl rfl rfl rfl) rfl))))))) (@ag _ _ _ (@au _ _ _ _ (@ax _ _ _ _ _ (@aa _ _ _ _ _ (pv 4) (@aa _ _ _ _ _ (@aV _ _ _ _ _ _ _ _ _ bh rfl B.tuple PyProof.Rows.boot_tuple (@aa _ _ _ _ _ (@aA _ _ _ _ _ _ _ _ _ (df hu) rfl B.sorted PyProof.Rows.boot_sorted (@aa _ _ _ _ _ (pv 5) ab rfl) (by decide) (by decide) rfl rfl) ab rfl) (by decide) (by decide) rfl rfl) ab rfl) rfl))))))))),?_⟩
 have sz:(40000:Nat)≤sizeLine:=by decide
 obtain ⟨a,xs,ev,hx⟩:=TrV.head T tv
 subst ev
 refine ⟨_,rfl,a,_,0,_,rfl,rfl,SqT.of hx,aR (Int.le_refl _) rfl,(by show 2≤sizeLine; decide),fun q0 hq0=>?_⟩
 obtain ⟨H0, e0, k0, s0⟩:∃H', upd H q0 (.tup [.str "rest", .str "piece"])=H'∧H' q0=some (.tup [.str "rest", .str "piece"])∧Same H H':=⟨_, rfl, af, Same.new hq0⟩
 rw [show upd H q0 _=H0 from e0]
 refine ⟨q0,_,rfl,.inr (SqT.of k0),rfl,rfl,_,rfl,?_⟩
 show (if (inV (V.str (hdW T)) [V.str "rest",V.str "piece"])=true then _ else _)
 cases T with
 | rest =>
  rw [show inV (V.str (hdW (.rest))) [V.str "rest",V.str "piece"]=true by show inV (V.str "rest") [V.str "rest",V.str "piece"]=true; decide +kernel]
  refine aI ⟨_,rfl,q _ _ ?_ s0⟩
  obtain ⟨a',e',h'⟩:=id tv
  show TlV _ (.rest) _
  rw [TlV]
  exact ⟨a',e',s0 _ _ h'⟩
 | piece i cc x y =>
  rw [show inV (V.str (hdW (.piece i cc x y))) [V.str "rest",V.str "piece"]=true by show inV (V.str "piece") [V.str "rest",V.str "piece"]=true; decide +kernel]
  refine aI ⟨_,rfl,q _ _ ?_ s0⟩
  obtain ⟨a',e',h'⟩:=id tv
  show TlV _ (.piece i cc x y) _
  rw [TlV]
  exact ⟨a',e',s0 _ _ h'⟩
 | cut dn pl tl tr =>
  obtain ⟨T,et⟩:∃t,t=Tr.cut dn pl tl tr:=⟨_,rfl⟩
  rw [← et] at tv l63 dn0 q
  rw [← et] at hx
  have szt:=di T
  have dl:=dS T
  rw [show inV (V.str (hdW (.cut dn pl tl tr))) [V.str "rest",V.str "piece"]=false by show inV (V.str (wyL dn)) [V.str "rest",V.str "piece"]=false; cases dn <;> decide +kernel]
  refine aM ⟨_,rfl,a,_,0,_,rfl,rfl,SqT.of (s0 _ _ hx),aR (Int.le_refl _) rfl,?_⟩
  rw [show hdW T=wyL dn by rw [et]; rfl]
  refine ⟨by decide,fun rl hrl=>?_⟩
  obtain ⟨Hr,er,kr,sr⟩:∃H',upd H0 rl (.lst [])=H'∧H' rl=some (.lst [])∧Same H0 H':=⟨_,rfl,af,Same.new hrl⟩
  rw [show upd H0 rl _=Hr from er]
  refine ⟨_,rfl,_,rfl,_,rfl,(by show 3≤sizeLine; decide),fun t' ht=>?_⟩
  obtain ⟨Ha,ea,ka,sa⟩:∃H',upd Hr t' (.tup [.int W,.int h1,.ref a])=H'∧H' t'=some (.tup [.int W,.int h1,.ref a])∧Same Hr H':=⟨_,rfl,af,Same.new ht⟩
  rw [show upd Hr t' _=Ha from ea]
  refine ⟨(by show 1≤sizeLine; decide),fun wl hwl=>?_⟩
  obtain ⟨Hb,eb,kb,sb⟩:∃H',upd Ha wl (.lst [.ref t'])=H'∧H' wl=some (.lst [.ref t'])∧Same Ha H':=⟨_,rfl,af,Same.new hwl⟩
  rw [show upd Ha wl _=Hb from eb]
  have fr:H rl=none:=s0.free hrl
  have fw:H wl=none:=(s0.trans (sr.trans sa)).free hwl
  have nrw:rl≠wl:=fun z=>by rw [← z,sa _ _ kr] at hwl; cases hwl
  have sab:=s0.trans (sr.trans (sa.trans sb))
  obtain ⟨v,ev⟩:∃v,v=V.ref a:=⟨_,rfl⟩
  rw [← ev] at tv ka ⊢
  clear ev hx e0 ea eb er
  refine ⟨fun m σ H'=>∃ (wl:Addr) (vs us:List V) (ts:List Wa) (L:List (Int×Tl)) (v7 v8 v9 va vb vc:Option V),σ=[some (.ref t),some (.int W),some (.int h1),some v,some (.str (wyL dn)),some (.ref rl),some (.ref wl),v7,v8,v9,va,vb,vc]∧H wl=none∧rl≠wl∧m=wsz ts∧H' wl=some (.lst vs)∧H' rl=some (.lst us)∧Paired (WtV H') vs ts∧Paired (ItV H') us L∧(L ++ wrw b dn ts).Perm (cJ b dn T W h1)∧(∀z∈ts,(z.t=T∨dT z.t < dT T)∧lvN z.t≤63)∧wsz ts≤10000∧Same H H',⟨_,wl,[.ref t'],[],[⟨W,h1,T⟩],[],none,none,none,none,none,none,rfl,fw,nrw,rfl,kb,sb _ _ (sa _ _ kr),.cons ⟨t',v,rfl,sb _ _ ka,TrV.keep (fun a xs e=>sab _ _ e) T tv⟩ .nil,.nil,?_,?_,(by show szT T + 0≤10000; omega),sab⟩,?_⟩
  ·rw [bV]
   exact .refl _
  ·intro z hz
   rw [List.mem_singleton.mp hz]
   exact ⟨.inl rfl,l63⟩
  clear kb nrw fw hwl sb sab
  clear Hb
  rintro m σ H1 ⟨wl,vs,us,ts,L,v7,v8,v9,va,vb,vc,rfl,fw,nrw,rfl,hw,hl,pr,pu,pm,dz,sz1,s1⟩
  refine ⟨_,rfl,by decide,fun eo heo=>?_⟩
  obtain ⟨Hn,en,kn,sn⟩:∃H',upd H1 eo (.lst [])=H'∧H' eo=some (.lst [])∧Same H1 H':=⟨_,rfl,af,Same.new heo⟩
  rw [show upd H1 eo _=Hn from en]
  have hwn:=sn _ _ hw
  have hln:=sn _ _ hl
  have prn:Paired (WtV Hn) vs ts:=Paired.mapP pr fun v t h=>h.keep fun a xs e=>sn _ _ e
  have pun:Paired (ItV Hn) us L:=Paired.mapP pu fun v t h=>h.keep fun a xs e=>sn _ _ e
  have s1n:=s1.trans sn
  obtain ⟨ds,d1,d2,d3,d4⟩:=mW (K:=K) prn fun z hz=>by
   have:=(dz z hz).1
   rcases this with e | e
   ·rw [e]; omega
   ·omega
  refine ⟨_,_,.lst (SqL.of hwn) d1,.lst (SqL.of kn) .nil,qk d3 d4,by decide +kernel,_,rfl,?_⟩
  clear hw hl pr pu s1 heo en
  rcases List.eq_nil_or_concat vs with rfl | ⟨vs',v0,rfl⟩
  ·have ets:ts=[]:=by
    have:=Paired.length prn
    cases ts with
    | nil=>rfl
    | cons _ _=>simp at this
   subst ets
   have:ds=[]:=List.length_eq_zero_iff.mp d2
   subst this
   rw [show wrw b dn []=[] from rfl,List.append_nil] at pm
   obtain ⟨ps,rfl,rfl,ips⟩:=iK pun
   have ll:=dh b dn T W h1
   have pl':=pm.length_eq
   rw [List.length_map] at pl'
   refine jH rfl ⟨_,rfl,_,rfl,rl,ps,rfl,SqL.of hln,by omega,fun z hz=>⟨(ips z hz).dat,?_⟩,fun l ps' hl' pm' pw=>?_⟩
   ·have:=fg (pm.mem_iff.mp (List.mem_map.mpr ⟨z,hz,rfl⟩))
    omega
   obtain ⟨H2,e2,k2,s2⟩:∃H',upd Hn l (.lst (ps'.map fun z=>V.ref z.1))=H'∧H' l=some (.lst (ps'.map fun z=>V.ref z.1))∧Same Hn H':=⟨_,rfl,af,Same.new hl'⟩
   rw [show upd Hn l _=H2 from e2]
   refine ⟨l,_,rfl,.inl ⟨SqL.of k2,fun tq htq=>?_⟩⟩
   obtain ⟨H3,e3,k3,s3⟩:∃H',upd H2 tq (.tup (ps'.map fun z=>V.ref z.1))=H'∧H' tq=some (.tup (ps'.map fun z=>V.ref z.1))∧Same H2 H':=⟨_,rfl,af,Same.new htq⟩
   rw [show upd H2 tq _=H3 from e3]
   refine ⟨(by show 2≤sizeLine; decide),fun fr hfr=>?_⟩
   obtain ⟨H4,e4,k4,s4⟩:∃H',upd H3 fr (.tup [.str (wyL dn),.ref tq])=H'∧H' fr=some (.tup [.str (wyL dn),.ref tq])∧Same H3 H':=⟨_,rfl,af,Same.new hfr⟩
   rw [show upd H3 fr _=H4 from e4]
   have s14:=s2.trans (s3.trans s4)
   refine q _ H4 ?_ (s1n.trans s14)
   rw [et,mQ,← et,TlV]
   refine ⟨fr,tq,_,rfl,k4,s4 _ _ k3,?_⟩
   have ee:ps'.map (·.2)=srt (cJ b dn T W h1):=mN ((pm'.map _).trans pm) pw
   rw [← ee]
   exact gu (iL fun z hz=>(ips z (pm'.mem_iff.mp hz)).keep fun a xs e=>s14 _ _ e)
  rw [List.concat_eq_append] at prn hwn d2
  obtain ⟨ts',t0,rfl,prp,⟨sp,u,rfl,hsp,tu⟩⟩:=jD prn
  have dne:PyData.eqv (.list ds) (.list [])=false:=by
   cases ds with
   | nil=>simp at d2
   | cons d ds=>rfl
  rw [dne]
  have ssz:wsz (ts' ++ [t0])=wsz ts' + szT t0.t:=by rw [bA]; show _ + (szT t0.t + 0)=_; omega
  rw [ssz] at sz1 ⊢
  refine jG rfl ⟨fun σ' H'=>∃ (wl:Addr) (vs us:List V) (ts:List Wa) (L:List (Int×Tl)) (v7 v8 v9 va vb vc:Option V),σ'=[some (.ref t),some (.int W),some (.int h1),some v,some (.str (wyL dn)),some (.ref rl),some (.ref wl),v7,v8,v9,va,vb,vc]∧H wl=none∧rl≠wl∧wsz ts < wsz ts' + szT t0.t∧H' wl=some (.lst vs)∧H' rl=some (.lst us)∧Paired (WtV H') vs ts∧Paired (ItV H') us L∧(L ++ wrw b dn ts).Perm (cJ b dn T W h1)∧(∀z∈ts,(z.t=T∨dT z.t < dT T)∧lvN z.t≤63)∧wsz ts≤10000∧Same H H',fun σ' H' ⟨wl,vs,us,ts,L,v7,v8,v9,va,vb,vc,e,e1,e2,l,r⟩=>⟨_,l,wl,vs,us,ts,L,v7,v8,v9,va,vb,vc,e,e1,e2,rfl,r⟩,?_⟩
  rw [cG,bV] at pm
  have ml:(vs' ++ [V.ref sp]).length=vs'.length + 1:=by rw [List.length_append]; rfl
  have keepL:∀ {Hx:Hp} {o:HO},Same H Hx→Same H (upd Hx rl o):=fun {Hx o} sx c oo e=>by
   rw [aj (fun z=>by rw [z,fr] at e; cases e)]
   exact sx _ _ e
  refine av (fun σ' H'=>σ'=[some (.ref t),some (.int W),some (.int h1),some v,some (.str (wyL dn)),some (.ref rl),some (.ref wl),some (.int t0.w),some (.int t0.h),some u,va,vb,vc]∧H' wl=some (.lst vs')∧H' rl=some (.lst us)∧Paired (WtV H') vs' ts'∧Paired (ItV H') us L∧TrV H' t0.t u∧Same H H') (fun R hR=>?_) ?_
  ·refine ⟨_,rfl,.inl ⟨rfl,_,SqL.of hwn⟩,wl,_,.ref sp,rfl,rfl,hwn,(by rw [ml]; simp),?_⟩
   rw [List.dropLast_concat]
   have kt:∀ {c:Addr} {xs:List V},Hn c=some (.tup xs)→(upd Hn wl (.lst vs')) c=some (.tup xs):=fun {c xs} e=>by
    rw [aj (fun z=>by rw [z,hwn] at e; cases e)]; exact e
   refine ⟨sp,_,rfl,SqT.of (kt hsp),rfl,_,_,rfl,_,_,rfl,_,_,rfl,rfl,?_⟩
   refine hR _ _ ⟨rfl,af,by rw [aj nrw]; exact hln,Paired.mapP prp fun v t h=>h.keep fun a xs e=>kt e,Paired.mapP pun fun v t h=>h.keep fun a xs e=>kt e,TrV.keep (fun a xs e=>kt e) _ tu,fun c o e=>?_⟩
   rw [aj (fun z=>by rw [z,fw] at e; cases e)]
   exact s1n _ _ e
  clear hwn hln prn prp pun hsp tu d1 d2 d3 d4 dne kn sn s1n
  clear Hn
  rintro _ H2 ⟨rfl,hw2,hl2,pr2,pu2,tu2,s02⟩
  obtain ⟨a0,xs0,eu,hx0⟩:=TrV.head _ tu2
  subst eu
  have sl:=gv ts'
  have pl2:=Paired.length pr2
  have ls2:=sh.same s02
  refine ⟨_,rfl,a0,_,0,_,rfl,rfl,SqT.of hx0,aR (Int.le_refl _) rfl,_,rfl,rfl,_,rfl,?_⟩
  show (if (decide (V.str (hdW t0.t)=V.str (wyL dn)))=true then _ else _)
  rw [mR]
  have dz0:=dz t0 (List.mem_append.mpr (.inr (List.mem_singleton.mpr rfl)))
  have dz':∀z∈ts',(z.t=T∨dT z.t < dT T)∧lvN z.t≤63:=fun z hz=>dz z (List.mem_append.mpr (.inl hz))
  cases hw0:isW dn t0.t with
  | false =>
   have nt:t0.t≠T:=fun z=>by
    rw [z,et] at hw0
    simp [isW] at hw0
   have dlt:=dz0.1.resolve_left nt
   have sp0:=mI t0.t
   have pul:=Paired.length pu2
   rw [mP hw0] at pm
   have lml:=dh b dn T W h1
   have pml:=pm.length_eq
   rw [List.length_append,List.length_append,List.length_singleton] at pml
   refine aM ?_
   refine av (fun σ' H'=>σ'=[some (.ref t),some (.int W),some (.int h1),some v,some (.str (wyL dn)),some (.ref rl),some (.ref wl),some (.int t0.w),some (.int t0.h),some (.ref a0),va,vb,some (.int (if dn=true then t0.w else t0.h))]∧Same H2 H') (fun R hR=>?_) ?_
   ·refine ⟨_,rfl,_,rfl,(by show 2≤sizeLine; decide),fun ol hol=>?_⟩
    obtain ⟨H3,e3,k3,s3⟩:∃H',upd H2 ol (.lst [.int t0.w,.int t0.h])=H'∧H' ol=some (.lst [.int t0.w,.int t0.h])∧Same H2 H':=⟨_,rfl,af,Same.new hol⟩
    rw [show upd H2 ol _=H3 from e3]
    refine ⟨_,rfl,rfl,.inr ⟨_,rfl,ol,_,_,.int (if dn=true then t0.w else t0.h),rfl,rfl,SqL.of k3,?_,hR _ _ ⟨rfl,s3⟩⟩⟩
    cases dn with
    | true =>
     rw [show decide (V.str (wyL true)=V.str "across")=false by decide +kernel]
     rfl
    | false =>
     rw [show decide (V.str (wyL false)=V.str "across")=true by decide +kernel]
     rfl
   rintro _ H3 ⟨rfl,s23⟩
   have hl3:=s23 _ _ hl2
   refine ⟨_,rfl,.inl ⟨rfl,_,SqL.of hl3⟩,_,rfl,_,rfl,_,rfl,_,rfl,_,rfl,t,kl,b,t0.w,t0.h,ks,.ref a0,t0.t,rfl,ls2.same s23,TrV.keep (fun a xs e=>s23 _ _ e) _ tu2,dz0.2,by omega,fun uu H4 tv4 s4=>⟨(by show 2≤sizeLine; decide),fun it hit=>?_⟩⟩
   obtain ⟨H5,e5,k5,s5⟩:∃H',upd H4 it (.tup [.int (if dn=true then t0.w else t0.h),uu])=H'∧H' it=some (.tup [.int (if dn=true then t0.w else t0.h),uu])∧Same H4 H':=⟨_,rfl,af,Same.new hit⟩
   rw [show upd H4 it _=H5 from e5]
   have s25:=s23.trans (s4.trans s5)
   have hl5:=s25 _ _ hl2
   refine ⟨rl,us,_,rfl,rfl,hl5,by omega,?_⟩
   have kt:∀ {c:Addr} {xs:List V},H5 c=some (.tup xs)→(upd H5 rl (.lst (us ++ [.ref it]))) c=some (.tup xs):=fun {c xs} e=>by
    rw [aj (fun z=>by rw [z,hl5] at e; cases e)]; exact e
   refine ⟨wl,vs',us ++ [.ref it],ts',L ++ [(if dn=true then t0.w else t0.h,bE b t0.t t0.w t0.h)],_,_,_,_,_,_,rfl,fw,nrw,by omega,by rw [aj (Ne.symm nrw)]; exact s25 _ _ hw2,af,Paired.mapP pr2 fun v t h=>h.keep fun a xs e=>kt (s25 _ _ e),fj (Paired.mapP pu2 fun v t h=>h.keep fun a xs e=>kt (s25 _ _ e)) (.cons ⟨it,uu,rfl,kt k5,TlV.keep (fun a xs e=>kt (s5 _ _ e)) _ tv4⟩ .nil),?_,dz',by omega,keepL (s02.trans s25)⟩
   refine List.Perm.trans ?_ pm
   rw [List.append_assoc]
   exact (List.Perm.append_left _ List.perm_append_comm)
  | true =>
   obtain ⟨p0,l0,r0,e0⟩:∃p0 l0 r0,t0.t=.cut dn p0 l0 r0:=by
    cases z:t0.t with
    | rest=>rw [z] at hw0; cases hw0
    | piece=>rw [z] at hw0; cases hw0
    | cut d p0 l0 r0 =>
     rw [z] at hw0
     have:d=dn:=by simpa [isW] using hw0
     rw [this]
     exact ⟨_,_,_,rfl⟩
   rw [e0] at tu2 dz0
   obtain ⟨q1,q2,q3,q4⟩:=mS dn p0 l0 r0
   have szt0:szT t0.t=szT l0 + szT r0 + 1:=by rw [e0]; exact q3
   obtain ⟨a1,lv,rv,e1,hx1,tvl,tvr⟩:=id tu2
   cases e1
   have hx1:H2 a0=some (.tup [.str (wyL dn),.int p0,lv,rv]):=hx1
   refine aI ?_
   refine av (fun σ' H'=>∃t1 t2,σ'=[some (.ref t),some (.int W),some (.int h1),some v,some (.str (wyL dn)),some (.ref rl),some (.ref wl),some (.int t0.w),some (.int t0.h),some (.ref a0),some (.ref t1),some (.ref t2),vc]∧H' t1=some (.tup [.int (if dn=true then p0 else t0.w),.int (if dn=true then t0.h else p0)])∧H' t2=some (.tup [.int (if dn=true then t0.w - p0 - b else t0.w),.int (if dn=true then t0.h else t0.h - p0 - b)])∧Same H2 H') (fun R hR=>?_) ?_
   ·exact ⟨_,rfl,_,rfl,_,rfl,_,rfl,_,rfl,a0,_,1,_,rfl,rfl,SqT.of hx1,rfl,t,kl,b,t0.w,t0.h,p0,ks,dn,rfl,ls2,fun u t1 t2 H3 ku k1 k2 s3=>⟨u,_,rfl,SqT.of ku,rfl,_,_,rfl,_,_,rfl,rfl,hR _ _ ⟨t1,t2,rfl,k1,k2,s3⟩⟩⟩
   rintro _ H3 ⟨t1,t2,rfl,k1,k2,s23⟩
   have s03:=s02.trans s23
   refine ⟨_,rfl,_,rfl,_,rfl,a0,_,2,_,rfl,rfl,SqT.of (s23 _ _ hx1),rfl,(by show 1≤sizeLine; decide),fun i0 hi0=>?_⟩
   obtain ⟨H4,e4,k4,s4⟩:∃H',upd H3 i0 (.tup [lv])=H'∧H' i0=some (.tup [lv])∧Same H3 H':=⟨_,rfl,af,Same.new hi0⟩
   rw [show upd H3 i0 _=H4 from e4]
   refine ⟨t1,i0,_,_,rfl,rfl,SqT.of (s4 _ _ k1),SqT.of k4,by simp,(by show 3≤sizeLine; decide),fun z=>absurd z (by simp),fun _ i1 hi1=>?_⟩
   obtain ⟨H5,e5,k5,s5⟩:∃H',upd H4 i1 (.tup ([.int (if dn=true then p0 else t0.w),.int (if dn=true then t0.h else p0)] ++ [lv]))=H'∧H' i1=some (.tup ([.int (if dn=true then p0 else t0.w),.int (if dn=true then t0.h else p0)] ++ [lv]))∧Same H4 H':=⟨_,rfl,af,Same.new hi1⟩
   rw [show upd H4 i1 _=H5 from e5]
   have s35:=s4.trans s5
   refine ⟨_,rfl,_,rfl,a0,_,3,_,rfl,rfl,SqT.of (s35 _ _ (s23 _ _ hx1)),rfl,(by show 1≤sizeLine; decide),fun j0 hj0=>?_⟩
   obtain ⟨H6,e6,k6,s6⟩:∃H',upd H5 j0 (.tup [rv])=H'∧H' j0=some (.tup [rv])∧Same H5 H':=⟨_,rfl,af,Same.new hj0⟩
   rw [show upd H5 j0 _=H6 from e6]
   refine ⟨t2,j0,_,_,rfl,rfl,SqT.of (s6 _ _ (s35 _ _ k2)),SqT.of k6,by simp,(by show 3≤sizeLine; decide),fun z=>absurd z (by simp),fun _ i2 hi2=>?_⟩
   obtain ⟨H7,e7,k7,s7⟩:∃H',upd H6 i2 (.tup ([.int (if dn=true then t0.w - p0 - b else t0.w),.int (if dn=true then t0.h else t0.h - p0 - b)] ++ [rv]))=H'∧H' i2=some (.tup ([.int (if dn=true then t0.w - p0 - b else t0.w),.int (if dn=true then t0.h else t0.h - p0 - b)] ++ [rv]))∧Same H6 H':=⟨_,rfl,af,Same.new hi2⟩
   rw [show upd H6 i2 _=H7 from e7]
   refine ⟨(by show 2≤sizeLine; decide),fun lu hlu=>?_⟩
   obtain ⟨H8,e8,k8,s8⟩:∃H',upd H7 lu (.lst [.ref i1,.ref i2])=H'∧H' lu=some (.lst [.ref i1,.ref i2])∧Same H7 H':=⟨_,rfl,af,Same.new hlu⟩
   rw [show upd H7 lu _=H8 from e8]
   have s38:=s35.trans (s6.trans (s7.trans s8))
   have s28:=s23.trans s38
   have hw8:=s28 _ _ hw2
   refine ⟨wl,lu,_,_,rfl,rfl,hw8,k8,by show _ + 2≤_; omega,fun nw hnw=>?_⟩
   obtain ⟨H9,e9,k9,s9⟩:∃H',upd H8 nw (.lst (vs' ++ [.ref i1,.ref i2]))=H'∧H' nw=some (.lst (vs' ++ [.ref i1,.ref i2]))∧Same H8 H':=⟨_,rfl,af,Same.new hnw⟩
   rw [show upd H8 nw _=H9 from e9]
   have s29:=s28.trans s9
   have s09:=s02.trans s29
   have fn:H nw=none:=(s02.trans s28).free hnw
   have nrn:rl≠nw:=fun z=>by rw [← z,s28 _ _ hl2] at hnw; cases hnw
   have k29:∀a xs,H2 a=some (.tup xs)→H9 a=some (.tup xs):=fun a xs e=>s29 _ _ e
   have dl9:dT l0 < dT T∧dT r0 < dT T:=by
    rcases dz0.1 with z | z
    ·rw [← z]; exact ⟨q1,q2⟩
    ·exact ⟨Nat.lt_trans q1 z,Nat.lt_trans q2 z⟩
   refine ⟨nw,vs' ++ [.ref i1,.ref i2],us,ts' ++ ([⟨if dn=true then p0 else t0.w,if dn=true then t0.h else p0,l0⟩] ++ [⟨if dn=true then t0.w - p0 - b else t0.w,if dn=true then t0.h else t0.h - p0 - b,r0⟩]),L,_,_,_,_,_,_,rfl,fn,nrn,?_,k9,s29 _ _ hl2,fj (Paired.mapP pr2 fun v t h=>h.keep k29) (.cons ⟨i1,lv,rfl,s9 _ _ (s8 _ _ (s7 _ _ (s6 _ _ k5))),TrV.keep k29 _ tvl⟩ (.cons ⟨i2,rv,rfl,s9 _ _ (s8 _ _ k7),TrV.keep k29 _ tvr⟩ .nil)),Paired.mapP pu2 fun v t h=>h.keep k29,?_,fun z hz=>?_,?_,s09⟩
   ·rw [bA,bA]; show _ + ((szT l0 + 0) + (szT r0 + 0)) < _; omega
   ·rw [cG,cG,bV,bV]
    rw [e0,mO] at pm
    exact pm
   ·rcases List.mem_append.mp hz with hz | hz
    ·exact dz' z hz
    ·rcases List.mem_append.mp hz with hz | hz
     ·rw [List.mem_singleton.mp hz]; exact ⟨.inr dl9.1,by show lvN l0≤63; have:=dz0.2; have:=(cm b r0 0 0).2.2; omega⟩
     ·rw [List.mem_singleton.mp hz]; exact ⟨.inr dl9.2,by show lvN r0≤63; have:=dz0.2; have:=(cm b l0 0 0).2.2; omega⟩
   ·rw [bA,bA]; show _ + ((szT l0 + 0) + (szT r0 + 0))≤_; omega
theorem mX {f:Addr} {fd:FuncData} (F:Fun K "_law_told" "_law_told" fK f fd):FnOk P w K mg base CX0 3 f fd ["_law_shop_here","_law_wide","_law_high","_law_tree_here"] (spToldL 0):=by
 refine F.ok sctold (fun vs H Q E h=>?_) (fun cdv A outer s H vs Q E hr h=>?_)
 ·obtain ⟨t,kl,b,W,h1,ks,v,T,rfl,_⟩:=h
  rfl
 ·obtain ⟨t,kl,b,W,h1,ks,v,T,rfl,_,_,_,z,_⟩:=h
  exact absurd z (Nat.not_lt_zero _)
theorem gZ {f:Addr} {fd:FuncData} (F:Fun K "_law_told" "_law_told" fK f fd) (B:Blt mg) (DBh:Dn P w K mg base "_law_behind" ["_law_shop_here","_law_wide","_law_high","_law_way","_law_p"] 1 (spBeh)) (mk:∀n,FnOk P w K mg base CX0 (3 + n) f fd ["_law_shop_here","_law_wide","_law_high","_law_tree_here"] (spToldL n)→Dn P w K mg base "_law_told" ["_law_shop_here","_law_wide","_law_high","_law_tree_here"] (3 + n) (spToldL n)):∀n,n≤55→FnOk P w K mg base CX0 (3 + n) f fd ["_law_shop_here","_law_wide","_law_high","_law_tree_here"] (spToldL n)
 | 0,_=>mX F
 | n + 1,h=>oM F B n (by omega) DBh (mk n (gZ F B DBh mk n (by omega)))
end
theorem jI:∀ds:List PyData,ds.length≤wts ds
 | []=>Nat.le_refl _
 | d :: r=>by have:=jI r; have:=mE d; rw [List.length_cons,wts]; omega
theorem jJ {x:PyData}:∀ {ds:List PyData},x∈ds→wt x≤wts ds
 | d :: r,h=>by
  rw [wts]
  rcases List.mem_cons.mp h with h | h
  ·rw [h]; omega
  ·have:=jJ h; omega
theorem Dts.get {p:Addr} {H:Hp}:∀ {vs:List V} {ds:List PyData} {i:Nat} {x:V},Dts p H vs ds→vs[i]? = some x→∃d,ds[i]? = some d∧Dt p H x d
 | _,_,0,_,.cons a _,e=>⟨_,rfl,by cases e; exact a⟩
 | _,_,i + 1,_,.cons _ r,e=>by
  obtain ⟨d,h1,h2⟩:=r.get (i:=i) (by simpa using e)
  exact ⟨d,by simpa using h1,h2⟩
theorem Dts.app {p:Addr} {H:Hp}:∀ {vs us:List V} {ds es:List PyData},Dts p H vs ds→Dts p H us es→Dts p H (vs ++ us) (ds ++ es)
 | _,_,_,_,.nil,h=>h
 | _,_,_,_,.cons a r,h=>.cons a (r.app h)
mutual
inductive Lsd:PyData→PyData→Prop
 | same (d:PyData):Lsd d d
 | row {ds ds':List PyData}:Lsds ds ds'→Lsd (.tuple ds) (.list ds')
inductive Lsds:List PyData→List PyData→Prop
 | nil:Lsds [] []
 | cons {d d':PyData} {ds ds':List PyData}:Lsd d d'→Lsds ds ds'→Lsds (d :: ds) (d' :: ds')
end
theorem Lsds.snoc:∀ {ds ds':List PyData} {d d':PyData},Lsds ds ds'→Lsd d d'→Lsds (ds ++ [d]) (ds' ++ [d'])
 | _,_,_,_,.nil,h=>.cons h .nil
 | _,_,_,_,.cons a r,h=>.cons a (r.snoc h)
theorem Lsds.length:∀ {ds ds':List PyData},Lsds ds ds'→ds'.length=ds.length
 | _,_,.nil=>rfl
 | _,_,.cons _ r=>by rw [List.length_cons,List.length_cons,r.length]
theorem Lsd.row_of {d d':PyData} {ds:List PyData} (h:Lsd d d') (e:d=.tuple ds):∃ds',aU d'=some ds'∧Lsds ds ds':=by
 cases h with
 | same d =>
  subst e
  refine ⟨ds,rfl,?_⟩
  induction ds with
  | nil=>exact .nil
  | cons d ds ih=>exact .cons (.same d) ih
 | row r=>cases e; exact ⟨_,rfl,r⟩
theorem Lsd.str {z:Str} {d:PyData} (h:Lsd (.str z) d):d=.str z:=by cases h; rfl
theorem Lsd.int {i:Int} {d:PyData} (h:Lsd (.int i) d):d=.int i:=by cases h; rfl
theorem Lsd.bool {b:Bool} {d:PyData} (h:Lsd (.bool b) d):d=.bool b:=by cases h; rfl
theorem Lsds.one {d:PyData} {ds es:List PyData} (h:Lsds (d :: ds) es):∃e es',es=e :: es'∧Lsd d e∧Lsds ds es':=by
 cases h with
 | cons a r=>exact ⟨_,_,rfl,a,r⟩
theorem Lsds.zero {es:List PyData} (h:Lsds [] es):es=[]:=by cases h; rfl
theorem Lsd.tree:∀ (t:Tr) {d:PyData},Lsd (toD t) d→TrD t d
 | .rest,d,h=>by
  obtain ⟨ds',e,r⟩:=h.row_of rfl
  obtain ⟨x1,es,rfl,h1,r⟩:=r.one
  cases r.zero
  cases h1.str
  exact e
 | .piece i c x y,d,h=>by
  obtain ⟨ds',e,r⟩:=h.row_of rfl
  obtain ⟨x1,es,rfl,h1,r⟩:=r.one
  obtain ⟨x2,es,rfl,h2,r⟩:=r.one
  obtain ⟨x3,es,rfl,h3,r⟩:=r.one
  obtain ⟨x4,es,rfl,h4,r⟩:=r.one
  obtain ⟨x5,es,rfl,h5,r⟩:=r.one
  cases r.zero
  cases h1.str
  cases h2.int
  cases h3.bool
  cases h4.int
  cases h5.int
  exact e
 | .cut dn p l r,d,h=>by
  obtain ⟨ds',e,r'⟩:=h.row_of rfl
  obtain ⟨x1,es,rfl,h1,r'⟩:=r'.one
  obtain ⟨x2,es,rfl,h2,r'⟩:=r'.one
  obtain ⟨x3,es,rfl,h3,r'⟩:=r'.one
  obtain ⟨x4,es,rfl,h4,r'⟩:=r'.one
  cases r'.zero
  cases h1.str
  cases h2.int
  exact ⟨x3,x4,e,Lsd.tree l h3,Lsd.tree r h4⟩
mutual
theorem Lsd.wt:∀ {d d':PyData},Lsd d d'→wt d'=wt d
 | _,_,.same _=>rfl
 | _,_,.row r=>by simp only [Pc.wt]; rw [r.wts]
theorem Lsds.wts:∀ {d d':List PyData},Lsds d d'→wts d'=wts d
 | _,_,.nil=>rfl
 | _,_,.cons a r=>by simp only [Pc.wts]; rw [a.wt,r.wts]
end
mutual
theorem Lsd.depth:∀ {d d':PyData},Lsd d d'→d'.depth=d.depth
 | _,_,.same _=>rfl
 | _,_,.row r=>by simp only [PyData.depth]; rw [r.depth]
theorem Lsds.depth:∀ {d d':List PyData},Lsds d d'→PyData.depthAll d'=PyData.depthAll d
 | _,_,.nil=>rfl
 | _,_,.cons a r=>by simp only [PyData.depthAll]; rw [a.depth,r.depth]
end
section
variable {P:Program} {w:World} {K:PySem.W.Frag} {mg:Str→Option Value} {base:Heap}
inductive spLists (n:Nat) (vs:List V) (H:Hp) (Q:VK) (E_:XK):Prop
 | mk (p:Addr) (v:V) (d:PyData) (e_1:vs=[.ref p,v]) (e_2:PotC H p) (e_3:Dt p H v d) (e_4:d.depth < n) (e_5:wt d≤30000) (e_6:∀ (v':V) (d':PyData) (H':Hp),Dt p H' v' d'→Lsd d d'→((v'=v∧d'=d)∨∃a xs,v'=.ref a∧H a=none∧H' a=some (.lst xs))→PotC H' p→But p H H'→Q v' H'):spLists n vs H Q E_
theorem sclists:FnScope ["_law_pot_here","_law_thing"] ["_law_pot_here","_law_thing"] (defScope cT):=⟨rfl,rfl,rfl,by decide +kernel,rfl,by decide +kernel,by decide +kernel⟩
theorem mY {f:Addr} {fd:FuncData} (F:Fun K "_law_lists" "_law_lists" cT f fd) (B:Blt mg) (n:Nat) (DD:Dn P w K mg base "_law_take" ["_law_pot_here","_law_many"] 1 (spTake)) (DLs:Dn P w K mg base "_law_lists" ["_law_pot_here","_law_thing"] (2 + n) (spLists n)):FnOk P w K mg base CX0 (2 + (n + 1)) f fd ["_law_pot_here","_law_thing"] (spLists (n + 1)):=by
 refine F.ok sclists (fun vs H Q E h=>?_) (fun cdv A outer s H vs Q E hr h=>?_)
 ·obtain ⟨p,v,d,rfl,_⟩:=h
  rfl
 obtain ⟨p,v,d,rfl,pt,hd,hn,dz,q⟩:=h
 have nd:=sclists.nd
 refine ⟨_,(@ae _ _ _ _ _ (@aK _ _ _ _ _ _ _ _ (PW.pt (bF (@aX _ _ _ _ (@aP _ _ _ (@aA _ _ _ _ _ _ _ _ _ bm rfl B.isi PyProof.Rows.boot_isinstance (@aa _ _ _ _ _ (pv 1) (@aa _ _ _ _ _ (bR (v:=.ty "tuple") rfl B.tuple PyProof.Rows.boot_tuple rfl) ab rfl) rfl) (by decide) (by decide) rfl rfl) (by intro _; rfl))) (bB (@aD _ _ _ _ _ _ _ _ bg (@ao _ _ _ _ _ _ _ _ _ _ DD (hr.mono (show 1≤2 + n by omega)) rfl (@aa _ _ _ _ _ (pv 0) (@aa _ _ _ _ _ ad ab rfl) rfl) (by decide) rfl rfl) ad (aB _))))) (@ag _ _ _ (@au _ _ _ _ (pv 1))) aE) (@ag _ _ _ (@au _ _ _ _ (jm (own:=["_law_one"]) (cs:=["_law_pot_here"]) (cap:=[0]) rfl (ib (pv 1)) (fE (sc:=defScope cT) (N:=["_law_pot_here","_law_thing"]) rfl rfl (by decide +kernel)) (fun _ _ _ _ _=>am (i:=0) (by show List.Nodup (["_law_one","_law_pot_here"]:List Str) ; decide +kernel) rfl (Or.inl rfl) (Or.inr rfl)) (fun _ _ _ _ _=>gI) (fun _ _ _ _ _=>(@ao _ _ _ _ _ _ _ _ _ _ DLs hr rfl (@aa _ _ _ _ _ (pv 1) (@aa _ _ _ _ _ (pv 0) ab rfl) rfl) (by decide) rfl rfl)))))),?_⟩
 obtain ⟨_,hp0⟩:=fk pt
 cases hd with
 | non=>exact ⟨_, rfl, _, _, _, _, _, rfl, (Ty.non (K:=K)).2, rfl, bn "NoneType" (by simp [az]), _, rfl, aI (aI ⟨_, rfl, q _ _ _ (.non) (.same _) (.inl ⟨rfl, rfl⟩) pt But.refl'⟩)⟩
 | bl b=>exact ⟨_, rfl, _, _, _, _, _, rfl, (Ty.bl (K:=K)).2, rfl, bn "bool" (by simp [az]), _, rfl, aI (aI ⟨_, rfl, q _ _ _ (.bl b) (.same _) (.inl ⟨rfl, rfl⟩) pt But.refl'⟩)⟩
 | int i=>exact ⟨_, rfl, _, _, _, _, _, rfl, (Ty.int (K:=K)).2, rfl, bn "int" (by simp [az]), _, rfl, aI (aI ⟨_, rfl, q _ _ _ (.int i) (.same _) (.inl ⟨rfl, rfl⟩) pt But.refl'⟩)⟩
 | str z=>exact ⟨_, rfl, _, _, _, _, _, rfl, (Ty.str (K:=K)).2, rfl, bn "str" (by simp [az]), _, rfl, aI (aI ⟨_, rfl, q _ _ _ (.str z) (.same _) (.inl ⟨rfl, rfl⟩) pt But.refl'⟩)⟩
 | lst n h r=>exact ⟨_, rfl, _, _, _, _, _, rfl, (Ty.lst h (K:=K)).2, rfl, bn "list" (by simp [az]), _, rfl, aI (aI ⟨_, rfl, q _ _ _ (.lst n h r) (.same _) (.inl ⟨rfl, rfl⟩) pt But.refl'⟩)⟩
 | emp h=>exact ⟨_, rfl, _, _, _, _, _, rfl, (Ty.dK h (K:=K)).2, rfl, bn "dict" (by simp [az]), _, rfl, aI (aI ⟨_, rfl, q _ _ _ (.emp h) (.same _) (.inl ⟨rfl, rfl⟩) pt But.refl'⟩)⟩
 | @tup a xs ds h r =>
  refine ⟨_,rfl,_,_,_,_,_,rfl,(Ty.tup h (K:=K)).2,rfl,bn "tuple" (by simp [az]),_,rfl,aM ⟨_,rfl,p,3,rfl,pt,by decide,by decide,fun z H1 z0 z1 pt1 b1=>⟨rfl,_,rfl,?_⟩⟩⟩
  have np:a≠p:=fun z=>by rw [z,hp0] at h; cases h
  have h1:=b1 _ _ np h
  have r1:=r.but ⟨_,hp0⟩ b1
  refine bW (fun c=>⟨_,rfl,q _ _ _ (.tup h1 r1) (.same _) (.inl ⟨rfl,rfl⟩) pt1 b1⟩) (fun c=>?_)
  have hl:=r1.length
  have wl:=jI ds
  have dz:wts ds + 1≤30000:=dz
  have hn:PyData.depthAll ds + 1 < n + 1:=hn
  have sz:40000 < sizeLine:=by decide
  refine ⟨_,rfl,a,rfl,⟨_,SqT.of h1⟩,(gM (K:=K) (.inr h1) (fun i ys Hx=>PotC Hx p∧But p H1 Hx∧∃ds',Dts p Hx ys ds'∧Lsds (ds.take i) ds') (fun i ys Hx _ e o ho=>e.2.1 _ _ np ho) ⟨pt1,But.refl',[],.nil,.nil⟩ ?_ ?_).2 h1⟩
  ·rintro i x ys Hx hi ⟨ptx,bx,ds',dy,ly⟩
   have hin:i < xs.length:=(List.getElem?_eq_some_iff.mp hi).1
   obtain ⟨d,hd,hx⟩:=r1.get hi
   have yl:=dy.length
   have yl2:=ly.length
   rw [List.length_take] at yl2
   have dm:=List.mem_of_getElem? hd
   have d1:=fN dm
   have w1:=jJ dm
   obtain ⟨_,hp1⟩:=fk pt1
   refine ⟨by omega,leS.set rfl,gJ ⟨_,rfl,_,rfl,p,x,d,rfl,ptx,hx.but ⟨_,hp1⟩ bx,by omega,by omega,fun v' d' H2 dv ld _ pt2 b2=>?_⟩⟩
   obtain ⟨_,hpx⟩:=fk ptx
   refine Nx.of hin ⟨pt2,bx.trans b2,ds' ++ [d'],(dy.but ⟨_,hpx⟩ b2).app (.cons dv .nil),?_⟩
   rw [List.take_add_one,hd]
   exact ly.snoc ld
  ·rintro ys Hx ⟨ptx,bx,ds',dy,ly⟩
   have yl:=dy.length
   have yl2:=ly.length
   rw [List.length_take] at yl2
   refine ⟨by omega,fun t ht=>?_⟩
   obtain ⟨n1,n2⟩:=(b1.trans bx).freeC ptx ht
   rw [hl,List.take_length] at ly
   exact q _ _ _ (.lst n1 af (dy.same (Same.new ht))) (.row ly) (.inr ⟨t,ys,rfl,n2,af⟩) (ptx.new ht) (b1.trans (bx.trans (But.new ht)))
theorem kN {f:Addr} {fd:FuncData} (F:Fun K "_law_lists" "_law_lists" cT f fd):FnOk P w K mg base CX0 2 f fd ["_law_pot_here","_law_thing"] (spLists 0):=by
 refine F.ok sclists (fun vs H Q E h=>?_) (fun cdv A outer s H vs Q E hr h=>?_)
 ·obtain ⟨p,v,d,rfl,_⟩:=h
  rfl
 ·obtain ⟨p,v,d,rfl,_,_,z,_⟩:=h
  exact absurd z (Nat.not_lt_zero _)
theorem fR {f:Addr} {fd:FuncData} (F:Fun K "_law_lists" "_law_lists" cT f fd) (B:Blt mg) (DD:Dn P w K mg base "_law_take" ["_law_pot_here","_law_many"] 1 (spTake)) (mk:∀n,FnOk P w K mg base CX0 (2 + n) f fd ["_law_pot_here","_law_thing"] (spLists n)→Dn P w K mg base "_law_lists" ["_law_pot_here","_law_thing"] (2 + n) (spLists n)):∀n,FnOk P w K mg base CX0 (2 + n) f fd ["_law_pot_here","_law_thing"] (spLists n)
 | 0=>kN F
 | n + 1=>mY F B n DD (mk n (fR F B DD mk n))
end
section
variable {P:Program} {w:World} {K:PySem.W.Frag} {mg:Str→Option Value} {base:Heap}
inductive spDeep (vs:List V) (H:Hp) (Q:VK) (E_:XK):Prop
 | mk (p t kl:Addr) (b u tn:Int) (ks:List Kd) (e_1:vs=[.ref p,.ref t,.int u,.int tn]) (e_2:PotC H p) (e_3:LS H t b ks kl) (e_4:kl≠p) (e_5:ks.length≤8) (e_6:(∀k∈ks,Good k)) (e_7:0≤b) (e_8:b < 10 ^ 58) (e_9:1≤u) (e_10:u < 2 * 10 ^ 56) (e_11:0≤tn) (e_12:tn < 4) (e_13:∀ (r:Addr) (W h:Int) (v:V) (T:Tr) (H':Hp),H' r=some (.tup [.int W,.int h,v])→TrV H' T v→okU b ks W h T→1≤W→1≤h→W < 9 * 10 ^ 59→h < 9 * 10 ^ 59→lvN T≤45→PotC H' p→But p H H'→Q (.ref r) H'):spDeep vs H Q E_
theorem scdeep:FnScope ["_law_pot_here","_law_shop_here","_law_unit_here","_law_turn","_law_wide","_law_high","_law_tree_here","_law_k","_law_way","_law_size","_law_far","_law_sides_here","_law_leaf_here"] ["_law_pot_here","_law_shop_here","_law_unit_here","_law_turn"] (defScope jB):=⟨rfl,rfl,rfl,by decide +kernel,rfl,by decide +kernel,by decide +kernel⟩
set_option maxHeartbeats 1000000 in
theorem oN {f:Addr} {fd:FuncData} (F:Fun K "_law_deep" "_law_deep" jB f fd) (B:Blt mg) (DD:Dn P w K mg base "_law_take" ["_law_pot_here","_law_many"] 1 (spTake)) (DSi:Dn P w K mg base "_law_side" ["_law_pot_here","_law_unit_here","_law_most"] 2 (spSideC)) (DLf:Dn P w K mg base "_law_leaf" ["_law_pot_here","_law_shop_here","_law_wide","_law_high"] 2 (spLeafC)):FnOk P w K mg base CX0 3 f fd ["_law_pot_here","_law_shop_here","_law_unit_here","_law_turn"] (spDeep):=by
 refine F.ok scdeep (fun vs H Q E h=>?_) (fun cdv A outer s H vs Q E hr h=>?_)
 ·obtain ⟨p,t,kl,b,u,tn,ks,rfl,_⟩:=h
  rfl
 obtain ⟨p,t,kl,b,u,tn,ks,rfl,pt,sh,nk,k8,gk,b0,b58,u1,u2,tn0,tn4,q⟩:=h
 have nd:=scdeep.nd
 refine ⟨_,(@ae _ _ _ _ _ (hX rfl nd rfl rfl (i:=4) (j:=5) (by decide) rfl rfl (@aa _ _ _ _ _ (@ao _ _ _ _ _ _ _ _ _ _ DSi (hr.mono (by decide)) rfl (@aa _ _ _ _ _ (pv 0) (@aa _ _ _ _ _ (pv 2) (@aa _ _ _ _ _ ad ab rfl) rfl) rfl) (by decide) rfl rfl) (@aa _ _ _ _ _ (@ao _ _ _ _ _ _ _ _ _ _ DSi (hr.mono (by decide)) rfl (@aa _ _ _ _ _ (pv 0) (@aa _ _ _ _ _ (pv 2) (@aa _ _ _ _ _ ad ab rfl) rfl) rfl) (by decide) rfl rfl) ab rfl) rfl) rfl) (@ae _ _ _ _ _ (@ay _ _ 6 _ _ _ _ nd rfl (Or.inl rfl) (@ao _ _ _ _ _ _ _ _ _ _ DLf (hr.mono (by decide)) rfl (@aa _ _ _ _ _ (pv 0) (@aa _ _ _ _ _ (pv 1) (@aa _ _ _ _ _ (pv 4) (@aa _ _ _ _ _ (pv 5) ab rfl) rfl) rfl) rfl) (by decide) rfl rfl) rfl (Or.inl rfl)) (@ae _ _ _ _ _ (@cN _ _ _ _ _ _ _ _ PassesOwn.never rfl (dw rfl B.range (@aa _ _ _ _ _ (@aw _ _ _ _ _ _ _ _ aQ ad (@ao _ _ _ _ _ _ _ _ _ _ DD (hr.mono (by decide)) rfl (@aa _ _ _ _ _ (pv 0) (@aa _ _ _ _ _ ad ab rfl) rfl) (by decide) rfl rfl)) ab rfl)) (am (i:=7) nd rfl (Or.inl rfl)) (@ae _ _ _ _ _ (@ay _ _ 8 _ _ _ _ nd rfl (Or.inl rfl) (@ar _ _ _ _ _ _ _ ix_list (@aH _ _ _ _ (@aa _ _ _ _ _ bo (@aa _ _ _ _ _ bo ab rfl) rfl)) (@aw _ _ _ _ _ _ _ _ dC (@ar _ _ _ _ _ _ _ ix_list (@aH _ _ _ _ (@aa _ _ _ _ _ ad (@aa _ _ _ _ _ (@aw _ _ _ _ _ _ _ _ cX (pv 7) ad) (@aa _ _ _ _ _ (pv 7) (@aa _ _ _ _ _ (@ao _ _ _ _ _ _ _ _ _ _ DD (hr.mono (by decide)) rfl (@aa _ _ _ _ _ (pv 0) (@aa _ _ _ _ _ ad ab rfl) rfl) (by decide) rfl rfl) ab rfl) rfl) rfl) rfl)) (pv 3) (fun _ _=>rfl)) ad) (fun _ _=>rfl)) rfl (Or.inl rfl)) (@ae _ _ _ _ _ (hX rfl nd rfl rfl (i:=9) (j:=10) (by decide) rfl rfl (@aa _ _ _ _ _ (@ao _ _ _ _ _ _ _ _ _ _ DSi (hr.mono (by decide)) rfl (@aa _ _ _ _ _ (pv 0) (@aa _ _ _ _ _ (pv 2) (@aa _ _ _ _ _ ad ab rfl) rfl) rfl) (by decide) rfl rfl) (@aa _ _ _ _ _ (@ar _ _ _ _ _ _ _ ix_list (@aH _ _ _ _ (@aa _ _ _ _ _ (pv 4) (@aa _ _ _ _ _ (pv 5) ab rfl) rfl)) (@aV _ _ _ _ _ _ _ _ _ bI rfl B.int PyProof.Rows.boot_int (@aa _ _ _ _ _ (@bi _ _ _ _ _ _ _ _ bg (pv 8) bo (aB _)) ab rfl) (by decide) (by decide) rfl rfl) (fun _ _=>rfl)) ab rfl) rfl) rfl) (@ae _ _ _ _ _ (@ay _ _ 11 _ _ _ _ nd rfl (Or.inl rfl) (@ar _ _ _ _ _ _ _ ix_list (@aH _ _ _ _ (@aa _ _ _ _ _ (@ax _ _ _ _ _ (@aa _ _ _ _ _ (pv 9) (@aa _ _ _ _ _ (pv 5) ab rfl) rfl)) (@aa _ _ _ _ _ (@ax _ _ _ _ _ (@aa _ _ _ _ _ (pv 4) (@aa _ _ _ _ _ (pv 9) ab rfl) rfl)) ab rfl) rfl)) (@aV _ _ _ _ _ _ _ _ _ bI rfl B.int PyProof.Rows.boot_int (@aa _ _ _ _ _ (@bi _ _ _ _ _ _ _ _ bg (pv 8) bo (aB _)) ab rfl) (by decide) (by decide) rfl rfl) (fun _ _=>rfl)) rfl (Or.inl rfl)) (@ae _ _ _ _ _ (@ay _ _ 12 _ _ _ _ nd rfl (Or.inl rfl) (@ao _ _ _ _ _ _ _ _ _ _ DLf (hr.mono (by decide)) rfl (@aa _ _ _ _ _ (pv 0) (@aa _ _ _ _ _ (pv 1) (@aa _ _ _ _ _ (@ar _ _ _ _ _ _ _ ix_tup (pv 11) ad (fun _ _=>rfl)) (@aa _ _ _ _ _ (@ar _ _ _ _ _ _ _ ix_tup (pv 11) ad (fun _ _=>rfl)) ab rfl) rfl) rfl) rfl) (by decide) rfl rfl) rfl (Or.inl rfl)) (@ae _ _ _ _ _ (@aK _ _ _ _ _ _ _ _ (@aD _ _ _ _ _ _ _ _ bg (pv 8) bo (aB _)) (@ag _ _ _ (@ay _ _ 4 _ _ _ _ nd rfl (Or.inl rfl) (@aw _ _ _ _ _ _ _ _ aQ (@aw _ _ _ _ _ _ _ _ aQ (pv 4) (pv 9)) (@ar _ _ _ _ _ _ _ ix_tup (pv 1) ad (fun _ _=>rfl))) rfl (Or.inl rfl))) (@ag _ _ _ (@ay _ _ 5 _ _ _ _ nd rfl (Or.inl rfl) (@aw _ _ _ _ _ _ _ _ aQ (@aw _ _ _ _ _ _ _ _ aQ (pv 5) (pv 9)) (@ar _ _ _ _ _ _ _ ix_tup (pv 1) ad (fun _ _=>rfl))) rfl (Or.inl rfl)))) (@ag _ _ _ (@ay _ _ 6 _ _ _ _ nd rfl (Or.inl rfl) (@ar _ _ _ _ _ _ _ ix_list (@aH _ _ _ _ (@aa _ _ _ _ _ (@ax _ _ _ _ _ (@aa _ _ _ _ _ (pv 8) (@aa _ _ _ _ _ (pv 9) (@aa _ _ _ _ _ (pv 12) (@aa _ _ _ _ _ (pv 6) ab rfl) rfl) rfl) rfl)) (@aa _ _ _ _ _ (@ax _ _ _ _ _ (@aa _ _ _ _ _ (pv 8) (@aa _ _ _ _ _ (pv 10) (@aa _ _ _ _ _ (pv 6) (@aa _ _ _ _ _ (pv 12) ab rfl) rfl) rfl) rfl)) ab rfl) rfl)) (@ao _ _ _ _ _ _ _ _ _ _ DD (hr.mono (by decide)) rfl (@aa _ _ _ _ _ (pv 0) (@aa _ _ _ _ _ ad ab rfl) rfl) (by decide) rfl rfl) (fun _ _=>rfl)) rfl (Or.inl rfl)))))))) (by intro _; rfl)) (@ag _ _ _ (@au _ _ _ _ (@ax _ _ _ _ _ (@aa _ _ _ _ _ (pv 4) (@aa _ _ _ _ _ (pv 5) (@aa _ _ _ _ _ (pv 6) ab rfl) rfl) rfl))))))),?_⟩
 have e58:(10:Int) ^ 58 + 44 * (2 * 10 ^ 58) < 9 * 10 ^ 59:=by decide
 have e57:(10:Int) ^ 58 < 9 * 10 ^ 59:=by decide
 have ep:(0:Int) < 10 ^ 58:=by decide
 have sz:(1000:Nat) < sizeLine:=by decide
 refine av (fun σ' H'=>∃W h1:Int,σ'=[some (.ref p),some (.ref t),some (.int u),some (.int tn),some (.int W),some (.int h1),none,none,none,none,none,none,none]∧1≤W∧W < 10 ^ 58∧1≤h1∧h1 < 10 ^ 58∧PotC H' p∧But p H H') (fun R hR=>?_) ?_
 ·exact ⟨_,rfl,_,rfl,p,u,6,rfl,pt,u1,u2,by decide,by decide,fun W H1 w0 w58 pt1 b1=>⟨_,rfl,_,rfl,p,u,6,rfl,pt1,u1,u2,by decide,by decide,fun h1 H2 h0 h58 pt2 b2=>⟨_,_,rfl,hR _ _ ⟨W,h1,rfl,w0,w58,h0,h58,pt2,b1.trans b2⟩⟩⟩⟩
 rintro _ H1 ⟨W,h1,rfl,w0,w58,h0,h58,pt1,b1⟩
 refine av (fun σ' H'=>∃ (v:V) (T:Tr),σ'=[some (.ref p),some (.ref t),some (.int u),some (.int tn),some (.int W),some (.int h1),some v,none,none,none,none,none,none]∧TrV H' T v∧okU b ks W h1 T∧lvN T=1∧PotC H' p∧But p H H') (fun R hR=>?_) ?_
 ·exact ⟨_,rfl,_,rfl,_,rfl,_,rfl,p,t,kl,b,W,h1,ks,rfl,pt1,sh.but nk pt b1,nk,k8,gk,by omega,by omega,fun v T H2 tv ok ln _ pt2 b2=>hR _ _ ⟨v,T,rfl,tv,ok b,ln,pt2,b1.trans b2⟩⟩
 clear b1 pt1
 clear H1
 rintro _ H1 ⟨v,T,rfl,tv,okv,lv1,pt1,b1⟩
 refine av (fun σ' H'=>∃i:Nat,i≤44∧∃ (W h1:Int) (v:V) (T:Tr) (v7 v8 v9 va vb vc:Option V),σ'=[some (.ref p),some (.ref t),some (.int u),some (.int tn),some (.int W),some (.int h1),some v,v7,v8,v9,va,vb,vc]∧1≤W∧1≤h1∧W < 10 ^ 58 + i * (2 * 10 ^ 58)∧h1 < 10 ^ 58 + i * (2 * 10 ^ 58)∧TrV H' T v∧okU b ks W h1 T∧lvN T≤i + 1∧PotC H' p∧But p H H') (fun R hR=>?_) ?_
 ·refine ⟨_,rfl,p,25,rfl,pt1,by decide,by decide,fun m H2 m0 m1 pt2 b2=>⟨_,_,rfl,rfl,_,rfl,by omega,by omega,?_⟩⟩
  refine dA (n:=(20 + m).toNat) (fun i σ' H'=>∃ (W h1:Int) (v:V) (T:Tr) (v7 v8 v9 va vb vc:Option V),σ'=[some (.ref p),some (.ref t),some (.int u),some (.int tn),some (.int W),some (.int h1),some v,v7,v8,v9,va,vb,vc]∧1≤W∧1≤h1∧W < 10 ^ 58 + i * (2 * 10 ^ 58)∧h1 < 10 ^ 58 + i * (2 * 10 ^ 58)∧TrV H' T v∧okU b ks W h1 T∧lvN T≤i + 1∧PotC H' p∧But p H H') ⟨W,h1,v,T,_,_,_,_,_,_,rfl,w0,h0,by omega,by omega,TrV.keep (fun a xs e=>dR b2 pt1 e) T tv,okv,by omega,pt2,b1.trans b2⟩ ?_ (fun σ Hx h=>hR _ _ ⟨(20 + m).toNat,by omega,h⟩)
  clear tv okv lv1 pt1 b1 pt2 b2 w0 w58 h0 h58
  clear H1 H2 W h1 v T
  rintro i _ H1 hi ⟨W,h1,v,T,v7,v8,v9,va,vb,vc,rfl,w0,h0,w59,h59,tv1,ok1,lv1,pt1,b1⟩
  have i44:i≤43:=by omega
  have i44':(i:Int)≤43:=by omega
  have im:(i:Int) * (2 * 10 ^ 58)≤43 * (2 * 10 ^ 58):=Int.mul_le_mul_of_nonneg_right i44' (by omega)
  have is:((i + 1:Nat):Int) * (2 * 10 ^ 58)=i * (2 * 10 ^ 58) + 2 * 10 ^ 58:=by
   rw [Int.natCast_add,Int.add_mul]; omega
  refine av (fun σ' H'=>∃dn:Bool,σ'=[some (.ref p),some (.ref t),some (.int u),some (.int tn),some (.int W),some (.int h1),some v,some (.int (0 + (i:Int))),some (.str (wyL dn)),v9,va,vb,vc]∧TrV H' T v∧PotC H' p∧But p H H') (fun R hR=>?_) ?_
  ·refine ⟨(by show 2≤sizeLine; decide),fun l hl=>?_⟩
   obtain ⟨H2,e2,k2,n2,s2,b2,pt2⟩:=bP (o:=.lst [.str "down",.str "across"]) b1 pt1 hl
   rw [show upd H1 l _=H2 from e2]
   refine ⟨_,rfl,_,_,rfl,rfl,⟨by decide,by decide⟩,_,rfl,_,rfl,p,2,rfl,pt2,by decide,by decide,fun z H3 z0 z1 pt3 b3=>⟨(by show 4≤sizeLine; decide),fun l2 hl2=>?_⟩⟩
   obtain ⟨H4,e4,k4,n4,s4,b4,pt4⟩:=bP (o:=.lst [.int 0,.int ((0 + (i:Int)) / 4),.int (0 + (i:Int)),.int z]) (b2.trans b3) pt3 hl2
   rw [show upd H3 l2 _=H4 from e4]
   obtain ⟨xx,hxx⟩:∃xx:Int,atI [V.int 0,V.int ((0 + (i:Int)) / 4),V.int (0 + (i:Int)),V.int z] tn=some (.int xx):=by
    have:tn=0∨tn=1∨tn=2∨tn=3:=by omega
    rcases this with rfl | rfl | rfl | rfl <;> exact ⟨_,rfl⟩
   have hl4:=s4 _ _ (b3 _ _ n2 k2)
   have fin:∀dn:Bool,_:=fun dn=>hR [some (.ref p),some (.ref t),some (.int u),some (.int tn),some (.int W),some (.int h1),some v,some (.int (0 + (i:Int))),some (.str (wyL dn)),v9,va,vb,vc] H4 ⟨dn,rfl,TrV.keep (fun a xs e=>s4 _ _ (dR b3 pt2 (s2 _ _ e))) T tv1,pt4,b4⟩
   have mo:xx % 2=0∨xx % 2=1:=by omega
   refine ⟨_,rfl,l2,_,_,_,rfl,rfl,SqL.of k4,hxx,_,_,rfl,rfl,(by show (0:Int) < 2; decide),?_⟩
   rcases mo with e | e
   ·exact ⟨l,_,_,_,rfl,by rw [e],SqL.of hl4,rfl,fin true⟩
   ·exact ⟨l,_,_,_,rfl,by rw [e],SqL.of hl4,rfl,fin false⟩
  clear tv1 pt1
  rintro _ H2 ⟨dn,rfl,tv2,pt2,b2⟩
  refine av (fun σ' H'=>∃sz0:Int,σ'=[some (.ref p),some (.ref t),some (.int u),some (.int tn),some (.int W),some (.int h1),some v,some (.int (0 + (i:Int))),some (.str (wyL dn)),some (.int sz0),some (.int (if dn=true then W else h1)),vb,vc]∧1≤sz0∧sz0 < 10 ^ 58∧TrV H' T v∧PotC H' p∧But p H H') (fun R hR=>?_) ?_
  ·refine ⟨_,rfl,_,rfl,p,u,3,rfl,pt2,u1,u2,by decide,by decide,fun sz0 H3 s0 s58 pt3 b3=>⟨_,rfl,_,rfl,(by show 2≤sizeLine; decide),fun ol hol=>?_⟩⟩
   obtain ⟨H4,e4,k4,n4,s4,b4,pt4⟩:=bP (o:=.lst [.int W,.int h1]) (b2.trans b3) pt3 hol
   rw [show upd H3 ol _=H4 from e4]
   refine ⟨_,rfl,rfl,.inr ⟨_,rfl,ol,_,_,.int (if dn=true then W else h1),rfl,rfl,SqL.of k4,?_,_,_,rfl,hR _ _ ⟨sz0,rfl,s0,s58,TrV.keep (fun a xs e=>s4 _ _ (dR b3 pt2 e)) T tv2,pt4,b4⟩⟩⟩
   cases dn with
   | true =>
    rw [show decide (V.str (wyL true)=V.str "across")=false by decide +kernel]
    rfl
   | false =>
    rw [show decide (V.str (wyL false)=V.str "across")=true by decide +kernel]
    rfl
  clear tv2 pt2 b2
  clear H2
  rintro _ H2 ⟨sz0,rfl,s0,s58,tv2,pt2,b2⟩
  refine av (fun σ' H'=>∃so:Addr,σ'=[some (.ref p),some (.ref t),some (.int u),some (.int tn),some (.int W),some (.int h1),some v,some (.int (0 + (i:Int))),some (.str (wyL dn)),some (.int sz0),some (.int (if dn=true then W else h1)),some (.ref so),vc]∧H' so=some (.tup [.int (if dn=true then sz0 else W),.int (if dn=true then h1 else sz0)])∧TrV H' T v∧PotC H' p∧But p H H') (fun R hR=>?_) ?_
  ·refine ⟨_,rfl,_,rfl,(by show 2≤sizeLine; decide),fun a1 ha1=>?_⟩
   obtain ⟨H3,e3,k3,n3,s3,b3,pt3⟩:=bP (o:=.tup [.int sz0,.int h1]) b2 pt2 ha1
   rw [show upd H2 a1 _=H3 from e3]
   refine ⟨_,rfl,_,rfl,(by show 2≤sizeLine; decide),fun a2 ha2=>?_⟩
   obtain ⟨H4,e4,k4,n4,s4,b4,pt4⟩:=bP (o:=.tup [.int W,.int sz0]) b3 pt3 ha2
   rw [show upd H3 a2 _=H4 from e4]
   refine ⟨(by show 2≤sizeLine; decide),fun ol hol=>?_⟩
   obtain ⟨H5,e5,k5,n5,s5,b5,pt5⟩:=bP (o:=.lst [.ref a1,.ref a2]) b4 pt4 hol
   rw [show upd H4 ol _=H5 from e5]
   have tv5:=TrV.keep (fun a xs e=>s5 _ _ (s4 _ _ (s3 _ _ e))) T tv2
   refine ⟨_,rfl,rfl,.inr ⟨_,rfl,ol,_,_,.ref (if dn=true then a1 else a2),rfl,rfl,SqL.of k5,?_,hR _ _ ⟨_,rfl,?_,tv5,pt5,b5⟩⟩⟩
   ·cases dn with
    | true =>
     rw [show decide (V.str (wyL true)=V.str "across")=false by decide +kernel]
     rfl
    | false =>
     rw [show decide (V.str (wyL false)=V.str "across")=true by decide +kernel]
     rfl
   ·cases dn with
    | true=>exact s5 _ _ (s4 _ _ k3)
    | false=>exact s5 _ _ k4
  clear tv2 pt2 b2
  clear H2
  rintro _ H2 ⟨so,rfl,hso,tv2,pt2,b2⟩
  refine av (fun σ' H'=>∃ (lf:V) (TL:Tr),σ'=[some (.ref p),some (.ref t),some (.int u),some (.int tn),some (.int W),some (.int h1),some v,some (.int (0 + (i:Int))),some (.str (wyL dn)),some (.int sz0),some (.int (if dn=true then W else h1)),some (.ref so),some lf]∧TrV H' TL lf∧okU b ks (if dn=true then sz0 else W) (if dn=true then h1 else sz0) TL∧lvN TL=1∧TrV H' T v∧PotC H' p∧But p H H') (fun R hR=>?_) ?_
  ·refine ⟨_,rfl,_,rfl,_,rfl,so,_,0,_,rfl,rfl,SqT.of hso,rfl,_,rfl,so,_,1,_,rfl,rfl,SqT.of hso,rfl,p,t,kl,b,_,_,ks,rfl,pt2,sh.but nk pt b2,nk,k8,gk,?_,?_,fun lf TL H3 tl ok ln _ pt3 b3=>hR _ _ ⟨lf,TL,rfl,tl,ok b,ln,TrV.keep (fun a xs e=>dR b3 pt2 e) T tv2,pt3,b2.trans b3⟩⟩
   ·split <;> omega
   ·split <;> omega
  clear tv2 pt2 b2 hso
  clear H2
  rintro _ H2 ⟨lf,TL,rfl,tl2,okl,ll1,tv2,pt2,b2⟩
  obtain ⟨kr,ht,_⟩:=id (sh.but nk pt b2)
  refine av (fun σ' H'=>H2=H'∧σ'=[some (.ref p),some (.ref t),some (.int u),some (.int tn),some (.int (if dn=true then W + sz0 + b else W)),some (.int (if dn=true then h1 else h1 + sz0 + b)),some v,some (.int (0 + (i:Int))),some (.str (wyL dn)),some (.int sz0),some (.int (if dn=true then W else h1)),some (.ref so),some lf]) (fun R hR=>?_) ?_
  ·refine ⟨_,rfl,rfl,_,rfl,?_⟩
   cases dn with
   | true=>exact jG (by decide +kernel) ⟨_,rfl,_,rfl,_,_,rfl,rfl,_,rfl,t,_,0,_,rfl,rfl,SqT.of ht,rfl,_,_,rfl,rfl,hR _ _ ⟨rfl,rfl⟩⟩
   | false=>exact jH (by decide +kernel) ⟨_,rfl,_,rfl,_,_,rfl,rfl,_,rfl,t,_,0,_,rfl,rfl,SqT.of ht,rfl,_,_,rfl,rfl,hR _ _ ⟨rfl,rfl⟩⟩
  rintro _ _ ⟨rfl,rfl⟩
  refine ⟨_,rfl,_,rfl,_,rfl,_,rfl,(by show 4≤sizeLine; decide),fun a1 ha1=>?_⟩
  obtain ⟨H3,e3,k3,n3,s3,b3,pt3⟩:=bP (o:=.tup [.str (wyL dn),.int sz0,lf,v]) b2 pt2 ha1
  rw [show upd H2 a1 _=H3 from e3]
  refine ⟨_,rfl,_,rfl,_,rfl,_,rfl,(by show 4≤sizeLine; decide),fun a2 ha2=>?_⟩
  obtain ⟨H4,e4,k4,n4,s4,b4,pt4⟩:=bP (o:=.tup [.str (wyL dn),.int (if dn=true then W else h1),v,lf]) b3 pt3 ha2
  rw [show upd H3 a2 _=H4 from e4]
  refine ⟨(by show 2≤sizeLine; decide),fun ol hol=>?_⟩
  obtain ⟨H5,e5,k5,n5,s5,b5,pt5⟩:=bP (o:=.lst [.ref a1,.ref a2]) b4 pt4 hol
  rw [show upd H4 ol _=H5 from e5]
  refine ⟨_,rfl,p,2,rfl,pt5,by decide,by decide,fun z H6 z0 z1 pt6 b6=>?_⟩
  have k6:∀a xs,H2 a=some (.tup xs)→H6 a=some (.tup xs):=fun a xs e=>dR b6 pt5 (s5 _ _ (s4 _ _ (s3 _ _ e)))
  have tv6:=TrV.keep k6 T tv2
  have tl6:=TrV.keep k6 TL tl2
  have b06:But p H H6:=fun c o n e=>b6 _ _ n (s5 _ _ (s4 _ _ (s3 _ _ (b2 _ _ n e))))
  have W':1≤(if dn=true then W + sz0 + b else W):=by split <;> omega
  have H'':1≤(if dn=true then h1 else h1 + sz0 + b):=by split <;> omega
  have W2:(if dn=true then W + sz0 + b else W) < 10 ^ 58 + ((i + 1:Nat):Int) * (2 * 10 ^ 58):=by split <;> omega
  have H2':(if dn=true then h1 else h1 + sz0 + b) < 10 ^ 58 + ((i + 1:Nat):Int) * (2 * 10 ^ 58):=by split <;> omega
  have zz:z=0∨z=1:=by omega
  rcases zz with rfl | rfl
  ·refine ⟨ol,_,_,_,rfl,rfl,SqL.of (b6 _ _ n5 k5),rfl,_,_,.ref a1,.cut dn sz0 TL T,_,_,_,_,_,_,rfl,W',H'',W2,H2',⟨a1,lf,v,rfl,dR b6 pt5 (s5 _ _ (s4 _ _ k3)),tl6,tv6⟩,?_,by show lvN TL + lvN T≤_; omega,pt6,b06⟩
   refine ⟨s0,?_⟩
   cases dn with
   | true =>
    show sz0 + b < W + sz0 + b∧okU b ks sz0 h1 TL∧okU b ks (W + sz0 + b - sz0 - b) h1 T
    rw [show W + sz0 + b - sz0 - b=W by omega]
    exact ⟨by omega,okl,ok1⟩
   | false =>
    show sz0 + b < h1 + sz0 + b∧okU b ks W sz0 TL∧okU b ks W (h1 + sz0 + b - sz0 - b) T
    rw [show h1 + sz0 + b - sz0 - b=h1 by omega]
    exact ⟨by omega,okl,ok1⟩
  ·refine ⟨ol,_,_,_,rfl,rfl,SqL.of (b6 _ _ n5 k5),rfl,_,_,.ref a2,.cut dn (if dn=true then W else h1) T TL,_,_,_,_,_,_,rfl,W',H'',W2,H2',⟨a2,v,lf,rfl,dR b6 pt5 (s5 _ _ k4),tv6,tl6⟩,?_,by show lvN T + lvN TL≤_; omega,pt6,b06⟩
   cases dn with
   | true =>
    show 1≤W∧W + b < W + sz0 + b∧okU b ks W h1 T∧okU b ks (W + sz0 + b - W - b) h1 TL
    rw [show W + sz0 + b - W - b=sz0 by omega]
    exact ⟨w0,by omega,ok1,okl⟩
   | false =>
    show 1≤h1∧h1 + b < h1 + sz0 + b∧okU b ks W h1 T∧okU b ks W (h1 + sz0 + b - h1 - b) TL
    rw [show h1 + sz0 + b - h1 - b=sz0 by omega]
    exact ⟨h0,by omega,ok1,okl⟩
 clear tv okv lv1 pt1 b1 w0 w58 h0 h58
 clear H1 W h1 v T
 rintro _ H1 ⟨i,i44,W,h1,v,T,v7,v8,v9,va,vb,vc,rfl,w0,h0,w59,h59,tv1,ok1,lv1,pt1,b1⟩
 have im:(i:Int) * (2 * 10 ^ 58)≤44 * (2 * 10 ^ 58):=Int.mul_le_mul_of_nonneg_right (by omega) (by omega)
 refine ⟨_,rfl,_,rfl,_,rfl,(by show 3≤sizeLine; decide),fun r hr=>?_⟩
 obtain ⟨H2,e2,k2,n2,s2,b2,pt2⟩:=bP (o:=.tup [.int W,.int h1,v]) b1 pt1 hr
 rw [show upd H1 r _=H2 from e2]
 exact q r W h1 v T H2 k2 (TrV.keep (fun a xs e=>s2 _ _ e) T tv1) ok1 w0 h0 (by omega) (by omega) (by omega) pt2 b2
end
def Sm (i:Int):Prop:=0≤i∧i < 10 ^ 61
mutual
inductive Fit:PyData→Prop
 | bool (b:Bool):Fit (.bool b)
 | int {i:Int}:Sm i→Fit (.int i)
 | str {z:Str}:(PyData.str z).showable=true→(PyData.str z).shown.length≤90→Fit (.str z)
 | list {ds:List PyData}:Fits ds→Fit (.list ds)
 | tuple {ds:List PyData}:Fits ds→Fit (.tuple ds)
inductive Fits:List PyData→Prop
 | nil:Fits []
 | cons {d:PyData} {ds:List PyData}:Fit d→Fits ds→Fits (d :: ds)
end
theorem mZ (dn:Bool):Fit (.str (wyL dn)):=by cases dn <;> exact .str (by decide +kernel) (by decide +kernel)
theorem na:Fit (.str "rest"):=.str (by decide +kernel) (by decide +kernel)
theorem kO:Fit (.str "piece"):=.str (by decide +kernel) (by decide +kernel)
mutual
theorem Fit.sh:∀ {d:PyData},Fit d→d.showable=true∧d.hasDict=false∧d.shown.length + 2≤100 * wt d
 | _,.bool b=>by cases b <;> exact ⟨by decide +kernel,by decide +kernel,by decide +kernel⟩
 | _,.int (i:=i) ⟨h0,h1⟩=>by
  have hs:Short i:=by
   have:(10:Int) ^ 61 < 10 ^ 62:=by decide
   have e:((10 ^ 62:Nat):Int)=10 ^ 62:=by decide
   unfold Short
   omega
  have:=hs.len
  exact ⟨by simp [PyData.showable,hs.log],by simp [PyData.hasDict],by show _≤100 * 1; omega⟩
 | _,.str (z:=z) h1 h2=>⟨h1,by simp [PyData.hasDict],by
  show _≤100 * (z.length + 1)
  omega⟩
 | _,.list (ds:=ds) h=>by
  obtain ⟨h1,h2,h3,h4⟩:=h.sh
  have:=listText_len_le (PyData.shownAll ds)
  refine ⟨by simp only [PyData.showable,h1],by simp only [PyData.hasDict,h2],?_⟩
  show (PyData.list ds).shown.length + 2≤100 * (wts ds + 1)
  simp only [PyData.shown]
  omega
 | _,.tuple (ds:=ds) h=>by
  obtain ⟨h1,h2,h3,h4⟩:=h.sh
  have:=tupleText_len_le (PyData.shownAll ds)
  refine ⟨by simp only [PyData.showable,h1],by simp only [PyData.hasDict,h2],?_⟩
  show (PyData.tuple ds).shown.length + 2≤100 * (wts ds + 1)
  simp only [PyData.shown]
  omega
theorem Fits.sh:∀ {ds:List PyData},Fits ds→PyData.showableAll ds=true∧PyData.hasDictAll ds=false∧((PyData.shownAll ds).map (·.length)).sum + 2 * ds.length≤100 * wts ds∧(PyData.shownAll ds).length=ds.length
 | _,.nil=>⟨rfl,rfl,Nat.le_refl _,rfl⟩
 | _,.cons (d:=d) (ds:=ds) a r=>by
  obtain ⟨d1,d2,d3⟩:=a.sh
  obtain ⟨e1,e2,e3,e4⟩:=r.sh
  refine ⟨by simp only [PyData.showableAll,d1,e1,Bool.and_self],by simp only [PyData.hasDictAll,d2,e2,Bool.or_self],?_,by simp only [PyData.shownAll,List.length_cons]; omega⟩
  show _≤100 * (wt d + wts ds)
  simp only [PyData.shownAll,List.map_cons,List.sum_cons,List.length_cons]
  omega
end
theorem Fit.ok {d:PyData} (h:Fit d) (z:wt d≤100000):d.showable=true∧d.hasDict=false∧d.shown.length≤sizeLine:=by
 obtain ⟨h1,h2,h3⟩:=h.sh
 have:(10000000:Nat)≤sizeLine:=by decide
 exact ⟨h1,h2,by omega⟩
mutual
theorem Lsd.fit:∀ {d d':PyData},Lsd d d'→Fit d→Fit d'
 | _,_,.same _,h=>h
 | _,_,.row r,h=>by
  cases h with
  | tuple hs=>exact .list (r.fit hs)
theorem Lsds.fit:∀ {d d':List PyData},Lsds d d'→Fits d→Fits d'
 | _,_,.nil,h=>h
 | _,_,.cons a r,h=>by
  cases h with
  | cons h1 h2=>exact .cons (a.fit h1) (r.fit h2)
end
mutual
theorem Dt.datF {K:PySem.W.Frag} {p:Addr} {H:Hp}:∀ {v:V} {d:PyData},Dt p H v d→Fit d→DatV K H v d
 | _,_,.non,f=>by cases f
 | _,_,.bl b,_=>.bl b
 | _,_,.int i,_=>.int i
 | _,_,.str z,_=>.str z
 | _,_,.lst n h r,f=>by
  cases f with
  | list fs=>exact .lst (SqL.of h) (r.datF fs)
 | _,_,.tup h r,f=>by
  cases f with
  | tuple fs=>exact .tup (SqT.of h) (r.datF fs)
 | _,_,.emp h,f=>by cases f
theorem Dts.datF {K:PySem.W.Frag} {p:Addr} {H:Hp}:∀ {vs:List V} {ds:List PyData},Dts p H vs ds→Fits ds→DatVs K H vs ds
 | _,_,.nil,_=>.nil
 | _,_,.cons a r,f=>by
  cases f with
  | cons f1 f2=>exact .cons (a.datF f1) (r.datF f2)
end
theorem cn {b:Int} {ks:List Kd} (b0:0≤b) (gk:∀k∈ks,Good k) (k8:ks.length≤8):∀ (t:Tr) {w h:Int},okU b ks w h t→w < 10 ^ 60→h < 10 ^ 60→Fit (toD t)
 | .rest,_,_,_,_,_=>.tuple (.cons na .nil)
 | .piece i c x y,w,h,⟨k,hk,_,x0,y0,hx,hy⟩,w6,h6=>by
  have e:(10:Int) ^ 60 < 10 ^ 61:=by decide
  have e2:(100:Int) < 10 ^ 61:=by decide
  have hg:=gk k (List.mem_of_getElem? hk)
  have hi:=(List.getElem?_eq_some_iff.mp hk).1
  have s1:1≤sd1 k c∧1≤sd2 k c:=by
   obtain ⟨g1,g2,_⟩:=hg
   cases c
   ·exact ⟨g1,g2⟩
   ·exact ⟨g2,g1⟩
  exact .tuple (.cons kO (.cons (.int ⟨by omega,by omega⟩) (.cons (.bool c) (.cons (.int ⟨x0,by omega⟩) (.cons (.int ⟨y0,by omega⟩) .nil)))))
 | .cut true p l r,w,h,⟨p1,hp,hl,hr⟩,w6,h6=>by
  have e:(10:Int) ^ 60 < 10 ^ 61:=by decide
  exact .tuple (.cons (mZ true) (.cons (.int ⟨by omega,by omega⟩) (.cons (cn b0 gk k8 l hl (by omega) h6) (.cons (cn b0 gk k8 r hr (by omega) h6) .nil))))
 | .cut false p l r,w,h,⟨p1,hp,hl,hr⟩,w6,h6=>by
  have e:(10:Int) ^ 60 < 10 ^ 61:=by decide
  exact .tuple (.cons (mZ false) (.cons (.int ⟨by omega,by omega⟩) (.cons (cn b0 gk k8 l hl w6 (by omega)) (.cons (cn b0 gk k8 r hr w6 (by omega)) .nil))))
def wtR (l:List (Int×Tl)):Nat:=(l.map fun z=>wt (tlD z.2) + 2).sum
theorem jK (a b:List (Int×Tl)):wtR (a ++ b)=wtR a + wtR b:=by unfold wtR; rw [List.map_append,List.sum_append]
theorem ng {a b:List (Int×Tl)} (h:a.Perm b):wtR a=wtR b:=(h.map _).sum_nat
theorem nh:∀l:List (Int×Tl),wts (bq (ofL l))=wtR l
 | []=>rfl
 | z :: l=>by
  have:=nh l
  show (1 + (wt (tlD z.2) + 0) + 1) + wts (bq (ofL l))=(wt (tlD z.2) + 2) + wtR l
  omega
theorem jL:∀ {l:List (Int×Tl)},(∀z∈l,Sm z.1∧Fit (tlD z.2))→Fits (bq (ofL l))
 | [],_=>.nil
 | z :: l,h=>.cons (.tuple (.cons (.int (h z List.mem_cons_self).1) (.cons (h z List.mem_cons_self).2 .nil))) (jL fun y hy=>h y (List.mem_cons_of_mem _ hy))
theorem jM {dn:Bool} {l:List (Int×Tl)} (h:∀z∈l,Sm z.1∧Fit (tlD z.2)):Fit (tlD (.row dn (ofL (srt l)))) :=
 .tuple (.cons (mZ dn) (.cons (.tuple (jL fun z hz=>h z ((dg l).mem_iff.mp hz))) .nil))
theorem ni (dn:Bool) (l:List (Int×Tl)):wt (tlD (.row dn (ofL (srt l))))≤wtR l + 9:=by
 have h1:wt (.str (wyL dn))≤7:=by cases dn <;> decide +kernel
 have h2:=nh (srt l)
 rw [ng (dg l)] at h2
 show wt (.str (wyL dn)) + ((wts (bq (ofL (srt l))) + 1) + 0) + 1≤_
 omega
theorem fh (b:Int):∀ (t:Tr) (w h:Int),wt (tlD (tel b t w h).1) + 7≤20 * szT t∧wtR (tel b t w h).2.1 + 5≤20 * szT t∧wtR (tel b t w h).2.2 + 5≤20 * szT t
 | .rest,_,_=>⟨by show wt (.tuple [.str "rest"]) + 7≤20; decide +kernel,by show wt (.tuple [.str "rest"]) + 2 + 0 + 5≤20; decide +kernel,by show wt (.tuple [.str "rest"]) + 2 + 0 + 5≤20; decide +kernel⟩
 | .piece i c x y,_,_=>by
  have e:wt (tlD (.piece i c x y))=11:=by
   have:wt (.str "piece")=6:=by decide +kernel
   show wt (.str "piece") + (1 + (1 + (1 + (1 + 0)))) + 1=11
   omega
  refine ⟨?_,?_,?_⟩
  ·show wt (tlD (.piece i c x y)) + 7≤20; omega
  ·show wt (tlD (.piece i c x y)) + 2 + 0 + 5≤20; omega
  ·show wt (tlD (.piece i c x y)) + 2 + 0 + 5≤20; omega
 | .cut true p l r,w,h=>by
  have h1:=(fh b l p h).2.1
  have h2:=(fh b r (w - p - b) h).2.1
  have h3:=ni true ((tel b l p h).2.1 ++ (tel b r (w - p - b) h).2.1)
  have h4:=jK (tel b l p h).2.1 (tel b r (w - p - b) h).2.1
  refine ⟨?_,?_,?_⟩
  ·show wt (tlD (.row true _)) + 7≤20 * (szT l + szT r + 1); omega
  ·show wtR (_ ++ _) + 5≤20 * (szT l + szT r + 1); omega
  ·show wt (tlD (.row true _)) + 2 + 0 + 5≤20 * (szT l + szT r + 1); omega
 | .cut false p l r,w,h=>by
  have h1:=(fh b l w p).2.2
  have h2:=(fh b r w (h - p - b)).2.2
  have h3:=ni false ((tel b l w p).2.2 ++ (tel b r w (h - p - b)).2.2)
  have h4:=jK (tel b l w p).2.2 (tel b r w (h - p - b)).2.2
  refine ⟨?_,?_,?_⟩
  ·show wt (tlD (.row false _)) + 7≤20 * (szT l + szT r + 1); omega
  ·show wt (tlD (.row false _)) + 2 + 0 + 5≤20 * (szT l + szT r + 1); omega
  ·show wtR (_ ++ _) + 5≤20 * (szT l + szT r + 1); omega
theorem dj {b:Int} {ks:List Kd} (b0:0≤b) (gk:∀k∈ks,Good k) (k8:ks.length≤8):∀ (t:Tr) {w h:Int},okU b ks w h t→0≤w→0≤h→w < 10 ^ 60→h < 10 ^ 60→Fit (tlD (tel b t w h).1)∧(∀z∈(tel b t w h).2.1,Sm z.1∧Fit (tlD z.2))∧(∀z∈(tel b t w h).2.2,Sm z.1∧Fit (tlD z.2))
 | .rest,w,h,ok,w0,h0,w6,h6=>by
  have e:(10:Int) ^ 60 < 10 ^ 61:=by decide
  have f:Fit (tlD .rest):=cn b0 gk k8 .rest ok w6 h6
  exact ⟨f,fun z hz=>by rw [List.mem_singleton.mp hz]; exact ⟨⟨w0,by show w < _; omega⟩,f⟩,fun z hz=>by rw [List.mem_singleton.mp hz]; exact ⟨⟨h0,by show h < _; omega⟩,f⟩⟩
 | .piece i c x y,w,h,ok,w0,h0,w6,h6=>by
  have e:(10:Int) ^ 60 < 10 ^ 61:=by decide
  have f:Fit (tlD (.piece i c x y)):=cn b0 gk k8 (.piece i c x y) ok w6 h6
  exact ⟨f,fun z hz=>by rw [List.mem_singleton.mp hz]; exact ⟨⟨w0,by show w < _; omega⟩,f⟩,fun z hz=>by rw [List.mem_singleton.mp hz]; exact ⟨⟨h0,by show h < _; omega⟩,f⟩⟩
 | .cut true p l r,w,h,⟨p1,hp,hl,hr⟩,w0,h0,w6,h6=>by
  have e:(10:Int) ^ 60 < 10 ^ 61:=by decide
  have h1:=(dj b0 gk k8 l hl (by omega) h0 (by omega) h6).2.1
  have h2:=(dj b0 gk k8 r hr (by omega) h0 (by omega) h6).2.1
  have all:∀z∈(tel b l p h).2.1 ++ (tel b r (w - p - b) h).2.1,Sm z.1∧Fit (tlD z.2):=fun z hz=>(List.mem_append.mp hz).elim (h1 z) (h2 z)
  have f:=jM (dn:=true) all
  exact ⟨f,all,fun z hz=>by rw [List.mem_singleton.mp hz]; exact ⟨⟨h0,by show h < _; omega⟩,f⟩⟩
 | .cut false p l r,w,h,⟨p1,hp,hl,hr⟩,w0,h0,w6,h6=>by
  have e:(10:Int) ^ 60 < 10 ^ 61:=by decide
  have h1:=(dj b0 gk k8 l hl w0 (by omega) w6 (by omega)).2.2
  have h2:=(dj b0 gk k8 r hr w0 (by omega) w6 (by omega)).2.2
  have all:∀z∈(tel b l w p).2.2 ++ (tel b r w (h - p - b)).2.2,Sm z.1∧Fit (tlD z.2):=fun z hz=>(List.mem_append.mp hz).elim (h1 z) (h2 z)
  have f:=jM (dn:=false) all
  exact ⟨f,fun z hz=>by rw [List.mem_singleton.mp hz]; exact ⟨⟨w0,by show w < _; omega⟩,f⟩,all⟩
theorem TlV.ref {H:Hp}:∀ (t:Tl) {v:V},TlV H t v→∃a,v=.ref a
 | .rest,_,h=>by rw [TlV] at h; exact ⟨_,h.choose_spec.1⟩
 | .piece ..,_,h=>by rw [TlV] at h; exact ⟨_,h.choose_spec.1⟩
 | .row ..,_,h=>by
  rw [TlV] at h
  obtain ⟨a,q,xs,e,_⟩:=h
  exact ⟨a,e⟩
theorem fS {b:Int} {ks:List Kd}:∀ (t:Tr) {w h:Int},okU b ks w h t→okT b ks w h t
 | .rest,_,_,_=>trivial
 | .piece i c x y,w,h,⟨k,hk,hm,x0,y0,hx,hy⟩=>by
  refine ⟨k,hk,?_,x0,y0,hx,hy⟩
  obtain ⟨_,k',hk',hc⟩:=iI hm
  have hk':ks[i]? = some k':=hk'
  rw [hk] at hk'
  cases hk'
  unfold jE
  rcases hc with hc | hc
  ·have hc:c=false:=hc
   rw [hc]
   split <;> simp
  ·rw [if_pos hc]
   cases c <;> simp
 | .cut true p l r,w,h,⟨p1,hp,hl,hr⟩=>⟨p1,hp,fS l hl,fS r hr⟩
 | .cut false p l r,w,h,⟨p1,hp,hl,hr⟩=>⟨p1,hp,fS l hl,fS r hr⟩
theorem iM:∀t:Tr,wt (toD t)≤11 * szT t
 | .rest=>by decide +kernel
 | .piece .. => by
  have:wt (.str "piece")=6:=by decide +kernel
  show wt (.str "piece") + (1 + (1 + (1 + (1 + 0)))) + 1≤11 * 1
  omega
 | .cut dn p l r=>by
  have h1:=iM l
  have h2:=iM r
  have h3:wt (.str (if dn=true then "down" else "across"))≤7:=by cases dn <;> decide +kernel
  show wt (.str (if dn=true then "down" else "across")) + (1 + (wt (toD l) + (wt (toD r) + 0))) + 1≤11 * (szT l + szT r + 1)
  omega
structure LX (C p t kl x:Addr) (b:Int) (ks:List Kd) (v:V) (T:Tr) (H:Hp):Prop where
 ls:LS H t b ks kl
 sh:ShopAt C H x b ks
 tv:TrV H T v
 po:PotC H p
theorem LX.same {C p t kl x:Addr} {b:Int} {ks:List Kd} {v:V} {T:Tr} {H H':Hp} (h:LX C p t kl x b ks v T H) (s:Same H H'):LX C p t kl x b ks v T H' :=
 ⟨h.ls.same s,gW s h.sh,TrV.keep (fun a xs e=>s _ _ e) T h.tv,h.po.same s⟩
theorem jN {C p s:Addr} {b':Int} {ks:List Kd} {H H':Hp} (pt:PotC H p) (b:But p H H') (h:ShopAt C H s b' ks):ShopAt C H' s b' ks:=by
 obtain ⟨_,hp⟩:=fk pt
 exact h.keep (fun x xs e=>b _ _ (fun z=>by rw [z,hp] at e; cases e) e) (fun x C' d fs e=>b _ _ (fun z=>by rw [z,hp] at e; cases e) e)
theorem LX.but {C p t kl x:Addr} {b:Int} {ks:List Kd} {v:V} {T:Tr} {H H':Hp} (h:LX C p t kl x b ks v T H) (nk:kl≠p) (pt:PotC H' p) (bb:But p H H'):LX C p t kl x b ks v T H' :=
 ⟨h.ls.but nk h.po bb,jN h.po bb h.sh,TrV.keep (fun a xs e=>dR bb h.po e) T h.tv,pt⟩
section
variable {P:Program} {w:World} {K:PySem.W.Frag} {mg:Str→Option Value} {base:Heap}
inductive spLaw (K:PySem.W.Frag) (vs:List V) (H:Hp) (Q:VK) (E_:XK):Prop
 | mk (a:Addr) (ns:List Int) (e_1:vs=[.ref a]) (e_2:SqL K H a (ns.map V.int)) (e_3:ns.length≤63) (e_4:∀H',Q (.bl true) H'):spLaw K vs H Q E_
theorem sclaw:FnScope ["_law_script","_law_k","_law_pot_here","_law_unit_here","_law_shop_here","_law_made","_law_wide","_law_high","_law_tree_here","_law_due","_law_handed","_law_kept","_law_found"] ["_law_script"] (defScope gT):=⟨rfl,rfl,rfl,by decide +kernel,rfl,by decide +kernel,by decide +kernel⟩
set_option maxHeartbeats 1000000 in
theorem ql {f C:Addr} {fd:FuncData} (F:Fun K "law" "law" gT f fd) (B:Blt mg) (DC:Dn P w K mg base "_law_cell" ["_law_script","_law_k"] 1 (iC K)) (DP:Dn P w K mg base "_law_pot" ["_law_cell_here","_law_k"] 1 (spPotC)) (DD:Dn P w K mg base "_law_take" ["_law_pot_here","_law_many"] 1 (spTake)) (DU:Dn P w K mg base "_law_unit" ["_law_pot_here"] 2 (spUnit)) (DSp:Dn P w K mg base "_law_shop" ["_law_pot_here","_law_unit_here"] 3 (spShopC)) (DSi:Dn P w K mg base "_law_side" ["_law_pot_here","_law_unit_here","_law_most"] 2 (spSideC)) (DT:Dn P w K mg base "_law_tree" ["_law_pot_here","_law_shop_here","_law_wide","_law_high","_law_deep_here","_law_room"] 14 (spTreeC 11)) (DTo:Dn P w K mg base "_law_told" ["_law_shop_here","_law_wide","_law_high","_law_tree_here"] 53 (spToldL 50)) (DLi:Dn P w K mg base "_law_lists" ["_law_pot_here","_law_thing"] 52 (spLists 50)) (DDe:Dn P w K mg base "_law_deep" ["_law_pot_here","_law_shop_here","_law_unit_here","_law_turn"] 3 (spDeep)) (DTe:Dn P w K mg base "telling_of" ["shop","wide","high","tree"] 54 (spTellO C)) (DSh:Kn P w K mg base "Shop" C ["self","blade","kinds"] 3 (iz C)):FnOk P w K mg base CX0 55 f fd ["_law_script"] (spLaw K):=by
 refine F.ok sclaw (fun vs H Q E h=>?_) (fun cdv A outer s H vs Q E hr h=>?_)
 ·obtain ⟨a,ns,rfl,_⟩:=h
  rfl
 obtain ⟨a,ns,rfl,hS,n63,q⟩:=h
 have nd:=sclaw.nd
 have hg:=hr.gd
 have hu2:=Room.units220 hr (by decide)
 refine ⟨_,(@ae _ _ _ _ _ (@cN _ _ _ _ _ _ _ _ PassesOwn.never rfl (dw rfl B.range (@aa _ _ _ _ _ (@aA _ _ _ _ _ _ _ _ _ (fu rfl) rfl B.max PyProof.Rows.boot_max (@aa _ _ _ _ _ ad (@aa _ _ _ _ _ (@aA _ _ _ _ _ _ _ _ _ (dF rfl) rfl B.min PyProof.Rows.boot_min (@aa _ _ _ _ _ ad (@aa _ _ _ _ _ (@aA _ _ _ _ _ _ _ _ _ bc rfl B.len PySem.boot_len (@aa _ _ _ _ _ (pv 0) ab rfl) (by decide) (by decide) rfl rfl) ab rfl) rfl) (by decide) (by decide) rfl rfl) ab rfl) rfl) (by decide) (by decide) rfl rfl) ab rfl)) (am (i:=1) nd rfl (Or.inl rfl)) (@ae _ _ _ _ _ (@ay _ _ 2 _ _ _ _ nd rfl (Or.inl rfl) (@ao _ _ _ _ _ _ _ _ _ _ DP (hr.mono (by decide)) rfl (@aa _ _ _ _ _ (@ao _ _ _ _ _ _ _ _ _ _ DC (hr.mono (by decide)) rfl (@aa _ _ _ _ _ (pv 0) (@aa _ _ _ _ _ (pv 1) ab rfl) rfl) (by decide) rfl rfl) (@aa _ _ _ _ _ (pv 1) ab rfl) rfl) (by decide) rfl rfl) rfl (Or.inl rfl)) (@ae _ _ _ _ _ (@ay _ _ 3 _ _ _ _ nd rfl (Or.inl rfl) (@ao _ _ _ _ _ _ _ _ _ _ DU (hr.mono (by decide)) rfl (@aa _ _ _ _ _ (pv 2) ab rfl) (by decide) rfl rfl) rfl (Or.inl rfl)) (@ae _ _ _ _ _ (@ay _ _ 4 _ _ _ _ nd rfl (Or.inl rfl) (@ao _ _ _ _ _ _ _ _ _ _ DSp (hr.mono (by decide)) rfl (@aa _ _ _ _ _ (pv 2) (@aa _ _ _ _ _ (pv 3) ab rfl) rfl) (by decide) rfl rfl) rfl (Or.inl rfl)) (@ae _ _ _ _ _ (@ay _ _ 5 _ _ _ _ nd rfl (Or.inl rfl) (tz DSh (hr.mono (by decide)) rfl (@aa _ _ _ _ _ (@ar _ _ _ _ _ _ _ ix_tup (pv 4) ad (fun _ _=>rfl)) (@aa _ _ _ _ _ (@ar _ _ _ _ _ _ _ ix_tup (pv 4) ad (fun _ _=>rfl)) ab rfl) rfl)) rfl (Or.inl rfl)) (@ae _ _ _ _ _ (hX rfl nd rfl rfl (i:=6) (j:=7) (by decide) rfl rfl (@aa _ _ _ _ _ (@ao _ _ _ _ _ _ _ _ _ _ DSi (hr.mono (by decide)) rfl (@aa _ _ _ _ _ (pv 2) (@aa _ _ _ _ _ (pv 3) (@aa _ _ _ _ _ ad ab rfl) rfl) rfl) (by decide) rfl rfl) (@aa _ _ _ _ _ (@ao _ _ _ _ _ _ _ _ _ _ DSi (hr.mono (by decide)) rfl (@aa _ _ _ _ _ (pv 2) (@aa _ _ _ _ _ (pv 3) (@aa _ _ _ _ _ ad ab rfl) rfl) rfl) (by decide) rfl rfl) ab rfl) rfl) rfl) (@ae _ _ _ _ _ (@ay _ _ 8 _ _ _ _ nd rfl (Or.inl rfl) (@ao _ _ _ _ _ _ _ _ _ _ DT (hr.mono (by decide)) rfl (@aa _ _ _ _ _ (pv 2) (@aa _ _ _ _ _ (pv 4) (@aa _ _ _ _ _ (pv 6) (@aa _ _ _ _ _ (pv 7) (@aa _ _ _ _ _ ad (@aa _ _ _ _ _ (@aH _ _ _ _ (@aa _ _ _ _ _ ad ab rfl)) ab rfl) rfl) rfl) rfl) rfl) rfl) (by decide) rfl rfl) rfl (Or.inl rfl)) (@ae _ _ _ _ _ (@aK _ _ _ _ _ _ _ _ (@aD _ _ _ _ _ _ _ _ bg (@ao _ _ _ _ _ _ _ _ _ _ DD (hr.mono (by decide)) rfl (@aa _ _ _ _ _ (pv 2) (@aa _ _ _ _ _ ad ab rfl) rfl) (by decide) rfl rfl) ad (aB _)) (@ag _ _ _ (@aZ _ _ _ _ _ _ (@ao _ _ _ _ _ _ _ _ _ _ DDe (hr.mono (by decide)) rfl (@aa _ _ _ _ _ (pv 2) (@aa _ _ _ _ _ (pv 4) (@aa _ _ _ _ _ (pv 3) (@aa _ _ _ _ _ (@ao _ _ _ _ _ _ _ _ _ _ DD (hr.mono (by decide)) rfl (@aa _ _ _ _ _ (pv 2) (@aa _ _ _ _ _ ad ab rfl) rfl) (by decide) rfl rfl) ab rfl) rfl) rfl) rfl) (by decide) rfl rfl) (aY rfl (ai (am (i:=6) nd rfl (Or.inl rfl)) (ai (am (i:=7) nd rfl (Or.inl rfl)) (ai (am (i:=8) nd rfl (Or.inl rfl)) aN)))) rfl rfl rfl)) aE) (@ae _ _ _ _ _ (@ay _ _ 9 _ _ _ _ nd rfl (Or.inl rfl) (@aA _ _ _ _ _ _ _ _ _ (bz hg hu2) rfl B.repr PyProof.Rows.boot_repr (@aa _ _ _ _ _ (@ao _ _ _ _ _ _ _ _ _ _ DTo (hr.mono (by decide)) rfl (@aa _ _ _ _ _ (pv 4) (@aa _ _ _ _ _ (pv 6) (@aa _ _ _ _ _ (pv 7) (@aa _ _ _ _ _ (pv 8) ab rfl) rfl) rfl) rfl) (by decide) rfl rfl) ab rfl) (by decide) (by decide) rfl rfl) rfl (Or.inl rfl)) (@ae _ _ _ _ _ (@ay _ _ 10 _ _ _ _ nd rfl (Or.inl rfl) (@ao _ _ _ _ _ _ _ _ _ _ DLi (hr.mono (by decide)) rfl (@aa _ _ _ _ _ (pv 2) (@aa _ _ _ _ _ (pv 8) ab rfl) rfl) (by decide) rfl rfl) rfl (Or.inl rfl)) (@ae _ _ _ _ _ (@ay _ _ 11 _ _ _ _ nd rfl (Or.inl rfl) (@aA _ _ _ _ _ _ _ _ _ (bz hg hu2) rfl B.repr PyProof.Rows.boot_repr (@aa _ _ _ _ _ (pv 10) ab rfl) (by decide) (by decide) rfl rfl) rfl (Or.inl rfl)) (@ae _ _ _ _ _ (@ay _ _ 12 _ _ _ _ nd rfl (Or.inl rfl) (@ao _ _ _ _ _ _ _ _ _ _ DTe hr rfl (@aa _ _ _ _ _ (pv 5) (@aa _ _ _ _ _ (pv 6) (@aa _ _ _ _ _ (pv 7) (@aa _ _ _ _ _ (pv 10) ab rfl) rfl) rfl) rfl) (by decide) rfl rfl) rfl (Or.inl rfl)) (@ae _ _ _ _ _ (@aK _ _ _ _ _ _ _ _ (PW.pt (bF (@aD _ _ _ _ _ _ _ _ dU (@aA _ _ _ _ _ _ _ _ _ (bz hg hu2) rfl B.repr PyProof.Rows.boot_repr (@aa _ _ _ _ _ (pv 12) ab rfl) (by decide) (by decide) rfl rfl) (pv 9) (aB _)) (bB (@aD _ _ _ _ _ _ _ _ dU (@aA _ _ _ _ _ _ _ _ _ (bz hg hu2) rfl B.repr PyProof.Rows.boot_repr (@aa _ _ _ _ _ (pv 10) ab rfl) (by decide) (by decide) rfl rfl) (pv 11) (aB _))))) (@ag _ _ _ (@au _ _ _ _ bX)) aE) (@ae _ _ _ _ _ (@aK _ _ _ _ _ _ _ _ (@aP _ _ _ (@aA _ _ _ _ _ _ _ _ _ bm rfl B.isi PyProof.Rows.boot_isinstance (@aa _ _ _ _ _ (pv 10) (@aa _ _ _ _ _ (bR (v:=.ty "list") rfl B.list PyProof.Rows.boot_list rfl) ab rfl) rfl) (by decide) (by decide) rfl rfl) (by intro _; rfl)) (@ag _ _ _ (@bp _ _ _ _ (gc PySem.F.plainAttrs_list PySem.F.slot_list_clear PySem.F.type_list_clear lY (pv 10)) rfl)) aE) (@ag _ _ _ (@aK _ _ _ _ _ _ _ _ (PW.pt (bF (@aD _ _ _ _ _ _ _ _ dU (@aA _ _ _ _ _ _ _ _ _ (bz hg hu2) rfl B.repr PyProof.Rows.boot_repr (@aa _ _ _ _ _ (pv 12) ab rfl) (by decide) (by decide) rfl rfl) (pv 9) (aB _)) (bB (@aD _ _ _ _ _ _ _ _ dU (@aA _ _ _ _ _ _ _ _ _ (bz hg hu2) rfl B.repr PyProof.Rows.boot_repr (@aa _ _ _ _ _ (@ao _ _ _ _ _ _ _ _ _ _ DTe hr rfl (@aa _ _ _ _ _ (pv 5) (@aa _ _ _ _ _ (pv 6) (@aa _ _ _ _ _ (pv 7) (@aa _ _ _ _ _ (pv 8) ab rfl) rfl) rfl) rfl) (by decide) rfl rfl) ab rfl) (by decide) (by decide) rfl rfl) (pv 9) (aB _))))) (@ag _ _ _ (@au _ _ _ _ bX)) aE))))))))))))))) (by intro _; rfl)) (@ag _ _ _ (@au _ _ _ _ bX))),?_⟩
 have sz:(10000:Nat) < sizeLine:=by decide
 have ln:(ns.map V.int).length=ns.length:=List.length_map _
 have e59:(10:Int) ^ 58 < 9 * 10 ^ 59:=by decide
 have e60:9 * (10:Int) ^ 59 < 10 ^ 60:=by decide
 refine av (fun σ' H'=>True) (fun R hR=>?_) ?_
 ·refine ⟨_,rfl,a,_,rfl,.inl hS,_,_,rfl,_,_,rfl,_,rfl,?_,?_,?_⟩
  ·rw [ln]; split <;> omega
  ·rw [ln]; split <;> omega
  generalize hn:(Int.toNat _)=n
  have n8:n≤8:=by
   rw [← hn]
   split <;> (try split) <;> omega
  refine dA (n:=n) (fun i σ H'=>∃ (v1 v2 v3 v4 v5 v6 v7 v8 v9 v10 v11 v12:Option V),σ=[some (.ref a),v1,v2,v3,v4,v5,v6,v7,v8,v9,v10,v11,v12]∧Same H H') ⟨_,_,_,_,_,_,_,_,_,_,_,_,rfl,Same.refl _⟩ ?_ (fun σ Hx _=>hR _ _ trivial)
  rintro i σ Hx hi ⟨v1,v2,v3,v4,v5,v6,v7,v8,v9,v10,v11,v12,rfl,sx⟩
  refine av (fun σ' H'=>∃p,σ'=[some (.ref a),some (.int (0 + (i:Int))),some (.ref p),v3,v4,v5,v6,v7,v8,v9,v10,v11,v12]∧Hx p=none∧PotC H' p∧But p Hx H') (fun R hR=>?_) ?_
  ·exact ⟨_,rfl,_,rfl,a,ns,_,rfl,sx.seq hS,by omega,fun c=>⟨_,rfl,c,_,rfl,by omega,by omega,fun p Hb hp ptb sb=>hR _ _ ⟨p,rfl,hp,ptb,Pc.Same.but sb⟩⟩⟩
  rintro _ H1 ⟨p,rfl,hp,pt1,b1⟩
  refine av (fun σ' H'=>∃u:Int,σ'=[some (.ref a),some (.int (0 + (i:Int))),some (.ref p),some (.int u),v4,v5,v6,v7,v8,v9,v10,v11,v12]∧1≤u∧u < 2 * 10 ^ 56∧PotC H' p∧But p Hx H') (fun R hR=>?_) ?_
  ·exact ⟨_,rfl,p,rfl,pt1,fun u H2 u1 u2 pt2 b2=>hR _ _ ⟨u,rfl,u1,u2,pt2,b1.trans b2⟩⟩
  rintro _ H2 ⟨u,rfl,u1,u2,pt2,b2⟩
  refine av (fun σ' H'=>∃ (t kl:Addr) (b:Int) (ks:List Kd),σ'=[some (.ref a),some (.int (0 + (i:Int))),some (.ref p),some (.int u),some (.ref t),v5,v6,v7,v8,v9,v10,v11,v12]∧LS H' t b ks kl∧kl≠p∧(∀k∈ks,Good k)∧1≤ks.length∧ks.length≤8∧0≤b∧b < 10 ^ 58∧PotC H' p∧But p Hx H') (fun R hR=>?_) ?_
  ·exact ⟨_,rfl,_,rfl,p,u,rfl,pt2,u1,u2,fun t kl b ks H3 ls nk _ gk k1 k8 b0 b60 pt3 b3=>hR _ _ ⟨t,kl,b,ks,rfl,ls,nk,fun k hk=>(gk k hk).1,k1,k8,b0,b60,pt3,b2.trans b3⟩⟩
  rintro _ H3 ⟨t,kl,b,ks,rfl,ls3,nk,gk,k1,kn8,b0,b58,pt3,b3⟩
  refine av (fun σ' H'=>∃x:Addr,σ'=[some (.ref a),some (.int (0 + (i:Int))),some (.ref p),some (.int u),some (.ref t),some (.ref x),v6,v7,v8,v9,v10,v11,v12]∧LS H' t b ks kl∧ShopAt C H' x b ks∧PotC H' p∧But p Hx H') (fun R hR=>?_) ?_
  ·obtain ⟨rs,q1,q2,q3⟩:=id ls3
   have rl:=Paired.length q3
   refine ⟨_,rfl,t,_,0,_,rfl,rfl,SqT.of q1,rfl,_,rfl,t,_,1,_,rfl,rfl,SqT.of q1,rfl,fun x dx hx hdx ne0=>?_⟩
   have sm:Same H3 (upd (upd H3 dx (.own x)) x (.ins C dx [])):=kG hx hdx
   refine ⟨x,dx,kl,b,rs,ks,rfl,af,b0,.inl (sm _ _ q2),Paired.mapP (Tups.keep (fun c xs e=>sm _ _ e) q3) (fun v k h=>.inl h),gk,by omega,by omega,fun Hb Sb kb=>⟨rfl,?_⟩⟩
   have sb:Same H3 Hb:=fun c o e=>kb c o (ah e hx) (sm _ _ e)
   exact hR _ _ ⟨x,rfl,ls3.same sb,Sb,pt3.same sb,fun c o n e=>sb _ _ (b3 _ _ n e)⟩
  rintro _ H4 ⟨x,rfl,ls4,sh4,pt4,b4⟩
  refine av (fun σ' H'=>∃W h1:Int,σ'=[some (.ref a),some (.int (0 + (i:Int))),some (.ref p),some (.int u),some (.ref t),some (.ref x),some (.int W),some (.int h1),v8,v9,v10,v11,v12]∧1≤W∧W < 10 ^ 58∧1≤h1∧h1 < 10 ^ 58∧LS H' t b ks kl∧ShopAt C H' x b ks∧PotC H' p∧But p Hx H') (fun R hR=>?_) ?_
  ·exact ⟨_,rfl,_,rfl,p,u,40,rfl,pt4,u1,u2,by decide,by decide,fun W H5 w0 w58 pt5 b5=>⟨_,rfl,_,rfl,p,u,40,rfl,pt5,u1,u2,by decide,by decide,fun h1 H6 h0 h58 pt6 b6=>⟨_,_,rfl,hR _ _ ⟨W,h1,rfl,w0,w58,h0,h58,(ls4.but nk pt4 b5).but nk pt5 b6,jN pt5 b6 (jN pt4 b5 sh4),pt6,b4.trans (b5.trans b6)⟩⟩⟩⟩
  clear b1 pt1 b2 pt2 b3 pt3 ls3 b4 pt4 ls4 sh4
  clear H1 H2 H3 H4
  rintro _ H5 ⟨W,h1,rfl,w0,w58,h0,h58,ls5,sh5,pt5,b5⟩
  refine av (fun σ' H'=>∃ (v:V) (T:Tr),σ'=[some (.ref a),some (.int (0 + (i:Int))),some (.ref p),some (.int u),some (.ref t),some (.ref x),some (.int W),some (.int h1),some v,v9,v10,v11,v12]∧okU b ks W h1 T∧lvN T≤31∧LX C p t kl x b ks v T H'∧But p Hx H') (fun R hR=>?_) ?_
  ·refine ⟨_,rfl,_,rfl,_,rfl,_,rfl,(by show 1≤sizeLine; decide),fun rm hrm=>?_⟩
   obtain ⟨H7,e7,k7,n7,s7,b7,pt7⟩:=bP (o:=.lst [.int 30]) b5 pt5 hrm
   rw [show upd H5 rm _=H7 from e7]
   have ls7:=ls5.same s7
   obtain ⟨rs,q1,q2,q3⟩:=id ls5
   have nkr:kl≠rm:=ah q2 hrm
   refine ⟨p,t,kl,rm,b,W,h1,30,ks,10,rfl,pt7,ls7,nk,nkr,n7,kn8,gk,b0,by omega,by omega,k7,by decide,by decide,fun v T r' H8 tv ok r0 ln dp hrm8 pt8 b78=>?_⟩
   obtain ⟨_,hp7⟩:=fk pt7
   have tk:∀c xs,H7 c=some (.tup xs)→H8 c=some (.tup xs):=fun c xs e=>b78 _ _ (fun z=>by rw [z,hp7] at e; cases e) (fun z=>by rw [z,k7] at e; cases e) e
   have ls8:=ls7.keep2 hp7 k7 nk nkr b78
   have sh8:ShopAt C H8 x b ks:=(gW s7 sh5).keep (fun c xs e=>tk _ _ e) (fun c C' d fs e=>b78 _ _ (fun z=>by rw [z,hp7] at e; cases e) (fun z=>by rw [z,k7] at e; cases e) e)
   have b08:But p Hx H8:=fun c o n e=>b78 _ _ n (ah (b5 _ _ n e) hrm) (b7 _ _ n e)
   exact hR _ _ ⟨v,T,rfl,ok,by omega,⟨ls8,sh8,tv,pt8⟩,b08⟩
  clear b5 pt5 ls5 sh5
  clear H5
  rintro _ H5 ⟨v0,T0,rfl,ok0,l31,lx5,b5⟩
  refine av (fun σ' H'=>∃ (W h1:Int) (v:V) (T:Tr),σ'=[some (.ref a),some (.int (0 + (i:Int))),some (.ref p),some (.int u),some (.ref t),some (.ref x),some (.int W),some (.int h1),some v,v9,v10,v11,v12]∧1≤W∧W < 9 * 10 ^ 59∧1≤h1∧h1 < 9 * 10 ^ 59∧okU b ks W h1 T∧lvN T≤45∧LX C p t kl x b ks v T H'∧But p Hx H') (fun R hR=>?_) ?_
  ·refine ⟨_,rfl,p,4,rfl,lx5.po,by decide,by decide,fun z H6 z0 z1 pt6 b6=>⟨rfl,_,rfl,?_⟩⟩
   have lx6:=lx5.but nk pt6 b6
   refine bW (fun c=>?_) (fun c=>hR _ _ ⟨W,h1,v0,T0,rfl,w0,by omega,h0,by omega,ok0,by omega,lx6,b5.trans b6⟩)
   refine ⟨_,rfl,_,rfl,_,rfl,_,rfl,p,4,rfl,pt6,by decide,by decide,fun tn H7 tn0 tn4 pt7 b7=>?_⟩
   have lx7:=lx6.but nk pt7 b7
   exact ⟨p,t,kl,b,u,tn,ks,rfl,pt7,lx7.ls,nk,kn8,gk,b0,b58,u1,u2,tn0,tn4,fun r W' h' v T H8 hr tv ok w0' h0' w59 h59 ln pt8 b8=>⟨r,_,rfl,SqT.of hr,rfl,_,_,rfl,_,_,rfl,_,_,rfl,rfl,hR _ _ ⟨W',h',v,T,rfl,w0',w59,h0',h59,ok,ln,⟨lx7.ls.but nk lx7.po b8,jN lx7.po b8 lx7.sh,tv,pt8⟩,b5.trans (b6.trans (b7.trans b8))⟩⟩⟩
  clear b5 lx5 ok0 l31 w0 w58 h0 h58
  clear H5 W h1
  clear v0 T0
  rintro _ H5 ⟨W,h1,v,T,rfl,w0,w59,h0,h59,okT,l45,lx5,b5⟩
  have dl:=dS T
  have szt:=di T
  have ftd:Fit (toD T):=cn b0 gk kn8 T okT (by omega) (by omega)
  have ftl:Fit (tlD (bE b T W h1)):=(dj b0 gk kn8 T okT (by omega) (by omega) (by omega) (by omega)).1
  have wtl:wt (tlD (bE b T W h1)) + 7≤20 * szT T:=(fh b T W h1).1
  have wtd:=iM T
  have dpl:(tlD (bE b T W h1)).depth≤200:=by
   have:(tlD (bE b T W h1)).depth≤3 * dT T + 1:=(bK b T W h1).1
   omega
  have dpd:=(gw T).2
  obtain ⟨q1,q2,q3⟩:=ftl.ok (by omega)
  refine av (fun σ' H'=>σ'=[some (.ref a),some (.int (0 + (i:Int))),some (.ref p),some (.int u),some (.ref t),some (.ref x),some (.int W),some (.int h1),some v,some (.str (tlD (bE b T W h1)).shown),v10,v11,v12]∧LX C p t kl x b ks v T H'∧But p Hx H') (fun R hR=>?_) ?_
  ·refine ⟨_,rfl,_,rfl,_,rfl,_,rfl,t,kl,b,W,h1,ks,v,T,rfl,lx5.ls,lx5.tv,by omega,by omega,fun uu H6 tl s6=>?_⟩
   obtain ⟨ua,rfl⟩:=TlV.ref _ tl
   exact ⟨ua,_,rfl,TlV.dat _ tl,q1,q2,dpl,q3,hR _ _ ⟨rfl,lx5.same s6,fun c o n e=>s6 _ _ (b5 _ _ n e)⟩⟩
  clear lx5 b5
  clear H5
  rintro _ H5 ⟨rfl,lx5,b5⟩
  refine av (fun σ' H'=>∃ (ha:Addr) (d':PyData) (Hb:Hp),σ'=[some (.ref a),some (.int (0 + (i:Int))),some (.ref p),some (.int u),some (.ref t),some (.ref x),some (.int W),some (.int h1),some v,some (.str (tlD (bE b T W h1)).shown),some (.ref ha),v11,v12]∧Dt p H' (.ref ha) d'∧Lsd (toD T) d'∧((V.ref ha=v∧d'=toD T)∨∃xs,Hb ha=none∧H' ha=some (.lst xs))∧LX C p t kl x b ks v T Hb∧LX C p t kl x b ks v T H'∧But p Hx Hb∧But p Hb H') (fun R hR=>?_) ?_
  ·refine ⟨_,rfl,_,rfl,p,v,toD T,rfl,lx5.po,TrV.dt T lx5.tv,by omega,by omega,fun v' d' H6 dv ld al pt6 b6=>?_⟩
   obtain ⟨ys,er⟩:=TrD.head (Lsd.tree T ld)
   obtain ⟨ha,xs,rfl,_,_⟩:=dv.head er
   refine hR _ _ ⟨ha,d',H5,rfl,dv,ld,?_,lx5,lx5.but nk pt6 b6,b5,b6⟩
   rcases al with al | ⟨a1,xs',e1,e2,e3⟩
   ·exact .inl al
   ·cases e1
    exact .inr ⟨xs',e2,e3⟩
  clear lx5 b5
  clear H5
  rintro _ H5 ⟨ha,d',Hb,rfl,dv,ld,al,lxb,lx5,bb,b5⟩
  have fd':=ld.fit ftd
  have wd':=ld.wt
  have dd':=ld.depth
  obtain ⟨g1,g2,g3⟩:=fd'.ok (by omega)
  have hp5:=fk lx5.po
  refine av (fun σ' H'=>σ'=[some (.ref a),some (.int (0 + (i:Int))),some (.ref p),some (.int u),some (.ref t),some (.ref x),some (.int W),some (.int h1),some v,some (.str (tlD (bE b T W h1)).shown),some (.ref ha),some (.str d'.shown),v12]∧H5=H') (fun R hR=>?_) ?_
  ·exact ⟨_,rfl,ha,d',rfl,dv.datF fd',g1,g2,by omega,g3,hR _ _ ⟨rfl,rfl⟩⟩
  rintro _ _ ⟨rfl,rfl⟩
  refine av (fun σ' H'=>∃fa:Addr,σ'=[some (.ref a),some (.int (0 + (i:Int))),some (.ref p),some (.int u),some (.ref t),some (.ref x),some (.int W),some (.int h1),some v,some (.str (tlD (bE b T W h1)).shown),some (.ref ha),some (.str d'.shown),some (.ref fa)]∧TlV H' (bE b T W h1) (.ref fa)∧Same H5 H') (fun R hR=>?_) ?_
  ·refine ⟨_,rfl,_,rfl,_,rfl,_,rfl,p,x,b,W,h1,ks,.ref ha,d',T,rfl,lx5.sh,w0,h0,dv,by omega,Lsd.tree T ld,fS T okT,by omega,by omega,fun uu H6 tl s6=>?_⟩
   obtain ⟨fa,rfl⟩:=TlV.ref _ tl
   exact hR _ _ ⟨fa,rfl,tl,s6⟩
  rintro _ H6 ⟨fa,rfl,tl6,s56⟩
  have lx6:=lx5.same s56
  have dv6:=dv.same s56
  refine av (fun σ' H'=>σ'=[some (.ref a),some (.int (0 + (i:Int))),some (.ref p),some (.int u),some (.ref t),some (.ref x),some (.int W),some (.int h1),some v,some (.str (tlD (bE b T W h1)).shown),some (.ref ha),some (.str d'.shown),some (.ref fa)]∧H6=H') (fun R hR=>?_) ?_
  ·refine ⟨_,rfl,fa,_,rfl,TlV.dat _ tl6,q1,q2,dpl,q3,_,rfl,rfl,_,rfl,?_⟩
   rw [show (!decide (V.str (tlD (bE b T W h1)).shown=V.str (tlD (bE b T W h1)).shown))=false by rw [decide_eq_true rfl]; rfl]
   refine aM ⟨_,rfl,ha,d',rfl,dv6.datF fd',g1,g2,by omega,g3,_,rfl,rfl,_,rfl,?_⟩
   rw [show (!decide (V.str d'.shown=V.str d'.shown))=false by rw [decide_eq_true rfl]; rfl]
   exact aM (hR _ _ ⟨rfl,rfl⟩)
  rintro _ _ ⟨rfl,rfl⟩
  refine av (fun σ' H'=>σ'=[some (.ref a),some (.int (0 + (i:Int))),some (.ref p),some (.int u),some (.ref t),some (.ref x),some (.int W),some (.int h1),some v,some (.str (tlD (bE b T W h1)).shown),some (.ref ha),some (.str d'.shown),some (.ref fa)]∧TlV H' (bE b T W h1) (.ref fa)∧LX C p t kl x b ks v T H'∧But p Hb H') (fun R hR=>?_) ?_
  ·have b6:But p Hb H6:=fun c o n e=>s56 _ _ (b5 _ _ n e)
   rcases al with ⟨e1,e2⟩ | ⟨xs,e1,e2⟩
   ·obtain ⟨a',xs,e3,hx⟩:=TrV.head T lx6.tv
    rw [← e1] at e3
    cases e3
    exact ⟨_,rfl,_,_,_,_,_,rfl,(Ty.tup hx (K:=K)).2,rfl,eU "tuple" (by simp [az]),_,rfl,aM (hR _ _ ⟨rfl,tl6,lx6,b6⟩)⟩
   ·have h6:=s56 _ _ e2
    refine ⟨_,rfl,_,_,_,_,_,rfl,(Ty.lst h6 (K:=K)).2,rfl,eU "list" (by simp [az]),_,rfl,aI ⟨_,rfl,.inl ⟨rfl,_,SqL.of h6⟩,ha,_,rfl,rfl,h6,?_⟩⟩
    have bu:But ha H6 (upd H6 ha (.lst [])):=fun c o n e=>by rw [aj n]; exact e
    have kt:∀c ys,H6 c=some (.tup ys)→(upd H6 ha (.lst [])) c=some (.tup ys):=fun c ys e=>bu _ _ (fun z=>by rw [z,h6] at e; cases e) e
    have np:p≠ha:=fun z=>lxb.po.some (z ▸ e1)
    obtain ⟨rs,l1,l2,l3⟩:=id lx6.ls
    obtain ⟨_,_,lb2,_⟩:=id lxb.ls
    have nkh:kl≠ha:=ah lb2 e1
    refine hR _ _ ⟨rfl,TlV.keep kt _ tl6,⟨⟨rs,kt _ _ l1,bu _ _ nkh l2,Tups.keep kt l3⟩,lx6.sh.keep kt (fun c C' d fs e=>bu _ _ (fun z=>by rw [z,h6] at e; cases e) e),TrV.keep kt T lx6.tv,?_⟩,fun c o n e=>bu _ _ (ah e e1) (b6 _ _ n e)⟩
    obtain ⟨a1,a2,a3,a4,a5,a6⟩:=lx6.po
    exact ⟨a1,a2,a3,a4,a5,bu _ _ np a6⟩
  rintro _ H7 ⟨rfl,tl7,lx7,b7⟩
  refine ⟨_,rfl,fa,_,rfl,TlV.dat _ tl7,q1,q2,dpl,q3,_,rfl,rfl,_,rfl,?_⟩
  rw [show (!decide (V.str (tlD (bE b T W h1)).shown=V.str (tlD (bE b T W h1)).shown))=false by rw [decide_eq_true rfl]; rfl]
  refine aM ⟨_,rfl,_,rfl,_,rfl,_,rfl,p,x,b,W,h1,ks,v,toD T,T,rfl,lx7.sh,w0,h0,TrV.dt T lx7.tv,by omega,TrD.to T,fS T okT,by omega,by omega,fun uu H8 tl s8=>?_⟩
  obtain ⟨ua,rfl⟩:=TlV.ref _ tl
  refine ⟨ua,_,rfl,TlV.dat _ tl,q1,q2,dpl,q3,_,rfl,rfl,_,rfl,?_⟩
  rw [show (!decide (V.str (tlD (bE b T W h1)).shown=V.str (tlD (bE b T W h1)).shown))=false by rw [decide_eq_true rfl]; rfl]
  exact aM ⟨_,_,_,_,_,_,_,_,_,_,_,_,rfl,fun c o e=>s8 _ _ (b7 _ _ (ah (sx _ _ e) hp) (bb _ _ (ah (sx _ _ e) hp) (sx _ _ e)))⟩
 rintro _ H1 _
 exact q H1
end
theorem zI {α:Type} {us:List α} (h:us.length=1):∃a,us=[a]:=by
 match us,h with
 | [a],_=>exact ⟨a,rfl⟩
theorem qm {α:Type} {us:List α} (h:us.length=2):∃a b,us=[a,b]:=by
 match us,h with
 | [a,b],_=>exact ⟨a,b,rfl⟩
theorem qo {α:Type} {us:List α} (h:us.length=3):∃a b c,us=[a,b,c]:=by
 match us,h with
 | [a,b,c],_=>exact ⟨a,b,c,rfl⟩
theorem zJ {α:Type} {us:List α} (h:us.length=4):∃a b c d,us=[a,b,c,d]:=by
 match us,h with
 | [a,b,c,d],_=>exact ⟨a,b,c,d,rfl⟩
theorem zK {α:Type} {us:List α} (h:us.length=5):∃a b c d e,us=[a,b,c,d,e]:=by
 match us,h with
 | [a,b,c,d,e],_=>exact ⟨a,b,c,d,e,rfl⟩
abbrev DI (K:PySem.W.Frag) (n:Str) (st:Stmt) (f:Addr):Prop:=∃ (od an:Option Addr) (sl:Array (Option Value)) (oc kV dc pm cd ct:Value),PySem.W.nsIn K mainGlobals n=some (some (.ref f))∧K.lookup f=some ⟨oc,od,.func (PySem.W.fnOf n n (defArgs st) (defBody st) (defScope st) .none kV dc pm an cd ct),sl⟩∧PySem.W.codeIn K cd n=true∧PySem.W.keepIn K (.ref f)=true
abbrev MI (K:PySem.W.Frag) (C:Addr) (n q:Str) (st:Stmt) (f:Addr):Prop:=∃ (od an:Option Addr) (sl:Array (Option Value)) (oc kV dc pm cd ct:Value),PySem.W.findIn K (.ref C) n=some (some (.ref f))∧PySem.W.isFn K (.ref f)=true∧K.lookup f=some ⟨oc,od,.func (PySem.W.fnOf n q (defArgs st) (defBody st) (defScope st) .none kV dc pm an cd ct),sl⟩∧PySem.W.codeIn K cd q=true∧PySem.W.keepIn K (.ref f)=true
theorem diM {K:PySem.W.Frag} {n:Str} {st:Stmt} {f:Addr} {od an:Option Addr} {sl:Array (Option Value)} {oc kV dc pm cd ct:Value} (a:PySem.W.nsIn K mainGlobals n=some (some (.ref f))) (l:K.lookup f=some ⟨oc,od,.func (PySem.W.fnOf n n (defArgs st) (defBody st) (defScope st) .none kV dc pm an cd ct),sl⟩) (c:PySem.W.codeIn K cd n=true) (k:PySem.W.keepIn K (.ref f)=true):DI K n st f:=⟨_,_,_,_,_,_,_,_,_,a,l,c,k⟩
theorem miM {K:PySem.W.Frag} {C:Addr} {n q:Str} {st:Stmt} {f:Addr} {od an:Option Addr} {sl:Array (Option Value)} {oc kV dc pm cd ct:Value} (a:PySem.W.findIn K (.ref C) n=some (some (.ref f))) (i:PySem.W.isFn K (.ref f)=true) (l:K.lookup f=some ⟨oc,od,.func (PySem.W.fnOf n q (defArgs st) (defBody st) (defScope st) .none kV dc pm an cd ct),sl⟩) (c:PySem.W.codeIn K cd q=true) (k:PySem.W.keepIn K (.ref f)=true):MI K C n q st f:=⟨_,_,_,_,_,_,_,_,_,a,i,l,c,k⟩
inductive DE (K:PySem.W.Frag) (mg:Str→Option Value) (n:Str) (st:Stmt) (f:Addr) (ps:List Str):Prop
 | mk (fd:FuncData) (F:Fun K n n st f fd) (b:Binds K fd ps []) (k:PySem.W.keepIn K (.ref f)=true) (q:mg n=some (.ref f)):DE K mg n st f ps
theorem diE {K:PySem.W.Frag} {h:Heap} {mg:Str→Option Value} {n:Str} {st:Stmt} {f:Addr} (X:K.In h) (G:h.Ns mainGlobals mg) (d:DI K n st f) (ps:List Str) (hb:∀ (kV dc pm:Value) (an:Option Addr) (cd ct:Value) (us:List Value),us.length=ps.length→bindArgs (PySem.W.fnOf n n (defArgs st) (defBody st) (defScope st) .none kV dc pm an cd ct) ⟨us,[]⟩=pure (ps.zip us)):DE K mg n st f ps:=by
 obtain ⟨_,_,_,_,_,_,_,_,_,a,l,c,k⟩:=d
 have F:=iu (st:=st) l c k
 exact ⟨_,F,F.binds hb,k,PySem.W.mg_of X G a⟩
inductive ME (K:PySem.W.Frag) (C:Addr) (n q:Str) (st:Stmt) (f:Addr) (ps:List Str):Prop
 | mk (fd:FuncData) (F:Fun K n q st f fd) (b:Binds K fd ps []) (k:PySem.W.keepIn K (.ref f)=true) (a:PySem.W.findIn K (.ref C) n=some (some (.ref f))) (i:PySem.W.isFn K (.ref f)=true):ME K C n q st f ps
theorem miE {K:PySem.W.Frag} {C:Addr} {n q:Str} {st:Stmt} {f:Addr} (d:MI K C n q st f) (ps:List Str) (hb:∀ (kV dc pm:Value) (an:Option Addr) (cd ct:Value) (us:List Value),us.length=ps.length→bindArgs (PySem.W.fnOf n q (defArgs st) (defBody st) (defScope st) .none kV dc pm an cd ct) ⟨us,[]⟩=pure (ps.zip us)):ME K C n q st f ps:=by
 obtain ⟨_,_,_,_,_,_,_,_,_,a,i,l,c,k⟩:=d
 have F:=iu (st:=st) l c k
 exact ⟨_,F,F.binds hb,k,a,i⟩
theorem bd1 {n q:Str} {st:Stmt} {a:Str} (h:∀ (kV dc pm:Value) (an:Option Addr) (cd ct ua:Value),bindArgs (PySem.W.fnOf n q (defArgs st) (defBody st) (defScope st) .none kV dc pm an cd ct) ⟨[ua],[]⟩=pure [(a,ua)]):∀ (kV dc pm:Value) (an:Option Addr) (cd ct:Value) (us:List Value),us.length=[a].length→bindArgs (PySem.W.fnOf n q (defArgs st) (defBody st) (defScope st) .none kV dc pm an cd ct) ⟨us,[]⟩=pure ([a].zip us):=by
 intro _ _ _ _ _ _ us hl
 obtain ⟨_,rfl⟩:=zI hl
 exact h _ _ _ _ _ _ _
theorem bd2 {n q:Str} {st:Stmt} {a b:Str} (h:∀ (kV dc pm:Value) (an:Option Addr) (cd ct ua ub:Value),bindArgs (PySem.W.fnOf n q (defArgs st) (defBody st) (defScope st) .none kV dc pm an cd ct) ⟨[ua,ub],[]⟩=pure [(a,ua),(b,ub)]):∀ (kV dc pm:Value) (an:Option Addr) (cd ct:Value) (us:List Value),us.length=[a,b].length→bindArgs (PySem.W.fnOf n q (defArgs st) (defBody st) (defScope st) .none kV dc pm an cd ct) ⟨us,[]⟩=pure ([a,b].zip us):=by
 intro _ _ _ _ _ _ us hl
 obtain ⟨_,_,rfl⟩:=qm hl
 exact h _ _ _ _ _ _ _ _
theorem bd3 {n q:Str} {st:Stmt} {a b c:Str} (h:∀ (kV dc pm:Value) (an:Option Addr) (cd ct ua ub uc:Value),bindArgs (PySem.W.fnOf n q (defArgs st) (defBody st) (defScope st) .none kV dc pm an cd ct) ⟨[ua,ub,uc],[]⟩=pure [(a,ua),(b,ub),(c,uc)]):∀ (kV dc pm:Value) (an:Option Addr) (cd ct:Value) (us:List Value),us.length=[a,b,c].length→bindArgs (PySem.W.fnOf n q (defArgs st) (defBody st) (defScope st) .none kV dc pm an cd ct) ⟨us,[]⟩=pure ([a,b,c].zip us):=by
 intro _ _ _ _ _ _ us hl
 obtain ⟨_,_,_,rfl⟩:=qo hl
 exact h _ _ _ _ _ _ _ _ _
theorem bd4 {n q:Str} {st:Stmt} {a b c d:Str} (h:∀ (kV dc pm:Value) (an:Option Addr) (cd ct ua ub uc ud:Value),bindArgs (PySem.W.fnOf n q (defArgs st) (defBody st) (defScope st) .none kV dc pm an cd ct) ⟨[ua,ub,uc,ud],[]⟩=pure [(a,ua),(b,ub),(c,uc),(d,ud)]):∀ (kV dc pm:Value) (an:Option Addr) (cd ct:Value) (us:List Value),us.length=[a,b,c,d].length→bindArgs (PySem.W.fnOf n q (defArgs st) (defBody st) (defScope st) .none kV dc pm an cd ct) ⟨us,[]⟩=pure ([a,b,c,d].zip us):=by
 intro _ _ _ _ _ _ us hl
 obtain ⟨_,_,_,_,rfl⟩:=zJ hl
 exact h _ _ _ _ _ _ _ _ _ _
theorem bd5 {n q:Str} {st:Stmt} {a b c d e:Str} (h:∀ (kV dc pm:Value) (an:Option Addr) (cd ct ua ub uc ud ue:Value),bindArgs (PySem.W.fnOf n q (defArgs st) (defBody st) (defScope st) .none kV dc pm an cd ct) ⟨[ua,ub,uc,ud,ue],[]⟩=pure [(a,ua),(b,ub),(c,uc),(d,ud),(e,ue)]):∀ (kV dc pm:Value) (an:Option Addr) (cd ct:Value) (us:List Value),us.length=[a,b,c,d,e].length→bindArgs (PySem.W.fnOf n q (defArgs st) (defBody st) (defScope st) .none kV dc pm an cd ct) ⟨us,[]⟩=pure ([a,b,c,d,e].zip us):=by
 intro _ _ _ _ _ _ us hl
 obtain ⟨_,_,_,_,_,rfl⟩:=zK hl
 exact h _ _ _ _ _ _ _ _ _ _ _
theorem lx6 {α:Type} {us:List α} (h:us.length=6):∃a b c d e f,us=[a,b,c,d,e,f]:=by
 match us,h with
 | [a,b,c,d,e,f],_=>exact ⟨a,b,c,d,e,f,rfl⟩
theorem bd6 {n q:Str} {st:Stmt} {a b c d e f:Str} (h:∀ (kV dc pm:Value) (an:Option Addr) (cd ct ua ub uc ud ue uf:Value),bindArgs (PySem.W.fnOf n q (defArgs st) (defBody st) (defScope st) .none kV dc pm an cd ct) ⟨[ua,ub,uc,ud,ue,uf],[]⟩=pure [(a,ua),(b,ub),(c,uc),(d,ud),(e,ue),(f,uf)]):∀ (kV dc pm:Value) (an:Option Addr) (cd ct:Value) (us:List Value),us.length=[a,b,c,d,e,f].length→bindArgs (PySem.W.fnOf n q (defArgs st) (defBody st) (defScope st) .none kV dc pm an cd ct) ⟨us,[]⟩=pure ([a,b,c,d,e,f].zip us):=by
 intro _ _ _ _ _ _ us hl
 obtain ⟨_,_,_,_,_,_,rfl⟩:=lx6 hl
 exact h _ _ _ _ _ _ _ _ _ _ _ _
theorem lx7 {α:Type} {us:List α} (h:us.length=7):∃a b c d e f g,us=[a,b,c,d,e,f,g]:=by
 match us,h with
 | [a,b,c,d,e,f,g],_=>exact ⟨a,b,c,d,e,f,g,rfl⟩
theorem bd7 {n q:Str} {st:Stmt} {a b c d e f g:Str} (h:∀ (kV dc pm:Value) (an:Option Addr) (cd ct ua ub uc ud ue uf ug:Value),bindArgs (PySem.W.fnOf n q (defArgs st) (defBody st) (defScope st) .none kV dc pm an cd ct) ⟨[ua,ub,uc,ud,ue,uf,ug],[]⟩=pure [(a,ua),(b,ub),(c,uc),(d,ud),(e,ue),(f,uf),(g,ug)]):∀ (kV dc pm:Value) (an:Option Addr) (cd ct:Value) (us:List Value),us.length=[a,b,c,d,e,f,g].length→bindArgs (PySem.W.fnOf n q (defArgs st) (defBody st) (defScope st) .none kV dc pm an cd ct) ⟨us,[]⟩=pure ([a,b,c,d,e,f,g].zip us):=by
 intro _ _ _ _ _ _ us hl
 obtain ⟨_,_,_,_,_,_,_,rfl⟩:=lx7 hl
 exact h _ _ _ _ _ _ _ _ _ _ _ _ _
theorem Bb {α:Type} {us:List α} (h:us.length=6):∃a b c d e f,us=[a,b,c,d,e,f]:=by
 match us,h with
 | [a,b,c,d,e,f],_=>exact ⟨a,b,c,d,e,f,rfl⟩
theorem Bc {α:Type} {us:List α} (h:us.length=7):∃a b c d e f g,us=[a,b,c,d,e,f,g]:=by
 match us,h with
 | [a,b,c,d,e,f,g],_=>exact ⟨a,b,c,d,e,f,g,rfl⟩
set_option maxHeartbeats 1000000 in
open PySem.W in
theorem all_mk {l:OpenLaw} {w:World} {K:Frag} {h:Heap} {mg:Str→Option Value} {fa f0 f1 f2 f3 f4 f5 f6 f7 f8 f9 f10 f11 f12 f13 f14 f15 f16 f17 f18 f19 f20 f21 f22 f23 f24 f25 f26 f27 f28 f29 f30 f31 f32 C fm0 fm1 fm2 fm3 xWAYS:Addr} (X:K.In h) (G:h.Ns mainGlobals mg) (hfa:mg "law" = some (.ref fa))
  {tc0:Tok} {tc1:Tok} {tc2:Tok} {tc3:Tok} {tc4:Tok} {tc5:Tok} {tc6:Tok} {tc7:Tok}
  (d0:DI K "is_whole" gn f0)
  (d1:DI K "is_truth" gp f1)
  (d2:DI K "is_row" oq f2)
  (d3:DI K "is_kind" eF f3)
  (d4:DI K "can_lie_turned" eG f4)
  (d5:DI K "check_plate" bT f5)
  (d6:DI K "lies_in" eC f6)
  (d7:DI K "cut_parts" cF f7)
  (d8:DI K "begins_with" bU f8)
  (d9:DI K "is_cut" gq f9)
  (d10:DI K "is_leaf" eD f10)
  (d11:DI K "spots_behind" bG f11)
  (d12:DI K "is_tree" eE f12)
  (d13:DI K "check_tree" cf f13)
  (d14:DI K "side_along" cg f14)
  (d15:DI K "telling_of_part" aW f15)
  (d16:DI K "telling_of" ci f16)
  (d17:DI K "_law_cell" jv f17)
  (d18:DI K "_law_pot" ot f18)
  (d19:DI K "_law_take" jw f19)
  (d20:DI K "_law_unit" jx f20)
  (d21:DI K "_law_side" jy f21)
  (d22:DI K "_law_worth" gs f22)
  (d23:DI K "_law_shop" jz f23)
  (d24:DI K "_law_sides" gt f24)
  (d25:DI K "_law_lyings" eH f25)
  (d26:DI K "_law_behind" eI f26)
  (d27:DI K "_law_leaf" jA f27)
  (d28:DI K "_law_tree" fJ f28)
  (d29:DI K "_law_told" fK f29)
  (d30:DI K "_law_lists" cT f30)
  (d31:DI K "_law_deep" jB f31)
  (d32:DI K "law" gT f32)
  (aC:nsIn K mainGlobals "Shop" = some (some (.ref C)))
  (dm0:MI K C "__init__" "Shop.__init__" ca fm0)
  (dm1:MI K C "blade" "Shop.blade" cj fm1)
  (dm2:MI K C "is_lying" "Shop.is_lying" bH fm2)
  (dm3:MI K C "sides" "Shop.sides" ck fm3)
  (pg:plainGet K C Str.empty=true)
  (hd:hasDictIn K C=true)
  (po:plainOver K C=true)
  (sa:findIn K (.ref C) "__setattr__" = some (some (.builtin "object.__setattr__")))
  (mk:makesIn K C=true)
  (kc:keepIn K (.ref C)=true)
  (n0:findIn K (.ref C) "blade_width" = some none)
  (n1:findIn K (.ref C) "kind_rows" = some none)
  (eWAYS:nsIn K mainGlobals "WAYS" = some (some (.ref xWAYS)))
  (lWAYS:∃ (o:Obj) (its:Array Value) (n:Nat),K.lookup xWAYS=some o∧o.cls=.type "tuple" ∧ o.data=.seq its n∧its.size≤sizeLine∧Vals [.str "down",.str "across"] its.toList)
  (z0:nsIn K mainGlobals "isinstance" = some none)
  (z1:nsIn K mainGlobals "int" = some none)
  (z2:nsIn K mainGlobals "bool" = some none)
  (z3:nsIn K mainGlobals "list" = some none)
  (z4:nsIn K mainGlobals "tuple" = some none)
  (z5:nsIn K mainGlobals "len" = some none)
  (z6:nsIn K mainGlobals "range" = some none)
  (z7:nsIn K mainGlobals "max" = some none)
  (z8:nsIn K mainGlobals "min" = some none)
  (z9:nsIn K mainGlobals "abs" = some none)
  (z10:nsIn K mainGlobals "divmod" = some none)
  (z11:nsIn K mainGlobals "sum" = some none)
  (z12:nsIn K mainGlobals "sorted" = some none)
  (z13:nsIn K mainGlobals "all" = some none)
  (z14:nsIn K mainGlobals "repr" = some none)
  (z15:nsIn K mainGlobals "zip" = some none)
  (z16:nsIn K mainGlobals "enumerate" = some none)
  (z17:nsIn K mainGlobals "str" = some none)
  (uc0:nsIn K mainGlobals "MOST_KINDS" = some (some (.int 8 tc0)))
  (uc1:nsIn K mainGlobals "THINGS_OF_A_KIND" = some (some (.int 5 tc1)))
  (uc2:nsIn K mainGlobals "DOWN" = some (some (.str "down" tc2)))
  (uc3:nsIn K mainGlobals "REST" = some (some (.str "rest" tc3)))
  (uc4:nsIn K mainGlobals "PIECE" = some (some (.str "piece" tc4)))
  (uc5:nsIn K mainGlobals "THINGS_OF_A_REST" = some (some (.int 1 tc5)))
  (uc6:nsIn K mainGlobals "THINGS_OF_A_PIECE" = some (some (.int 5 tc6)))
  (uc7:nsIn K mainGlobals "THINGS_OF_A_CUT" = some (some (.int 4 tc7))) :
  ∃fd:FuncData,(∀ (s:Shared) (v:Value),BindsTo s fd ⟨[v],[]⟩ [("_law_script",v)])∧∀base:Heap,K.In base→base.Ns mainGlobals mg→FnOk l.prog w K mg base CX0 55 fa fd ["_law_script"] (spLaw K):=by
 obtain ⟨_,F0,b0,k0,q0⟩:=diE X G d0 ["thing","least"] (bd2 fun _ _ _ _ _ _ _ _=>rfl)
 obtain ⟨_,F1,b1,k1,q1⟩:=diE X G d1 ["thing"] (bd1 fun _ _ _ _ _ _ _=>rfl)
 obtain ⟨_,F2,b2,k2,q2⟩:=diE X G d2 ["thing"] (bd1 fun _ _ _ _ _ _ _=>rfl)
 obtain ⟨_,F3,b3,k3,q3⟩:=diE X G d3 ["thing"] (bd1 fun _ _ _ _ _ _ _=>rfl)
 obtain ⟨_,F4,b4,k4,q4⟩:=diE X G d4 ["kind"] (bd1 fun _ _ _ _ _ _ _=>rfl)
 obtain ⟨_,F5,b5,k5,q5⟩:=diE X G d5 ["wide","high"] (bd2 fun _ _ _ _ _ _ _ _=>rfl)
 obtain ⟨_,F6,b6,k6,q6⟩:=diE X G d6 ["shop","wide","high","kind","turned","x","y"] (bd7 fun _ _ _ _ _ _ _ _ _ _ _ _ _=>rfl)
 obtain ⟨_,F7,b7,k7,q7⟩:=diE X G d7 ["blade","part","way","p"] (bd4 fun _ _ _ _ _ _ _ _ _ _=>rfl)
 obtain ⟨_,F8,b8,k8,q8⟩:=diE X G d8 ["thing","word","many"] (bd3 fun _ _ _ _ _ _ _ _ _=>rfl)
 obtain ⟨_,F9,b9,k9,q9⟩:=diE X G d9 ["blade","spot"] (bd2 fun _ _ _ _ _ _ _ _=>rfl)
 obtain ⟨_,F10,b10,k10,q10⟩:=diE X G d10 ["shop","spot"] (bd2 fun _ _ _ _ _ _ _ _=>rfl)
 obtain ⟨_,F11,b11,k11,q11⟩:=diE X G d11 ["blade","spot"] (bd2 fun _ _ _ _ _ _ _ _=>rfl)
 obtain ⟨_,F12,b12,k12,q12⟩:=diE X G d12 ["shop","wide","high","thing"] (bd4 fun _ _ _ _ _ _ _ _ _ _=>rfl)
 obtain ⟨_,F13,b13,k13,q13⟩:=diE X G d13 ["shop","wide","high","thing"] (bd4 fun _ _ _ _ _ _ _ _ _ _=>rfl)
 obtain ⟨_,F14,b14,k14,q14⟩:=diE X G d14 ["part","way"] (bd2 fun _ _ _ _ _ _ _ _=>rfl)
 obtain ⟨_,F15,b15,k15,q15⟩:=diE X G d15 ["blade","part","tree"] (bd3 fun _ _ _ _ _ _ _ _ _=>rfl)
 obtain ⟨_,F16,b16,k16,q16⟩:=diE X G d16 ["shop","wide","high","tree"] (bd4 fun _ _ _ _ _ _ _ _ _ _=>rfl)
 obtain ⟨_,F17,b17,k17,q17⟩:=diE X G d17 ["_law_script","_law_k"] (bd2 fun _ _ _ _ _ _ _ _=>rfl)
 obtain ⟨_,F18,b18,k18,q18⟩:=diE X G d18 ["_law_cell_here","_law_k"] (bd2 fun _ _ _ _ _ _ _ _=>rfl)
 obtain ⟨_,F19,b19,k19,q19⟩:=diE X G d19 ["_law_pot_here","_law_many"] (bd2 fun _ _ _ _ _ _ _ _=>rfl)
 obtain ⟨_,F20,b20,k20,q20⟩:=diE X G d20 ["_law_pot_here"] (bd1 fun _ _ _ _ _ _ _=>rfl)
 obtain ⟨_,F21,b21,k21,q21⟩:=diE X G d21 ["_law_pot_here","_law_unit_here","_law_most"] (bd3 fun _ _ _ _ _ _ _ _ _=>rfl)
 obtain ⟨_,F22,b22,k22,q22⟩:=diE X G d22 ["_law_pot_here"] (bd1 fun _ _ _ _ _ _ _=>rfl)
 obtain ⟨_,F23,b23,k23,q23⟩:=diE X G d23 ["_law_pot_here","_law_unit_here"] (bd2 fun _ _ _ _ _ _ _ _=>rfl)
 obtain ⟨_,F24,b24,k24,q24⟩:=diE X G d24 ["_law_shop_here","_law_kind","_law_turned"] (bd3 fun _ _ _ _ _ _ _ _ _=>rfl)
 obtain ⟨_,F25,b25,k25,q25⟩:=diE X G d25 ["_law_shop_here"] (bd1 fun _ _ _ _ _ _ _=>rfl)
 obtain ⟨_,F26,b26,k26,q26⟩:=diE X G d26 ["_law_shop_here","_law_wide","_law_high","_law_way","_law_p"] (bd5 fun _ _ _ _ _ _ _ _ _ _ _=>rfl)
 obtain ⟨_,F27,b27,k27,q27⟩:=diE X G d27 ["_law_pot_here","_law_shop_here","_law_wide","_law_high"] (bd4 fun _ _ _ _ _ _ _ _ _ _=>rfl)
 obtain ⟨_,F28,b28,k28,q28⟩:=diE X G d28 ["_law_pot_here","_law_shop_here","_law_wide","_law_high","_law_deep_here","_law_room"] (bd6 fun _ _ _ _ _ _ _ _ _ _ _ _=>rfl)
 obtain ⟨_,F29,b29,k29,q29⟩:=diE X G d29 ["_law_shop_here","_law_wide","_law_high","_law_tree_here"] (bd4 fun _ _ _ _ _ _ _ _ _ _=>rfl)
 obtain ⟨_,F30,b30,k30,q30⟩:=diE X G d30 ["_law_pot_here","_law_thing"] (bd2 fun _ _ _ _ _ _ _ _=>rfl)
 obtain ⟨_,F31,b31,k31,q31⟩:=diE X G d31 ["_law_pot_here","_law_shop_here","_law_unit_here","_law_turn"] (bd4 fun _ _ _ _ _ _ _ _ _ _=>rfl)
 obtain ⟨_,an,_,_,kV,dc,pm,cd,ct,a32,l32,c32,k32⟩:=d32
 have F32:=iu (st:=gT) l32 c32 k32
 obtain ⟨_,Fm0,bm0,km0,am0,im0⟩:=miE dm0 ["self","blade","kinds"] (bd3 fun _ _ _ _ _ _ _ _ _=>rfl)
 obtain ⟨_,Fm1,bm1,km1,am1,im1⟩:=miE dm1 ["self"] (bd1 fun _ _ _ _ _ _ _=>rfl)
 obtain ⟨_,Fm2,bm2,km2,am2,im2⟩:=miE dm2 ["self","kind","turned"] (bd3 fun _ _ _ _ _ _ _ _ _=>rfl)
 obtain ⟨_,Fm3,bm3,km3,am3,im3⟩:=miE dm3 ["self","kind","turned"] (bd3 fun _ _ _ _ _ _ _ _ _=>rfl)
 have e:=hfa.symm.trans (mg_of X G a32)
 cases e
 have y0:=mg_none_of X G z0
 have y1:=mg_none_of X G z1
 have y2:=mg_none_of X G z2
 have y3:=mg_none_of X G z3
 have y4:=mg_none_of X G z4
 have y5:=mg_none_of X G z5
 have y6:=mg_none_of X G z6
 have y7:=mg_none_of X G z7
 have y8:=mg_none_of X G z8
 have y9:=mg_none_of X G z9
 have y10:=mg_none_of X G z10
 have y11:=mg_none_of X G z11
 have y12:=mg_none_of X G z12
 have y13:=mg_none_of X G z13
 have y14:=mg_none_of X G z14
 have y15:=mg_none_of X G z15
 have y16:=mg_none_of X G z16
 have y17:=mg_none_of X G z17
 have gWAYS:=mg_of X G eWAYS
 have u0:=mg_of X G uc0
 have u1:=mg_of X G uc1
 have u2:=mg_of X G uc2
 have u3:=mg_of X G uc3
 have u4:=mg_of X G uc4
 have u5:=mg_of X G uc5
 have u6:=mg_of X G uc6
 have u7:=mg_of X G uc7
 have qC:=mg_of X G aC
 refine ⟨fnOf "law" "law" (defArgs gT) (defBody gT) (defScope gT) .none kV dc pm an cd ct,fun s v=>.of_eq rfl,fun base _ _=>?_⟩
 have B:Blt mg:=⟨y0,y1,y2,y3,y4,y5,y6,y7,y8,y9,y10,y11,y12,y13,y14,y15,y16,⟨_,u0⟩,⟨_,u1⟩⟩
 have T:ShopTxt K C:=⟨⟨pg,hd,po,sa⟩,n0,n1⟩
 have Z:TrC K mg xWAYS:=⟨⟨_,u2⟩,⟨_,u3⟩,⟨_,u4⟩,⟨_,u5⟩,⟨_,u6⟩,⟨_,u7⟩,gWAYS,fun H=>.inr lWAYS⟩
 have D0:Dn l.prog w K mg base "is_whole" ["thing","least"] 1 (bS K):=⟨_,_,mx F0 B,b0,k0,q0⟩
 have D1:Dn l.prog w K mg base "is_truth" ["thing"] 1 (ek K):=⟨_,_,my F1 B,b1,k1,q1⟩
 have D2:Dn l.prog w K mg base "is_row" ["thing"] 1 (gL K):=⟨_,_,qd F2 B,b2,k2,q2⟩
 have D3:Dn l.prog w K mg base "is_kind" ["thing"] 2 (cZ K):=⟨_,_,kq F3 B D0 D1 D2,b3,k3,q3⟩
 have D4:Dn l.prog w K mg base "can_lie_turned" ["kind"] 1 (eX K):=⟨_,_,kx F4,b4,k4,q4⟩
 have MB:Mn l.prog w K mg base C "blade" ["self"] 1 (em C):=⟨_,_,mz Fm1 T,bm1,⟨am1,im1,km1⟩⟩
 have MI:Mn l.prog w K mg base C "is_lying" ["self","kind","turned"] 2 (cD K C):=⟨_,_,iH Fm2 B T D0 D1 D4,bm2,⟨am2,im2,km2⟩⟩
 have MS:Mn l.prog w K mg base C "sides" ["self","kind","turned"] 3 (spSides K C):=⟨_,_,mD Fm3 T MI,bm3,⟨am3,im3,km3⟩⟩
 have DS:Kn l.prog w K mg base "Shop" C ["self","blade","kinds"] 3 (iz C):=⟨_,_,⟨mk,am0,im0,kc⟩,oA Fm0 B T D0 D2 D3,bm0,qC⟩
 have D5:Dn l.prog w K mg base "check_plate" ["wide","high"] 2 (spCP):=⟨_,_,kD F5 D0,b5,k5,q5⟩
 have D6:Dn l.prog w K mg base "lies_in" ["shop","wide","high","kind","turned","x","y"] 4 (spLiesG K C):=⟨_,_,mH F6 T D0 MI MS,b6,k6,q6⟩
 have D7:Dn l.prog w K mg base "cut_parts" ["blade","part","way","p"] 1 (spParts2):=⟨_,_,kA F7 Z,b7,k7,q7⟩
 have D8:Dn l.prog w K mg base "begins_with" ["thing","word","many"] 2 (spBegins):=⟨_,_,kz F8 B y17 D2,b8,k8,q8⟩
 have D9:Dn l.prog w K mg base "is_cut" ["blade","spot"] 3 (spCut):=⟨_,_,qg F9 Z D8 D0,b9,k9,q9⟩
 have D10:Dn l.prog w K mg base "is_leaf" ["shop","spot"] 5 (spLeaf C):=⟨_,_,oE F10 Z D8 D6,b10,k10,q10⟩
 have D11:Dn l.prog w K mg base "spots_behind" ["blade","spot"] 2 (spBehind):=⟨_,_,kB F11 Z D7,b11,k11,q11⟩
 have D12:Dn l.prog w K mg base "is_tree" ["shop","wide","high","thing"] 6 (spIsTree C):=⟨_,_,kF F12 T MB D5 D9 D10 D11,b12,k12,q12⟩
 have D13:Dn l.prog w K mg base "check_tree" ["shop","wide","high","thing"] 7 (spCheckT C):=⟨_,_,kM F13 D12,b13,k13,q13⟩
 have D14:Dn l.prog w K mg base "side_along" ["part","way"] 1 (spSideA):=⟨_,_,mT F14 Z,b14,k14,q14⟩
 have D15:Dn l.prog w K mg base "telling_of_part" ["blade","part","tree"] 53 (spTell 50):=⟨_,_,gY F15 B Z D7 D14 (fun n h=>⟨_,_,h,b15,k15,q15⟩) 50 (by decide),b15,k15,q15⟩
 have D16:Dn l.prog w K mg base "telling_of" ["shop","wide","high","tree"] 54 (spTellO C):=⟨_,_,mV F16 T MB D13 D15,b16,k16,q16⟩
 have D17:Dn l.prog w K mg base "_law_cell" ["_law_script","_law_k"] 1 (iC K):=⟨_,_,oG F17 B,b17,k17,q17⟩
 have D18:Dn l.prog w K mg base "_law_pot" ["_law_cell_here","_law_k"] 1 (spPotC):=⟨_,_,oH F18 B,b18,k18,q18⟩
 have D19:Dn l.prog w K mg base "_law_take" ["_law_pot_here","_law_many"] 1 (spTake):=⟨_,_,oI F19 B,b19,k19,q19⟩
 have D20:Dn l.prog w K mg base "_law_unit" ["_law_pot_here"] 2 (spUnit):=⟨_,_,oJ F20 B D19,b20,k20,q20⟩
 have D21:Dn l.prog w K mg base "_law_side" ["_law_pot_here","_law_unit_here","_law_most"] 2 (spSideC):=⟨_,_,kH F21 B D19,b21,k21,q21⟩
 have D22:Dn l.prog w K mg base "_law_worth" ["_law_pot_here"] 2 (spWorthC):=⟨_,_,kI F22 B D19,b22,k22,q22⟩
 have D23:Dn l.prog w K mg base "_law_shop" ["_law_pot_here","_law_unit_here"] 3 (spShopC):=⟨_,_,mK F23 B D19 D21 D22,b23,k23,q23⟩
 have D24:Dn l.prog w K mg base "_law_sides" ["_law_shop_here","_law_kind","_law_turned"] 1 (spSidesC):=⟨_,_,kJ F24 B,b24,k24,q24⟩
 have D25:Dn l.prog w K mg base "_law_lyings" ["_law_shop_here"] 1 (spLyingsC):=⟨_,_,iJ F25 B,b25,k25,q25⟩
 have D26:Dn l.prog w K mg base "_law_behind" ["_law_shop_here","_law_wide","_law_high","_law_way","_law_p"] 1 (spBeh):=⟨_,_,qi F26 B,b26,k26,q26⟩
 have D27:Dn l.prog w K mg base "_law_leaf" ["_law_pot_here","_law_shop_here","_law_wide","_law_high"] 2 (spLeafC):=⟨_,_,mL F27 B D19 D24 D25,b27,k27,q27⟩
 have D28:Dn l.prog w K mg base "_law_tree" ["_law_pot_here","_law_shop_here","_law_wide","_law_high","_law_deep_here","_law_room"] 14 (spTreeC 11):=⟨_,_,fO F28 B D19 D26 D27 (fun n h=>⟨_,_,h,b28,k28,q28⟩) 11,b28,k28,q28⟩
 have D29:Dn l.prog w K mg base "_law_told" ["_law_shop_here","_law_wide","_law_high","_law_tree_here"] 53 (spToldL 50):=⟨_,_,gZ F29 B D26 (fun n h=>⟨_,_,h,b29,k29,q29⟩) 50 (by decide),b29,k29,q29⟩
 have D30:Dn l.prog w K mg base "_law_lists" ["_law_pot_here","_law_thing"] 52 (spLists 50):=⟨_,_,fR F30 B D19 (fun n h=>⟨_,_,h,b30,k30,q30⟩) 50,b30,k30,q30⟩
 have D31:Dn l.prog w K mg base "_law_deep" ["_law_pot_here","_law_shop_here","_law_unit_here","_law_turn"] 3 (spDeep):=⟨_,_,oN F31 B D19 D21 D27,b31,k31,q31⟩
 exact ql F32 B D17 D18 D19 D20 D23 D21 D28 D29 D30 D31 D16 DS
theorem walk {l:PySem.W.OpenLaw} {q:Program} {loose:List Str} {XP:(Str→Option Value)→Heap→Prop} {YP:World→Heap→Prop} {d:DefRec} {K:Params→PySem.W.Frag} (hn:l.most=some 63) (hdf:d.params.defaults=[])
  (hY:∀ (w:World) (h:Heap),YP w h→(K w.params).In h)
  (F:∀ (w:World) (mg:Str→Option Value) (fa:Addr) (h:Heap),(K w.params).In h→h.Ns mainGlobals mg→mg d.name=some (.ref fa) →
   ∃fd:FuncData,(∀ (s:Shared) (u:Value),BindsTo s fd ⟨[u],[]⟩ [("_law_script",u)])∧∀base:Heap,(K w.params).In base→base.Ns mainGlobals mg→FnOk l.prog w (K w.params) mg base CX0 55 fa fd ["_law_script"] (spLaw (K w.params))) :
  PySem.W.WalkO q loose XP YP l.row.toRowW d [] (fun f vs=>PySem.call f vs) :=
 L2.walk_of (n:=63) (k:=55) (x := "_law_script") (CX:=fun _=>CX0) (sp:=fun w=>spLaw (K w.params)) hn (by decide) hdf ⟨rfl,by decide,by decide,rfl⟩ hY F (fun _ _ a ns hl _ hS=>⟨a,ns,rfl,hS,hl,fun _=>rfl⟩) fun _ _ _ _ _ z=>z
end Pc
namespace Pc
open PySem L2
section
open PySem.W
noncomputable def kE (P:Params) (n:Str) (t:Nat) (v:Value):DictEntry:=⟨PyData.keyHash P n,.str n t,v⟩
noncomputable def kO3 (P:Params):Obj:=⟨(.type "dict"),none,(.dict #[kE P "__name__" 165 (.str "law_platecuts_k81_tellings_told" 603),kE P "__doc__" 166 .none,kE P "__package__" 167 .none,kE P "__loader__" 168 (.builtin "__main__.__loader__#opaque"),kE P "__spec__" 169 .none,kE P "__annotations__" 170 (.ref 6),kE P "__builtins__" 171 (.ref 4),kE P "__file__" 173 (.str "/claim/cut.py" 172),kE P "__cached__" 174 .none,kE P "_wall" 193 (.ref 21),kE P "PlateError" 213 (.ref 31),kE P "NoBlade" 229 (.ref 44),kE P "NoKinds" 245 (.ref 56),kE P "NoKind" 261 (.ref 68),kE P "NoLying" 277 (.ref 80),kE P "NoPlate" 293 (.ref 92),kE P "NoTree" 309 (.ref 104),kE P "is_whole" 319 (.ref 113),kE P "is_truth" 326 (.ref 120),kE P "is_row" 333 (.ref 127),kE P "check_plate" 341 (.ref 134),kE P "DOWN" 345 (.str "down" 344),kE P "ACROSS" 347 (.str "across" 346),kE P "WAYS" 348 (.ref 135),kE P "lies_in" 363 (.ref 142),kE P "cut_parts" 375 (.ref 149),kE P "REST" 379 (.str "rest" 378),kE P "PIECE" 381 (.str "piece" 380),kE P "THINGS_OF_A_REST" 383 (.int 1 382),kE P "THINGS_OF_A_PIECE" 385 (.int 5 384),kE P "THINGS_OF_A_CUT" 387 (.int 4 386),kE P "begins_with" 396 (.ref 156),kE P "is_cut" 407 (.ref 163),kE P "is_leaf" 420 (.ref 170),kE P "spots_behind" 444 (.ref 177),kE P "is_tree" 457 (.ref 184),kE P "check_tree" 467 (.ref 191),kE P "side_along" 477 (.ref 198),kE P "telling_of_part" 493 (.ref 205),kE P "telling_of" 503 (.ref 212),kE P "MOST_KINDS" 507 (.int 8 506),kE P "THINGS_OF_A_KIND" 509 (.int 5 508),kE P "is_kind" 521 (.ref 219),kE P "can_lie_turned" 528 (.ref 226),kE P "Shop" 602 (.ref 281),kE P "_law_cell" 612 (.ref 292),kE P "_law_pot" 620 (.ref 299),kE P "_law_take" 629 (.ref 306),kE P "_law_unit" 637 (.ref 313),kE P "_law_side" 646 (.ref 320),kE P "_law_worth" 654 (.ref 327),kE P "_law_shop" 667 (.ref 334),kE P "_law_sides" 678 (.ref 341),kE P "_law_lyings" 688 (.ref 348),kE P "_law_behind" 699 (.ref 355),kE P "_law_leaf" 713 (.ref 362),kE P "_law_tree" 731 (.ref 369),kE P "_law_told" 750 (.ref 376),kE P "_law_lists" 756 (.ref 381),kE P "_law_deep" 775 (.ref 388),kE P "law" 794 (.ref 395)] 61),#[]⟩
noncomputable def gk0 (x0:Str)(x1:Nat)(x2:Str)(x3 x4 x5 x6 x7 x8 x9 x10 x11 x12 x13:Nat)(P:Params):Obj:=⟨(.type "code"),none,(.fields #[.str x0 x1,.str x2 x3,.str "/claim/cut.py" x4,.int x5 0,.int x6 0,.int 0 0,.int 0 0,.int 3 0,.ref x7,.bool true,.int 181 0,.ref x8,.none,.ref x9,.ref x10,.ref x11,.int x12 0,.int x5 0,.str "/claim/cut.py" x13]),#[]⟩
noncomputable def zL:=gk0 "_wall" 187 "_wall" 188 189 1 1 15 16 17 18 19 191 192
noncomputable def gk1 (x0 x1:Str)(x2:Stmt)(x3:Str)(x4 x5:Nat)(P:Params):Obj:=⟨(.type "function"),none,(.func (fnOf x0 x1 (defArgs x2) (defBody x2) (defScope x2) .none .none .none (.str x3 x4) none (.ref x5) .none)),#[]⟩
noncomputable def zM:=gk1 "_wall" "_wall" tF "__main__" 164 20
noncomputable def zN (P:Params):Obj:=⟨(.type "dict"),none,(.dict #[kE P "__module__" 203 (.str "platecuts.errors" 194),kE P "__firstlineno__" 207 (.int 5 206),kE P "__static_attributes__" 208 (.ref 29),kE P "__weakref__" 210 (.ref 32),kE P "__doc__" 211 .none] 3),#[]⟩
noncomputable def zO (P:Params):Obj:=⟨(.type "type"),none,(.cls ⟨"PlateError",[.type "ValueError"],[.ref 31,.type "ValueError",.type "Exception",.type "BaseException",.type "object"],30,"PlateError",true,[],[.ref 44,.ref 56,.ref 68,.ref 80,.ref 92,.ref 104],false,none,false⟩),#[some (.ref 22),none,some (.str "PlateError" 196),some (.str "PlateError" 204),some (.builtin "ValueError.__new__"),some (.bool true)]⟩
noncomputable def gk2 (x0 x1 x2 x3 x4 x5 x6:Nat)(P:Params):Obj:=⟨(.type "dict"),none,(.dict #[kE P "__module__" x0 (.str "platecuts.errors" 194),kE P "__firstlineno__" x1 (.int x2 x3),kE P "__static_attributes__" x4 (.ref x5),kE P "__doc__" x6 .none] 2),#[]⟩
noncomputable def zP:=gk2 221 225 7 224 226 42 227
noncomputable def gk3 (x0:Str)(x1 x2 x3 x4 x5:Nat)(P:Params):Obj:=⟨(.type "type"),none,(.cls ⟨x0,[.ref 31],[.ref x1,.ref 31,.type "ValueError",.type "Exception",.type "BaseException",.type "object"],x2,x0,true,[],[],false,none,false⟩),#[some (.ref x3),none,some (.str x0 x4),some (.str x0 x5),some (.builtin "ValueError.__new__"),some (.bool true)]⟩
noncomputable def zQ:=gk3 "NoBlade" 44 43 35 214 222
noncomputable def zR:=gk2 237 241 9 240 242 54 243
noncomputable def zS:=gk3 "NoKinds" 56 55 47 230 238
noncomputable def zT:=gk2 253 257 11 256 258 66 259
noncomputable def zU:=gk3 "NoKind" 68 67 59 246 254
noncomputable def zV:=gk2 269 273 13 272 274 78 275
noncomputable def zW:=gk3 "NoLying" 80 79 71 262 270
noncomputable def zX:=gk2 285 289 15 288 290 90 291
noncomputable def zY:=gk3 "NoPlate" 92 91 83 278 286
noncomputable def tK:=gk2 301 305 17 304 306 102 307
noncomputable def tL:=gk3 "NoTree" 104 103 95 294 302
noncomputable def tM:=gk0 "is_whole" 312 "is_whole" 313 314 20 2 107 108 109 110 111 317 318
noncomputable def tN:=gk1 "is_whole" "is_whole" gn "platecuts.checks" 310 112
noncomputable def tO:=gk0 "is_truth" 320 "is_truth" 321 322 22 1 114 115 116 117 118 324 325
noncomputable def tP:=gk1 "is_truth" "is_truth" gp "platecuts.checks" 310 119
noncomputable def tQ:=gk0 "is_row" 327 "is_row" 328 329 24 1 121 122 123 124 125 331 332
noncomputable def tR:=gk1 "is_row" "is_row" oq "platecuts.checks" 310 126
noncomputable def tS:=gk0 "check_plate" 334 "check_plate" 335 336 26 2 128 129 130 131 132 339 340
noncomputable def tT:=gk1 "check_plate" "check_plate" bT "platecuts.checks" 310 133
noncomputable def tU (P:Params):Obj:=⟨(.type "tuple"),none,(.seq #[.str "down" 344,.str "across" 346] 0),#[]⟩
noncomputable def tV:=gk0 "lies_in" 349 "lies_in" 350 351 33 7 136 137 138 139 140 361 362
noncomputable def tW:=gk1 "lies_in" "lies_in" eC "platecuts.parts" 342 141
noncomputable def tX:=gk0 "cut_parts" 364 "cut_parts" 365 366 38 4 143 144 145 146 147 373 374
noncomputable def tY:=gk1 "cut_parts" "cut_parts" cF "platecuts.parts" 342 148
noncomputable def tZ:=gk0 "begins_with" 388 "begins_with" 389 390 49 3 150 151 152 153 154 394 395
noncomputable def uh:=gk1 "begins_with" "begins_with" bU "platecuts.trees" 376 155
noncomputable def ui:=gk0 "is_cut" 397 "is_cut" 398 399 53 2 157 158 159 160 161 405 406
noncomputable def uj:=gk1 "is_cut" "is_cut" gq "platecuts.trees" 376 162
noncomputable def uk:=gk0 "is_leaf" 408 "is_leaf" 409 410 60 2 164 165 166 167 168 418 419
noncomputable def um:=gk1 "is_leaf" "is_leaf" eD "platecuts.trees" 376 169
noncomputable def uo:=gk0 "spots_behind" 421 "spots_behind" 422 423 65 2 171 172 173 174 175 442 443
noncomputable def up:=gk1 "spots_behind" "spots_behind" bG "platecuts.trees" 376 176
noncomputable def uq:=gk0 "is_tree" 445 "is_tree" 446 447 72 4 178 179 180 181 182 455 456
noncomputable def ur:=gk1 "is_tree" "is_tree" eE "platecuts.trees" 376 183
noncomputable def ut:=gk0 "check_tree" 458 "check_tree" 459 460 83 4 185 186 187 188 189 465 466
noncomputable def uv:=gk1 "check_tree" "check_tree" cf "platecuts.trees" 376 190
noncomputable def uw:=gk0 "side_along" 470 "side_along" 471 472 87 2 192 193 194 195 196 475 476
noncomputable def ux:=gk1 "side_along" "side_along" cg "platecuts.tellings" 468 197
noncomputable def uy:=gk0 "telling_of_part" 478 "telling_of_part" 479 480 89 3 199 200 201 202 203 491 492
noncomputable def uz:=gk1 "telling_of_part" "telling_of_part" aW "platecuts.tellings" 468 204
noncomputable def uA:=gk0 "telling_of" 494 "telling_of" 495 496 103 4 206 207 208 209 210 501 502
noncomputable def uB:=gk1 "telling_of" "telling_of" ci "platecuts.tellings" 468 211
noncomputable def uC:=gk0 "is_kind" 510 "is_kind" 511 512 109 1 213 214 215 216 217 519 520
noncomputable def uD:=gk1 "is_kind" "is_kind" eF "platecuts.shops" 504 218
noncomputable def uE:=gk0 "can_lie_turned" 522 "can_lie_turned" 523 524 116 1 220 221 222 223 224 526 527
noncomputable def uF:=gk1 "can_lie_turned" "can_lie_turned" eG "platecuts.shops" 504 225
noncomputable def gk4 (x0:Str)(x1:Nat)(x2:Str)(x3 x4 x5 x6 x7 x8 x9 x10 x11:Nat)(P:Params):Obj:=⟨(.type "code"),none,(.fields #[.str x0 x1,.str x2 x3,.str "/claim/cut.py" x4,.int x5 0,.int x6 0,.int 0 0,.int 0 0,.int 3 0,.ref x7,.bool true,.int 181 0,.ref x8,.none,.none,.none,.ref x9,.int x10 0,.int x5 0,.str "/claim/cut.py" x11]),#[]⟩
noncomputable def uG:=gk4 "__init__" 541 "Shop.__init__" 542 543 120 3 234 235 236 544 545
noncomputable def uH:=gk1 "__init__" "Shop.__init__" ca "platecuts.shops" 504 237
noncomputable def uI:=gk0 "blade" 547 "Shop.blade" 548 549 131 1 239 240 241 242 243 551 552
noncomputable def uJ:=gk1 "blade" "Shop.blade" cj "platecuts.shops" 504 244
noncomputable def uK:=gk0 "kinds" 554 "Shop.kinds" 555 556 134 1 246 247 248 249 250 558 559
noncomputable def uL:=gk1 "kinds" "Shop.kinds" iG "platecuts.shops" 504 251
noncomputable def uM:=gk4 "wanted" 561 "Shop.wanted" 562 563 137 1 253 254 255 564 565
noncomputable def uN:=gk1 "wanted" "Shop.wanted" gR "platecuts.shops" 504 256
noncomputable def uO:=gk0 "lyings" 567 "Shop.lyings" 568 569 140 1 258 259 260 261 262 571 572
noncomputable def uP:=gk1 "lyings" "Shop.lyings" gS "platecuts.shops" 504 263
noncomputable def uQ:=gk0 "is_lying" 574 "Shop.is_lying" 575 576 143 3 265 266 267 268 269 580 581
noncomputable def uR:=gk1 "is_lying" "Shop.is_lying" bH "platecuts.shops" 504 270
noncomputable def uS:=gk0 "sides" 583 "Shop.sides" 584 585 148 3 272 273 274 275 276 590 591
noncomputable def uT:=gk1 "sides" "Shop.sides" ck "platecuts.shops" 504 277
noncomputable def uU (P:Params):Obj:=⟨(.type "dict"),none,(.dict #[kE P "__module__" 536 (.str "platecuts.shops" 504),kE P "__firstlineno__" 540 (.int 118 539),kE P "__init__" 546 (.ref 238),kE P "blade" 553 (.ref 245),kE P "kinds" 560 (.ref 252),kE P "wanted" 566 (.ref 257),kE P "lyings" 573 (.ref 264),kE P "is_lying" 582 (.ref 271),kE P "sides" 592 (.ref 278),kE P "__static_attributes__" 595 (.ref 279),kE P "__dict__" 597 (.ref 282),kE P "__weakref__" 599 (.ref 283),kE P "__doc__" 600 .none] 4),#[]⟩
noncomputable def uV (P:Params):Obj:=⟨(.type "type"),none,(.cls ⟨"Shop",[.type "object"],[.ref 281,.type "object"],280,"Shop",true,[],[],false,none,false⟩),#[none,none,some (.str "Shop" 529),some (.str "Shop" 537),some (.builtin "object.__new__"),some (.bool true)]⟩
noncomputable def uW:=gk0 "_law_cell" 605 "_law_cell" 606 607 156 2 286 287 288 289 290 610 611
noncomputable def uX:=gk1 "_law_cell" "_law_cell" jv "law_platecuts_k81_tellings_told" 603 291
noncomputable def uY:=gk0 "_law_pot" 613 "_law_pot" 614 615 160 2 293 294 295 296 297 618 619
noncomputable def uZ:=gk1 "_law_pot" "_law_pot" ot "law_platecuts_k81_tellings_told" 603 298
noncomputable def vd:=gk0 "_law_take" 621 "_law_take" 622 623 162 2 300 301 302 303 304 627 628
noncomputable def ve:=gk1 "_law_take" "_law_take" jw "law_platecuts_k81_tellings_told" 603 305
noncomputable def vf:=gk0 "_law_unit" 630 "_law_unit" 631 632 169 1 307 308 309 310 311 635 636
noncomputable def vg:=gk1 "_law_unit" "_law_unit" jx "law_platecuts_k81_tellings_told" 603 312
noncomputable def vh:=gk0 "_law_side" 638 "_law_side" 639 640 172 3 314 315 316 317 318 644 645
noncomputable def vi:=gk1 "_law_side" "_law_side" jy "law_platecuts_k81_tellings_told" 603 319
noncomputable def vj:=gk0 "_law_worth" 647 "_law_worth" 648 649 176 1 321 322 323 324 325 652 653
noncomputable def vk:=gk1 "_law_worth" "_law_worth" gs "law_platecuts_k81_tellings_told" 603 326
noncomputable def vm:=gk0 "_law_shop" 655 "_law_shop" 656 657 179 2 328 329 330 331 332 665 666
noncomputable def vn:=gk1 "_law_shop" "_law_shop" jz "law_platecuts_k81_tellings_told" 603 333
noncomputable def vo:=gk0 "_law_sides" 668 "_law_sides" 669 670 187 3 335 336 337 338 339 676 677
noncomputable def vp:=gk1 "_law_sides" "_law_sides" gt "law_platecuts_k81_tellings_told" 603 340
noncomputable def vq:=gk0 "_law_lyings" 679 "_law_lyings" 680 681 190 1 342 343 344 345 346 686 687
noncomputable def vt:=gk1 "_law_lyings" "_law_lyings" eH "law_platecuts_k81_tellings_told" 603 347
noncomputable def vw:=gk0 "_law_behind" 689 "_law_behind" 690 691 197 5 349 350 351 352 353 697 698
noncomputable def vx:=gk1 "_law_behind" "_law_behind" eI "law_platecuts_k81_tellings_told" 603 354
noncomputable def vy:=gk0 "_law_leaf" 700 "_law_leaf" 701 702 201 4 356 357 358 359 360 711 712
noncomputable def vz:=gk1 "_law_leaf" "_law_leaf" jA "law_platecuts_k81_tellings_told" 603 361
noncomputable def vA:=gk0 "_law_tree" 714 "_law_tree" 715 716 212 6 363 364 365 366 367 729 730
noncomputable def vB:=gk1 "_law_tree" "_law_tree" fJ "law_platecuts_k81_tellings_told" 603 368
noncomputable def vC:=gk0 "_law_told" 732 "_law_told" 733 734 223 4 370 371 372 373 374 748 749
noncomputable def vD:=gk1 "_law_told" "_law_told" fK "law_platecuts_k81_tellings_told" 603 375
noncomputable def vE:=gk4 "_law_lists" 751 "_law_lists" 752 753 238 2 377 378 379 754 755
noncomputable def vF:=gk1 "_law_lists" "_law_lists" cT "law_platecuts_k81_tellings_told" 603 380
noncomputable def vG:=gk0 "_law_deep" 757 "_law_deep" 758 759 242 4 382 383 384 385 386 773 774
noncomputable def vH:=gk1 "_law_deep" "_law_deep" jB "law_platecuts_k81_tellings_told" 603 387
noncomputable def vI:=gk0 "law" 776 "law" 777 778 256 1 389 390 391 392 393 792 793
noncomputable def vJ:=gk1 "law" "law" gT "law_platecuts_k81_tellings_told" 603 394
noncomputable def kK:Params→Frag:=fun P=>(nat_lit 3,kO3 P) :: (nat_lit 20,zL P) :: (nat_lit 21,zM P) :: (nat_lit 30,zN P) :: (nat_lit 31,zO P) :: (nat_lit 43,zP P) :: (nat_lit 44,zQ P) :: (nat_lit 55,zR P) :: (nat_lit 56,zS P) :: (nat_lit 67,zT P) :: (nat_lit 68,zU P) :: (nat_lit 79,zV P) :: (nat_lit 80,zW P) :: (nat_lit 91,zX P) :: (nat_lit 92,zY P) :: (nat_lit 103,tK P) :: (nat_lit 104,tL P) :: (nat_lit 112,tM P) :: (nat_lit 113,tN P) :: (nat_lit 119,tO P) :: (nat_lit 120,tP P) :: (nat_lit 126,tQ P) :: (nat_lit 127,tR P) :: (nat_lit 133,tS P) :: (nat_lit 134,tT P) :: (nat_lit 135,tU P) :: (nat_lit 141,tV P) :: (nat_lit 142,tW P) :: (nat_lit 148,tX P) :: (nat_lit 149,tY P) :: (nat_lit 155,tZ P) :: (nat_lit 156,uh P) :: (nat_lit 162,ui P) :: (nat_lit 163,uj P) :: (nat_lit 169,uk P) :: (nat_lit 170,um P) :: (nat_lit 176,uo P) :: (nat_lit 177,up P) :: (nat_lit 183,uq P) :: (nat_lit 184,ur P) :: (nat_lit 190,ut P) :: (nat_lit 191,uv P) :: (nat_lit 197,uw P) :: (nat_lit 198,ux P) :: (nat_lit 204,uy P) :: (nat_lit 205,uz P) :: (nat_lit 211,uA P) :: (nat_lit 212,uB P) :: (nat_lit 218,uC P) :: (nat_lit 219,uD P) :: (nat_lit 225,uE P) :: (nat_lit 226,uF P) :: (nat_lit 237,uG P) :: (nat_lit 238,uH P) :: (nat_lit 244,uI P) :: (nat_lit 245,uJ P) :: (nat_lit 251,uK P) :: (nat_lit 252,uL P) :: (nat_lit 256,uM P) :: (nat_lit 257,uN P) :: (nat_lit 263,uO P) :: (nat_lit 264,uP P) :: (nat_lit 270,uQ P) :: (nat_lit 271,uR P) :: (nat_lit 277,uS P) :: (nat_lit 278,uT P) :: (nat_lit 280,uU P) :: (nat_lit 281,uV P) :: (nat_lit 291,uW P) :: (nat_lit 292,uX P) :: (nat_lit 298,uY P) :: (nat_lit 299,uZ P) :: (nat_lit 305,vd P) :: (nat_lit 306,ve P) :: (nat_lit 312,vf P) :: (nat_lit 313,vg P) :: (nat_lit 319,vh P) :: (nat_lit 320,vi P) :: (nat_lit 326,vj P) :: (nat_lit 327,vk P) :: (nat_lit 333,vm P) :: (nat_lit 334,vn P) :: (nat_lit 340,vo P) :: (nat_lit 341,vp P) :: (nat_lit 347,vq P) :: (nat_lit 348,vt P) :: (nat_lit 354,vw P) :: (nat_lit 355,vx P) :: (nat_lit 361,vy P) :: (nat_lit 362,vz P) :: (nat_lit 368,vA P) :: (nat_lit 369,vB P) :: (nat_lit 375,vC P) :: (nat_lit 376,vD P) :: (nat_lit 380,vE P) :: (nat_lit 381,vF P) :: (nat_lit 387,vG P) :: (nat_lit 388,vH P) :: (nat_lit 394,vI P) :: (nat_lit 395,vJ P) :: []
end
end Pc
set_option maxHeartbeats 0
lay_quick PySem.Challenge.pw_platecuts_k81_tellings_told
namespace Hd
open PySem PySem.W
noncomputable def S0:Str:=⟨⟨[95,95,110,97,109,101,95,95]⟩⟩
noncomputable def S2:Str:=⟨⟨[95,95,100,111,99,95,95]⟩⟩
noncomputable def S3:Str:=⟨⟨[95,95,112,97,99,107,97,103,101,95,95]⟩⟩
noncomputable def S4:Str:=⟨⟨[95,95,108,111,97,100,101,114,95,95]⟩⟩
noncomputable def S5:Str:=⟨⟨[95,95,115,112,101,99,95,95]⟩⟩
noncomputable def vK:Str:=⟨⟨[95,95,109,97,105,110,95,95]⟩⟩
noncomputable def vL:Str:=⟨⟨[95,95,97,110,110,111,116,97,116,105,111,110,115,95,95]⟩⟩
noncomputable def vM:Str:=⟨⟨[95,95,98,117,105,108,116,105,110,115,95,95]⟩⟩
noncomputable def vN:Str:=⟨⟨[95,95,102,105,108,101,95,95]⟩⟩
noncomputable def hG:Str:=⟨⟨[47,99,108,97,105,109,47,99,117,116,46,112,121]⟩⟩
noncomputable def vO:Str:=⟨⟨[95,95,99,97,99,104,101,100,95,95]⟩⟩
noncomputable def zZ:Str:=⟨⟨[60,109,111,100,117,108,101,62]⟩⟩
noncomputable def iN:Str:=⟨⟨[112,108,97,116,101,99,117,116,115,46,116,114,101,101,115]⟩⟩
noncomputable def iO:Str:=⟨⟨[95,119,97,108,108]⟩⟩
noncomputable def gx:Str:=⟨⟨[80,108,97,116,101,69,114,114,111,114]⟩⟩
noncomputable def kP:Str:=⟨⟨[78,111,66,108,97,100,101]⟩⟩
noncomputable def kQ:Str:=⟨⟨[78,111,75,105,110,100,115]⟩⟩
noncomputable def kR:Str:=⟨⟨[78,111,75,105,110,100]⟩⟩
noncomputable def kS:Str:=⟨⟨[78,111,76,121,105,110,103]⟩⟩
noncomputable def kT:Str:=⟨⟨[78,111,80,108,97,116,101]⟩⟩
noncomputable def kU:Str:=⟨⟨[78,111,84,114,101,101]⟩⟩
noncomputable def iP:Str:=⟨⟨[105,115,95,119,104,111,108,101]⟩⟩
noncomputable def iQ:Str:=⟨⟨[105,115,95,116,114,117,116,104]⟩⟩
noncomputable def iR:Str:=⟨⟨[105,115,95,114,111,119]⟩⟩
noncomputable def iS:Str:=⟨⟨[99,104,101,99,107,95,112,108,97,116,101]⟩⟩
noncomputable def qp:Str:=⟨⟨[68,79,87,78]⟩⟩
noncomputable def qq:Str:=⟨⟨[100,111,119,110]⟩⟩
noncomputable def qr:Str:=⟨⟨[65,67,82,79,83,83]⟩⟩
noncomputable def qt:Str:=⟨⟨[97,99,114,111,115,115]⟩⟩
noncomputable def qu:Str:=⟨⟨[87,65,89,83]⟩⟩
noncomputable def iT:Str:=⟨⟨[108,105,101,115,95,105,110]⟩⟩
noncomputable def iU:Str:=⟨⟨[99,117,116,95,112,97,114,116,115]⟩⟩
noncomputable def qv:Str:=⟨⟨[82,69,83,84]⟩⟩
noncomputable def vP:Str:=⟨⟨[114,101,115,116]⟩⟩
noncomputable def qw:Str:=⟨⟨[80,73,69,67,69]⟩⟩
noncomputable def vQ:Str:=⟨⟨[112,105,101,99,101]⟩⟩
noncomputable def qx:Str:=⟨⟨[84,72,73,78,71,83,95,79,70,95,65,95,82,69,83,84]⟩⟩
noncomputable def qy:Str:=⟨⟨[84,72,73,78,71,83,95,79,70,95,65,95,80,73,69,67,69]⟩⟩
noncomputable def qz:Str:=⟨⟨[84,72,73,78,71,83,95,79,70,95,65,95,67,85,84]⟩⟩
noncomputable def iV:Str:=⟨⟨[98,101,103,105,110,115,95,119,105,116,104]⟩⟩
noncomputable def iW:Str:=⟨⟨[105,115,95,99,117,116]⟩⟩
noncomputable def iX:Str:=⟨⟨[105,115,95,108,101,97,102]⟩⟩
noncomputable def iY:Str:=⟨⟨[115,112,111,116,115,95,98,101,104,105,110,100]⟩⟩
noncomputable def iZ:Str:=⟨⟨[105,115,95,116,114,101,101]⟩⟩
noncomputable def Aa:Str:=⟨⟨[107]⟩⟩
noncomputable def nj:Str:=⟨⟨[95,95,109,111,100,117,108,101,95,95]⟩⟩
noncomputable def fm:Str:=⟨⟨[112,108,97,116,101,99,117,116,115,46,101,114,114,111,114,115]⟩⟩
noncomputable def vR:Str:=⟨⟨[95,95,113,117,97,108,110,97,109,101,95,95]⟩⟩
noncomputable def nq:Str:=⟨⟨[95,95,102,105,114,115,116,108,105,110,101,110,111,95,95]⟩⟩
noncomputable def nr:Str:=⟨⟨[95,95,115,116,97,116,105,99,95,97,116,116,114,105,98,117,116,101,115,95,95]⟩⟩
noncomputable def qA:Str:=⟨⟨[95,95,119,101,97,107,114,101,102,95,95]⟩⟩
noncomputable def ja:Str:=⟨⟨[116,104,105,110,103]⟩⟩
noncomputable def Ab:Str:=⟨⟨[108,101,97,115,116]⟩⟩
noncomputable def oO:Str:=⟨⟨[112,108,97,116,101,99,117,116,115,46,99,104,101,99,107,115]⟩⟩
noncomputable def gy:Str:=⟨⟨[119,105,100,101]⟩⟩
noncomputable def gz:Str:=⟨⟨[104,105,103,104]⟩⟩
noncomputable def nu:Str:=⟨⟨[115,104,111,112]⟩⟩
noncomputable def oP:Str:=⟨⟨[107,105,110,100]⟩⟩
noncomputable def qB:Str:=⟨⟨[116,117,114,110,101,100]⟩⟩
noncomputable def qD:Str:=⟨⟨[120]⟩⟩
noncomputable def qE:Str:=⟨⟨[121]⟩⟩
noncomputable def Ac:Str:=⟨⟨[112,105,101,99,101,95,119,105,100,101]⟩⟩
noncomputable def Ad:Str:=⟨⟨[112,105,101,99,101,95,104,105,103,104]⟩⟩
noncomputable def vS:Str:=⟨⟨[112,108,97,116,101,99,117,116,115,46,112,97,114,116,115]⟩⟩
noncomputable def fo:Str:=⟨⟨[98,108,97,100,101]⟩⟩
noncomputable def qF:Str:=⟨⟨[112,97,114,116]⟩⟩
noncomputable def nv:Str:=⟨⟨[119,97,121]⟩⟩
noncomputable def vT:Str:=⟨⟨[112]⟩⟩
noncomputable def Ae:Str:=⟨⟨[119,111,114,100]⟩⟩
noncomputable def Af:Str:=⟨⟨[109,97,110,121]⟩⟩
noncomputable def oQ:Str:=⟨⟨[115,112,111,116]⟩⟩
noncomputable def nz:Str:=⟨⟨[116,114,101,101]⟩⟩
noncomputable def Ag:Str:=⟨⟨[115,105,100,101]⟩⟩
noncomputable def vU:Str:=⟨⟨[102,105,114,115,116]⟩⟩
noncomputable def vV:Str:=⟨⟨[115,101,99,111,110,100]⟩⟩
noncomputable def Ah:Str:=⟨⟨[119,105,100,101,95,97,104,101,97,100]⟩⟩
noncomputable def Ai:Str:=⟨⟨[104,105,103,104,95,97,104,101,97,100]⟩⟩
noncomputable def Aj:Str:=⟨⟨[119,105,100,101,95,98,101,104,105,110,100]⟩⟩
noncomputable def Ak:Str:=⟨⟨[104,105,103,104,95,98,101,104,105,110,100]⟩⟩
noncomputable def Al:Str:=⟨⟨[115,116,101,112]⟩⟩
noncomputable def Am:Str:=⟨⟨[102,97,114,95,120]⟩⟩
noncomputable def An:Str:=⟨⟨[102,97,114,95,121]⟩⟩
noncomputable def vW:Str:=⟨⟨[119,97,105,116,105,110,103]⟩⟩
noncomputable def cC:Str:=⟨⟨[108,97,119,95,112,108,97,116,101,99,117,116,115,95,107,56,49,95,116,101,108,108,105,110,103,115,95,116,111,108,100]⟩⟩
noncomputable def kW:Str:=⟨⟨[99,104,101,99,107,95,116,114,101,101]⟩⟩
noncomputable def kX:Str:=⟨⟨[115,105,100,101,95,97,108,111,110,103]⟩⟩
noncomputable def kY:Str:=⟨⟨[116,101,108,108,105,110,103,95,111,102,95,112,97,114,116]⟩⟩
noncomputable def kZ:Str:=⟨⟨[116,101,108,108,105,110,103,95,111,102]⟩⟩
noncomputable def vX:Str:=⟨⟨[77,79,83,84,95,75,73,78,68,83]⟩⟩
noncomputable def vY:Str:=⟨⟨[84,72,73,78,71,83,95,79,70,95,65,95,75,73,78,68]⟩⟩
noncomputable def la:Str:=⟨⟨[105,115,95,107,105,110,100]⟩⟩
noncomputable def lb:Str:=⟨⟨[99,97,110,95,108,105,101,95,116,117,114,110,101,100]⟩⟩
noncomputable def hI:Str:=⟨⟨[83,104,111,112]⟩⟩
noncomputable def lc:Str:=⟨⟨[95,108,97,119,95,99,101,108,108]⟩⟩
noncomputable def le:Str:=⟨⟨[95,108,97,119,95,112,111,116]⟩⟩
noncomputable def lg:Str:=⟨⟨[95,108,97,119,95,116,97,107,101]⟩⟩
noncomputable def lh:Str:=⟨⟨[95,108,97,119,95,117,110,105,116]⟩⟩
noncomputable def li:Str:=⟨⟨[95,108,97,119,95,115,105,100,101]⟩⟩
noncomputable def lj:Str:=⟨⟨[95,108,97,119,95,119,111,114,116,104]⟩⟩
noncomputable def lm:Str:=⟨⟨[95,108,97,119,95,115,104,111,112]⟩⟩
noncomputable def lp:Str:=⟨⟨[95,108,97,119,95,115,105,100,101,115]⟩⟩
noncomputable def lq:Str:=⟨⟨[95,108,97,119,95,108,121,105,110,103,115]⟩⟩
noncomputable def lr:Str:=⟨⟨[95,108,97,119,95,98,101,104,105,110,100]⟩⟩
noncomputable def lw:Str:=⟨⟨[95,108,97,119,95,108,101,97,102]⟩⟩
noncomputable def lx:Str:=⟨⟨[95,108,97,119,95,116,114,101,101]⟩⟩
noncomputable def lz:Str:=⟨⟨[95,108,97,119,95,116,111,108,100]⟩⟩
noncomputable def lA:Str:=⟨⟨[95,108,97,119,95,108,105,115,116,115]⟩⟩
noncomputable def lB:Str:=⟨⟨[95,108,97,119,95,100,101,101,112]⟩⟩
noncomputable def nA:Str:=⟨⟨[108,97,119]⟩⟩
noncomputable def qG:Str:=⟨⟨[112,108,97,116,101,99,117,116,115,46,116,101,108,108,105,110,103,115]⟩⟩
noncomputable def vZ:Str:=⟨⟨[114,111,119]⟩⟩
noncomputable def Ao:Str:=⟨⟨[105,110,110,101,114,95,112,97,114,116]⟩⟩
noncomputable def Ap:Str:=⟨⟨[105,110,110,101,114,95,116,114,101,101]⟩⟩
noncomputable def Aq:Str:=⟨⟨[119,111,114,116,104]⟩⟩
noncomputable def lC:Str:=⟨⟨[119,97,110,116,101,100]⟩⟩
noncomputable def Ar:Str:=⟨⟨[116,117,114,110,115]⟩⟩
noncomputable def lD:Str:=⟨⟨[112,108,97,116,101,99,117,116,115,46,115,104,111,112,115]⟩⟩
noncomputable def nC:Str:=⟨⟨[95,95,105,110,105,116,95,95]⟩⟩
noncomputable def nD:Str:=⟨⟨[107,105,110,100,115]⟩⟩
noncomputable def nE:Str:=⟨⟨[108,121,105,110,103,115]⟩⟩
noncomputable def nF:Str:=⟨⟨[105,115,95,108,121,105,110,103]⟩⟩
noncomputable def nG:Str:=⟨⟨[115,105,100,101,115]⟩⟩
noncomputable def qH:Str:=⟨⟨[83,104,111,112,46,95,95,105,110,105,116,95,95]⟩⟩
noncomputable def nH:Str:=⟨⟨[115,101,108,102]⟩⟩
noncomputable def qI:Str:=⟨⟨[83,104,111,112,46,98,108,97,100,101]⟩⟩
noncomputable def qJ:Str:=⟨⟨[83,104,111,112,46,107,105,110,100,115]⟩⟩
noncomputable def qK:Str:=⟨⟨[83,104,111,112,46,119,97,110,116,101,100]⟩⟩
noncomputable def qL:Str:=⟨⟨[83,104,111,112,46,108,121,105,110,103,115]⟩⟩
noncomputable def qM:Str:=⟨⟨[83,104,111,112,46,105,115,95,108,121,105,110,103]⟩⟩
noncomputable def qN:Str:=⟨⟨[83,104,111,112,46,115,105,100,101,115]⟩⟩
noncomputable def As:Str:=⟨⟨[98,108,97,100,101,95,119,105,100,116,104]⟩⟩
noncomputable def At:Str:=⟨⟨[107,105,110,100,95,114,111,119,115]⟩⟩
noncomputable def wc:Str:=⟨⟨[95,95,100,105,99,116,95,95]⟩⟩
noncomputable def wd:Str:=⟨⟨[95,108,97,119,95,115,99,114,105,112,116]⟩⟩
noncomputable def lE:Str:=⟨⟨[95,108,97,119,95,107]⟩⟩
noncomputable def Au:Str:=⟨⟨[95,108,97,119,95,99,101,108,108,95,104,101,114,101]⟩⟩
noncomputable def gA:Str:=⟨⟨[95,108,97,119,95,112,111,116,95,104,101,114,101]⟩⟩
noncomputable def Av:Str:=⟨⟨[95,108,97,119,95,109,97,110,121]⟩⟩
noncomputable def Aw:Str:=⟨⟨[95,108,97,119,95,100,105,103,105,116]⟩⟩
noncomputable def qO:Str:=⟨⟨[95,108,97,119,95,115,111,109,101]⟩⟩
noncomputable def oR:Str:=⟨⟨[95,108,97,119,95,117,110,105,116,95,104,101,114,101]⟩⟩
noncomputable def Ax:Str:=⟨⟨[95,108,97,119,95,109,111,115,116]⟩⟩
noncomputable def Ay:Str:=⟨⟨[95,108,97,119,95,98,108,97,100,101]⟩⟩
noncomputable def Az:Str:=⟨⟨[95,108,97,119,95,107,105,110,100,115]⟩⟩
noncomputable def hJ:Str:=⟨⟨[95,108,97,119,95,119,105,100,101]⟩⟩
noncomputable def hU:Str:=⟨⟨[95,108,97,119,95,104,105,103,104]⟩⟩
noncomputable def hV:Str:=⟨⟨[95,108,97,119,95,115,104,111,112,95,104,101,114,101]⟩⟩
noncomputable def qQ:Str:=⟨⟨[95,108,97,119,95,107,105,110,100]⟩⟩
noncomputable def we:Str:=⟨⟨[95,108,97,119,95,116,117,114,110,101,100]⟩⟩
noncomputable def wf:Str:=⟨⟨[95,108,97,119,95,102,111,117,110,100]⟩⟩
noncomputable def oS:Str:=⟨⟨[95,108,97,119,95,119,97,121]⟩⟩
noncomputable def wg:Str:=⟨⟨[95,108,97,119,95,112]⟩⟩
noncomputable def AA:Str:=⟨⟨[95,108,97,119,95,111,119,110]⟩⟩
noncomputable def AB:Str:=⟨⟨[95,108,97,119,95,100,101,101,112,95,104,101,114,101]⟩⟩
noncomputable def AC:Str:=⟨⟨[95,108,97,119,95,114,111,111,109]⟩⟩
noncomputable def AD:Str:=⟨⟨[95,108,97,119,95,115,105,100,101,95,104,101,114,101]⟩⟩
noncomputable def wj:Str:=⟨⟨[95,108,97,119,95,111,110,101]⟩⟩
noncomputable def wk:Str:=⟨⟨[95,108,97,119,95,111,116,104,101,114]⟩⟩
noncomputable def AE:Str:=⟨⟨[95,108,97,119,95,102,105,114,115,116]⟩⟩
noncomputable def qR:Str:=⟨⟨[95,108,97,119,95,116,114,101,101,95,104,101,114,101]⟩⟩
noncomputable def AF:Str:=⟨⟨[95,108,97,119,95,116,104,105,110,103,115]⟩⟩
noncomputable def AG:Str:=⟨⟨[95,108,97,119,95,119,97,105,116,105,110,103]⟩⟩
noncomputable def AH:Str:=⟨⟨[95,108,97,119,95,111,119,110,95,119,105,100,101]⟩⟩
noncomputable def AI:Str:=⟨⟨[95,108,97,119,95,111,119,110,95,104,105,103,104]⟩⟩
noncomputable def AJ:Str:=⟨⟨[95,108,97,119,95,112,97,114,116]⟩⟩
noncomputable def wm:Str:=⟨⟨[95,108,97,119,95,115,105,122,101]⟩⟩
noncomputable def AK:Str:=⟨⟨[95,108,97,119,95,116,117,114,110]⟩⟩
noncomputable def AL:Str:=⟨⟨[95,108,97,119,95,102,97,114]⟩⟩
noncomputable def AM:Str:=⟨⟨[95,108,97,119,95,115,105,100,101,115,95,104,101,114,101]⟩⟩
noncomputable def AN:Str:=⟨⟨[95,108,97,119,95,108,101,97,102,95,104,101,114,101]⟩⟩
noncomputable def AO:Str:=⟨⟨[95,108,97,119,95,109,97,100,101]⟩⟩
noncomputable def AQ:Str:=⟨⟨[95,108,97,119,95,100,117,101]⟩⟩
noncomputable def AR:Str:=⟨⟨[95,108,97,119,95,104,97,110,100,101,100]⟩⟩
noncomputable def AS:Str:=⟨⟨[95,108,97,119,95,107,101,112,116]⟩⟩
noncomputable abbrev HK:Hook:=kHook Pc.kK [nat_lit 3,nat_lit 20,nat_lit 21,nat_lit 30,nat_lit 31,nat_lit 43,nat_lit 44,nat_lit 55,nat_lit 56,nat_lit 67,nat_lit 68,nat_lit 79,nat_lit 80,nat_lit 91,nat_lit 92,nat_lit 103,nat_lit 104,nat_lit 112,nat_lit 113,nat_lit 119,nat_lit 120,nat_lit 126,nat_lit 127,nat_lit 133,nat_lit 134,nat_lit 135,nat_lit 141,nat_lit 142,nat_lit 148,nat_lit 149,nat_lit 155,nat_lit 156,nat_lit 162,nat_lit 163,nat_lit 169,nat_lit 170,nat_lit 176,nat_lit 177,nat_lit 183,nat_lit 184,nat_lit 190,nat_lit 191,nat_lit 197,nat_lit 198,nat_lit 204,nat_lit 205,nat_lit 211,nat_lit 212,nat_lit 218,nat_lit 219,nat_lit 225,nat_lit 226,nat_lit 237,nat_lit 238,nat_lit 244,nat_lit 245,nat_lit 251,nat_lit 252,nat_lit 256,nat_lit 257,nat_lit 263,nat_lit 264,nat_lit 270,nat_lit 271,nat_lit 277,nat_lit 278,nat_lit 280,nat_lit 281,nat_lit 291,nat_lit 292,nat_lit 298,nat_lit 299,nat_lit 305,nat_lit 306,nat_lit 312,nat_lit 313,nat_lit 319,nat_lit 320,nat_lit 326,nat_lit 327,nat_lit 333,nat_lit 334,nat_lit 340,nat_lit 341,nat_lit 347,nat_lit 348,nat_lit 354,nat_lit 355,nat_lit 361,nat_lit 362,nat_lit 368,nat_lit 369,nat_lit 375,nat_lit 376,nat_lit 380,nat_lit 381,nat_lit 387,nat_lit 388,nat_lit 394,nat_lit 395] (fun _=>by kernel_rfl)
noncomputable abbrev pt:Program:=PySem.W.Fast.tw4632930268590144247
theorem pt_eq:PySem.Challenge.pw_platecuts_k81_tellings_told=pt:=PySem.W.Fast.te4632930268590144247
noncomputable def tp (i:Nat):Stmt:=pt.main.body.getD i (.Pass ⟨0,0,0,0⟩)
noncomputable abbrev f (o:Params→Obj) (l r:Params→BT):Params→BT:=fun P=>.node (o P) (l P) (r P)
noncomputable abbrev z:Params→BT:=fun _=>.nil
noncomputable abbrev e (P:Params) (n:Str) (t:Nat) (v:Value):DictEntry:=⟨PyData.keyHash P n,.str n t,v⟩
noncomputable abbrev m0:Nat:=nat_lit 11
noncomputable abbrev an:Option Value:=(some (.ref 6))
noncomputable abbrev en:Env:={ scope:=pt.main.scope,locals:=mainNs,globals:=mainNs,cells:=[],code:=(.ref 13),frame:=some 14 }
noncomputable abbrev cE:Code:=.body (behindTheImports pt) en
noncomputable abbrev qP:Pos:=⟨0,0,0,0⟩
noncomputable abbrev B:List Frame:=[topFrame qP]
noncomputable abbrev L0:=SL.s14018661285674007319x4
noncomputable abbrev L1:=SL.s11665532747177232413x24
noncomputable abbrev L2:=SL.s15183661809925369436x15
noncomputable abbrev L3:=SL.s13915890719876406383x10
noncomputable abbrev L4:=SL.s13459172003223722735x3
noncomputable abbrev L5:=SL.s10557405761357834076x3
noncomputable abbrev L6:=SL.s4233737765568776869x3
noncomputable abbrev L7:=SL.s2508922471967985374x5
noncomputable abbrev L8:=SL.s15574269061696679450x3
noncomputable abbrev L9:=SL.s6016482663378992977x10
noncomputable abbrev L10:=SL.s5596568736180474577x8
noncomputable abbrev L11:=SL.s2839554839881490554x3
noncomputable abbrev L12:=SL.s725004073602090463x7
noncomputable abbrev L13:=SL.s9436932552931045734x7
noncomputable abbrev L14:=SL.s2754603736356183583x3
noncomputable abbrev L15:=SL.s15185746759980889043x6
noncomputable abbrev L16:=SL.s8192189862530294059x4
noncomputable abbrev L17:=SL.s7038307821325472102x4
noncomputable abbrev L18:=SL.s5662562618415449548x6
noncomputable abbrev L19:=SL.s15281542589158584767x7
noncomputable abbrev L20:=SL.s17651547275483570877x7
noncomputable abbrev L21:=SL.s4036449017235975746x7
noncomputable abbrev L22:=SL.s8879979712987360175x4
noncomputable abbrev L23:=SL.s1801250619170735830x3
noncomputable abbrev L24:=SL.s17659931425627118568x2
noncomputable abbrev L25:=SL.s6063217899685152688x5
noncomputable abbrev L26:=SL.s8008927332132565319x10
noncomputable abbrev L27:=SL.s3544116645089599534x10
noncomputable abbrev L28:=SL.s13761710972054866084x4
noncomputable abbrev L29:=SL.s12896375587409280029x5
noncomputable abbrev L30:=SL.s13014049009108672802x3
noncomputable abbrev L31:=SL.s13935586738268321596x6
noncomputable abbrev L32:=SL.s8200498257699607233x3
noncomputable abbrev L33:=SL.s14114244577727609259x3
noncomputable abbrev L34:=SL.s1499430450269397089x4
noncomputable abbrev L35:=SL.s8755793994789770505x5
noncomputable abbrev L36:=SL.s15725212667919936108x3
noncomputable abbrev L37:=SL.s15791221867095933363x3
noncomputable abbrev L38:=SL.s81309575031448614x3
noncomputable abbrev L39:=SL.s8069831620301644142x5
noncomputable abbrev L40:=SL.s10061844253413749634x4
noncomputable abbrev L41:=SL.s9496514870978017513x5
noncomputable abbrev L42:=SL.s8899691144933366716x7
noncomputable abbrev L43:=SL.s15201008993051130160x6
noncomputable abbrev L44:=SL.s741896355592496720x3
noncomputable abbrev L45:=SL.s17925004256654032244x4
noncomputable abbrev L46:=SL.s11695548795398191787x4
noncomputable abbrev L47:=SL.s4156966113859768872x10
noncomputable abbrev L48:=SL.s9501651726347032510x9
noncomputable abbrev L49:=SL.s15722918466584999320x5
noncomputable abbrev L50:=SL.s591115383303110208x11
noncomputable abbrev L51:=SL.s15721156781594690315x7
noncomputable abbrev L52:=SL.s14340494229221121180x9
noncomputable abbrev L53:=SL.s13429844117177748173x6
noncomputable abbrev L54:=SL.s16463266125957815391x5
noncomputable abbrev L55:=SL.s4922535414793169389x9
noncomputable abbrev L56:=SL.s8101838861749082086x8
noncomputable abbrev L57:=SL.s7066276694103001551x3
noncomputable abbrev L58:=SL.s9222952809800978799x4
noncomputable abbrev L59:=SL.s462964344163437139x3
noncomputable abbrev L60:=SL.s2742458400755230247x6
noncomputable abbrev L61:=SL.s1438033511350832697x5
noncomputable abbrev L62:=SL.s14365286008749172514x8
noncomputable abbrev L63:=SL.s3642769012341782148x3
noncomputable abbrev L64:=SL.s4674234679698826739x5
noncomputable abbrev L65:=SL.s16656946322747308186x12
noncomputable abbrev L66:=SL.s10796804682411823810x3
noncomputable abbrev L67:=SL.s4290257624100764138x5
noncomputable abbrev L68:=SL.s2766695959194262286x5
noncomputable abbrev L69:=SL.s17162191345867700912x4
noncomputable abbrev L70:=SL.s14339709457334898076x3
noncomputable abbrev L71:=SL.s4278001404047624695x13
noncomputable abbrev L72:=SL.s6585700554429387442x18
noncomputable abbrev L73:=SL.s5946037652744460706x9
noncomputable abbrev L74:=SL.s7410770068591931388x13
noncomputable abbrev L75:=SL.s11817881795495490833x17
noncomputable abbrev L76:=SL.s15679963881808890155x10
noncomputable abbrev L77:=SL.s3871700062485845797x15
noncomputable abbrev L78:=SL.s7689518266570723881x14
noncomputable abbrev L79:=SL.s9001593270443806431x14
noncomputable abbrev L80:=SL.s6882542574934516792x11
noncomputable abbrev L81:=SL.s14403400214490484960x8
noncomputable abbrev L82:=SL.s14457978657717015782x11
noncomputable abbrev L83:=SL.s1753610191782819921x11
noncomputable abbrev L84:=SL.s14119380538032626715x11
noncomputable abbrev L85:=SL.s11437920000406562045x9
noncomputable abbrev L86:=SL.s10852414792293593619x7
noncomputable abbrev L87:=SL.s14816307405966870543x14
noncomputable abbrev L88:=SL.s8682627914449686677x12
noncomputable abbrev L89:=SL.s4428170145600203450x18
noncomputable abbrev L90:=SL.s5991306692159431302x13
noncomputable abbrev L91:=SL.s16067994140765818257x11
noncomputable abbrev L92:=SL.s2327743974964600596x11
noncomputable abbrev L93:=SL.s2804747833354056582x9
noncomputable abbrev L94:=SL.s6070975301684473832x10
noncomputable abbrev L95:=SL.s14270485950484850486x7
noncomputable abbrev L96:=SL.s12041534306414923332x18
noncomputable abbrev L97:=SL.s2531307568338490285x13
noncomputable abbrev L98:=SL.s631175304937289666x17
noncomputable abbrev L99:=SL.s5144983644357021410x12
noncomputable abbrev Bd:=SL.s18039099521571816885x18
noncomputable abbrev Be:=SL.s6011586214260557989x15
noncomputable abbrev Bf:=SL.s5430567037509283100x13
noncomputable abbrev Bg:=SL.s8117915138073963741x13
noncomputable abbrev Bh:=SL.s3423317712779056401x25
noncomputable abbrev Bi:=SL.s2007317383269046180x15
noncomputable abbrev Bj:=SL.s17481586968713580700x14
noncomputable abbrev Bk:=SL.s2450899226349176912x13
noncomputable abbrev Bl:=SL.s16626165730633575011x14
noncomputable abbrev Bm:=SL.s14288496050688921416x11
noncomputable abbrev Bn:=SL.s5735081916595925998x15
noncomputable abbrev Bo:=SL.s3865607918536308442x17
noncomputable abbrev Bp:=SL.s13337502604062700212x15
noncomputable abbrev Bq:=SL.s13114017843053701147x15
noncomputable abbrev Br:=SL.s17467278006356818441x17
noncomputable abbrev Bs:=SL.s17722149559621369488x16
noncomputable abbrev Bt:=SL.s7855274175708717672x17
noncomputable abbrev Bu:=SL.s13351283678309829046x18
noncomputable abbrev Bv:=SL.s6668348653404991179x15
noncomputable abbrev Bw:=SL.s12913350958174193794x18
noncomputable abbrev By:=SL.s16115879512475548326x12
noncomputable abbrev Bz:=SL.s15920661018069861047x16
noncomputable abbrev BA:=SL.s10779130036587390575x21
noncomputable abbrev BB:=SL.s7801419657504700863x10
noncomputable abbrev BC:=SL.s1688129525768580628x8
noncomputable abbrev BD:=SL.s1031832959479892071x19
noncomputable abbrev BE:=SL.s8991790508128307865x19
noncomputable abbrev BF:=SL.s14539662485746970245x23
noncomputable abbrev BG:=SL.s11643622729373238714x14
noncomputable abbrev BH:=SL.s3386828779285465597x17
noncomputable abbrev BI:=SL.s13042696260734638735x12
noncomputable abbrev BJ:=SL.s18239426817015966623x15
noncomputable abbrev BK:=SL.s1270395311379034370x22
noncomputable abbrev BL:=SL.s10696252587037064777x22
noncomputable abbrev BM:=SL.s7852717498200857586x20
noncomputable abbrev BN:=SL.s6377248116197321094x8
noncomputable abbrev BO:=SL.s3834378056692298002x18
noncomputable abbrev BP:=SL.s17586630440231065808x18
noncomputable abbrev BQ:=SL.s15234114252648025395x21
noncomputable abbrev BR:=SL.s8496462677383758984x14
noncomputable abbrev BS:=SL.s16789243406116112673x4
noncomputable abbrev BU:=SL.s14400166428656793546x20
noncomputable abbrev BV:=SL.s5857708277339239366x20
noncomputable abbrev BW:=SL.s7804999707787243718x20
noncomputable abbrev wn:=SL.s7097527257260152453x26
noncomputable abbrev BX:=SL.s6658869562736209489x6
noncomputable abbrev qS:=SL.s5856160107412720595x4
noncomputable abbrev AT:=SL.s658472552662922059x5
noncomputable abbrev sZ (w:World) (os:OsState):Shared:=⟨boot_heap w.params,Array.mk [],boot_drawn,boot_toks,os⟩
noncomputable def o11 (P:Params):Obj:=⟨(.type L68),none,(.seq #[] 0),#[]⟩
noncomputable def o12 (P:Params):Obj:=⟨.none,none,(.fields #[]),#[]⟩
noncomputable def g0 (x0:Str)(x1 x2 x3:Nat)(P:Params):Obj:=⟨(.type qS),none,(.fields #[.str x0 x1,.str x0 (x1+1),.str hG (x1+2),.int x2 0,.int 0 0,.int 0 0,.int 0 0,.int 0 0,.ref x3,.bool false,.int 181 0,.ref (x3+1),.none,.none,.none,.none,.int (x1+3) 0,.int x2 0,.str hG (x1+4)]),#[]⟩
noncomputable def o13:=g0 zZ 182 1 11
noncomputable def g1 (x0 x1:Nat)(x2:Str)(x3:Nat)(P:Params):Obj:=⟨(.type AT),none,.plain,#[some (.ref x0),some (.ref 3),some (.ref x1),none,some (.str x2 x3),none,some (.ref 0)]⟩
noncomputable def o14:=g1 13 3 vK 164
noncomputable def hA (P:Params):Heap:=⟨⟨[boot_o_0 P,boot_o_1 P,boot_o_2 P,boot_o_3 P,boot_o_4 P,boot_o_5 P,boot_o_6 P,boot_o_7 P,boot_o_8 P,boot_o_9 P,boot_o_10 P,o11 P,o12 P,o13 P,o14 P]⟩,{ }⟩
noncomputable abbrev sA (w:World) (os:OsState):Shared:=⟨hA w.params,(Array.mk []),⟨0,0,0,0⟩,187,os⟩
noncomputable abbrev pA:Pos:=⟨0,0,0,0⟩
theorem pre (w:World):(fun os=>topGo treeTable pt w m0 an 12 (sZ w os) (topStub pt))=fun os=>some (sA w os,(⟨denote treeTable cE,cE,pA,B⟩:Thread)):=by
 rw [PySem.W.Fast.te15667345088766844465,PySem.W.Fast.te14364793385576792824,PySem.W.Fast.te11892475500146522536]; kernel_rfl
noncomputable def tB:Params→BT:=(f boot_o_0 (f boot_o_1 (f boot_o_3 (f boot_o_7 z z) (f o11 z z)) (f boot_o_5 (f boot_o_9 z z) (f o13 z z))) (f boot_o_2 (f boot_o_4 (f boot_o_8 z z) (f o12 z z)) (f boot_o_6 (f boot_o_10 z z) (f o14 z z))))
noncomputable abbrev sB (w:World) (os:OsState):SharedT:=⟨tB w.params,15,{ },(Array.mk []),⟨0,0,0,0⟩,187,os⟩
noncomputable abbrev pB:Pos:=⟨0,0,0,0⟩
theorem blk (w:World):(fun os=>segRun treeTable pt w m0 an 1 1 (sA w os) ⟨(blockStart (behindTheImports pt) en).wrap (fun _=>doneF .next) deadEnd id id,cE,pA,B⟩)=fun os=>some (.next,(sB w os).abs,cE,pB):=by
 rw [PySem.W.Fast.te14374325043358763698,PySem.W.Fast.te14364793385576792824,PySem.W.Fast.te1066825118222455980]; kernel_rfl
noncomputable def AU (P:Params):Obj:=⟨(.type L0),none,(.dict #[e P S0 165 (.str iN 376),e P S2 166 .none,e P S3 167 .none,e P S4 168 (.builtin wn),e P S5 169 .none,e P vL 170 (.ref 6),e P vM 171 (.ref 4),e P vN 173 (.str hG 172),e P vO 174 .none,e P iO 193 (.ref 21),e P gx 213 (.ref 31),e P kP 229 (.ref 44),e P kQ 245 (.ref 56),e P kR 261 (.ref 68),e P kS 277 (.ref 80),e P kT 293 (.ref 92),e P kU 309 (.ref 104),e P iP 319 (.ref 113),e P iQ 326 (.ref 120),e P iR 333 (.ref 127),e P iS 341 (.ref 134),e P qp 345 (.str qq 344),e P qr 347 (.str qt 346),e P qu 348 (.ref 135),e P iT 363 (.ref 142),e P iU 375 (.ref 149),e P qv 379 (.str vP 378),e P qw 381 (.str vQ 380),e P qx 383 (.int 1 382),e P qy 385 (.int 5 384),e P qz 387 (.int 4 386),e P iV 396 (.ref 156),e P iW 407 (.ref 163),e P iX 420 (.ref 170),e P iY 444 (.ref 177),e P iZ 457 (.ref 184)] 36),#[]⟩
noncomputable def wr (P:Params):Obj:=⟨.none,none,(.fields #[.int 1 0,.int 0 0,.ref 20,.int 5 0,.int 0 0,.ref 27,.int 7 0,.int 0 0,.ref 40,.int 9 0,.int 0 0,.ref 52,.int 11 0,.int 0 0,.ref 64,.int 13 0,.int 0 0,.ref 76,.int 15 0,.int 0 0,.ref 88,.int 17 0,.int 0 0,.ref 100,.int 20 0,.int 0 0,.ref 112,.int 22 0,.int 0 0,.ref 119,.int 24 0,.int 0 0,.ref 126,.int 26 0,.int 0 0,.ref 133,.int 33 0,.int 0 0,.ref 141,.int 38 0,.int 0 0,.ref 148,.int 49 0,.int 0 0,.ref 155,.int 53 0,.int 0 0,.ref 162,.int 60 0,.int 0 0,.ref 169,.int 65 0,.int 0 0,.ref 176,.int 72 0,.int 0 0,.ref 183]),#[]⟩
noncomputable def g2 (x0:Str)(x1:Nat)(P:Params):Obj:=⟨(.type L68),none,(.seq #[.str x0 x1] 0),#[]⟩
noncomputable def o17:=g2 Aa 190
noncomputable def g3 (x0:Str)(x1:Nat)(P:Params):Obj:=⟨.none,none,(.func ⟨x0,x0,L2.defArgs (tp x1),(.stmts (L2.defBody (tp x1))),L2.defScope (tp x1),0,[],.none,.none,.none,.none,none,.none,.none,0⟩),#[]⟩
noncomputable def o19:=g3 iO 0
noncomputable def g4 (x0:Str)(x1:Nat)(x2:Str)(x3 x4 x5 x6:Nat)(P:Params):Obj:=⟨(.type qS),none,(.fields #[.str x0 x1,.str x2 (x1+1),.str hG (x1+2),.int x3 0,.int x4 0,.int 0 0,.int 0 0,.int 3 0,.ref x5,.bool true,.int 181 0,.ref (x5+1),.none,.ref (x5+2),.ref (x5+3),.ref (x5+4),.int x6 0,.int x3 0,.str hG (x6+1)]),#[]⟩
noncomputable def o20:=g4 iO 187 iO 1 1 15 191
noncomputable abbrev wu:=SL.s7174869446012820540x8
noncomputable def g5 (x0:Str)(x1:Nat)(x2:Str)(x3 x4:Nat)(P:Params):Obj:=⟨(.type wu),none,(.func ⟨x0,x0,L2.defArgs (tp x1),(.stmts (L2.defBody (tp x1))),L2.defScope (tp x1),3,[],.none,.none,.none,.str x2 x3,none,.ref x4,.none,0⟩),#[]⟩
noncomputable def o21:=g5 iO 0 vK 164 20
noncomputable def o22 (P:Params):Obj:=⟨(.type L68),none,(.seq #[.type L94] 0),#[]⟩
noncomputable abbrev wv:=SL.s11030030927630378310x26
noncomputable abbrev AV:=SL.s10062305145149207511x16
noncomputable def o23 (P:Params):Obj:=⟨(.type wv),none,(.fields #[.builtin AV,.type L69]),#[]⟩
noncomputable def g6 (x0:Nat)(x1:Str)(x2 x3:Nat)(P:Params):Obj:=⟨(.type L0),none,(.dict #[e P nj x0 (.str fm 194),e P vR (x0+2) (.str x1 (x0+1)),e P nq (x0+4) (.int x2 (x0+3)),e P nr (x0+5) (.ref x3)] 4),#[]⟩
noncomputable def o24:=g6 203 gx 5 29
noncomputable def o27:=g0 gx 198 5 25
noncomputable def o28:=g1 27 24 fm 194
noncomputable def o30 (P:Params):Obj:=⟨(.type L0),none,(.dict #[e P nj 203 (.str fm 194),e P nq 207 (.int 5 206),e P nr 208 (.ref 29),e P qA 210 (.ref 32),e P S2 211 .none] 3),#[]⟩
noncomputable abbrev ww:=SL.s4209523147560561109x18
noncomputable def o31 (P:Params):Obj:=⟨(.type L69),none,(.cls ⟨gx,[.type L94],[.ref 31,.type L94,.type L73,.type L71,.type L60],30,gx,true,[],[.ref 44,.ref 56,.ref 68,.ref 80,.ref 92,.ref 104],false,none,false⟩),#[some (.ref 22),none,some (.str gx 196),some (.str gx 204),some (.builtin ww),some (.bool true)]⟩
noncomputable abbrev wx:=SL.s14755015743595814543x17
noncomputable abbrev AW:=SL.s10220274742760427390x26
noncomputable def g7 (x0 x1:Nat)(P:Params):Obj:=⟨(.type wx),none,(.fields #[.str qA x0,.ref x1,.builtin AW,.none]),#[]⟩
noncomputable def o32:=g7 209 31
noncomputable def g8 (x0:Nat)(P:Params):Obj:=⟨(.type L67),none,(.fields #[.ref x0,.ref x0,.ref x0]),#[]⟩
noncomputable def o33:=g8 31
noncomputable abbrev AX:=SL.s4860613602091757760x24
noncomputable def g9 (x0:Nat)(P:Params):Obj:=⟨(.type wv),none,(.fields #[.builtin AX,.ref x0]),#[]⟩
noncomputable def o34:=g9 31
noncomputable def o35 (P:Params):Obj:=⟨(.type L68),none,(.seq #[.ref 31] 0),#[]⟩
noncomputable def o37:=g6 221 kP 7 42
noncomputable def o40:=g0 kP 216 7 38
noncomputable def o41:=g1 40 37 fm 194
noncomputable def g10 (x0 x1 x2:Nat)(P:Params):Obj:=⟨(.type L0),none,(.dict #[e P nj x0 (.str fm 194),e P nq (x0+4) (.int x1 (x0+3)),e P nr (x0+5) (.ref x2),e P S2 (x0+6) .none] 2),#[]⟩
noncomputable def o43:=g10 221 7 42
noncomputable def g11 (x0:Str)(x1 x2 x3 x4:Nat)(P:Params):Obj:=⟨(.type L69),none,(.cls ⟨x0,[.ref 31],[.ref x1,.ref 31,.type L94,.type L73,.type L71,.type L60],x2,x0,true,[],[],false,none,false⟩),#[some (.ref x3),none,some (.str x0 x4),some (.str x0 (x4+8)),some (.builtin ww),some (.bool true)]⟩
noncomputable def o44:=g11 kP 44 43 35 214
noncomputable def o45:=g8 44
noncomputable def o46:=g9 44
noncomputable def o49:=g6 237 kQ 9 54
noncomputable def o52:=g0 kQ 232 9 50
noncomputable def o53:=g1 52 49 fm 194
noncomputable def o55:=g10 237 9 54
noncomputable def o56:=g11 kQ 56 55 47 230
noncomputable def o57:=g8 56
noncomputable def o58:=g9 56
noncomputable def o61:=g6 253 kR 11 66
noncomputable def o64:=g0 kR 248 11 62
noncomputable def o65:=g1 64 61 fm 194
noncomputable def o67:=g10 253 11 66
noncomputable def o68:=g11 kR 68 67 59 246
noncomputable def o69:=g8 68
noncomputable def o70:=g9 68
noncomputable def o73:=g6 269 kS 13 78
noncomputable def o76:=g0 kS 264 13 74
noncomputable def o77:=g1 76 73 fm 194
noncomputable def o79:=g10 269 13 78
noncomputable def o80:=g11 kS 80 79 71 262
noncomputable def o81:=g8 80
noncomputable def o82:=g9 80
noncomputable def o85:=g6 285 kT 15 90
noncomputable def o88:=g0 kT 280 15 86
noncomputable def o89:=g1 88 85 fm 194
noncomputable def o91:=g10 285 15 90
noncomputable def o92:=g11 kT 92 91 83 278
noncomputable def o93:=g8 92
noncomputable def o94:=g9 92
noncomputable def o97:=g6 301 kU 17 102
noncomputable def qT:=g0 kU 296 17 98
noncomputable def qU:=g1 100 97 fm 194
noncomputable def qV:=g10 301 17 102
noncomputable def qW:=g11 kU 104 103 95 294
noncomputable def qX:=g8 104
noncomputable def qY:=g9 104
noncomputable def g12 (x0:Str)(x1:Nat)(x2:Str)(x3:Nat)(P:Params):Obj:=⟨(.type L68),none,(.seq #[.str x0 x1,.str x2 x3] 0),#[]⟩
noncomputable def qZ:=g12 ja 315 Ab 316
noncomputable def rc:=g3 iP 10
noncomputable def re:=g4 iP 312 iP 20 2 107 317
noncomputable def rf:=g5 iP 10 oO 310 112
noncomputable def rg:=g2 ja 323
noncomputable def rh:=g3 iQ 11
noncomputable def rj:=g4 iQ 320 iQ 22 1 114 324
noncomputable def rn:=g5 iQ 11 oO 310 119
noncomputable def rz:=g2 ja 330
noncomputable def rA:=g3 iR 12
noncomputable def rB:=g4 iR 327 iR 24 1 121 331
noncomputable def rC:=g5 iR 12 oO 310 126
noncomputable def rD:=g12 gy 337 gz 338
noncomputable def rE:=g3 iS 13
noncomputable def rF:=g4 iS 334 iS 26 2 128 339
noncomputable def rG:=g5 iS 13 oO 310 133
noncomputable def rH:=g12 qq 344 qt 346
noncomputable def rJ (P:Params):Obj:=⟨(.type L68),none,(.seq #[.str nu 352,.str gy 353,.str gz 354,.str oP 355,.str qB 356,.str qD 357,.str qE 358,.str Ac 359,.str Ad 360] 0),#[]⟩
noncomputable def rK:=g3 iT 18
noncomputable def rL:=g4 iT 349 iT 33 7 136 361
noncomputable def rM:=g5 iT 18 vS 342 141
noncomputable def g13 (x0:Str)(x1:Nat)(x2 x3 x4 x5 x6:Str)(P:Params):Obj:=⟨(.type L68),none,(.seq #[.str x0 x1,.str x2 (x1+1),.str x3 (x1+2),.str x4 (x1+3),.str x5 (x1+4),.str x6 (x1+5)] 0),#[]⟩
noncomputable def rN:=g13 fo 367 qF nv vT gy gz
noncomputable def rO:=g3 iU 19
noncomputable def rP:=g4 iU 364 iU 38 4 143 373
noncomputable def rQ:=g5 iU 19 vS 342 148
noncomputable def g14 (x0:Str)(x1:Nat)(x2 x3:Str)(P:Params):Obj:=⟨(.type L68),none,(.seq #[.str x0 x1,.str x2 (x1+1),.str x3 (x1+2)] 0),#[]⟩
noncomputable def rR:=g14 ja 391 Ae Af
noncomputable def rS:=g3 iV 26
noncomputable def rT:=g4 iV 388 iV 49 3 150 394
noncomputable def rU:=g5 iV 26 iN 376 155
noncomputable def g15 (x0:Str)(x1:Nat)(x2 x3 x4 x5:Str)(P:Params):Obj:=⟨(.type L68),none,(.seq #[.str x0 x1,.str x2 (x1+1),.str x3 (x1+2),.str x4 (x1+3),.str x5 (x1+4)] 0),#[]⟩
noncomputable def rV:=g15 fo 400 oQ nz nv Ag
noncomputable def rW:=g3 iW 27
noncomputable def rX:=g4 iW 397 iW 53 2 157 405
noncomputable def rY:=g5 iW 27 iN 376 162
noncomputable def g16 (x0:Str)(x1:Nat)(x2 x3 x4 x5 x6 x7:Str)(P:Params):Obj:=⟨(.type L68),none,(.seq #[.str x0 x1,.str x2 (x1+1),.str x3 (x1+2),.str x4 (x1+3),.str x5 (x1+4),.str x6 (x1+5),.str x7 (x1+6)] 0),#[]⟩
noncomputable def rZ:=g16 nu 411 oQ qD qE gy gz nz
noncomputable def si:=g3 iX 28
noncomputable def sj:=g4 iX 408 iX 60 2 164 418
noncomputable def sk:=g5 iX 28 iN 376 169
noncomputable def ss (P:Params):Obj:=⟨(.type L68),none,(.seq #[.str fo 424,.str oQ 425,.str qD 426,.str qE 427,.str gy 428,.str gz 429,.str nz 430,.str nv 431,.str vT 432,.str vU 433,.str vV 434,.str Ah 435,.str Ai 436,.str Aj 437,.str Ak 438,.str Al 439,.str Am 440,.str An 441] 0),#[]⟩
noncomputable def su:=g3 iY 29
noncomputable def sv:=g4 iY 421 iY 65 2 171 442
noncomputable def sw:=g5 iY 29 iN 376 176
noncomputable def sy:=g16 nu 448 gy gz ja fo vW oQ
noncomputable def sC:=g3 iZ 30
noncomputable def sD:=g4 iZ 445 iZ 72 4 178 455
noncomputable def sE:=g5 iZ 30 iN 376 183
noncomputable def t0:Params→BT:=(f boot_o_0 (f boot_o_1 (f AU (f boot_o_7 (f o11 (f o31 (f o12 (f rC z z) z) (f o35 (f rV z z) z)) (f o35 (f o79 (f o11 z z) z) (f rc (f su z z) z))) (f o23 (f o12 (f o35 (f rH z z) z) (f qV (f o11 z z) z)) (f o55 (f o12 (f o12 z z) z) (f rj (f sD z z) z)))) (f o11 (f o19 (f o35 (f o67 (f o11 z z) z) (f o12 (f rY z z) z)) (f o12 (f o35 (f rO z z) z) (f o12 (f o12 z z) z))) (f o27 (f o43 (f o12 (f o11 z z) z) (f o11 (f o11 z z) z)) (f o35 (f o91 (f rT z z) z) (f rz z z))))) (f boot_o_5 (f boot_o_9 (f o17 (f o33 (f o65 (f o12 z z) z) (f o97 (f rW z z) z)) (f o49 (f o81 (f rN z z) z) (f rf (f sw z z) z))) (f o11 (f o41 (f o73 (f o12 z z) z) (f qX (f sj z z) z)) (f o57 (f o89 (f o11 z z) z) (f o11 z z)))) (f o13 (f o21 (f o37 (f o69 (f rF z z) z) (f qU (f o12 z z) z)) (f o53 (f o85 (f rQ z z) z) (f o11 (f o11 z z) z))) (f o11 (f o45 (f o77 (f rL z z) z) (f qZ (f ss z z) z)) (f o61 (f o93 (f o11 z z) z) (f rA z z)))))) (f boot_o_2 (f boot_o_4 (f boot_o_8 (f o12 (f o32 (f o64 (f o11 z z) z) (f o23 (f o11 z z) z)) (f o23 (f o80 (f o12 z z) z) (f re (f sv z z) z))) (f o24 (f o40 (f o23 (f o11 z z) z) (f qW (f si z z) z)) (f o56 (f o88 (f rR z z) z) (f rn (f sE z z) z)))) (f wr (f o20 (f o23 (f o68 (f rE z z) z) (f qT (f o11 z z) z)) (f o52 (f o23 (f rP z z) z) (f rg (f sy z z) z))) (f o28 (f o44 (f o76 (f rK z z) z) (f o12 (f o12 z z) z)) (f o23 (f o92 (f rU z z) z) (f o11 z z))))) (f boot_o_6 (f boot_o_10 (f o11 (f o34 (f o11 (f rD z z) z) (f o11 (f rX z z) z)) (f o11 (f o82 (f o11 z z) z) (f o11 (f o11 z z) z))) (f o12 (f o11 (f o11 (f rJ z z) z) (f qY (f sk z z) z)) (f o58 (f o11 (f rS z z) z) (f o12 z z)))) (f o14 (f o22 (f o11 (f o70 (f rG z z) z) (f o11 (f rZ z z) z)) (f o11 (f o11 (f o11 z z) z) (f rh (f sC z z) z))) (f o30 (f o46 (f o11 (f rM z z) z) (f o11 (f o11 z z) z)) (f o11 (f o94 (f o12 z z) z) (f rB z z)))))))
noncomputable abbrev s0 (w:World) (os:OsState):SharedT:=⟨t0 w.params,185,{ },(Array.mk []),⟨0,0,0,0⟩,458,os⟩
noncomputable abbrev p0:Pos:=⟨72,0,82,15⟩
noncomputable abbrev st0:List Stmt:=(pt.main.body.drop 0).take 31
theorem q0 (w:World):(fun os=>segRunT treeTable pt w m0 an 1 1976 (sB w os) ⟨(execs st0 en).wrap doneF deadEnd id id,cE,pB,B⟩)=fun os=>some (.next,s0 w os,cE,p0):=by
 rw [PySem.W.Fast.te10110043849684766642,PySem.W.Fast.te14364793385576792824,PySem.W.Fast.te12563942051412417395]; kernel_rfl
noncomputable def wz (P:Params):Obj:=⟨(.type L0),none,(.dict #[e P S0 165 (.str cC 603),e P S2 166 .none,e P S3 167 .none,e P S4 168 (.builtin wn),e P S5 169 .none,e P vL 170 (.ref 6),e P vM 171 (.ref 4),e P vN 173 (.str hG 172),e P vO 174 .none,e P iO 193 (.ref 21),e P gx 213 (.ref 31),e P kP 229 (.ref 44),e P kQ 245 (.ref 56),e P kR 261 (.ref 68),e P kS 277 (.ref 80),e P kT 293 (.ref 92),e P kU 309 (.ref 104),e P iP 319 (.ref 113),e P iQ 326 (.ref 120),e P iR 333 (.ref 127),e P iS 341 (.ref 134),e P qp 345 (.str qq 344),e P qr 347 (.str qt 346),e P qu 348 (.ref 135),e P iT 363 (.ref 142),e P iU 375 (.ref 149),e P qv 379 (.str vP 378),e P qw 381 (.str vQ 380),e P qx 383 (.int 1 382),e P qy 385 (.int 5 384),e P qz 387 (.int 4 386),e P iV 396 (.ref 156),e P iW 407 (.ref 163),e P iX 420 (.ref 170),e P iY 444 (.ref 177),e P iZ 457 (.ref 184),e P kW 467 (.ref 191),e P kX 477 (.ref 198),e P kY 493 (.ref 205),e P kZ 503 (.ref 212),e P vX 507 (.int 8 506),e P vY 509 (.int 5 508),e P la 521 (.ref 219),e P lb 528 (.ref 226),e P hI 602 (.ref 281),e P lc 612 (.ref 292),e P le 620 (.ref 299),e P lg 629 (.ref 306),e P lh 637 (.ref 313),e P li 646 (.ref 320),e P lj 654 (.ref 327),e P lm 667 (.ref 334),e P lp 678 (.ref 341),e P lq 688 (.ref 348),e P lr 699 (.ref 355),e P lw 713 (.ref 362),e P lx 731 (.ref 369),e P lz 750 (.ref 376),e P lA 756 (.ref 381),e P lB 775 (.ref 388),e P nA 794 (.ref 395)] 61),#[]⟩
noncomputable def pE (P:Params):Obj:=⟨.none,none,(.fields #[.int 1 0,.int 0 0,.ref 20,.int 5 0,.int 0 0,.ref 27,.int 7 0,.int 0 0,.ref 40,.int 9 0,.int 0 0,.ref 52,.int 11 0,.int 0 0,.ref 64,.int 13 0,.int 0 0,.ref 76,.int 15 0,.int 0 0,.ref 88,.int 17 0,.int 0 0,.ref 100,.int 20 0,.int 0 0,.ref 112,.int 22 0,.int 0 0,.ref 119,.int 24 0,.int 0 0,.ref 126,.int 26 0,.int 0 0,.ref 133,.int 33 0,.int 0 0,.ref 141,.int 38 0,.int 0 0,.ref 148,.int 49 0,.int 0 0,.ref 155,.int 53 0,.int 0 0,.ref 162,.int 60 0,.int 0 0,.ref 169,.int 65 0,.int 0 0,.ref 176,.int 72 0,.int 0 0,.ref 183,.int 83 0,.int 0 0,.ref 190,.int 87 0,.int 0 0,.ref 197,.int 89 0,.int 0 0,.ref 204,.int 103 0,.int 0 0,.ref 211,.int 109 0,.int 0 0,.ref 218,.int 116 0,.int 0 0,.ref 225,.int 118 0,.int 0 0,.ref 232,.int 156 0,.int 0 0,.ref 291,.int 160 0,.int 0 0,.ref 298,.int 162 0,.int 0 0,.ref 305,.int 169 0,.int 0 0,.ref 312,.int 172 0,.int 0 0,.ref 319,.int 176 0,.int 0 0,.ref 326,.int 179 0,.int 0 0,.ref 333,.int 187 0,.int 0 0,.ref 340,.int 190 0,.int 0 0,.ref 347,.int 197 0,.int 0 0,.ref 354,.int 201 0,.int 0 0,.ref 361,.int 212 0,.int 0 0,.ref 368,.int 223 0,.int 0 0,.ref 375,.int 238 0,.int 0 0,.ref 380,.int 242 0,.int 0 0,.ref 387,.int 256 0,.int 0 0,.ref 394]),#[]⟩
noncomputable def g17 (x0:Str)(x1:Nat)(x2 x3 x4:Str)(P:Params):Obj:=⟨(.type L68),none,(.seq #[.str x0 x1,.str x2 (x1+1),.str x3 (x1+2),.str x4 (x1+3)] 0),#[]⟩
noncomputable def wA:=g17 nu 461 gy gz ja
noncomputable def wB:=g3 kW 31
noncomputable def wC:=g4 kW 458 kW 83 4 185 465
noncomputable def wD:=g5 kW 31 iN 376 190
noncomputable def wE:=g12 qF 473 nv 474
noncomputable def wF:=g3 kX 33
noncomputable def wG:=g4 kX 470 kX 87 2 192 475
noncomputable def wH:=g5 kX 33 qG 468 197
noncomputable def wI (P:Params):Obj:=⟨(.type L68),none,(.seq #[.str fo 481,.str qF 482,.str nz 483,.str nv 484,.str vZ 485,.str vW 486,.str Ao 487,.str Ap 488,.str vU 489,.str vV 490] 0),#[]⟩
noncomputable def wJ:=g3 kY 34
noncomputable def wK:=g4 kY 478 kY 89 3 199 491
noncomputable def wL:=g5 kY 34 qG 468 204
noncomputable def wM:=g17 nu 497 gy gz nz
noncomputable def wN:=g3 kZ 35
noncomputable def wO:=g4 kZ 494 kZ 103 4 206 501
noncomputable def wP:=g5 kZ 35 qG 468 211
noncomputable def wQ:=g13 ja 513 gy gz Aq lC Ar
noncomputable def wR:=g3 la 39
noncomputable def wS:=g4 la 510 la 109 1 213 519
noncomputable def wT:=g5 la 39 lD 504 218
noncomputable def wU:=g2 oP 525
noncomputable def wV:=g3 lb 40
noncomputable def wW:=g4 lb 522 lb 116 1 220 526
noncomputable def wX:=g5 lb 40 lD 504 225
noncomputable def wY (P:Params):Obj:=⟨(.type L0),none,(.dict #[e P nj 536 (.str lD 504),e P vR 538 (.str hI 537),e P nq 540 (.int 118 539),e P nC 546 (.ref 238),e P fo 553 (.ref 245),e P nD 560 (.ref 252),e P lC 566 (.ref 257),e P nE 573 (.ref 264),e P nF 582 (.ref 271),e P nG 592 (.ref 278),e P nr 595 (.ref 279)] 11),#[]⟩
noncomputable def wZ (P:Params):Obj:=⟨.none,none,(.fields #[.int 120 0,.int 4 0,.ref 237,.int 131 0,.int 4 0,.ref 244,.int 134 0,.int 4 0,.ref 251,.int 137 0,.int 4 0,.ref 256,.int 140 0,.int 4 0,.ref 263,.int 143 0,.int 4 0,.ref 270,.int 148 0,.int 4 0,.ref 277]),#[]⟩
noncomputable def xa:=g0 hI 531 118 230
noncomputable def xb:=g1 232 229 lD 504
noncomputable def g18 (x0 x1:Str)(x2:Nat)(P:Params):Obj:=⟨.none,none,(.func ⟨x0,x1,L2.defArgs (L2.inClass (tp 41) x2),(.stmts (L2.defBody (L2.inClass (tp 41) x2))),L2.defScope (L2.inClass (tp 41) x2),0,[],.none,.none,.none,.none,none,.none,.none,0⟩),#[]⟩
noncomputable def xc:=g18 nC qH 0
noncomputable def g19 (x0:Str)(x1:Nat)(x2:Str)(x3 x4 x5:Nat)(P:Params):Obj:=⟨(.type qS),none,(.fields #[.str x0 x1,.str x2 (x1+1),.str hG (x1+2),.int x3 0,.int x4 0,.int 0 0,.int 0 0,.int 3 0,.ref x5,.bool true,.int 181 0,.ref (x5+1),.none,.none,.none,.ref (x5+2),.int (x1+3) 0,.int x3 0,.str hG (x1+4)]),#[]⟩
noncomputable def xf:=g19 nC 541 qH 120 3 234
noncomputable def g20 (x0 x1:Str)(x2 x3:Nat)(P:Params):Obj:=⟨(.type wu),none,(.func ⟨x0,x1,L2.defArgs (L2.inClass (tp 41) x2),(.stmts (L2.defBody (L2.inClass (tp 41) x2))),L2.defScope (L2.inClass (tp 41) x2),3,[],.none,.none,.none,.str lD 504,none,.ref x3,.none,0⟩),#[]⟩
noncomputable def xg:=g20 nC qH 0 237
noncomputable def xh:=g2 nH 550
noncomputable def xi:=g18 fo qI 1
noncomputable def xj:=g4 fo 547 qI 131 1 239 551
noncomputable def xk:=g20 fo qI 1 244
noncomputable def xl:=g2 nH 557
noncomputable def xm:=g18 nD qJ 2
noncomputable def xn:=g4 nD 554 qJ 134 1 246 558
noncomputable def xo:=g20 nD qJ 2 251
noncomputable def xq:=g18 lC qK 3
noncomputable def xt:=g19 lC 561 qK 137 1 253
noncomputable def xu:=g20 lC qK 3 256
noncomputable def xw:=g2 nH 570
noncomputable def xy:=g18 nE qL 4
noncomputable def xz:=g4 nE 567 qL 140 1 258 571
noncomputable def xA:=g20 nE qL 4 263
noncomputable def xB:=g14 nH 577 oP qB
noncomputable def xC:=g18 nF qM 5
noncomputable def xD:=g4 nF 574 qM 143 3 265 580
noncomputable def xE:=g20 nF qM 5 270
noncomputable def xF:=g17 nH 586 oP qB vZ
noncomputable def xG:=g18 nG qN 6
noncomputable def xH:=g4 nG 583 qN 148 3 272 590
noncomputable def xI:=g20 nG qN 6 277
noncomputable def xJ:=g12 As 593 At 594
noncomputable def xK (P:Params):Obj:=⟨(.type L0),none,(.dict #[e P nj 536 (.str lD 504),e P nq 540 (.int 118 539),e P nC 546 (.ref 238),e P fo 553 (.ref 245),e P nD 560 (.ref 252),e P lC 566 (.ref 257),e P nE 573 (.ref 264),e P nF 582 (.ref 271),e P nG 592 (.ref 278),e P nr 595 (.ref 279),e P wc 597 (.ref 282),e P qA 599 (.ref 283),e P S2 600 .none] 4),#[]⟩
noncomputable abbrev AY:=SL.s11443829558043349243x14
noncomputable def xL (P:Params):Obj:=⟨(.type L69),none,(.cls ⟨hI,[.type L60],[.ref 281,.type L60],280,hI,true,[],[],false,none,false⟩),#[none,none,some (.str hI 529),some (.str hI 537),some (.builtin AY),some (.bool true)]⟩
noncomputable abbrev AZ:=SL.s6511155373996960695x17
noncomputable abbrev Ba:=SL.s12411053484034534018x21
noncomputable def xM (P:Params):Obj:=⟨(.type wx),none,(.fields #[.str wc 596,.ref 281,.builtin AZ,.builtin Ba]),#[]⟩
noncomputable def xN:=g7 598 281
noncomputable def xO:=g8 281
noncomputable def xP:=g9 281
noncomputable def xQ:=g12 wd 608 lE 609
noncomputable def xR:=g3 lc 43
noncomputable def xS:=g4 lc 605 lc 156 2 286 610
noncomputable def xT:=g5 lc 43 cC 603 291
noncomputable def xU:=g12 Au 616 lE 617
noncomputable def xV:=g3 le 44
noncomputable def xW:=g4 le 613 le 160 2 293 618
noncomputable def xX:=g5 le 44 cC 603 298
noncomputable def xY:=g14 gA 624 Av Aw
noncomputable def xZ:=g3 lg 45
noncomputable def ya:=g4 lg 621 lg 162 2 300 627
noncomputable def yb:=g5 lg 45 cC 603 305
noncomputable def yc:=g12 gA 633 qO 634
noncomputable def yd:=g3 lh 46
noncomputable def ye:=g4 lh 630 lh 169 1 307 635
noncomputable def yf:=g5 lh 46 cC 603 312
noncomputable def yg:=g14 gA 641 oR Ax
noncomputable def yh:=g3 li 47
noncomputable def yi:=g4 li 638 li 172 3 314 644
noncomputable def yj:=g5 li 47 cC 603 319
noncomputable def yk:=g12 gA 650 qO 651
noncomputable def ym:=g3 lj 48
noncomputable def yn:=g4 lj 647 lj 176 1 321 652
noncomputable def yo:=g5 lj 48 cC 603 326
noncomputable def yp:=g16 gA 658 oR Ay Az lE hJ hU
noncomputable def yq:=g3 lm 49
noncomputable def yr:=g4 lm 655 lm 179 2 328 665
noncomputable def yt:=g5 lm 49 cC 603 333
noncomputable def yu:=g15 hV 671 qQ we hJ hU
noncomputable def yw:=g3 lp 50
noncomputable def yx:=g4 lp 668 lp 187 3 335 676
noncomputable def yy:=g5 lp 50 cC 603 340
noncomputable def yz:=g17 hV 682 wf lE qQ
noncomputable def yA:=g3 lq 51
noncomputable def yB:=g4 lq 679 lq 190 1 342 686
noncomputable def yC:=g5 lq 51 cC 603 347
noncomputable def yD:=g15 hV 692 hJ hU oS wg
noncomputable def yE:=g3 lr 52
noncomputable def yF:=g4 lr 689 lr 197 5 349 697
noncomputable def yG:=g5 lr 52 cC 603 354
noncomputable def yH (P:Params):Obj:=⟨(.type L68),none,(.seq #[.str gA 703,.str hV 704,.str hJ 705,.str hU 706,.str qO 707,.str qQ 708,.str we 709,.str AA 710] 0),#[]⟩
noncomputable def yI:=g3 lw 53
noncomputable def yJ:=g4 lw 700 lw 201 4 356 711
noncomputable def yK:=g5 lw 53 cC 603 361
noncomputable def yL (P:Params):Obj:=⟨(.type L68),none,(.seq #[.str gA 717,.str hV 718,.str hJ 719,.str hU 720,.str AB 721,.str AC 722,.str oS 723,.str AD 724,.str wg 725,.str wj 726,.str wk 727,.str AE 728] 0),#[]⟩
noncomputable def yM:=g3 lx 54
noncomputable def yN:=g4 lx 714 lx 212 6 363 729
noncomputable def yO:=g5 lx 54 cC 603 368
noncomputable def g21 (x0:Str)(x1:Nat)(x2 x3 x4 x5 x6 x7 x8 x9 x10 x11 x12 x13:Str)(P:Params):Obj:=⟨(.type L68),none,(.seq #[.str x0 x1,.str x2 (x1+1),.str x3 (x1+2),.str x4 (x1+3),.str x5 (x1+4),.str x6 (x1+5),.str x7 (x1+6),.str x8 (x1+7),.str x9 (x1+8),.str x10 (x1+9),.str x11 (x1+10),.str x12 (x1+11),.str x13 (x1+12)] 0),#[]⟩
noncomputable def yP:=g21 hV 735 hJ hU qR oS AF AG AH AI AJ wj wk wm
noncomputable def yQ:=g3 lz 55
noncomputable def yR:=g4 lz 732 lz 223 4 370 748
noncomputable def yS:=g5 lz 55 cC 603 375
noncomputable def yT:=g3 lA 56
noncomputable def yU:=g19 lA 751 lA 238 2 377
noncomputable def yV:=g5 lA 56 cC 603 380
noncomputable def yW:=g21 gA 760 hV oR AK hJ hU qR lE oS wm AL AM AN
noncomputable def yX:=g3 lB 57
noncomputable def yY:=g4 lB 757 lB 242 4 382 773
noncomputable def yZ:=g5 lB 57 cC 603 387
noncomputable def za:=g21 wd 779 lE gA oR hV AO hJ hU qR AQ AR AS wf
noncomputable def zb:=g3 nA 58
noncomputable def zc:=g4 nA 776 nA 256 1 389 792
noncomputable def zd:=g5 nA 58 cC 603 394
noncomputable def t1:Params→BT:=(f boot_o_0 (f boot_o_1 (f wz (f boot_o_7 (f o11 (f o31 (f o12 (f rC (f xq z z) (f o12 z z)) (f wD (f yi z z) z)) (f o35 (f rV (f o12 z z) z) (f o11 (f yD z z) z))) (f o35 (f o79 (f o11 (f xE z z) z) (f o12 (f o11 z z) z)) (f rc (f su (f o11 z z) z) (f o11 (f yM z z) z)))) (f o23 (f o12 (f o35 (f rH (f xz z z) (f za z z)) (f o11 (f yo z z) z)) (f qV (f o11 (f xU z z) z) (f wZ (f o11 z z) z))) (f o55 (f o12 (f o12 (f xJ z z) z) (f wQ (f o12 z z) z)) (f rj (f sD (f yd z z) z) (f o12 (f yR z z) z))))) (f o11 (f o19 (f o35 (f o67 (f o11 (f o12 z z) (f yY z z)) (f o11 (f yk z z) z)) (f o12 (f rY (f xS z z) z) (f o11 (f yG z z) z))) (f o12 (f o35 (f rO (f o11 z z) z) (f wO (f yw z z) z)) (f o12 (f o12 (f o11 z z) z) (f xi (f o12 z z) z)))) (f o27 (f o43 (f o12 (f o11 (f xB z z) (f zd z z)) (f wJ (f o11 z z) z)) (f o11 (f o11 (f xX z z) z) (f o12 (f o11 z z) z))) (f o35 (f o91 (f rT (f xN z z) z) (f wT (f yB z z) z)) (f rz (f wA (f o12 z z) z) (f xn (f yT z z) z)))))) (f boot_o_5 (f boot_o_9 (f o17 (f o33 (f o65 (f o12 (f xu z z) (f o11 z z)) (f o12 (f o11 z z) z)) (f o97 (f rW (f o11 z z) z) (f wW (f yE z z) z))) (f o49 (f o81 (f rN (f o12 z z) z) (f o11 (f yu z z) z)) (f rf (f sw (f ya z z) z) (f xh (f yO z z) z)))) (f o11 (f o41 (f o73 (f o12 (f o11 z z) (f zb z z)) (f wI (f o12 z z) z)) (f qX (f sj (f xV z z) z) (f xb (f yJ z z) z))) (f o57 (f o89 (f o11 (f xL z z) z) (f wR (f o11 z z) z)) (f o11 (f o11 (f yf z z) z) (f o11 (f o11 z z) z))))) (f o13 (f o21 (f o37 (f o69 (f rF (f o11 z z) (f o11 z z)) (f wG (f ym z z) z)) (f qU (f o12 (f o11 z z) z) (f wY (f o12 z z) z))) (f o53 (f o85 (f rQ (f xH z z) z) (f o11 (f yy z z) z)) (f o11 (f o11 (f yc z z) z) (f xk (f o11 z z) z)))) (f o11 (f o45 (f o77 (f rL (f xC z z) z) (f wL (f yr z z) z)) (f qZ (f ss (f o12 z z) z) (f xf (f yL z z) z))) (f o61 (f o93 (f o11 (f xP z z) z) (f o12 (f o11 z z) z)) (f rA (f wB (f o11 z z) z) (f o11 (f yV z z) z))))))) (f boot_o_2 (f boot_o_4 (f boot_o_8 (f o12 (f o32 (f o64 (f o11 (f xt z z) (f yW z z)) (f o11 (f yj z z) z)) (f o23 (f o11 (f xQ z z) z) (f wV (f o11 z z) z))) (f o23 (f o80 (f o12 (f o11 z z) z) (f wM (f o12 z z) z)) (f re (f sv (f xZ z z) z) (f o12 (f yN z z) z)))) (f o24 (f o40 (f o23 (f o11 (f xA z z) (f o11 z z)) (f o12 (f o11 z z) z)) (f qW (f si (f o11 z z) z) (f xa (f yI z z) z))) (f o56 (f o88 (f rR (f xK z z) z) (f o11 (f yz z z) z)) (f rn (f sE (f ye z z) z) (f xl (f yS z z) z))))) (f pE (f o20 (f o23 (f o68 (f rE (f xw z z) (f yZ z z)) (f wF (f o11 z z) z)) (f qT (f o11 (f xT z z) z) (f o23 (f o11 z z) z))) (f o52 (f o23 (f rP (f xG z z) z) (f wP (f yx z z) z)) (f rg (f sy (f o12 z z) z) (f xj (f yP z z) z)))) (f o28 (f o44 (f o76 (f rK (f o11 z z) z) (f wK (f yq z z) z)) (f o12 (f o12 (f o11 z z) z) (f xc (f o12 z z) z))) (f o23 (f o92 (f rU (f xO z z) z) (f o11 (f yC z z) z)) (f o11 (f o11 (f yg z z) z) (f xo (f yU z z) z)))))) (f boot_o_6 (f boot_o_10 (f o11 (f o34 (f o11 (f rD (f o11 z z) (f yX z z)) (f wE (f o12 z z) z)) (f o11 (f rX (f xR z z) z) (f wX (f yF z z) z))) (f o11 (f o82 (f o11 (f xF z z) z) (f wN (f o11 z z) z)) (f o11 (f o11 (f yb z z) z) (f o11 (f o11 z z) z)))) (f o12 (f o11 (f o11 (f rJ (f o12 z z) (f zc z z)) (f o11 (f yp z z) z)) (f qY (f sk (f xW z z) z) (f o11 (f yK z z) z))) (f o58 (f o11 (f rS (f xM z z) z) (f wS (f yA z z) z)) (f o12 (f o12 (f o11 z z) z) (f xm (f o12 z z) z))))) (f o14 (f o22 (f o11 (f o70 (f rG (f xy z z) (f o12 z z)) (f wH (f yn z z) z)) (f o11 (f rZ (f o12 z z) z) (f o11 (f yH z z) z))) (f o11 (f o11 (f o11 (f xI z z) z) (f o12 (f o11 z z) z)) (f rh (f sC (f o11 z z) z) (f o11 (f yQ z z) z)))) (f o30 (f o46 (f o11 (f rM (f xD z z) z) (f o11 (f yt z z) z)) (f o11 (f o11 (f xY z z) z) (f xg (f o11 z z) z))) (f o11 (f o94 (f o12 (f o11 z z) z) (f wU (f o12 z z) z)) (f rB (f wC (f yh z z) z) (f o12 (f o11 z z) z))))))))
noncomputable abbrev s1 (w:World) (os:OsState):SharedT:=⟨t1 w.params,396,{ },(Array.mk []),⟨0,0,0,0⟩,795,os⟩
noncomputable abbrev p1:Pos:=⟨256,0,276,15⟩
noncomputable abbrev st1:List Stmt:=(pt.main.body.drop 31).take 28
theorem q1 (w:World):(fun os=>segRunT treeTable pt w m0 an 1 1188 (s0 w os) ⟨(execs st1 en).wrap doneF deadEnd id id,cE,p0,B⟩)=fun os=>some (.next,s1 w os,cE,p1):=by
 rw [PySem.W.Fast.te10110043849684766642,PySem.W.Fast.te14364793385576792824,PySem.W.Fast.te12563942051412417395]; kernel_rfl
noncomputable def hF (P:Params):Heap:=⟨⟨[boot_o_0 P,boot_o_1 P,boot_o_2 P,wz P,boot_o_4 P,boot_o_5 P,boot_o_6 P,boot_o_7 P,boot_o_8 P,boot_o_9 P,boot_o_10 P,o11 P,pE P,o13 P,o14 P,o11 P,o12 P,o17 P,o11 P,o19 P,o20 P,o21 P,o22 P,o23 P,o24 P,o11 P,o12 P,o27 P,o28 P,o11 P,o30 P,o31 P,o32 P,o33 P,o34 P,o35 P,o23 P,o37 P,o11 P,o12 P,o40 P,o41 P,o11 P,o43 P,o44 P,o45 P,o46 P,o35 P,o23 P,o49 P,o11 P,o12 P,o52 P,o53 P,o11 P,o55 P,o56 P,o57 P,o58 P,o35 P,o23 P,o61 P,o11 P,o12 P,o64 P,o65 P,o11 P,o67 P,o68 P,o69 P,o70 P,o35 P,o23 P,o73 P,o11 P,o12 P,o76 P,o77 P,o11 P,o79 P,o80 P,o81 P,o82 P,o35 P,o23 P,o85 P,o11 P,o12 P,o88 P,o89 P,o11 P,o91 P,o92 P,o93 P,o94 P,o35 P,o23 P,o97 P,o11 P,o12 P,qT P,qU P,o11 P,qV P,qW P,qX P,qY P,o11 P,o12 P,qZ P,o11 P,rc P,re P,rf P,o11 P,o12 P,rg P,o11 P,rh P,rj P,rn P,o11 P,o12 P,rz P,o11 P,rA P,rB P,rC P,o11 P,o12 P,rD P,o11 P,rE P,rF P,rG P,rH P,o11 P,o12 P,rJ P,o11 P,rK P,rL P,rM P,o11 P,o12 P,rN P,o11 P,rO P,rP P,rQ P,o11 P,o12 P,rR P,o11 P,rS P,rT P,rU P,o11 P,o12 P,rV P,o11 P,rW P,rX P,rY P,o11 P,o12 P,rZ P,o11 P,si P,sj P,sk P,o11 P,o12 P,ss P,o11 P,su P,sv P,sw P,o11 P,o12 P,sy P,o11 P,sC P,sD P,sE P,o11 P,o12 P,wA P,o11 P,wB P,wC P,wD P,o11 P,o12 P,wE P,o11 P,wF P,wG P,wH P,o11 P,o12 P,wI P,o11 P,wJ P,wK P,wL P,o11 P,o12 P,wM P,o11 P,wN P,wO P,wP P,o11 P,o12 P,wQ P,o11 P,wR P,wS P,wT P,o11 P,o12 P,wU P,o11 P,wV P,wW P,wX P,o11 P,o23 P,wY P,o11 P,wZ P,xa P,xb P,o11 P,o12 P,xc P,xf P,xg P,o11 P,o12 P,xh P,o11 P,xi P,xj P,xk P,o11 P,o12 P,xl P,o11 P,xm P,xn P,xo P,o11 P,o12 P,xq P,xt P,xu P,o11 P,o12 P,xw P,o11 P,xy P,xz P,xA P,o11 P,o12 P,xB P,o11 P,xC P,xD P,xE P,o11 P,o12 P,xF P,o11 P,xG P,xH P,xI P,xJ P,xK P,xL P,xM P,xN P,xO P,xP P,o11 P,o12 P,xQ P,o11 P,xR P,xS P,xT P,o11 P,o12 P,xU P,o11 P,xV P,xW P,xX P,o11 P,o12 P,xY P,o11 P,xZ P,ya P,yb P,o11 P,o12 P,yc P,o11 P,yd P,ye P,yf P,o11 P,o12 P,yg P,o11 P,yh P,yi P,yj P,o11 P,o12 P,yk P,o11 P,ym P,yn P,yo P,o11 P,o12 P,yp P,o11 P,yq P,yr P,yt P,o11 P,o12 P,yu P,o11 P,yw P,yx P,yy P,o11 P,o12 P,yz P,o11 P,yA P,yB P,yC P,o11 P,o12 P,yD P,o11 P,yE P,yF P,yG P,o11 P,o12 P,yH P,o11 P,yI P,yJ P,yK P,o11 P,o12 P,yL P,o11 P,yM P,yN P,yO P,o11 P,o12 P,yP P,o11 P,yQ P,yR P,yS P,o11 P,o12 P,yT P,yU P,yV P,o11 P,o12 P,yW P,o11 P,yX P,yY P,yZ P,o11 P,o12 P,za P,o11 P,zb P,zc P,zd P]⟩,{ }⟩
noncomputable abbrev sF (w:World) (os:OsState):Shared:=⟨hF w.params,(Array.mk []),⟨0,0,0,0⟩,795,os⟩
theorem fin (w:World):(fun os=>topRun treeTable pt w m0 an 2 (s1 w os).abs ⟨doneF .next,cE,p1,B⟩)=fun os=>some (sF w os):=by
 rw [PySem.W.Fast.te14082659384304107361,PySem.W.Fast.te14364793385576792824]; kernel_rfl
theorem oT:behindTheImports pt=st0 ++ (st1 ++ ([])):=by kernel_rfl
noncomputable abbrev MM:Nat:=12 + (1 + (1976 + (1188 + 2)))
theorem sG (w:World) (os:OsState):topRun treeTable pt w m0 an MM (sZ w os) (topStub pt)=some (sF w os) :=
 go_top (congrFun (pre w) os) (piece_block (congrFun (blk w) os) (oT ▸ (piece_app (l:=st0) (segRun_of (congrFun (q0 w) os)) (piece_app (l:=st1) (segRun_of (congrFun (q1 w) os)) (piece_nil (congrFun (fin w) os))))))
noncomputable def loose:List Str:=[iO,gx,kP,kQ,kR,kS,kT,kU,iP,iQ,iR,iS,qp,qr,qu,iT,iU,qv,qw,qx,qy,qz,iV,iW,iX,iY,iZ,kW,kX,kY,kZ,vX,vY,la,lb,hI,lc,le,lg,lh,li,lj,lm,lp,lq,lr,lw,lx,lz,lA,lB]
noncomputable abbrev NN:Nat:=6450
noncomputable abbrev q:Program:=view pt [58]
noncomputable abbrev Xt:Shared→Bool:=fun s=>xlAt q [] s && recOk [] s
theorem size (w:World):((boot_heap w.params).isNs mainGlobals && (Array.mk []:Array GenState).size == 0,(boot_heap w.params).objs.size,(boot_heap w.params).nsMap mainGlobals "__annotations__")=(true,m0,an):=by
 rw [PySem.W.Fast.te8920871248978507458]; kernel_rfl
theorem ze (w:World):(fun os=>((staticsOk (importedModules pt.main.body) (boot_heap w.params) (hF w.params) && namesBound pt (hF w.params) && gensDone (sF w os) && laidKept (boot_heap w.params) (hF w.params)),openSeen q loose (importedModules pt.main.body) Xt true (sF w os),HK.obs (sF w os)))=fun _=>(true,openGood q loose,HK.val w):=by
 rw [PySem.W.Fast.te4187177175401517315,PySem.W.Fast.te5923862056798008813]; kernel_rfl
theorem left:LeftO pt q loose Xt HK.obs HK.val NN true:=LeftO.of_pieces (boot_open (by kernel_rfl) (by decide) (fun s=>rfl)) size sG (by decide) ze
end Hd
open PySem PySem.W PyProof.Rows
set_option maxRecDepth 100000 in
set_option maxHeartbeats 0 in
theorem PySem.Challenge.cw_platecuts_k81_tellings_told_holds : PySem.Challenge.rw_platecuts_k81_tellings_told.Holds := by
 w_on; o_law
 refine holds_open (q:=view PySem.Challenge.pw_platecuts_k81_tellings_told [58]) (loose:=Hd.loose) (Xt:=fun s=>xlAt (view PySem.Challenge.pw_platecuts_k81_tellings_told [58]) [] s && recOk [] s) (XP:=XL (view PySem.Challenge.pw_platecuts_k81_tellings_told [58]) []) (Yf:=Hook.obs Hd.HK) (Ya:=Hook.val Hd.HK) (YP:=InK Pc.kK) (N:=Hd.NN) ?hl (Hook.of Hd.HK) (Hook.keeps Hd.HK) (fun s e=>xl_of s (Bool.and_eq_true_iff.mp e).1) XL.keeps (by rfl) (by rfl) (by rfl) (fun s e=>recFacts_of (Bool.and_eq_true_iff.mp e).2) (by rfl) (by first | assumption | decide +kernel) (by decide +kernel) ⟨rfl,rfl,rfl,rfl,rfl,by decide +kernel⟩ ?hw ?hc
 case hl=>exact Hd.pt_eq ▸ Hd.left
 case hw=>w_witness2
 k_fill
 refine Pc.walk (l:=PySem.Challenge.rw_platecuts_k81_tellings_told) rfl rfl (fun w h Y=>Y) ?F
 case F =>
  intro w mg fa h KX G hmg
  refine' Pc.all_mk KX G hmg ?d0 ?d1 ?d2 ?d3 ?d4 ?d5 ?d6 ?d7 ?d8 ?d9 ?d10 ?d11 ?d12 ?d13 ?d14 ?d15 ?d16 ?d17 ?d18 ?d19 ?d20 ?d21 ?d22 ?d23 ?d24 ?d25 ?d26 ?d27 ?d28 ?d29 ?d30 ?d31 ?d32 ?aC ?dm0 ?dm1 ?dm2 ?dm3 ?pg ?hd ?po ?sa ?mk ?kc ?n0 ?n1 ?eWAYS ?lWAYS ?z0 ?z1 ?z2 ?z3 ?z4 ?z5 ?z6 ?z7 ?z8 ?z9 ?z10 ?z11 ?z12 ?z13 ?z14 ?z15 ?z16 ?z17 ?uc0 ?uc1 ?uc2 ?uc3 ?uc4 ?uc5 ?uc6 ?uc7
  (case d0 | d1 | d2 | d3 | d4 | d5 | d6 | d7 | d8 | d9 | d10 | d11 | d12 | d13 | d14 | d15 | d16 | d17 | d18 | d19 | d20 | d21 | d22 | d23 | d24 | d25 | d26 | d27 | d28 | d29 | d30 | d31 | d32=>refine' Pc.diM ?a ?l ?c ?k; (case a=>k_is); (case l=>k_is); (case c=>k_is); (case k=>k_is))
  (case aC=>k_is)
  (case dm0 | dm1 | dm2 | dm3=>refine' Pc.miM ?a ?i ?l ?c ?k; (case a=>k_is); (case i=>k_is); (case l=>k_is); (case c=>k_is); (case k=>k_is))
  (case pg | hd | po | sa | mk | kc | n0 | n1 | eWAYS=>k_is)
  (case lWAYS=>exact ⟨_,_,_,rfl,rfl,rfl,by decide,.cons ⟨_,rfl⟩ (.cons ⟨_,rfl⟩ .nil)⟩)
  (case z0 | z1 | z2 | z3 | z4 | z5 | z6 | z7 | z8 | z9 | z10 | z11 | z12 | z13 | z14 | z15 | z16 | z17 | uc0 | uc1 | uc2 | uc3 | uc4 | uc5 | uc6 | uc7=>k_is)