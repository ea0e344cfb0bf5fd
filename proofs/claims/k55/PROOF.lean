import PyProof.Rows.All
import Wide.All
import OpenK.AllK
import Wide.FinOn
import Lean
import PyProof.EqAt
import PyProof.EqKinds
import PyProof.TupleCall
import PyProof.IsiBase
import PyProof.ExcArgsOwn
import PyProof.ExcAttrAll.ValueError
import PyProof.Draws
import PyProof.WalksMore
import PyProof.EnumMake
import PyProof.FitsBits
import PyProof.ListRange
import PyProof.Rows.SeqMore
import PyProof.LongRange
import PySem.Challenge.RW_platecuts_k55_refused_turns
set_option Elab.async false
set_option linter.all false
set_option maxRecDepth 100000
namespace L2
open PySem PySem.Spec PyProof.Rows
abbrev Key:=Sum Int Str
def hX:Key→Value→Bool
 | .inl k,v=>Value.isInt k v
 | .inr x,v=>Value.isStrOf x v
def Eb (w:World):Key→Int
 | .inl k=>hashInt k
 | .inr x=>hashStr w x
theorem be:∀ {k:Key} {v:Value},hX k v=true→(∃i t,k=Sum.inl i∧v=Value.int i t)∨(∃x t,k=Sum.inr x∧v=Value.str x t)
 | .inl i,v,h=>by
  obtain ⟨t,e⟩:=Value.isInt_shape (k:=i) (v:=v) h
  exact .inl ⟨i,t,rfl,e⟩
 | .inr x,v,h=>by
  obtain ⟨t,e⟩:=Value.isStrOf_shape (x:=x) (v:=v) h
  exact .inr ⟨x,t,rfl,e⟩
theorem ng (i:Int) (t:Tok):hX (.inl i) (.int i t)=true:=by simp [hX,Value.isInt]
theorem nh (x:Str) (t:Tok):hX (.inr x) (.str x t)=true:=by simp [hX,Value.isStrOf]
theorem uh (a b:Int):decide ((Sum.inl a:Key)=Sum.inl b)=(a == b):=by
 by_cases e:a=b
 ·subst e; simp
 ·have h:¬ (Sum.inl a:Key)=Sum.inl b:=fun q=>e (Sum.inl.inj q)
  rw [decide_eq_false h]
  exact (beq_eq_false_iff_ne.mpr e).symm
theorem ui (a b:Str):decide ((Sum.inr a:Key)=Sum.inr b)=decide (a=b):=by
 by_cases e:a=b
 ·subst e; simp
 ·have h:¬ (Sum.inr a:Key)=Sum.inr b:=fun q=>e (Sum.inr.inj q)
  rw [decide_eq_false h,decide_eq_false e]
theorem uj (a:Int) (b:Str):decide ((Sum.inl a:Key)=Sum.inr b)=false:=decide_eq_false (fun q=>nomatch q)
theorem uk (a:Str) (b:Int):decide ((Sum.inr a:Key)=Sum.inl b)=false:=decide_eq_false (fun q=>nomatch q)
def bH (prog:Program) (w:World):PySem.KeyKind prog w Key where
 is:=hX
 hash:=Eb w
 inj:=fun v a b ha hb=>by
  rcases be ha with ⟨i,t,rfl,rfl⟩ | ⟨x,t,rfl,rfl⟩
  ·rcases be hb with ⟨j,u,rfl,e⟩ | ⟨y,u,rfl,e⟩
   ·injection e with e1 _; rw [e1]
   ·exact nomatch e
  ·rcases be hb with ⟨j,u,rfl,e⟩ | ⟨y,u,rfl,e⟩
   ·exact nomatch e
   ·injection e with e1 _; rw [e1]
 byValue:=fun k v h=>by
  rcases be h with ⟨i,t,rfl,rfl⟩ | ⟨x,t,rfl,rfl⟩ <;> rfl
 pyHash:=fun hv h=>by
  rcases be hv with ⟨i,t,rfl,rfl⟩ | ⟨x,t,rfl,rfl⟩
  ·exact wpAny_pyHash_int h
  ·exact wpAny_pyHash_str h
 eqBool:=fun hu hv h=>by
  rcases be hu with ⟨i,t,rfl,rfl⟩ | ⟨x,t,rfl,rfl⟩
  ·rcases be hv with ⟨j,u,rfl,rfl⟩ | ⟨y,u,rfl,rfl⟩
   ·rw [uh] at h; exact wpAny_eqBool_int h
   ·rw [uj] at h; exact SeqAt.EqAt.int_str i t y u _ _ _ _ h
  ·rcases be hv with ⟨j,u,rfl,rfl⟩ | ⟨y,u,rfl,rfl⟩
   ·rw [uk] at h; exact SeqAt.EqAt.str_int x t j u _ _ _ _ h
   ·rw [ui] at h; exact wpAny_eqBool_str h
 «strs» := fun k x t v h=>by
  rcases be h with ⟨i,u,rfl,e⟩ | ⟨y,u,rfl,e⟩
  ·exact nomatch e
  ·injection e with e1 _
   subst e1
   cases v <;> rfl
theorem fR (prog:Program) (w:World) (i:Int) (t:Tok):(bH prog w).is (.inl i) (.int i t)=true:=ng i t
theorem jl (prog:Program) (w:World) (x:Str) (t:Tok):(bH prog w).is (.inr x) (.str x t)=true:=nh x t
end L2
namespace L2
open PySem PySem.Spec PyProof.Rows
inductive V where
 | non | bl (b:Bool) | int (i:Int) | str (x:Str) | byt (b:Array UInt8) | flt (b:UInt64) | ref (a:Addr) | ty (n:String)
 deriving DecidableEq
def RelV:V→Value→Prop
 | .non,u=>u=Value.none
 | .bl b,u=>u=Value.bool b
 | .int i,u=>∃t,u=Value.int i t
 | .str x,u=>∃t,u=Value.str x t
 | .byt b,u=>∃t,u=Value.bytes b t
 | .flt b,u=>∃t,u=Value.float b t
 | .ref a,u=>u=Value.ref a
 | .ty n,u=>u=Value.type n
abbrev Vals:List V→List Value→Prop:=Paired RelV
theorem Vals.length {xs:List V} {us:List Value} (r:Vals xs us):xs.length=us.length:=Paired.length r
theorem Vals.get:∀ {xs:List V} {us:List Value} {i:Nat} {x:V},Vals xs us→xs[i]? = some x→∃u,us[i]? = some u∧RelV x u
 | _,_,_,_,.nil,e=>by simp at e
 | _,_,0,_,.cons r _,e=>by simp at e; subst e; exact ⟨_,rfl,r⟩
 | _,_,i + 1,x,.cons _ t,e=>by
  obtain ⟨u,h1,h2⟩:=Vals.get (i:=i) (x:=x) t (by simpa using e)
  exact ⟨u,by simpa using h1,h2⟩
theorem Vals.set {x:V} {u:Value} (r:RelV x u):∀ {xs:List V} {us:List Value} (i:Nat),Vals xs us→Vals (xs.set i x) (us.set i u)
 | _,_,_,.nil=>.nil
 | _,_,0,.cons _ t=>.cons r t
 | _,_,i + 1,.cons q t=>.cons q (Vals.set r i t)
theorem Vals.append:∀ {xs ys:List V} {us ws:List Value},Vals xs us→Vals ys ws→Vals (xs ++ ys) (us ++ ws)
 | _,_,_,_,.nil,s=>s
 | _,_,_,_,.cons r t,s=>.cons r (Vals.append t s)
theorem Vals.take:∀ {xs:List V} {us:List Value} (n:Nat),Vals xs us→Vals (xs.take n) (us.take n)
 | _,_,0,_=>.nil
 | _,_,_ + 1,.nil=>.nil
 | _,_,n + 1,.cons r t=>.cons r (Vals.take n t)
theorem Vals.drop:∀ {xs:List V} {us:List Value} (n:Nat),Vals xs us→Vals (xs.drop n) (us.drop n)
 | _,_,0,r=>r
 | _,_,_ + 1,.nil=>.nil
 | _,_,n + 1,.cons _ t=>Vals.drop n t
def RelO:Option V→Option Value→Prop
 | some v,some u=>RelV v u
 | none,none=>True
 | _,_=>False
def KV {κ:Type}:List (κ×V)→List (κ×Value)→Prop:=Paired fun (p:κ×V) (q:κ×Value)=>p.1=q.1∧RelV p.2 q.2
def kV:Key→V
 | .inl i=>.int i
 | .inr x=>.str x
inductive HO where
 | lst (xs:List V)
 | tup (xs:List V)
 | dK (kvs:List (Key×V)) | dT (kvs:List (List Key×V))
 | set (S:Int→Bool) (n:Nat)
 | ins (C dx:Addr) (fs:List (Str×V))
 | own (x:Addr)
 | xd (fs:List (Str×V))
 | met (f x:Addr)
 | rng (lo hi:Int)
 | frz (o:Obj) (u:HO)
 | tbl (ps:Array Value)
 | ext (φ:Heap→Prop)
abbrev Hp:=Addr→Option HO
def upd (H:Hp) (a:Addr) (o:HO):Hp:=fun b=>if b=a then some o else H b
theorem ae {H:Hp} {a:Addr} {o:HO}:upd H a o a=some o:=by unfold upd; rw [if_pos rfl]
theorem am {H:Hp} {a b:Addr} {o:HO} (h:b≠a):upd H a o b=H b:=by unfold upd; rw [if_neg h]
theorem rC {H:Hp} {a:Addr} {o u:HO}:upd (upd H a o) a u=upd H a u:=by
 funext b; unfold upd; split <;> rfl
theorem ah {H:Hp} {a b:Addr} {o:HO} (h:H a=some o) (h':H b=none):a≠b:=by
 intro e; subst e; rw [h] at h'; cases h'
section
variable (P:Program) (w:World)
def ObjOk (H:Hp) (h:Heap) (a:Addr):HO→Prop
 | .lst xs=>xs.length≤sizeLine∧∃ (its:List Value) (n:Nat),Vals xs its∧h.get? a=some { cls:=.type "list",data:=.seq its.toArray n }
 | .tup xs=>xs.length≤sizeLine∧∃its:List Value,Vals xs its∧IsTup h a its.toArray
 | .dK kvs=>kvs.length≤sizeLine∧(a == sysModules)=false∧∃vs,KV kvs vs∧h.DictOf (bH P w) a vs
 | .dT kvs=>kvs.length≤sizeLine∧(a == sysModules)=false∧∃xs:List (List Key×Addr×Value),
   Paired (fun (p:List Key×V) (q:List Key×Addr×Value)=>p.1=q.1∧H q.2.1=some (.tup (p.1.map kV))∧RelV p.2 q.2.2) kvs xs ∧
   ∃o es ep,h.get? a=some o∧o.ExactDict∧o.data=.dict es ep∧es.toList=xs.map (entryOfKey (tupleKind (bH P w)))∧(xs.map (·.1)).Nodup
 | .set S n=>h.SetOf (intKind P w) a S n
 | .ins C dx fs=>H dx=some (.own a)∧fs.length≤1000∧dx≠a∧h.get? a=some (PySem.W.instObj C dx) ∧
   ∃mA,h.Ns1 dx mA∧(∀f,RelO (fs.lookup f) (mA f))∧PySem.Within mA (fs.map (·.1))
 | .own _=>∃o,h.get? a=some o
 | .xd fs=>∃mA,h.Ns1 a mA∧∀f,RelO (fs.lookup f) (mA f)
 | .rng lo hi=>∃t u v,h.get? a=some { cls:=.type "range",data:=.fields #[.int lo t,.int hi u,.int 1 v] }
 | .frz o u=>h.get? a=some o∧ObjOk H h a u
 | .tbl ps=>h.get? a=some { cls:=.none,data:=.fields ps }
 | .met f x=>h.get? a=some (PySem.W.methodObj (.ref f) (.ref x))
 | .ext φ=>φ h∧(∃o,h.get? a=some o)∧∀h1 h2:Heap,φ h1→(∀o,h1.get? a=some o→h2.get? a=some o)→φ h2
def HOk (H:Hp) (h:Heap):Prop:=∀a o,H a=some o→ObjOk P w H h a o
end
section
variable {P:Program} {w:World} {H H':Hp} {h h':Heap} {a:Addr} {o:HO}
theorem ObjOk.lt (x:ObjOk P w H h a o):a < h.objs.size:=by
 cases o with
 | lst xs=>obtain ⟨_,_,_,_,e⟩:=x; exact Heap.lt_size e
 | tup xs=>obtain ⟨_,_,_,p⟩:=x; exact p.lt
 | dK kvs=>obtain ⟨_,_,_,_,o,_,_,e,_⟩:=x; exact Heap.lt_size e
 | dT kvs=>obtain ⟨_,_,_,_,o,_,_,e,_⟩:=x; exact Heap.lt_size e
 | set S n=>obtain ⟨o,_,_,_,e,_⟩:=x; exact Heap.lt_size e
 | ins C dx fs=>obtain ⟨_,_,_,e,_⟩:=x; exact Heap.lt_size e
 | own y=>obtain ⟨_,e⟩:=x; exact Heap.lt_size e
 | xd fs=>obtain ⟨_,⟨_,_,_,e,_⟩,_⟩:=x; exact Heap.lt_size e
 | rng lo hi=>obtain ⟨_,_,_,e⟩:=x; exact Heap.lt_size e
 | frz ob u=>obtain ⟨e,_⟩:=x; exact Heap.lt_size e
 | tbl ps=>exact Heap.lt_size (show h.get? a=some _ from x)
 | met f y=>exact Heap.lt_size (show h.get? a=some _ from x)
 | ext φ=>obtain ⟨_,⟨_,e⟩,_⟩:=x; exact Heap.lt_size e
theorem Paired.mapP {α β:Type} {F G:α→β→Prop}:∀ {l₁:List α} {l₂:List β},Paired F l₁ l₂→(∀a b,F a b→G a b)→Paired G l₁ l₂
 | _,_,.nil,_=>.nil
 | _,_,.cons r t,f=>.cons (f _ _ r) (Paired.mapP t f)
theorem ObjOk.stay (x:ObjOk P w H h a o) (k:∀b u,(b=a∨H b=some (.own a))→h.get? b=some u→h'.get? b=some u)
  (ho:∀b,H b=some (.own a)→H' b=some (.own a)) (ht:∀b xs,H b=some (.tup xs)→H' b=some (.tup xs)):ObjOk P w H' h' a o:=by
 induction o with
 | lst xs=>obtain ⟨z,its,n,r,e⟩:=x; exact ⟨z,its,n,r,k _ _ (.inl rfl) e⟩
 | tup xs=>obtain ⟨z,its,r,ob,e,c⟩:=x; exact ⟨z,its,r,ob,k _ _ (.inl rfl) e,c⟩
 | dK kvs=>obtain ⟨z,y,vs,r,ob,es,ep,e,c⟩:=x; exact ⟨z,y,vs,r,ob,es,ep,k _ _ (.inl rfl) e,c⟩
 | dT kvs =>
  obtain ⟨z,y,xs,r,ob,es,ep,e,c⟩:=x
  exact ⟨z,y,xs,Paired.mapP r fun p q z=>⟨z.1,ht _ _ z.2.1,z.2.2⟩,ob,es,ep,k _ _ (.inl rfl) e,c⟩
 | set S n=>obtain ⟨ob,es,ep,t,e,c⟩:=x; exact ⟨ob,es,ep,t,k _ _ (.inl rfl) e,c⟩
 | ins C dx fs =>
  obtain ⟨d,z,ne,e,mA,⟨od,es,ep,e2,c⟩,r⟩:=x
  exact ⟨ho _ d,z,ne,k _ _ (.inl rfl) e,mA,⟨od,es,ep,k _ _ (.inr d) e2,c⟩,r⟩
 | own y=>obtain ⟨ob,e⟩:=x; exact ⟨ob,k _ _ (.inl rfl) e⟩
 | xd fs=>obtain ⟨mA,⟨od,es,ep,e,c⟩,r⟩:=x; exact ⟨mA,⟨od,es,ep,k _ _ (.inl rfl) e,c⟩,r⟩
 | rng lo hi=>obtain ⟨t,u,v,e⟩:=x; exact ⟨t,u,v,k _ _ (.inl rfl) e⟩
 | frz ob u ih=>obtain ⟨e,q⟩:=x; exact ⟨k _ _ (.inl rfl) e,ih q⟩
 | tbl ps =>
  have e:h.get? a=some { cls:=.none,data:=.fields ps }:=x
  show h'.get? a=some { cls:=.none,data:=.fields ps }
  exact k a _ (.inl rfl) e
 | met f y =>
  have e:h.get? a=some (PySem.W.methodObj (.ref f) (.ref y)):=x
  show h'.get? a=some (PySem.W.methodObj (.ref f) (.ref y))
  exact k a _ (.inl rfl) e
 | ext φ=>obtain ⟨p,⟨o,e⟩,st⟩:=x; exact ⟨st _ _ p fun o q=>k _ _ (.inl rfl) q,⟨o,k _ _ (.inl rfl) e⟩,st⟩
theorem HOk.lt (x:HOk P w H h) (e:H a=some o):a < h.objs.size:=(x a o e).lt
theorem HOk.fresh (x:HOk P w H h) (e:h.objs.size≤a):H a=none:=by
 cases q:H a with
 | none=>rfl
 | some u=>exact absurd (Nat.lt_of_lt_of_le (x.lt q) e) (Nat.lt_irrefl _)
theorem HOk.kept (x:HOk P w H h) (k:∀b u,h.get? b=some u→h'.get? b=some u):HOk P w H h':=fun a o e =>
 (x a o e).stay (fun b u _ q=>k b u q) (fun _ q=>q) fun _ _ q=>q
theorem HOk.laid (x:HOk P w H h) (k:∀b u,h.get? b=some u→h'.get? b=some u) (hp:h.objs.size≤a) (new:ObjOk P w (upd H a o) h' a o):HOk P w (upd H a o) h':=fun b u e=>by
 have hn:=x.fresh hp
 by_cases hb:b=a
 ·subst hb; rw [ae] at e; cases e; exact new
 ·rw [am hb] at e
  exact (x b u e).stay (fun c v _ q=>k c v q) (fun c q=>by rw [am (ah q hn)]; exact q) fun c xs q=>by rw [am (ah q hn)]; exact q
end
def Rd (H:Hp) (a:Addr) (u:HO):Prop:=H a=some u∨∃o,H a=some (.frz o u)
theorem Rd.ok {P:Program} {w:World} {H:Hp} {h:Heap} {a:Addr} {u:HO} (r:Rd H a u) (x:HOk P w H h):ObjOk P w H h a u:=by
 rcases r with r | ⟨o,r⟩
 ·exact x a u r
 ·obtain ⟨_,q⟩:=x a _ r
  exact q
def Mut:Option HO→Prop
 | some (.lst _)=>True
 | some (.dK _)=>True
 | some (.dT _)=>True
 | some (.set _ _)=>True
 | some (.ins _ _ _)=>True
 | some (.ext _)=>True
 | _=>False
section
variable {P:Program} {w:World} {H:Hp} {h h':Heap} {x e:Addr} {o':HO}
theorem HOk.write (ok:HOk P w H h) (mu:Mut (H x)) (he:e=x∨H e=some (.own x)) (k:∀b u,b≠e→h.get? b=some u→h'.get? b=some u) (heo:∃u,h'.get? e=some u)
  (new:ObjOk P w (upd H x o') h' x o'):HOk P w (upd H x o') h':=fun b u q=>by
 have nown:∀c y,H c=some (.own y)→c≠x:=fun c y r z=>by subst z; rw [r] at mu; exact mu
 have ntup:∀c xs,H c=some (.tup xs)→c≠x:=fun c xs r z=>by subst z; rw [r] at mu; exact mu
 by_cases hb:b=x
 ·subst hb; rw [ae] at q; cases q; exact new
 ·rw [am hb] at q
  by_cases hbe:b=e
  ·have q':H b=some (.own x):=by
    rcases he with z | z
    ·exact absurd (hbe.trans z) hb
    ·rw [hbe]; exact z
   rw [q] at q'; cases q'
   obtain ⟨v,hv⟩:=heo
   exact ⟨v,by rw [hbe]; exact hv⟩
  ·refine (ok b u q).stay (fun c v hc r=>k c v ?_ r) (fun c r=>by rw [am (nown c b r)]; exact r) fun c xs r=>by rw [am (ntup c xs r)]; exact r
   rcases hc with rfl | hc
   ·exact hbe
   ·rintro rfl
    rcases he with z | z
    ·exact nown c b hc z
    ·rw [hc] at z; cases z; exact hb rfl
end
structure Un (fs ex:List Addr) (H H':Hp) (h h':Heap):Prop where
 keep:∀b o,h.get? b=some o→H b=none→b∉fs→b∉ex→h'.get? b=some o
 slot:∀b o,h.get? b=some o→H b=none→b∈fs→b∉ex→∃sl,h'.get? b=some { o with slots:=sl }
 free:∀b o,h.get? b=some o→H b=none→b∉ex→H' b=none
 there:∀b o,h.get? b=some o→b∉ex→∃o',h'.get? b=some o'
 tups:∀b xs,H b=some (.tup xs)→H' b=some (.tup xs)
 frzs:∀b o u,H b=some (.frz o u)→H' b=some (.frz o u)
 tbls:∀b ps,H b=some (.tbl ps)→∃more,H' b=some (.tbl (ps ++ more))
section
variable {fs fs' ex ex':List Addr} {H H1 H2:Hp} {h h1 h2 h':Heap} {a x e:Addr} {o:HO}
theorem Un.any (u:Un fs ex H H1 h h1) {b:Addr} {ob:Obj} (q:h.get? b=some ob) (n:H b=none) (hx:b∉ex):∃sl,h1.get? b=some { ob with slots:=sl }:=by
 by_cases hb:b∈fs
 ·exact u.slot b ob q n hb hx
 ·exact ⟨ob.slots,u.keep b ob q n hb hx⟩
theorem Un.kept (k:∀b u,h.get? b=some u→h'.get? b=some u):Un fs ex H H h h' :=
 ⟨fun b ob q _ _ _=>k b ob q,fun b ob q _ _ _=>⟨ob.slots,k b ob q⟩,fun _ _ _ n _=>n,fun b ob q _=>⟨ob,k b ob q⟩,fun _ _ q=>q,fun _ _ _ q=>q,fun _ ps q=>⟨#[],by rw [q]; simp⟩⟩
theorem Un.refl:Un fs ex H H h h:=Un.kept fun _ _ q=>q
theorem Un.laid (k:∀b u,h.get? b=some u→h'.get? b=some u) (hp:h.objs.size≤a) (hn:H a=none):Un fs ex H (upd H a o) h h' where
 keep:=fun b u q _ _ _=>k b u q
 slot:=fun b u q _ _ _=>⟨u.slots,k b u q⟩
 free:=fun b u q n _=>by rw [am (Nat.ne_of_lt (Nat.lt_of_lt_of_le (Heap.lt_size q) hp))]; exact n
 there:=fun b u q _=>⟨u,k b u q⟩
 tups:=fun b xs q=>by rw [am (ah q hn)]; exact q
 frzs:=fun b u xs q=>by rw [am (ah q hn)]; exact q
 tbls:=fun b ps q=>⟨#[],by rw [am (ah q hn),q]; simp⟩
theorem Un.write (mu:Mut (H x)) (he:e=x∨H e=some (.own x)) (k:∀b u,b≠e→h.get? b=some u→h'.get? b=some u) (heo:∃u,h'.get? e=some u):Un fs ex H (upd H x o) h h':=by
 have hx:∀b,H b=none→b≠x:=fun b n z=>by subst z; rw [n] at mu; exact mu
 have hb:∀b,H b=none→b≠e:=fun b n z=>by
  subst z
  rcases he with r | r
  ·exact hx b n r
  ·rw [n] at r; cases r
 have hm:∀b u,H b=some u→¬ Mut (some u)→b≠x:=fun b u q nm z=>by subst z; rw [q] at mu; exact nm mu
 refine ⟨fun b u q n _ _=>k b u (hb b n) q,fun b u q n _ _=>⟨u.slots,k b u (hb b n) q⟩,fun b u q n _=>by rw [am (hx b n)]; exact n,fun b u q _=>?_,
  fun b xs q=>by rw [am (hm b _ q fun z=>z)]; exact q,fun b u xs q=>by rw [am (hm b _ q fun z=>z)]; exact q,fun b ps q=>⟨#[],by rw [am (hm b _ q fun z=>z),q]; simp⟩⟩
 by_cases hbe:b=e
 ·subst hbe; exact heo
 ·exact ⟨u,k b u hbe q⟩
end
def trk (h:Heap) (H:Hp):List Addr:=(List.range h.objs.size).filter fun a=>(H a).isSome
def iC (h:Heap) (H:Hp):Heap:=PySem.W.hideAll h (trk h H)
theorem ni (h:Heap) (H:Hp):(iC h H).objs.size=h.objs.size:=PySem.W.hideAll_size _ _
theorem oU {h:Heap} {H:Hp} {b:Addr} {o:Obj} (e:h.get? b=some o) (n:H b=none):(iC h H).get? b=some o :=
 PySem.W.hideAll_get _ e fun hm=>by
  have q:(H b).isSome=true:=(List.mem_filter.mp hm).2
  rw [n] at q; simp at q
theorem rD {h:Heap} {H:Hp} {b:Addr} {o:Obj} (e:(iC h H).get? b=some o):h.get? b=some o∧H b=none:=by
 have e':h.get? b=some o:=PySem.W.of_hideAll (trk h H) e
 refine ⟨e',?_⟩
 cases q:H b with
 | none=>rfl
 | some x =>
  have hm:b∈trk h H:=List.mem_filter.mpr ⟨List.mem_range.mpr (Heap.lt_size e'),by simp [q]⟩
  have z:(iC h H).get? b=none:=PySem.W.hideAll_none (trk h H) hm
  rw [z] at e; cases e
def rE (g h:Heap) (L:Addr):List (Addr×Obj):=(List.range h.objs.size).filterMap fun a=>if a=L∨(g.get? a).isSome=true then none else (h.get? a).map fun o=>(a,o)
def rest (g h:Heap) (L d:Addr):List (Addr×Obj):=(rE g h L).filter fun p=>decide (p.1≠d)
end L2
namespace L2
open PySem PySem.Spec PyProof.Rows
structure Mod (K:PySem.W.Frag) (mg:Str→Option Value) (base:Heap):Prop where
 kin:K.In base
 glob:base.Ns mainGlobals mg
 blt:∃mb,base.Ns builtinsNs mb∧∀x:Str,x ≠ "__name__" → mb x=bootBuiltins x
 nolimit:base.NoLimit
/-- the context: a def's body (or a comprehension's block) running. base: fixed through the aE law; s₀,H₀: the entry; outer: the frames whose slots others may change (a def's callers); stack: all frames that run;
   ex: iterators that were made ahead of the entry and are walked here (a comprehension's); fn: the names whose cells were made at the entry (a def: all; a comprehension's block: its own); calm: not within an except suite; pn: pins that every state bears; xe: what is wanted of an exception that leaves the code -/
structure Cx where
 prog:Program
 w:World
 K:PySem.W.Frag
 mg:Str→Option Value
 base:Heap
 A:Around
 N:List Str
 s₀:Shared
 H₀:Hp
 env:Env
 outer:List Env
 stack:List Env
 ex:List Addr
 fn:Str→Bool
 calm:Bool
 pn:List (Addr×Obj)
 xe:Value→Shared→Prop
def frs (l:List Env):List Addr:=l.filterMap (·.frame)
abbrev Cx.fs (X:Cx):List Addr:=frs X.outer
def Vis (sc:Scope) (x:Str):Prop:=sc.names.lookup x=some .local∨sc.names.lookup x=some .cell∨sc.names.lookup x=some .free
def Loc (sc:Scope) (x:Str):Prop:=sc.names.lookup x=some .local∨sc.names.lookup x=some .cell
def Ed (env:Env) (h:Heap) (m:Str→Option Value) (x:Str) (u:Value):Prop :=
 (env.kindOf x=some .local∧m x=some u)∨((env.kindOf x=some .cell∨env.kindOf x=some .free)∧∃c,env.cells.lookup x=some c∧h.IsCell c (some u))
structure Cx.Ok (X:Cx):Prop where
 mod:Mod X.K X.mg X.base
 kind:X.env.scope.kind=.function
 glob:X.env.globals=mainGlobals
 blt:X.env.builtins=builtinsNs
 above:X.s₀.heap.objs.size≤X.env.locals
 inj:∀x y c,X.env.cells.lookup x=some c→X.env.cells.lookup y=some c→x=y
 has:∀x,(X.env.kindOf x=some .cell∨X.env.kindOf x=some .free)→∃c,X.env.cells.lookup x=some c
 cab:∀x c,X.fn x=true→X.env.cells.lookup x=some c→X.s₀.heap.objs.size≤c
 hd:X.calm=true→X.A.handled=none
 frames:X.A.frames=some X.stack
 stk:X.stack=X.outer∨(X.stack=X.env :: X.outer∧X.env.frame=some X.env.locals)
 exf:∀b∈X.ex,b≠X.env.locals∧∀x c,X.env.cells.lookup x=some c→c≠b
 bs:∀b o,X.base.get? b=some o→X.s₀.heap.get? b=some o∧X.H₀ b=none
 bsz:X.base.objs.size≤X.s₀.heap.objs.size
 noex:∀b o,X.base.get? b=some o→b∉X.ex
 exfs:∀b∈X.ex,b∉X.fs
 funs:X.s₀.heap.FunFrames X.base X.outer
 frf:∀b∈X.fs,X.H₀ b=none
structure Inv (X:Cx) (pins:List (Addr×Obj)) (σ:List (Option V)) (H:Hp) (s:Shared):Prop where
 ok:X.Ok
 os:s.os=X.s₀.os
 bare:AllBare s.gens
 base:Un X.fs X.ex X.H₀ H X.s₀.heap s.heap
 loc:∃m,s.heap.Ns X.env.locals m∧∀ (i:Nat) (x:Str) (v:V),X.N[i]? = some x→σ[i]? = some (some v)→Vis X.env.scope x→∃u,RelV v u∧Ed X.env s.heap m x u
 cell:∀x c,X.env.cells.lookup x=some c→∃v,s.heap.IsCell c v
 free:H X.env.locals=none
 freeC:∀x c,X.env.cells.lookup x=some c→H c=none
 pin:∀p∈X.pn ++ pins,s.heap.get? p.1=some p.2∧H p.1=none∧p.1≠X.env.locals∧p.1∉X.fs∧∀v,p.2.data≠.cell v
 hok:HOk X.prog X.w H s.heap
 len:σ.length=X.N.length
section
variable {X:Cx} {pins:List (Addr×Obj)} {σ:List (Option V)} {H H':Hp} {s:Shared} {h':Heap}
theorem Cx.Ok.nofr (ok:X.Ok) {b:Addr} {o:Obj} (e:X.base.get? b=some o):b∉X.fs:=fun hb=>by
 have:=(ok.funs.mem hb).1
 rw [e] at this; cases this
theorem Inv.bs (I:Inv X pins σ H s):∀b o,X.base.get? b=some o→s.heap.get? b=some o∧H b=none:=fun b o e =>
 ⟨I.base.keep b o (I.ok.bs b o e).1 (I.ok.bs b o e).2 (I.ok.nofr e) (I.ok.noex b o e),I.base.free b o (I.ok.bs b o e).1 (I.ok.bs b o e).2 (I.ok.noex b o e)⟩
theorem Inv.bk (I:Inv X pins σ H s):∀b o,X.base.get? b=some o→s.heap.get? b=some o:=fun b o e=>(I.bs b o e).1
theorem Inv.mod (I:Inv X pins σ H s):Mod X.K X.mg X.base:=I.ok.mod
theorem Inv.kIn (I:Inv X pins σ H s):X.K.In s.heap:=I.ok.mod.kin.keeps I.bk
theorem Inv.fr (I:Inv X pins σ H s):∃m,Fr X.base X.env.locals s.heap m :=
 let ⟨m,hn,_⟩:=I.loc
 ⟨m,hn,I.bk,Nat.le_trans I.ok.bsz I.ok.above⟩
theorem Inv.lt (I:Inv X pins σ H s):X.env.locals < s.heap.objs.size:=let ⟨_,hn,_⟩:=I.loc; hn.lt
theorem Inv.sz (I:Inv X pins σ H s):X.s₀.heap.objs.size≤s.heap.objs.size:=Nat.le_trans I.ok.above (Nat.le_of_lt I.lt)
theorem Inv.nofs (I:Inv X pins σ H s) {a:Addr} (h:s.heap.objs.size≤a):a∉X.fs:=fun hb=>by
 obtain ⟨_,o,ho,_⟩:=I.ok.funs.mem hb
 exact absurd (Nat.lt_of_lt_of_le (Heap.lt_size ho) (Nat.le_trans I.sz h)) (Nat.lt_irrefl _)
theorem Inv.cne (I:Inv X pins σ H s):∀x c,X.env.cells.lookup x=some c→c≠X.env.locals:=fun x c e z=>by
 obtain ⟨v,o,ho,hd⟩:=I.cell x c e
 obtain ⟨m,⟨o',es,ep,ho',hd',_⟩,_⟩:=I.loc
 rw [z,ho'] at ho; cases ho; rw [hd'] at hd; cases hd
theorem Inv.funs (I:Inv X pins σ H s):s.heap.FunFrames X.base X.outer:=by
 have all:∀ (l:List Env),(∀b∈frs l,b∈X.fs)→X.s₀.heap.FunFrames X.base l→s.heap.FunFrames X.base l:=by
  intro l
  induction l with
  | nil=>intro _ _; trivial
  | cons env r ih =>
   intro hs hl
   obtain ⟨hk,⟨L,o,hf,hn,ho,hd⟩,hr⟩:=hl
   have hL:L∈X.fs:=hs L (by unfold frs; rw [List.filterMap_cons,hf]; exact List.mem_cons_self)
   obtain ⟨sl,e⟩:=I.base.slot L o ho (I.ok.frf L hL) hL fun z=>I.ok.exfs L z hL
   exact ⟨hk,⟨L,_,hf,hn,e,hd⟩,ih (fun b hb=>hs b (by unfold frs; rw [List.filterMap_cons,hf]; exact List.mem_cons_of_mem _ hb)) hr⟩
 exact all X.outer (fun _ hb=>hb) I.ok.funs
theorem Inv.stack (I:Inv X pins σ H s):s.heap.FunFrames X.base X.stack:=by
 rcases I.ok.stk with e | ⟨e,hf⟩
 ·rw [e]; exact I.funs
 ·rw [e]
  obtain ⟨m,hn,_⟩:=I.loc
  refine .cons (by rw [I.ok.kind]; decide) hf hn ?_ I.funs
  exact Heap.get?_none_of_le (Nat.le_trans I.ok.bsz I.ok.above)
theorem Inv.stkSub (I:Inv X pins σ H s):∀b∈frs X.stack,b∈X.env.locals :: X.fs:=fun b hb=>by
 rcases I.ok.stk with e | ⟨e,hf⟩
 ·rw [e] at hb; exact List.mem_cons_of_mem _ hb
 ·rw [e] at hb
  unfold frs at hb
  rw [List.filterMap_cons,hf] at hb
  exact hb
theorem Inv.stkFree (I:Inv X pins σ H s):∀b∈frs X.stack,H b=none:=fun b hb=>by
 rcases List.mem_cons.mp (I.stkSub b hb) with e | hb
 ·rw [e]; exact I.free
 ·obtain ⟨_,o,ho,_⟩:=I.ok.funs.mem hb
  exact I.base.free b o ho (I.ok.frf b hb) fun z=>I.ok.exfs b z hb
theorem Inv.step {g':Array GenState} {t':Nat} {d':Drawn} {ch:List Addr} (I:Inv X pins σ H s)
  (hch:∀b∈ch,(b∈X.ex∨X.s₀.heap.objs.size≤b)∧b≠X.env.locals∧(∀x c,X.env.cells.lookup x=some c→c≠b)∧∀p∈X.pn ++ pins,p.1≠b)
  (keep:∀b o,b≠X.env.locals→b∉X.fs→b∉ch→s.heap.get? b=some o→H b=none→h'.get? b=some o)
  (slot:∀b o,b≠X.env.locals→b∈X.fs→b∉ch→s.heap.get? b=some o→H b=none→∃sl,h'.get? b=some { o with slots:=sl }) (free:∀b o,b∉ch→s.heap.get? b=some o→H b=none→H' b=none)
  (there:∀b o,b∉ch→s.heap.get? b=some o→∃o',h'.get? b=some o')
  (tups:∀b xs,H b=some (.tup xs)→H' b=some (.tup xs)) (frzs:∀b o u,H b=some (.frz o u)→H' b=some (.frz o u)) (tbls:∀b ps,H b=some (.tbl ps)→∃more,H' b=some (.tbl (ps ++ more)))
  (ns:∀m,s.heap.Ns X.env.locals m→h'.Ns X.env.locals m) (hok:HOk X.prog X.w H' h') (hg:AllBare g') :
  Inv X pins σ H' { s with heap:=h',gens:=g',drawn:=d',toks:=t' }:=by
 have neL:∀b o,X.s₀.heap.get? b=some o→b≠X.env.locals:=fun b o e=>Nat.ne_of_lt (Nat.lt_of_lt_of_le (Heap.lt_size e) I.ok.above)
 have neC:∀b o,X.s₀.heap.get? b=some o→b∉X.ex→b∉ch:=fun b o e hx hb=>by
  rcases (hch b hb).1 with z | z
  ·exact hx z
  ·exact absurd (Nat.lt_of_lt_of_le (Heap.lt_size e) z) (Nat.lt_irrefl _)
 have cellK:∀x c,X.env.cells.lookup x=some c→∀v,s.heap.IsCell c v→h'.IsCell c v:=fun x c e v ⟨o,ho,hd⟩=>by
  have nch:c∉ch:=fun z=>(hch c z).2.2.1 x c e rfl
  by_cases hc:c∈X.fs
  ·obtain ⟨sl,q⟩:=slot c o (I.cne x c e) hc nch ho (I.freeC x c e)
   exact ⟨_,q,hd⟩
  ·exact ⟨o,keep c o (I.cne x c e) hc nch ho (I.freeC x c e),hd⟩
 refine ⟨I.ok,I.os,hg,⟨fun b o e n hb hx=>?_,fun b o e n hb hx=>?_,fun b o e n hx=>?_,fun b o e hx=>?_,fun b xs e=>tups b xs (I.base.tups b xs e),fun b o xs e=>frzs b o xs (I.base.frzs b o xs e),fun b ps e=>?_⟩,?_,fun x c e=>?_,?_,fun x c e=>?_,fun p hp=>?_,hok,I.len⟩
 ·exact keep b o (neL b o e) hb (neC b o e hx) (I.base.keep b o e n hb hx) (I.base.free b o e n hx)
 ·obtain ⟨sl,e1⟩:=I.base.slot b o e n hb hx
  obtain ⟨sl',e2⟩:=slot b _ (neL b o e) hb (neC b o e hx) e1 (I.base.free b o e n hx)
  exact ⟨sl',e2⟩
 ·obtain ⟨o',e1⟩:=I.base.there b o e hx
  exact free b o' (neC b o e hx) e1 (I.base.free b o e n hx)
 ·obtain ⟨o',e1⟩:=I.base.there b o e hx
  exact there b o' (neC b o e hx) e1
 ·obtain ⟨m1,e1⟩:=I.base.tbls b ps e
  obtain ⟨m2,e2⟩:=tbls b _ e1
  exact ⟨m1 ++ m2,by rw [e2,Array.append_assoc]⟩
 ·obtain ⟨m,hn,hl⟩:=I.loc
  refine ⟨m,ns m hn,fun i x v e1 e2 e3=>?_⟩
  obtain ⟨u,r,l⟩:=hl i x v e1 e2 e3
  refine ⟨u,r,?_⟩
  rcases l with l | ⟨k,c,e,z⟩
  ·exact .inl l
  ·exact .inr ⟨k,c,e,cellK x c e _ z⟩
 ·obtain ⟨v,z⟩:=I.cell x c e
  exact ⟨v,cellK x c e v z⟩
 ·obtain ⟨m,⟨o,_,_,ho,_⟩,_⟩:=I.loc
  exact free _ o (fun z=>(hch _ z).2.1 rfl) ho I.free
 ·obtain ⟨v,o,ho,hd⟩:=I.cell x c e
  exact free c o (fun z=>(hch c z).2.2.1 x c e rfl) ho (I.freeC x c e)
 ·obtain ⟨e,n,ne,nf,d⟩:=I.pin p hp
  have nch:p.1∉ch:=fun z=>(hch p.1 z).2.2.2 p hp rfl
  exact ⟨keep p.1 p.2 ne nf nch e n,free p.1 p.2 nch e n,ne,nf,d⟩
theorem Inv.un {t':Nat} (I:Inv X pins σ H s) (u:Un X.fs [] H H' s.heap h') (hok:HOk X.prog X.w H' h'):Inv X pins σ H' { s with heap:=h',toks:=t' }:=by
 obtain ⟨m,⟨o,es,ep,ho,r⟩,_⟩:=id I.loc
 obtain ⟨sl,hL⟩:=u.any ho I.free (by simp)
 exact I.step (g':=s.gens) (d':=s.drawn) (ch:=[]) (fun _ z=>nomatch z) (fun b o _ hb _ e n=>u.keep b o e n hb (by simp)) (fun b o _ hb _ e n=>u.slot b o e n hb (by simp)) (fun b o _ e n=>u.free b o e n (by simp)) (fun b o _ e=>u.there b o e (by simp)) u.tups u.frzs u.tbls (fun m' hm=>by
  obtain ⟨o',es',ep',ho',r'⟩:=hm
  rw [ho] at ho'; cases ho'
  exact ⟨_,es',ep',hL,r'⟩) hok I.bare
theorem Inv.call {g':Array GenState} {t':Nat} {d':Drawn} {ch:List Addr} (I:Inv X pins σ H s) (u:Un (frs X.stack) ch H H' s.heap h') (hok:HOk X.prog X.w H' h') (hg:AllBare g')
  (hch:∀b∈ch,(b∈X.ex∨X.s₀.heap.objs.size≤b)∧b≠X.env.locals∧(∀x c,X.env.cells.lookup x=some c→c≠b)∧∀p∈X.pn ++ pins,p.1≠b) :
  Inv X pins σ H' { s with heap:=h',gens:=g',drawn:=d',toks:=t' }:=by
 obtain ⟨m,⟨o,es,ep,ho,r⟩,_⟩:=id I.loc
 obtain ⟨sl,hL⟩:=u.any ho I.free fun z=>(hch _ z).2.1 rfl
 exact I.step (ch:=ch) hch (fun b o hL hb hc e n=>u.keep b o e n (fun z=>(List.mem_cons.mp (I.stkSub b z)).elim hL hb) hc) (fun b o _ _ hc e n=>u.any e n hc) (fun b o hc e n=>u.free b o e n hc) (fun b o hc e=>u.there b o e hc) u.tups u.frzs u.tbls (fun m' hm=>by
  obtain ⟨o',es',ep',ho',r'⟩:=hm
  rw [ho] at ho'; cases ho'
  exact ⟨_,es',ep',hL,r'⟩) hok hg
theorem Inv.turned {t':Nat} {it:Addr} (I:Inv X pins σ H s) (k:∀b o,b≠it→s.heap.get? b=some o→h'.get? b=some o) (hn:H it=none) (hL:it≠X.env.locals)
  (h1:it∈X.ex∨X.s₀.heap.objs.size≤it) (h2:∀x c,X.env.cells.lookup x=some c→c≠it) (h3:∀p∈X.pn ++ pins,p.1≠it):Inv X pins σ H { s with heap:=h',toks:=t' }:=by
 have nit:∀b u,H b=some u→b≠it:=fun b u e z=>by rw [z,hn] at e; cases e
 refine I.step (g':=s.gens) (d':=s.drawn) (ch:=[it]) (fun b hb=>?_) (fun b o _ _ hc e _=>k b o (fun z=>hc (by simp [z])) e) (fun b o _ _ hc e _=>⟨o.slots,k b o (fun z=>hc (by simp [z])) e⟩) (fun _ _ _ _ n=>n)
  (fun b o hc e=>⟨o,k b o (fun z=>hc (by simp [z])) e⟩) (fun _ _ e=>e) (fun _ _ _ e=>e) (fun b ps e=>⟨#[],by rw [e]; simp⟩) (fun m hm=>?_) (fun b u e=>?_) I.bare
 ·have e:b=it:=by simpa using hb
  subst e
  exact ⟨h1,hL,h2,h3⟩
 ·obtain ⟨o,es,ep,ho,r⟩:=hm
  exact ⟨o,es,ep,k _ o (Ne.symm hL) ho,r⟩
 ·refine (I.hok b u e).stay (fun c v hc q=>k c v ?_ q) (fun _ q=>q) fun _ _ q=>q
  rcases hc with z | z
  ·rw [z]; exact nit b u e
  ·exact nit c _ z
theorem Inv.tok (I:Inv X pins σ H s) (t:Nat):Inv X pins σ H { s with toks:=t }:=I.un (h':=s.heap) (t':=t) Un.refl I.hok
theorem Inv.kept {t':Nat} (I:Inv X pins σ H s) (k:∀b u,s.heap.get? b=some u→h'.get? b=some u):Inv X pins σ H { s with heap:=h',toks:=t' }:=I.un (Un.kept k) (I.hok.kept k)
theorem Inv.laid {a:Addr} {o:HO} {t':Nat} (I:Inv X pins σ H s) (k:∀b u,s.heap.get? b=some u→h'.get? b=some u) (hp:s.heap.objs.size≤a) (new:ObjOk X.prog X.w (upd H a o) h' a o) :
  Inv X pins σ (upd H a o) { s with heap:=h',toks:=t' }:=I.un (Un.laid k hp (I.hok.fresh hp)) (I.hok.laid k hp new)
theorem Inv.write {x e:Addr} {o:HO} {t':Nat} (I:Inv X pins σ H s) (mu:Mut (H x)) (he:e=x∨H e=some (.own x)) (k:∀b u,b≠e→s.heap.get? b=some u→h'.get? b=some u) (heo:∃u,h'.get? e=some u)
  (new:ObjOk X.prog X.w (upd H x o) h' x o):Inv X pins σ (upd H x o) { s with heap:=h',toks:=t' }:=I.un (Un.write mu he k heo) (I.hok.write mu he k heo new)
theorem Inv.weak {σ':List (Option V)} (I:Inv X pins σ H s) (hl:σ'.length=σ.length) (w:∀ (i:Nat) v,σ'[i]? = some (some v)→σ[i]? = some (some v)):Inv X pins σ' H s :=
 ⟨I.ok,I.os,I.bare,I.base,let ⟨m,hn,hl'⟩:=I.loc; ⟨m,hn,fun i x v e1 e2 e3=>hl' i x v e1 (w i v e2) e3⟩,I.cell,I.free,I.freeC,I.pin,I.hok,hl.trans I.len⟩
theorem Inv.pins_of {pins':List (Addr×Obj)} (I:Inv X pins σ H s) (h:∀p∈pins',s.heap.get? p.1=some p.2∧H p.1=none∧p.1≠X.env.locals∧p.1∉X.fs∧∀v,p.2.data≠.cell v):Inv X pins' σ H s :=
 ⟨I.ok,I.os,I.bare,I.base,I.loc,I.cell,I.free,I.freeC,fun p hp=>(List.mem_append.mp hp).elim (fun z=>I.pin p (List.mem_append_left _ z)) (h p),I.hok,I.len⟩
theorem gm {N:List Str} (hN:N.Nodup) {i j:Nat} {x:Str} (a:N[i]? = some x) (b:N[j]? = some x):i=j:=by
 obtain ⟨h1,e1⟩:=List.getElem?_eq_some_iff.mp a
 obtain ⟨h2,e2⟩:=List.getElem?_eq_some_iff.mp b
 exact (List.getElem_inj hN).mp (e1.trans e2.symm)
theorem hZ {M:Model} {A:Around} {E:Value→Shared→Prop} {i:Nat} {x:Str} {v:V} {u:Value} {Q:Unit→Shared→Prop} (I:Inv X pins σ H s) (hN:X.N.Nodup) (hi:X.N[i]? = some x) (hx:Loc X.env.scope x) (r:RelV v u)
  (h:∀s',Inv X pins (σ.set i (some v)) H s'→(∃a,Heap.SameBut a s.heap s'.heap∧(a=X.env.locals∨X.env.cells.lookup x=some a))→Q () s') (hf:X.fn x=true∨X.env.scope.names.lookup x=some .local:=by first | exact .inl rfl | exact .inr rfl | assumption):wpAny M A (storeName X.env x u) Q E s:=by
 obtain ⟨m,hn,hl⟩:=id I.loc
 have hcls:(X.env.scope.kind == .class || (X.env.scope.kind == .module && X.env.locals != X.env.globals))=false:=by rw [I.ok.kind]; rfl
 have hiσ:i < σ.length:=by rw [I.len]; exact (List.getElem?_eq_some_iff.mp hi).1
 have cne:=I.cne
 have tracked:∀ {a:Addr} {h':Heap},(∃o,s.heap.get? a=some o∧H a=none)→Heap.SameBut a s.heap h'→HOk X.prog X.w H h':=fun {a h'} ha hs b ob e=>by
  obtain ⟨_,_,hfree⟩:=ha
  refine (I.hok b ob e).stay (fun c w' hc q=>(hs.2 c ?_).trans q) (fun _ q=>q) fun _ _ q=>q
  rintro rfl
  rcases hc with rfl | hc
  ·rw [hfree] at e; cases e
  ·rw [hfree] at hc; cases hc
 rcases hx with hk | hk
 ·refine wpAny_storeName_local hk hn (fun h' hn' hs=>?_) hcls
  obtain ⟨oL,_,_,hoL,_⟩:=id hn
  refine h _ ⟨I.ok,I.os,I.bare,⟨fun b o e n hb hx=>?_,fun b o e n hb hx=>?_,I.base.free,fun b o e hx=>?_,I.base.tups,I.base.frzs,I.base.tbls⟩,⟨_,hn',fun j y v' e1 e2 e3=>?_⟩,fun y c e=>?_,I.free,I.freeC,fun p hp=>?_,tracked ⟨oL,hoL,I.free⟩ hs,by simpa using I.len⟩ ⟨_,hs,.inl rfl⟩
  ·exact (hs.2 b (Nat.ne_of_lt (Nat.lt_of_lt_of_le (Heap.lt_size e) I.ok.above))).trans (I.base.keep b o e n hb hx)
  ·obtain ⟨sl,e1⟩:=I.base.slot b o e n hb hx
   exact ⟨sl,(hs.2 b (Nat.ne_of_lt (Nat.lt_of_lt_of_le (Heap.lt_size e) I.ok.above))).trans e1⟩
  ·obtain ⟨o',e1⟩:=I.base.there b o e hx
   exact ⟨o',(hs.2 b (Nat.ne_of_lt (Nat.lt_of_lt_of_le (Heap.lt_size e) I.ok.above))).trans e1⟩
  ·by_cases hj:j=i
   ·subst hj
    rw [hi] at e1; cases e1
    rw [List.getElem?_set_self hiσ] at e2
    cases e2
    exact ⟨u,r,.inl ⟨hk,by simp⟩⟩
   ·rw [List.getElem?_set_ne (Ne.symm hj)] at e2
    obtain ⟨u',r',q⟩:=hl j y v' e1 e2 e3
    refine ⟨u',r',?_⟩
    rcases q with ⟨k,e⟩ | ⟨k,c,e,z⟩
    ·refine .inl ⟨k,?_⟩
     have:y≠x:=fun e=>hj (gm hN e1 (e ▸ hi))
     simp [this,e]
    ·exact .inr ⟨k,c,e,z.sameBut hs (cne y c e)⟩
  ·obtain ⟨w',z⟩:=I.cell y c e
   exact ⟨w',z.sameBut hs (cne y c e)⟩
  ·obtain ⟨e,n,ne,nf,d⟩:=I.pin p hp
   exact ⟨(hs.2 p.1 ne).trans e,n,ne,nf,d⟩
 ·have hfn:X.fn x=true:=by
   rcases hf with z | z
   ·exact z
   ·rw [z] at hk; cases hk
  obtain ⟨c,hc⟩:=I.ok.has x (.inl hk)
  obtain ⟨w',z⟩:=I.cell x c hc
  refine wpAny_storeName_cell I.ok.kind hk hc z (fun h' hc' hs=>?_)
  obtain ⟨oc,hoc,hocd⟩:=id z
  refine h { s with heap:=h' } ⟨I.ok,I.os,I.bare,⟨fun b o e n hb hx=>?_,fun b o e n hb hx=>?_,I.base.free,fun b o e hx=>?_,I.base.tups,I.base.frzs,I.base.tbls⟩,⟨m,hn.sameBut hs (Ne.symm (cne x c hc)),fun j y v' e1 e2 e3=>?_⟩,fun y c' e=>?_,I.free,I.freeC,fun p hp=>?_,tracked ⟨oc,hoc,I.freeC x c hc⟩ hs,by simpa using I.len⟩ ⟨c,hs,.inr hc⟩
  ·exact (hs.2 b (Nat.ne_of_lt (Nat.lt_of_lt_of_le (Heap.lt_size e) (I.ok.cab x c hfn hc)))).trans (I.base.keep b o e n hb hx)
  ·obtain ⟨sl,e1⟩:=I.base.slot b o e n hb hx
   exact ⟨sl,(hs.2 b (Nat.ne_of_lt (Nat.lt_of_lt_of_le (Heap.lt_size e) (I.ok.cab x c hfn hc)))).trans e1⟩
  ·obtain ⟨o',e1⟩:=I.base.there b o e hx
   exact ⟨o',(hs.2 b (Nat.ne_of_lt (Nat.lt_of_lt_of_le (Heap.lt_size e) (I.ok.cab x c hfn hc)))).trans e1⟩
  ·by_cases hj:j=i
   ·subst hj
    rw [hi] at e1; cases e1
    rw [List.getElem?_set_self hiσ] at e2
    cases e2
    exact ⟨u,r,.inr ⟨.inl hk,c,hc,hc'⟩⟩
   ·rw [List.getElem?_set_ne (Ne.symm hj)] at e2
    obtain ⟨u',r',q⟩:=hl j y v' e1 e2 e3
    refine ⟨u',r',?_⟩
    rcases q with q | ⟨k,c',e,z'⟩
    ·exact .inl q
    ·refine .inr ⟨k,c',e,z'.sameBut hs ?_⟩
     rintro rfl
     exact hj (gm hN e1 (I.ok.inj _ _ _ e hc ▸ hi))
  ·by_cases hcc:c'=c
   ·subst hcc; exact ⟨_,hc'⟩
   ·obtain ⟨w2,z2⟩:=I.cell y c' e
    exact ⟨w2,z2.sameBut hs hcc⟩
  ·obtain ⟨e,n,ne,nf,d⟩:=I.pin p hp
   refine ⟨(hs.2 p.1 ?_).trans e,n,ne,nf,d⟩
   intro q
   rw [q,hoc] at e
   have q':oc=p.2:=Option.some.inj e
   exact d w' (by rw [← q']; exact hocd)
theorem cO {M:Model} {A:Around} {E:Value→Shared→Prop} {i:Nat} {x:Str} {v:V} {u:Value} {Q:Unit→Shared→Prop} (I:Inv X pins σ H s) (hN:X.N.Nodup) (hi:X.N[i]? = some x) (hx:Loc X.env.scope x) (r:RelV v u)
  (h:∀s',Inv X pins (σ.set i (some v)) H s'→Q () s') (hf:X.fn x=true∨X.env.scope.names.lookup x=some .local:=by first | exact .inl rfl | exact .inr rfl | assumption):wpAny M A (storeName X.env x u) Q E s :=
 hZ I hN hi hx r (fun s' I' _=>h s' I') hf
theorem Inv.call' {s':Shared} {ch:List Addr} (I:Inv X pins σ H s) (ho:s'.os=s.os) (u:Un (frs X.stack) ch H H' s.heap s'.heap) (hok:HOk X.prog X.w H' s'.heap) (hg:AllBare s'.gens)
  (hch:∀b∈ch,(b∈X.ex∨X.s₀.heap.objs.size≤b)∧b≠X.env.locals∧(∀x c,X.env.cells.lookup x=some c→c≠b)∧∀p∈X.pn ++ pins,p.1≠b):Inv X pins σ H' s':=by
 obtain ⟨h',g',d',t',o'⟩:=s'
 have e:o'=s.os:=ho
 subst e
 exact I.call (g':=g') (t':=t') (d':=d') u hok hg hch
end
abbrev XK:=Value→Option Addr→Hp→Prop
abbrev St:=List (Option V)
abbrev VK:=V→Hp→Prop
abbrev TE:=St→Hp→VK→Prop
abbrev TT:=St→Hp→(Bool→Hp→Prop)→Prop
abbrev TA:=St→Hp→(List V→Hp→Prop)→Prop
structure Ends where
 nx:St→Hp→Prop
 rt:VK
 bk:St→Hp→Prop:=fun _ _=>False
 ct:St→Hp→Prop:=fun _ _=>False
abbrev TS:=Ends→St→Hp→Prop
def EP (X:Cx) (pins:List (Addr×Obj)) (σ:St) (Q:VK) (u:Value) (s':Shared):Prop:=∃v H',Inv X pins σ H' s'∧RelV v u∧Q v H'
def TP (X:Cx) (pins:List (Addr×Obj)) (σ:St) (Q:Bool→Hp→Prop) (b:Bool) (s':Shared):Prop:=∃H',Inv X pins σ H' s'∧Q b H'
def AP (X:Cx) (pins:List (Addr×Obj)) (σ:St) (Q:List V→Hp→Prop) (us:List Value) (s':Shared):Prop:=∃vs H',Inv X pins σ H' s'∧Vals vs us∧Q vs H'
def SP (X:Cx) (pins:List (Addr×Obj)) (D:Ends) (f:Flow) (s':Shared):Prop :=
 match f with
 | .next=>∃σ' H',Inv X pins σ' H' s'∧D.nx σ' H'
 | .brk=>∃σ' H',Inv X pins σ' H' s'∧D.bk σ' H'
 | .cont=>∃σ' H',Inv X pins σ' H' s'∧D.ct σ' H'
 | .ret u=>∃v σ' H',Inv X pins σ' H' s'∧RelV v u∧D.rt v H'
def PE (X:Cx) (e:Expr) (t:TE):Prop :=
 ∀ (pins:List (Addr×Obj)) (s:Shared) (σ:St) (H:Hp) (Q:VK),Inv X pins σ H s→t σ H Q→wpAny (model X.prog X.w) X.A (eval e X.env) (EP X pins σ Q) X.xe s
def PT (X:Cx) (e:Expr) (t:TT):Prop :=
 ∀ (pins:List (Addr×Obj)) (s:Shared) (σ:St) (H:Hp) (Q:Bool→Hp→Prop),Inv X pins σ H s→t σ H Q→wpAny (model X.prog X.w) X.A (isTrue e X.env (eval e X.env)) (TP X pins σ Q) X.xe s
def PW (X:Cx) (e:Expr) (t:TT):Prop :=
 ∀ (aE:Sem Value) (pins:List (Addr×Obj)) (s:Shared) (σ:St) (H:Hp) (Q:Bool→Hp→Prop),Inv X pins σ H s→t σ H Q→wpAny (model X.prog X.w) X.A (isTrue e X.env aE) (TP X pins σ Q) X.xe s
theorem PW.pt {X:Cx} {e:Expr} {t:TT} (h:PW X e t):PT X e t:=h _
def PA (X:Cx) (es:List Expr) (t:TA):Prop :=
 ∀ (pos:Pos) (pins:List (Addr×Obj)) (s:Shared) (σ:St) (H:Hp) (Q:List V→Hp→Prop),Inv X pins σ H s→t σ H Q→wpAny (model X.prog X.w) X.A (spliced (backTo pos (starEach es X.env))) (AP X pins σ Q) X.xe s
def PS (X:Cx) (st:Stmt) (t:TS):Prop :=
 ∀ (pins:List (Addr×Obj)) (s:Shared) (σ:St) (H:Hp) (D:Ends),Inv X pins σ H s→t D σ H→wpAny (model X.prog X.w) X.A (exec st X.env) (SP X pins D) X.xe s
def PSs (X:Cx) (st:List Stmt) (t:TS):Prop :=
 ∀ (pins:List (Addr×Obj)) (s:Shared) (σ:St) (H:Hp) (D:Ends),Inv X pins σ H s→t D σ H→wpAny (model X.prog X.w) X.A (execs st X.env) (SP X pins D) X.xe s
theorem thn {α:Type} {t:Sem α} {Q Q':α→Shared→Prop} {M:Model} {A:Around} {E:Value→Shared→Prop} {s:Shared} (h:wpAny M A t Q E s) (hQ:∀a s,Q a s→Q' a s):wpAny M A t Q' E s:=wpAny_mono h hQ fun _ _ x=>x
end L2
namespace L2
open PySem PySem.Spec PyProof.Rows
section
variable {X:Cx}
theorem bin {a b:Expr} {ta tb:TE} (ha:PE X a ta) (hb:PE X b tb) {pins:List (Addr×Obj)} {s:Shared} {σ:St} {H:Hp} {R:V→V→Hp→Prop} (I:Inv X pins σ H s) (h:ta σ H fun x H1=>tb σ H1 fun y H2=>R x y H2)
  {α:Type} {Q:α→Shared→Prop} {f:Value→Value→Sem α}
  (hf:∀v u s2 x y H2,Inv X pins σ H2 s2→RelV x v→RelV y u→R x y H2→wpAny (model X.prog X.w) X.A (f v u) Q X.xe s2) :
  wpAny (model X.prog X.w) X.A (eval a X.env) (fun v s₁=>wpAny (model X.prog X.w) X.A (eval b X.env) (fun u s₂=>wpAny (model X.prog X.w) X.A (f v u) Q X.xe s₂) X.xe s₁) X.xe s:=by
 refine thn (ha pins s σ H _ I h) fun v s1 ⟨x,H1,I1,r1,q1⟩=>?_
 refine thn (hb pins s1 σ H1 _ I1 q1) fun u s2 ⟨y,H2,I2,r2,q2⟩=>?_
 exact hf v u s2 x y H2 I2 r1 r2 q2
def oV (i:Nat):TE:=fun σ H Q=>∃v,σ[i]? = some (some v)∧Q v H
def tC (v:V):TE:=fun _ H Q=>Q v H
theorem um {i:Nat} {x:Str} {pos:Pos} (hN:X.N[i]? = some x) (hv:Vis X.env.scope x) (hd:(x == ("__debug__" : Str))=false:=by decide) (hcd:(x == ("__classdict__" : Str))=false:=by decide):PE X (.Name x pos) (oV i):=by
 intro pins s σ H Q I h
 obtain ⟨v,e,h⟩:=h
 obtain ⟨m,hn,hl⟩:=I.loc
 obtain ⟨u,r,l⟩:=hl i x v hN e hv
 have fin:EP X pins σ Q u s:=⟨v,H,I,r,h⟩
 rcases l with ⟨hk,hm⟩ | ⟨hk,c,hc,hcell⟩
 ·exact wpAny_Name (wpAny_loadName_local I.ok.kind hk hn hm fin) hd
 ·rcases hk with hk | hk
  ·exact wpAny_Name (wpAny_loadName_cell I.ok.kind hk hc hcell fin) hd
  ·exact wpAny_Name (wpAny_loadName_free I.ok.kind hk hc hcell fin hcd) hd
theorem ag {i j pos}:PE X (.Constant (.int i) j pos) (tC (.int i)):=fun _ _ _ H _ I h=>wpAny_Constant_int ⟨.int i,H,I.tok _,⟨_,rfl⟩,h⟩
theorem aX {b j pos}:PE X (.Constant (.bool b) j pos) (tC (.bl b)):=fun _ _ _ H _ I h=>Constant_bool ⟨.bl b,H,I,rfl,h⟩
theorem ef {j pos}:PE X (.Constant .none j pos) (tC .non):=fun _ _ _ H _ I h=>Constant_none ⟨.non,H,I,rfl,h⟩
theorem aM {x j pos}:PE X (.Constant (.str x) j pos) (tC (.str x)):=fun _ _ _ H _ I h=>Calls.Constant_str ⟨.str x,H,I.tok _,⟨_,rfl⟩,h⟩
def Gl (X:Cx) (x:Str):Prop:=X.env.kindOf x=some .globalImplicit
theorem dQ {E:Value→Shared→Prop} {pins:List (Addr×Obj)} {s:Shared} {σ:St} {H:Hp} {x:Str} {u:Value} {pos:Pos} {Q:Value→Shared→Prop} (I:Inv X pins σ H s) (hg:Gl X x) (hm:X.mg x=some u) (h:Q u s)
  (hd:(x == ("__debug__" : Str))=false:=by decide):wpAny (model X.prog X.w) X.A (eval (.Name x pos) X.env) Q E s :=
 Calls.Name_function_global I.ok.kind hg (Calls.loadGlobal_global (by rw [I.ok.glob]; exact I.mod.glob.keeps I.bk) hm h) hd
theorem eh {E:Value→Shared→Prop} {pins:List (Addr×Obj)} {s:Shared} {σ:St} {H:Hp} {x:Str} {u:Value} {pos:Pos} {Q:Value→Shared→Prop} (I:Inv X pins σ H s) (hg:Gl X x) (hm:X.mg x=none) (hv:bootBuiltins x=some u) (h:Q u s)
  (hn:x ≠ "__name__" := by decide) (hd:(x == ("__debug__" : Str))=false:=by decide):wpAny (model X.prog X.w) X.A (eval (.Name x pos) X.env) Q E s:=by
 obtain ⟨mb,h1,h2⟩:=I.mod.blt
 exact Calls.Name_function_global I.ok.kind hg (Calls.loadGlobal_builtin (by rw [I.ok.glob]; exact I.mod.glob.keeps I.bk) hm (by rw [I.ok.blt]; exact h1.keeps I.bk) ((h2 x hn).trans hv) h) hd
theorem aB {x:Str} {v:V} {u:Value} {pos:Pos} (hg:Gl X x) (hm:X.mg x=some u) (r:RelV v u) (hd:(x == ("__debug__" : Str))=false:=by decide):PE X (.Name x pos) (tC v) :=
 fun _ _ _ H _ I h=>dQ I hg hm ⟨v,H,I,r,h⟩ hd
theorem cZ {x:Str} {v:V} {u:Value} {pos:Pos} (hg:Gl X x) (hm:X.mg x=none) (hv:bootBuiltins x=some u) (r:RelV v u) (hn:x ≠ "__name__" := by decide) (hd:(x == ("__debug__" : Str))=false:=by decide):PE X (.Name x pos) (tC v) :=
 fun _ _ _ H _ I h=>eh I hg hm hv ⟨v,H,I,r,h⟩ hn hd
variable {a b:Expr} {ta tb:TE} {pos:Pos}
def PC (X:Cx) (op:CmpOp) (a b:Expr) (t:TE):Prop :=
 ∀ (pins:List (Addr×Obj)) (s:Shared) (σ:St) (H:Hp) (Q:VK),Inv X pins σ H s→t σ H Q →
  wpAny (model X.prog X.w) X.A (eval a X.env) (fun v s₁=>wpAny (model X.prog X.w) X.A (eval b X.env) (fun u s₂=>wpAny (model X.prog X.w) X.A (compareOp op v u) (EP X pins σ Q) X.xe s₂) X.xe s₁) X.xe s
def tB (t:TE):TT:=fun σ H Q=>t σ H fun x H1=>∃c,x=.bl c∧Q c H1
theorem Ee {op:CmpOp} {t:TE} (h:PC X op a b t) (h1:behindInMarks op b=false:=by first | exact nobehind _ (by decide) (by decide) | rfl):PT X (.Compare a [op] [b] pos) (tB t):=by
 intro pins s σ H Q I hw
 refine wpAny_isTrue_Compare1 (thn (h pins s σ H _ I hw) fun v s1 h1=>thn h1 fun u s2 h2=>thn h2 fun c s3 ⟨x,H1,I1,r1,q1⟩=>?_) h1
 obtain ⟨d,rfl,q⟩:=q1
 cases r1
 exact wpAny_truthy_bool ⟨H1,I1,q⟩
theorem aN {e:Expr} {t:TE} (h:PE X e t) (he:∀aE,isTrue e X.env aE=(do let v←aE; standAt e.pos; holding [v] (truthy v)):=by intro _; rfl):PT X e (tB t):=by
 intro pins s σ H Q I hw
 refine isTrue_plain (thn (h pins s σ H _ I hw) fun v s1 ⟨x,H1,I1,r1,q1⟩=>?_) (he _)
 obtain ⟨d,rfl,q⟩:=q1
 cases r1
 exact wpAny_truthy_bool ⟨H1,I1,q⟩
variable {tA tB':TT} {rest:List Expr}
def Ef (t u:TT):TT:=fun σ H Q=>t σ H fun c H1=>if c=true then u σ H1 Q else Q false H1
def tOr (t u:TT):TT:=fun σ H Q=>t σ H fun c H1=>if c=true then Q true H1 else u σ H1 Q
def Eg (t:TT):TT:=fun σ H Q=>t σ H fun c H1=>Q (!c) H1
theorem gc (ha:PT X a tA):PW X (.BoolOp .And [a] pos) tA:=by
 intro wh pins s σ H Q I h
 refine isTrue_and (thn (ha pins s σ H Q I h) fun c s1 e=>?_)
 cases c with
 | true=>exact isTrue_and_nil e
 | false=>exact e
theorem bt (ha:PT X a tA):PW X (.BoolOp .Or [a] pos) tA:=by
 intro wh pins s σ H Q I h
 refine isTrue_or (thn (ha pins s σ H Q I h) fun c s1 e=>?_)
 cases c with
 | false=>exact isTrue_or_nil e
 | true=>exact e
theorem iD (ha:PT X a tA) (hb:PW X (.BoolOp .And (b :: rest) pos) tB'):PW X (.BoolOp .And (a :: b :: rest) pos) (Ef tA tB'):=by
 intro wh pins s σ H Q I h
 refine isTrue_and (thn (ha pins s σ H _ I h) fun c s1 ⟨H1,I1,q1⟩=>?_)
 cases c with
 | true=>exact hb wh pins s1 σ H1 Q I1 q1
 | false=>exact ⟨H1,I1,q1⟩
theorem bP (ha:PT X a tA) (hb:PW X (.BoolOp .Or (b :: rest) pos) tB'):PW X (.BoolOp .Or (a :: b :: rest) pos) (tOr tA tB'):=by
 intro wh pins s σ H Q I h
 refine isTrue_or (thn (ha pins s σ H _ I h) fun c s1 ⟨H1,I1,q1⟩=>?_)
 cases c with
 | true=>exact ⟨H1,I1,q1⟩
 | false=>exact hb wh pins s1 σ H1 Q I1 q1
theorem aS (ha:PT X a tA):PT X (.UnaryOp .Not a pos) (Eg tA):=by
 intro pins s σ H Q I h
 exact isTrue_not (ha pins s σ H (fun c H1=>Q (!c) H1) I h)
def yS (ta tb:TE):TE:=fun σ H Q=>ta σ H fun x H1=>∃c,x=.bl c∧if c=true then tb σ H1 Q else Q (.bl false) H1
def Eh (ta tb:TE):TE:=fun σ H Q=>ta σ H fun x H1=>∃c,x=.bl c∧if c=true then Q (.bl true) H1 else tb σ H1 Q
def yT (ta:TE):TE:=fun σ H Q=>ta σ H fun x H1=>∃c,x=.bl c∧Q (.bl (!c)) H1
theorem dy {op} {t:TE} (h:PE X a t):PE X (.BoolOp op [a] pos) t:=fun pins s σ H Q I hw=>BoolOp_one (h pins s σ H Q I hw)
theorem de (ha:PE X a ta) (hb:PE X (.BoolOp .And (b :: rest) pos) tb):PE X (.BoolOp .And (a :: b :: rest) pos) (yS ta tb):=by
 intro pins s σ H Q I h
 refine BoolOp_and (thn (ha pins s σ H _ I h) fun v s1 ⟨x,H1,I1,r1,q1⟩=>?_)
 obtain ⟨c,rfl,q1⟩:=q1
 cases r1
 refine wpAny_truthy_bool ?_
 cases c with
 | true=>exact hb pins s1 σ H1 Q I1 q1
 | false=>exact ⟨.bl false,H1,I1,rfl,q1⟩
theorem yU (ha:PE X a ta) (hb:PE X (.BoolOp .Or (b :: rest) pos) tb):PE X (.BoolOp .Or (a :: b :: rest) pos) (Eh ta tb):=by
 intro pins s σ H Q I h
 refine BoolOp_or (thn (ha pins s σ H _ I h) fun v s1 ⟨x,H1,I1,r1,q1⟩=>?_)
 obtain ⟨c,rfl,q1⟩:=q1
 cases r1
 refine wpAny_truthy_bool ?_
 cases c with
 | false=>exact hb pins s1 σ H1 Q I1 q1
 | true=>exact ⟨.bl true,H1,I1,rfl,q1⟩
theorem oW (ha:PE X a ta):PE X (.UnaryOp .Not a pos) (yT ta):=by
 intro pins s σ H Q I h
 refine UnaryOp_ (thn (ha pins s σ H _ I h) fun v s1 ⟨x,H1,I1,r1,q1⟩=>?_)
 obtain ⟨c,rfl,q1⟩:=q1
 cases r1
 exact not_of (wpAny_truthy_bool ⟨.bl (!c),H1,I1,rfl,q1⟩)
def tIf (t:TT) (ta tb:TE):TE:=fun σ H Q=>t σ H fun c H1=>if c=true then ta σ H1 Q else tb σ H1 Q
theorem gn {c:Expr} (hc:PT X c tA) (ha:PE X a ta) (hb:PE X b tb):PE X (.IfExp c a b pos) (tIf tA ta tb):=by
 intro pins s σ H Q I h
 refine wpAny_IfExp (thn (hc pins s σ H _ I h) fun d s1 ⟨H1,I1,q1⟩=>?_)
 cases d with
 | true=>exact ha pins s1 σ H1 Q I1 q1
 | false=>exact hb pins s1 σ H1 Q I1 q1
end
end L2
namespace L2
open PySem PySem.Spec PyProof.Rows
def SqL (K:PySem.W.Frag) (H:Hp) (a:Addr) (xs:List V):Prop :=
 Rd H a (.lst xs) ∨
  ∃ (o:Obj) (its:Array Value) (n:Nat),K.lookup a=some o∧o.cls=.type "list" ∧ o.dict=none∧o.data=.seq its n∧its.size≤sizeLine∧Vals xs its.toList
def SqT (K:PySem.W.Frag) (H:Hp) (a:Addr) (xs:List V):Prop :=
 Rd H a (.tup xs) ∨
  ∃ (o:Obj) (its:Array Value) (n:Nat),K.lookup a=some o∧o.cls=.type "tuple" ∧ o.data=.seq its n∧its.size≤sizeLine∧Vals xs its.toList
def Ei:Value→Option V
 | .none=>some .non
 | .bool b=>some (.bl b)
 | .int i _=>some (.int i)
 | .str x _=>some (.str x)
 | .bytes b _=>some (.byt b)
 | .float b _=>some (.flt b)
 | .ref a=>some (.ref a)
 | .type n=>some (.ty n)
 | _=>none
theorem RelV.abs {x:V} {u:Value} (r:RelV x u):Ei u=some x:=by
 cases x with
 | non=>cases r; rfl
 | bl _=>cases r; rfl
 | int _=>obtain ⟨t,rfl⟩:=r; rfl
 | str _=>obtain ⟨t,rfl⟩:=r; rfl
 | byt _=>obtain ⟨t,rfl⟩:=r; rfl
 | flt _=>obtain ⟨t,rfl⟩:=r; rfl
 | ref _=>cases r; rfl
 | ty _=>cases r; rfl
theorem RelV.inj {x y:V} {u:Value} (r:RelV x u) (q:RelV y u):x=y:=Option.some.inj (r.abs.symm.trans q.abs)
theorem Vals.inj:∀ {xs ys:List V} {us:List Value},Vals xs us→Vals ys us→xs=ys
 | _,_,_,.nil,.nil=>rfl
 | _,_,_,.cons r t,.cons r' t'=>by rw [r.inj r',Vals.inj t t']
section
variable {X:Cx} {pins:List (Addr×Obj)} {σ:St} {H:Hp} {s:Shared} {a:Addr} {xs ys:List V}
theorem SqL.of {K:PySem.W.Frag} (h:H a=some (.lst xs)):SqL K H a xs:=.inl (.inl h)
theorem SqT.of {K:PySem.W.Frag} (h:H a=some (.tup xs)):SqT K H a xs:=.inl (.inl h)
theorem Inv.list (I:Inv X pins σ H s) (h:SqL X.K H a xs):∃its:List Value,Vals xs its∧PlainL s.heap a its.toArray∧xs.length≤sizeLine:=by
 rcases h with h | ⟨o,its,n,hk,hc,hd,hs,hz,r⟩
 ·obtain ⟨z,its,n,r,e⟩:=h.ok I.hok
  exact ⟨its,r,⟨_,n,e,rfl,rfl,rfl⟩,z⟩
 ·refine ⟨its.toList,r,⟨o,n,I.kIn a o hk,hc,hd,by simpa using hs⟩,?_⟩
  have e:=r.length
  simp only [Array.length_toList] at e
  omega
theorem Inv.tuple (I:Inv X pins σ H s) (h:SqT X.K H a xs):∃its:List Value,Vals xs its∧IsTup s.heap a its.toArray∧xs.length≤sizeLine:=by
 rcases h with h | ⟨o,its,n,hk,hc,hs,hz,r⟩
 ·obtain ⟨z,its,r,p⟩:=h.ok I.hok
  exact ⟨its,r,p,z⟩
 ·refine ⟨its.toList,r,⟨o,I.kIn a o hk,hc,n,by simpa using hs⟩,?_⟩
  have e:=r.length
  simp only [Array.length_toList] at e
  omega
theorem Inv.list_inj (I:Inv X pins σ H s) (h:SqL X.K H a xs) (h':SqL X.K H a ys):xs=ys:=by
 obtain ⟨its,r,⟨o,n,e,_,_,d⟩,_⟩:=I.list h
 obtain ⟨its',r',⟨o',n',e',_,_,d'⟩,_⟩:=I.list h'
 rw [e] at e'; cases e'
 rw [d] at d'
 injection d' with d1 _
 have:its=its':=by simpa using congrArg Array.toList d1
 subst this
 exact r.inj r'
theorem Inv.tuple_inj (I:Inv X pins σ H s) (h:SqT X.K H a xs) (h':SqT X.K H a ys):xs=ys:=by
 obtain ⟨its,r,⟨o,e,_,n,d⟩,_⟩:=I.tuple h
 obtain ⟨its',r',⟨o',e',_,n',d'⟩,_⟩:=I.tuple h'
 rw [e] at e'; cases e'
 rw [d] at d'
 injection d' with d1 _
 have:its=its':=by simpa using congrArg Array.toList d1
 subst this
 exact r.inj r'
end
abbrev Cx.wish (X:Cx) (E:Value→Shared→Prop):Cx:={ X with xe:=E }
abbrev Cx.nox (X:Cx):Cx:=X.wish fun _ _=>False
theorem Cx.Ok.wish {X:Cx} (ok:X.Ok) (E:Value→Shared→Prop):(X.wish E).Ok :=
 ⟨ok.mod,ok.kind,ok.glob,ok.blt,ok.above,ok.inj,ok.has,ok.cab,ok.hd,ok.frames,ok.stk,ok.exf,ok.bs,ok.bsz,ok.noex,ok.exfs,ok.funs,ok.frf⟩
theorem Cx.Ok.unwish {X:Cx} {E:Value→Shared→Prop} (ok:(X.wish E).Ok):X.Ok :=
 ⟨ok.mod,ok.kind,ok.glob,ok.blt,ok.above,ok.inj,ok.has,ok.cab,ok.hd,ok.frames,ok.stk,ok.exf,ok.bs,ok.bsz,ok.noex,ok.exfs,ok.funs,ok.frf⟩
section
variable {X:Cx} {pins:List (Addr×Obj)} {σ:St} {H:Hp} {s:Shared} {E:Value→Shared→Prop}
theorem Inv.wish (I:Inv X pins σ H s) (E:Value→Shared→Prop):Inv (X.wish E) pins σ H s:=⟨I.ok.wish E,I.os,I.bare,I.base,I.loc,I.cell,I.free,I.freeC,I.pin,I.hok,I.len⟩
theorem Inv.unwish (I:Inv (X.wish E) pins σ H s):Inv X pins σ H s:=⟨I.ok.unwish,I.os,I.bare,I.base,I.loc,I.cell,I.free,I.freeC,I.pin,I.hok,I.len⟩
theorem SP.unwish {D:Ends} {f:Flow} {s':Shared} (h:SP (X.wish E) pins D f s'):SP X pins D f s':=by
 cases f with
 | next=>obtain ⟨σ',H',I,q⟩:=h; exact ⟨σ',H',I.unwish,q⟩
 | brk=>obtain ⟨σ',H',I,q⟩:=h; exact ⟨σ',H',I.unwish,q⟩
 | cont=>obtain ⟨σ',H',I,q⟩:=h; exact ⟨σ',H',I.unwish,q⟩
 | ret u=>obtain ⟨v,σ',H',I,r,q⟩:=h; exact ⟨v,σ',H',I.unwish,r,q⟩
theorem PSs.nox {st:List Stmt} {t:TS} (h:PSs X.nox st t):PSs X st t:=fun pins s σ H D I hw =>
 wpAny_mono (h pins s σ H D (I.wish _) hw) (fun _ _ q=>q.unwish) fun _ _ z=>False.elim z
end
section
variable {X:Cx} {st:Stmt} {rest:List Stmt} {t u:TS} {e:Expr} {te:TE} {pos:Pos}
def yV:TS:=fun D σ H=>D.nx σ H
def yW (t u:TS):TS:=fun D σ H=>t { D with nx:=u D } σ H
theorem av:PSs X [] yV:=fun _ _ σ H _ I h=>wpAny_execs_nil ⟨σ,H,I,h⟩
theorem af (h1:PS X st t) (h2:PSs X rest u):PSs X (st :: rest) (yW t u):=by
 intro pins s σ H D I h
 refine wpAny_execs_cons (thn (h1 pins s σ H { D with nx:=u D } I h) fun f s1 q=>?_)
 cases f with
 | next =>
  obtain ⟨σ',H',I',q⟩:=q
  exact h2 pins s1 σ' H' D I' q
 | ret v=>exact q
 | brk=>exact q
 | cont=>exact q
theorem ai (h1:PS X st t):PSs X [st] t:=by
 intro pins s σ H D I h
 refine wpAny_execs_cons (thn (h1 pins s σ H D I h) fun f s1 q=>?_)
 cases f with
 | next=>exact wpAny_execs_nil q
 | ret v=>exact q
 | brk=>exact q
 | cont=>exact q
theorem Inv.quiet {pins:List (Addr×Obj)} {σ:St} {H:Hp} {s:Shared} (I:Inv X pins σ H s):interactive X.env=false:=by simp [interactive,I.ok.kind]
def yX (te:TE):TS:=fun D σ H=>te σ H fun _ H1=>D.nx σ H1
theorem aV (he:PE X e te) (hs:swapsWith e none pos.line X.env=pure false:=by rfl):PS X (.Expr e pos) (yX te):=by
 intro pins s σ H D I h
 exact wpAny_Expr_any (thn (he pins s σ H _ I h) fun v s1 ⟨x,H1,I1,r1,q1⟩=>⟨σ,H1,I1,q1⟩) I.quiet hs
def Ej (te:TE):TS:=fun D σ H=>te σ H D.rt
theorem au (he:PE X e te):PS X (.Return (some e) pos) (Ej te):=by
 intro pins s σ H D I h
 exact wpAny_Return_some (thn (he pins s σ H _ I h) fun v s1 ⟨x,H1,I1,r1,q1⟩=>⟨x,σ,H1,I1,r1,q1⟩)
def Ek (c:TT) (t u:TS):TS:=fun D σ H=>c σ H fun b H1=>if b=true then t D σ H1 else u D σ H1
theorem aL {c:Expr} {a b:List Stmt} {tc:TT} (hc:PT X c tc) (ha:PSs X a t) (hb:PSs X b u):PS X (.If c a b pos) (Ek tc t u):=by
 intro pins s σ H D I h
 refine wpAny_If (thn (hc pins s σ H _ I h) fun d s1 ⟨H1,I1,q1⟩=>?_)
 cases d with
 | true=>exact ha pins s1 σ H1 D I1 q1
 | false=>exact hb pins s1 σ H1 D I1 q1
def oX:TS:=fun _ _ _=>False
theorem aP:PS X st oX:=fun _ _ _ _ _ _ h=>h.elim
theorem ft {sts:List Stmt}:PSs X sts oX:=fun _ _ _ _ _ _ h=>h.elim
end
abbrev TG:=V→St→Hp→(St→Hp→Prop)→Prop
abbrev TGs:=List V→St→Hp→(St→Hp→Prop)→Prop
def PG (X:Cx) (target:Expr) (t:TG):Prop :=
 ∀ (pins:List (Addr×Obj)) (s:Shared) (σ:St) (H:Hp) (v:V) (u:Value) (Q:St→Hp→Prop),Inv X pins σ H s→RelV v u→t v σ H Q →
  wpAny (model X.prog X.w) X.A (assign target X.env u) (fun _ s'=>∃σ' H',Inv X pins σ' H' s'∧Q σ' H') X.xe s
def PGs (X:Cx) (ts:List Expr) (t:TGs):Prop :=
 ∀ (pins:List (Addr×Obj)) (s:Shared) (σ:St) (H:Hp) (vs:List V) (us:List Value) (Q:St→Hp→Prop),Inv X pins σ H s→Vals vs us→t vs σ H Q →
  wpAny (model X.prog X.w) X.A (assignInOrder ((assignEach ts X.env).map (·.2)) us) (fun _ s'=>∃σ' H',Inv X pins σ' H' s'∧Q σ' H') X.xe s
abbrev uo:=V→V→V→Hp→(Hp→Prop)→Prop
def yY (X:Cx) (t:uo):Prop :=
 ∀ (pins:List (Addr×Obj)) (s:Shared) (σ:St) (H:Hp) (o i v:V) (ov iv u:Value) (Q:Hp→Prop),Inv X pins σ H s→RelV o ov→RelV i iv→RelV v u→t o i v H Q →
  wpAny (model X.prog X.w) X.A (setItem ov iv u) (fun _ s'=>∃H',Inv X pins σ H' s'∧Q H') X.xe s
abbrev TIp:=V→V→Hp→VK→Prop
def PIp (X:Cx) (op:Operator) (t:TIp):Prop :=
 ∀ (pins:List (Addr×Obj)) (s:Shared) (σ:St) (H:Hp) (x y:V) (v u:Value) (Q:VK),Inv X pins σ H s→RelV x v→RelV y u→t x y H Q →
  wpAny (model X.prog X.w) X.A (inplaceOp op v u) (EP X pins σ Q) X.xe s
section
variable {X:Cx} {pos:Pos}
def jm (i:Nat):TG:=fun v σ H Q=>Q (σ.set i (some v)) H
theorem ak {i:Nat} {x:Str} (hN:X.N.Nodup) (hi:X.N[i]? = some x) (hx:Loc X.env.scope x) (hf:X.fn x=true∨X.env.scope.names.lookup x=some .local:=by first | exact .inl rfl | exact .inr rfl | assumption):PG X (.Name x pos) (jm i):=by
 intro pins s σ H v u Q I r h
 exact wpAny_assign_Name (cO I hN hi hx r (fun s' I'=>⟨_,H,I',h⟩) hf)
def yZ:TGs:=fun vs σ H Q=>vs=[]∧Q σ H
def oY (t:TG) (u:TGs):TGs:=fun vs σ H Q=>∃v r,vs=v :: r∧t v σ H fun σ' H'=>u r σ' H' Q
theorem aQ:PGs X [] yZ:=by
 intro pins s σ H vs us Q I r h
 obtain ⟨e,h⟩:=h
 subst e
 cases r
 exact assignInOrder_nil ⟨σ,H,I,h⟩
theorem aj {e:Expr} {es:List Expr} {t:TG} {u:TGs} (h1:PG X e t) (h2:PGs X es u)
  (hs:(assignEach (e :: es) X.env).map (·.2)=assign e X.env :: (assignEach es X.env).map (·.2):=by rfl):PGs X (e :: es) (oY t u):=by
 intro pins s σ H vs us Q I r h
 obtain ⟨v,vr,e1,h⟩:=h
 subst e1
 cases r with
 | cons r rr =>
  rw [hs]
  refine assignInOrder_cons (thn (h1 pins s σ H _ _ _ I r h) fun _ s1 ⟨σ1,H1,I1,q1⟩=>?_)
  exact h2 pins s1 σ1 H1 _ _ Q I1 rr q1
def za (K:PySem.W.Frag) (n:Nat) (t:TGs):TG:=fun v σ H Q=>∃a xs,v=.ref a∧SqT K H a xs∧xs.length=n∧t xs σ H Q
theorem aZ {es:List Expr} {k:Nat} {t:TGs} {n:Nat} (hc:X.calm=true) (h:PGs X es t)
  (hn:(assignEach es X.env).length=n:=by rfl) (hst:(assignEach es X.env).findIdx? (·.1)=none:=by rfl):PG X (.Tuple es k pos) (za X.K n t):=by
 intro pins s σ H v u Q I r hw
 obtain ⟨a,xs,e1,hq,hl,hw⟩:=hw
 subst e1
 cases r
 obtain ⟨its,rv,ht,hz⟩:=I.tuple hq
 refine assign_Tuple_tuple (I.ok.hd hc) ht (by simp [hn,← hl,rv.length]) hst fun h' hx=>?_
 have I1:Inv X pins σ H { s with heap:=h' }:=I.kept (t':=s.toks) fun b o e=>hx b o (Nat.ne_of_lt (Heap.lt_size e)) e
 exact h pins _ σ H xs _ Q I1 (by simpa using rv) hw
def El (to ti:TE) (t:uo):TG:=fun v σ H Q=>to σ H fun o H1=>ti σ H1 fun i H2=>t o i v H2 fun H3=>Q σ H3
theorem oZ {o i:Expr} {to ti:TE} {t:uo} (ho:PE X o to) (hi:PE X i ti) (hs:yY X t)
  (ha:∀v,assign (.Subscript o i pos) X.env v=(do
   let ov←holding [v] (eval o X.env)
   let iv←holding [v,ov] (eval i X.env)
   standAt pos
   holding [v,ov,iv] (setItem ov iv v)
   release [v,ov,iv] []):=by intro _; rfl):PG X (.Subscript o i pos) (El to ti t):=by
 intro pins s σ H v u Q I r h
 rw [ha]
 refine wpAny_bind (wpAny_holding (thn (ho pins s σ H _ I h) fun ov s1 ⟨x,H1,I1,r1,q1⟩=>?_))
 refine wpAny_bind (wpAny_holding (thn (hi pins s1 σ H1 _ I1 q1) fun iv s2 ⟨y,H2,I2,r2,q2⟩=>?_))
 refine wpAny_bind (wpAny_standAt (wpAny_bind (wpAny_holding (thn (hs pins s2 σ H2 x y v ov iv u _ I2 r1 r2 r q2) fun _ s3 ⟨H3,I3,q3⟩=>?_))))
 exact wpAny_release ⟨σ,H3,I3,q3⟩
def uq (te:TE) (g:TG):TS:=fun D σ H=>te σ H fun x H1=>g x σ H1 D.nx
theorem br {tg e:Expr} {te:TE} {g:TG} (he:PE X e te) (hg:PG X tg g) (hs:swapsWithSole [tg] e pos.line X.env=pure false:=by rfl) (hw:swappedStores [tg] e X.env=pure none:=by rfl)
  (h1:(assignEach [tg] X.env).map (·.2)=[assign tg X.env]:=by rfl):PS X (.Assign [tg] e pos) (uq te g):=by
 intro pins s σ H D I h
 refine wpAny_Assign_stores (thn (he pins s σ H _ I h) fun v s1 ⟨x,H1,I1,r1,q1⟩=>?_) hs hw
 rw [h1]
 exact thn (hg pins s1 σ H1 x v _ I1 r1 q1) fun _ s2 q=>q
theorem aw {i:Nat} {x:Str} {e:Expr} {te:TE} {pos':Pos} (hN:X.N.Nodup) (hi:X.N[i]? = some x) (hx:Loc X.env.scope x) (he:PE X e te) (hs:swapsWith e (some (.Name x pos')) pos.line X.env=pure false:=by rfl) (hf:X.fn x=true∨X.env.scope.names.lookup x=some .local:=by first | exact .inl rfl | exact .inr rfl | assumption) :
  PS X (.Assign [.Name x pos'] e pos) (uq te (jm i)):=by
 intro pins s σ H D I h
 refine wpAny_Assign_Name (thn (he pins s σ H _ I h) fun v s1 ⟨y,H1,I1,r1,q1⟩=>?_) hs
 exact cO I1 hN hi hx r1 (fun s2 I2=>⟨_,H1,I2,q1⟩) hf
def Em (i j:Nat) (ta:TA):TS:=fun D σ H=>ta σ H fun vs H1=>∃v w,vs=[v,w]∧D.nx ((σ.set i (some v)).set j (some w)) H1
theorem jU {i j:Nat} {x y:Str} {a b:Expr} {ta:TA} {px py pt:Pos} {kt k2 pt2} (hc:X.calm=true) (hN:X.N.Nodup) (hi:X.N[i]? = some x) (hj:X.N[j]? = some y) (hij:i≠j)
  (hx:X.env.scope.names.lookup x=some .local) (hy:X.env.scope.names.lookup y=some .local) (ha:PA X [a,b] ta)
  (hw:swappedStores [.Tuple [.Name x px,.Name y py] kt pt] (.Tuple [a,b] k2 pt2) X.env=pure (some [x,y]))
  (hs:swapsWithSole [.Tuple [.Name x px,.Name y py] kt pt] (.Tuple [a,b] k2 pt2) pos.line X.env=pure false:=by rfl) :
  PS X (.Assign [.Tuple [.Name x px,.Name y py] kt pt] (.Tuple [a,b] k2 pt2) pos) (Em i j ta):=by
 intro pins s σ H D I h
 rw [exec_Assign_arm]
 refine wpAny_bind (wpAny_standAt ?_)
 rw [hs]
 refine wpAny_bind (wpAny_pure ?_)
 rw [if_neg (by decide)]
 refine wpAny_bind (Tuple_ (thn (ha _ pins s σ H _ I h) fun us s1 ⟨vs,H1,I1,r1,q1⟩=>?_))
 obtain ⟨v,w,e1,q1⟩:=q1
 subst e1
 obtain ⟨u1,u2,rfl,rv,rw'⟩:∃u1 u2,us=[u1,u2]∧RelV v u1∧RelV w u2:=by
  cases r1 with
  | cons p q =>
   cases q with
   | cons p' q' =>
    cases q'
    exact ⟨_,_,rfl,p,p'⟩
 refine wpAny_newObj_type ?_ (by show 2≤sizeLine; decide)
 have I2:Inv X pins σ H1 { s1 with heap:=s1.heap.push { cls:=.type "tuple", data:=.seq [u1, u2].toArray } }:=I1.kept (t':=s1.toks) fun b o e=>Heap.get?_push_of_some _ e
 rw [hw]
 refine wpAny_bind (wpAny_pure ?_)
 show wpAny (model X.prog X.w) X.A (do rule "assign.swapped-stores"; let items←unpackItems (.ref s1.heap.objs.size) 2 none; assignInOrder [fun v=>bindName X.env y v,fun v=>bindName X.env x v] items.reverse; pure Flow.next) _ _ _
 refine wpAny_bind (wpAny_rule (wpAny_bind (unpackItems_tuple (items:=#[u1,u2]) (I.ok.hd hc) (IsTup.new s1.heap _) fun h' hx'=>?_)))
 have I3:=I2.kept (h':=h') (t':=s1.toks) fun b o e=>hx' b o (Nat.ne_of_lt (Heap.lt_size e)) e
 show wpAny _ _ (assignInOrder [fun v=>bindName X.env y v,fun v=>bindName X.env x v] [u2,u1] >>= fun _=>pure Flow.next) _ _ _
 refine wpAny_bind (assignInOrder_cons (wpAny_bindName (cO I3 hN hj (.inl hy) rw' (fun s2 I4=>?_) (.inr hy))))
 refine assignInOrder_cons (wpAny_bindName (cO I4 hN hi (.inl hx) rv (fun s3 I5=>assignInOrder_nil (wpAny_pure ?_)) (.inr hx)))
 rw [List.set_comm _ _ (Ne.symm hij)] at I5
 exact ⟨_,H1,I5,q1⟩
def En (i:Nat) (te:TE) (ti:TIp):TS:=fun D σ H=>∃x,σ[i]? = some (some x)∧te σ H fun y H1=>ti x y H1 fun z H2=>D.nx (σ.set i (some z)) H2
theorem pe {i:Nat} {x:Str} {e:Expr} {te:TE} {op:Operator} {ti:TIp} {pos':Pos} (hN:X.N.Nodup) (hi:X.N[i]? = some x) (hx:Loc X.env.scope x) (he:PE X e te) (ho:PIp X op ti) (hf:X.fn x=true∨X.env.scope.names.lookup x=some .local:=by first | exact .inl rfl | exact .inr rfl | assumption) :
  PS X (.AugAssign (.Name x pos') op e pos) (En i te ti):=by
 intro pins s σ H D I h
 obtain ⟨v,e1,h⟩:=h
 obtain ⟨m,hn,hl⟩:=I.loc
 have vis:Vis X.env.scope x:=by rcases hx with k | k; exact .inl k; exact .inr (.inl k)
 obtain ⟨u,r,l⟩:=hl i x v hi e1 vis
 refine wpAny_AugAssign_Name ?_
 have go:wpAny (model X.prog X.w) X.A (eval e X.env) (fun w s₂=>wpAny (model X.prog X.w) X.A (inplaceOp op u w) (fun r s₃=>wpAny (model X.prog X.w) X.A (storeName X.env x r) (fun _=>SP X pins D .next) X.xe s₃) X.xe s₂) X.xe s:=by
  refine thn (he pins s σ H _ I h) fun w s1 ⟨y,H1,I1,r1,q1⟩=>?_
  refine thn (ho pins s1 σ H1 v y u w _ I1 r r1 q1) fun z s2 ⟨zv,H2,I2,r2,q2⟩=>?_
  exact cO I2 hN hi hx r2 (fun s3 I3=>⟨_,H2,I3,q2⟩) hf
 rcases l with ⟨hk,hm⟩ | ⟨hk,c,hc,hcell⟩
 ·exact wpAny_loadName_local I.ok.kind hk hn hm go
 ·rcases hk with hk | hk
  ·exact wpAny_loadName_cell I.ok.kind hk hc hcell go
  ·rcases hx with k | k
   ·have:X.env.scope.names.lookup x=some .free:=hk
    rw [k] at this; cases this
   ·have:X.env.scope.names.lookup x=some .free:=hk
    rw [k] at this; cases this
def ipI (f:Int→Int→Int):TIp:=fun x y H Q=>∃i j,x=.int i∧y=.int j∧Q (.int (f i j)) H
theorem pf:PIp X .Add (ipI fun i j=>i + j):=by
 intro pins s σ H x y v u Q I r1 r2 h
 obtain ⟨i,j,e1,e2,q⟩:=h
 subst e1; subst e2
 obtain ⟨t,rfl⟩:=r1
 obtain ⟨t',rfl⟩:=r2
 exact iadd_int ⟨.int _,H,I.tok _,⟨_,rfl⟩,q⟩
end
section
variable {X:Cx} {pos:Pos}
def ur (c:TT) (tb:TS):TS:=fun D σ H=>∃W:Nat→St→Hp→Prop,(∃m,W m σ H)∧∀m σ H,W m σ H →
 c σ H fun b H1=>if b=true then ∃N:St→Hp→Prop,(∀σ' H',N σ' H'→∃m',m' < m∧W m' σ' H')∧tb { D with nx:=N,ct:=N,bk:=D.nx } σ H1 else D.nx σ H1
theorem gp {c:Expr} {body:List Stmt} {tc:TT} {tb:TS} (hp:PassesOwn (model X.prog X.w) X.A X.env X.xe) (hc:PT X c tc) (hb:PSs X body tb):PS X (.While c body [] pos) (ur tc tb):=by
 intro pins s σ H D I h
 obtain ⟨W,⟨m0,w0⟩,turn⟩:=h
 refine wpAny_While (codeAny_whileLoop (fun n s'=>∃σ' H',Inv X pins σ' H' s'∧W n σ' H') ?_ m0 ⟨σ,H,I,w0⟩)
 rintro n s1 ⟨σ1,H1,I1,w1⟩
 refine wpAny_passesOwn hp (thn (hc pins s1 σ1 H1 _ I1 (turn n σ1 H1 w1)) fun b s2 ⟨H2,I2,q2⟩=>?_)
 cases b with
 | true =>
  obtain ⟨N,hN,q2⟩:=q2
  rw [if_pos rfl]
  refine wpAny_passesOwn hp (thn (hb pins s2 σ1 H2 _ I2 q2) fun f s3 q3=>?_)
  cases f with
  | next =>
   obtain ⟨σ3,H3,I3,n3⟩:=q3
   obtain ⟨m',hm,w3⟩:=hN σ3 H3 n3
   exact ⟨m',hm,σ3,H3,I3,w3⟩
  | cont =>
   obtain ⟨σ3,H3,I3,n3⟩:=q3
   obtain ⟨m',hm,w3⟩:=hN σ3 H3 n3
   exact ⟨m',hm,σ3,H3,I3,w3⟩
  | brk=>exact q3
  | ret v=>exact q3
 | false =>
  rw [if_neg Bool.false_ne_true]
  exact wpAny_execs_nil ⟨σ1,H2,I2,q2⟩
end
structure It where
 go:Nat→Hp→Prop
 yld:Nat→Hp→V→Hp→Prop
 stop:Nat→Hp→Prop
def dW (X:Cx) (pins:List (Addr×Obj)) (H:Hp) (b:Addr):Prop :=
 H b=none∧b≠X.env.locals∧b∉X.fs∧(b∈X.ex∨X.s₀.heap.objs.size≤b)∧(∀x c,X.env.cells.lookup x=some c→c≠b)∧∀p∈X.pn ++ pins,p.1≠b
theorem Inv.fpOk {X:Cx} {pins:List (Addr×Obj)} {σ:St} {H H':Hp} {s:Shared} {b:Addr} (I:Inv X pins σ H s) (hb:s.heap.objs.size≤b) (hn:H' b=none):dW X pins H' b:=by
 refine ⟨hn,Nat.ne_of_gt (Nat.lt_of_lt_of_le I.lt hb),I.nofs hb,.inr (Nat.le_trans I.sz hb),fun x c e z=>?_,fun p hp z=>?_⟩
 ·obtain ⟨v,q⟩:=I.cell x c e
  exact absurd (Nat.lt_of_lt_of_le q.lt (by rw [z]; exact hb)) (Nat.lt_irrefl _)
 ·exact absurd (Nat.lt_of_lt_of_le (Heap.lt_size (I.pin p hp).1) (by rw [z]; exact hb)) (Nat.lt_irrefl _)
structure Turn (P:Program) (w:World) (K:PySem.W.Frag) (tg:Expr) (J:It) (fp:List Addr) (it:Addr) (tn:Nat→Heap→Prop):Prop where
 mem:it∈fp
 obj:∀i h,tn i h→∀b∈fp,∃o,h.get? b=some o∧∀v,o.data≠.cell v
 keep:∀i h h',tn i h→(∀b∈fp,∀o,h.get? b=some o→h'.get? b=some o)→tn i h'
 item:∀ (X:Cx),X.prog=P→X.w=w→X.K=K→X.calm=true→∀ (i:Nat) (pins:List (Addr×Obj)) (s:Shared) (σ:St) (H:Hp) (E:Value→Shared→Prop),Inv X pins σ H s→(∀b∈fp,dW X pins H b)→tn i s.heap→J.go i H →
  wpAny (model P w) X.A (pyNext (.ref it)) (fun r s1=>∃u,r=some u ∧
   wpAny (model P w) X.A (letOwnedTupleGo tg (.ref it) u) (fun _ s2=>∃x H',Inv X pins σ H' s2∧RelV x u∧J.yld i H x H'∧tn (i + 1) s2.heap∧∀b∈fp,H' b=none) E s1) E s
 done:∀ (X:Cx),X.prog=P→X.w=w→X.K=K→X.calm=true→∀ (i:Nat) (pins:List (Addr×Obj)) (s:Shared) (σ:St) (H:Hp) (E:Value→Shared→Prop),Inv X pins σ H s→(∀b∈fp,dW X pins H b)→tn i s.heap→J.stop i H →
  wpAny (model P w) X.A (pyNext (.ref it)) (fun r s1=>r=none∧Inv X pins σ H s1) E s
 self:∀ (A:Around) (i:Nat) (s:Shared) (Q:Value→Shared→Prop) (E:Value→Shared→Prop),tn i s.heap→Q (.ref it) s→wpAny (model P w) A (pyIter (.ref it)) Q E s
abbrev TI:=St→Hp→(It→Hp→Prop)→Prop
def PIE (X:Cx) (pins:List (Addr×Obj)) (σ:St) (tg:Expr) (R:It→Hp→Prop) (itv:Value) (s2:Shared):Prop :=
 ∃ (it:Addr) (fp:List Addr) (tn:Nat→Heap→Prop) (J:It) (H':Hp),itv=.ref it∧Inv X pins σ H' s2∧Turn X.prog X.w X.K tg J fp it tn∧tn 0 s2.heap∧(∀b∈fp,dW X pins H' b)∧R J H'
def PI (X:Cx) (tg iter:Expr) (wi:TI):Prop :=
 ∀ (pins:List (Addr×Obj)) (s:Shared) (σ:St) (H:Hp) (R:It→Hp→Prop),Inv X pins σ H s→wi σ H R →
  wpAny (model X.prog X.w) X.A (eval iter X.env) (fun v s1=>wpAny (model X.prog X.w) X.A (pyIter v) (PIE X pins σ tg R) X.xe s1) X.xe s
theorem pi {M:Model} {A:Around} {E:Value→Shared→Prop} {s:Shared} {tg:Expr} {it:Addr} {u:Value} {o:Obj} {n:String} {vs:Array Value} {Q:Unit→Shared→Prop} (ho:s.heap.get? it=some o) (hc:o.cls=.type n) (hd:o.data=.fields vs)
    (hn:["enumerate","zip","dict_itemiterator","dict_reverseitemiterator","odict_iterator","itertools.zip_longest","itertools.pairwise"].contains n=false) (hQ:Q () s):wpAny M A (letOwnedTupleGo tg (.ref it) u) Q E s:=by
  unfold letOwnedTupleGo
  cases tg <;> first
    | exact wpAny_pure hQ
    | (cases u <;> first
        | exact wpAny_pure hQ
        | (refine wpAny_bind (wpAny_load ho ?_)
           rw [hc,hd]
           show wpAny M A (if (["enumerate","zip","dict_itemiterator","dict_reverseitemiterator","odict_iterator","itertools.zip_longest","itertools.pairwise"].contains n && vs[0]? == some (rawInt _))=true then _ else _) Q E s
           rw [if_neg (by intro h; rw [hn,Bool.false_and] at h; cases h)]
           exact wpAny_pure hQ))
def Itl (K:PySem.W.Frag) (a:Addr):It :=
 ⟨fun i H=>∃xs x,SqL K H a xs∧xs[i]? = some x,fun i H x H'=>H'=H∧∀xs,SqL K H a xs→xs[i]? = some x,fun i H=>∃xs,SqL K H a xs∧xs.length≤i⟩
def Itt (K:PySem.W.Frag) (a:Addr):It :=
 ⟨fun i H=>∃xs x,SqT K H a xs∧xs[i]? = some x,fun i H x H'=>H'=H∧∀xs,SqT K H a xs→xs[i]? = some x,fun i H=>∃xs,SqT K H a xs∧xs.length≤i⟩
def Itr (lo:Int) (n:Nat):It:=⟨fun i _=>i < n,fun i H x H'=>H'=H∧x=.int (lo + i),fun i _=>n≤i⟩
theorem nj {P:Program} {w:World} {K:PySem.W.Frag} {tg:Expr} (a it:Addr):Turn P w K tg (Itl K a) [it] it (fun i h=>h.IsListIter it a i) where
 mem:=by simp
 obj:=fun i h st b hb=>by
  have e:b=it:=by simpa using hb
  subst e
  obtain ⟨o,e,c,d⟩:=st
  exact ⟨o,e,fun v z=>by rw [d] at z; cases z⟩
 keep:=fun i h h' st k=>st.at fun o e=>k it (by simp) o e
 item:=by
  intro X hP hw hK hc i pins s σ H E I hf st hg
  subst hP hw hK
  obtain ⟨xs,x,hq,hx⟩:=hg
  obtain ⟨its,rv,p,hz⟩:=I.list hq
  obtain ⟨u,hu,ru⟩:=rv.get hx
  obtain ⟨f0,f1,f2,f3,f4,f5⟩:=hf it (by simp)
  refine wpAny_pyNext_list_item st p.isList (x:=u) (by simpa using hu) fun h' st' sb=>?_
  have I1:Inv X pins σ H { s with heap:=h' }:=I.turned (t':=s.toks) (fun b o hb e=>(sb.2 b hb).trans e) f0 f1 f3 f4 f5
  obtain ⟨o,e,c,d⟩:=id st'
  exact ⟨u,rfl,pi (s:={ s with heap:=h' }) e c d (by decide) ⟨x,H,I1,ru,⟨rfl,fun ys hy=>by rw [I.list_inj hy hq]; exact hx⟩,st',fun b hb=>(hf b hb).1⟩⟩
 done:=by
  intro X hP hw hK hc i pins s σ H E I hf st hg
  subst hP hw hK
  obtain ⟨xs,hq,hx⟩:=hg
  obtain ⟨its,rv,p,hz⟩:=I.list hq
  obtain ⟨f0,f1,f2,f3,f4,f5⟩:=hf it (by simp)
  have hl:=rv.length
  exact wpAny_pyNext_list_end (I.ok.hd hc) st p.isList (by simp; omega) fun h' eb=>⟨rfl,I.turned (t':=s.toks) (fun b o hb e=>eb b o hb e) f0 f1 f3 f4 f5⟩
 self:=fun _ _ _ _ _ st h=>wpAny_pyIter_listiter st h
theorem jV {P:Program} {w:World} {K:PySem.W.Frag} {tg:Expr} (a it:Addr):Turn P w K tg (Itt K a) [it] it (fun i h=>h.IsTupleIter it a i) where
 mem:=by simp
 obj:=fun i h st b hb=>by
  have e:b=it:=by simpa using hb
  subst e
  obtain ⟨o,e,c,d⟩:=st
  exact ⟨o,e,fun v z=>by rw [d] at z; cases z⟩
 keep:=fun i h h' st k=>st.at fun o e=>k it (by simp) o e
 item:=by
  intro X hP hw hK hc i pins s σ H E I hf st hg
  subst hP hw hK
  obtain ⟨xs,x,hq,hx⟩:=hg
  obtain ⟨its,rv,p,hz⟩:=I.tuple hq
  obtain ⟨u,hu,ru⟩:=rv.get hx
  obtain ⟨f0,f1,f2,f3,f4,f5⟩:=hf it (by simp)
  refine wpAny_pyNext_tuple_item st (show s.heap.IsTuple a its.toArray from p) (x:=u) (by simpa using hu) fun h' st' sb=>?_
  have I1:Inv X pins σ H { s with heap:=h' }:=I.turned (t':=s.toks) (fun b o hb e=>(sb.2 b hb).trans e) f0 f1 f3 f4 f5
  obtain ⟨o,e,c,d⟩:=id st'
  exact ⟨u,rfl,pi (s:={ s with heap:=h' }) e c d (by decide) ⟨x,H,I1,ru,⟨rfl,fun ys hy=>by rw [I.tuple_inj hy hq]; exact hx⟩,st',fun b hb=>(hf b hb).1⟩⟩
 done:=by
  intro X hP hw hK hc i pins s σ H E I hf st hg
  subst hP hw hK
  obtain ⟨xs,hq,hx⟩:=hg
  obtain ⟨its,rv,p,hz⟩:=I.tuple hq
  obtain ⟨f0,f1,f2,f3,f4,f5⟩:=hf it (by simp)
  have hl:=rv.length
  exact wpAny_pyNext_tuple_end (I.ok.hd hc) st (show s.heap.IsTuple a its.toArray from p) (by simp; omega) fun h' eb=>⟨rfl,I.turned (t':=s.toks) (fun b o hb e=>eb b o hb e) f0 f1 f3 f4 f5⟩
 self:=fun _ _ _ _ _ st h=>wpAny_pyIter_tupleiter st h
theorem gq {P:Program} {w:World} {K:PySem.W.Frag} {tg:Expr} (it:Addr) (lo:Int) (n:Nat):Turn P w K tg (Itr lo n) [it] it (fun i h=>IsRangeIter h it (lo + (i:Nat) * 1) ((n:Int) - (i:Nat)) 1) where
 mem:=by simp
 obj:=fun i h st b hb=>by
  have e:b=it:=by simpa using hb
  subst e
  exact ⟨_,st,fun v z=>by
   have z':Data.fields _=Data.cell v:=z
   cases z'⟩
 keep:=fun i h h' st k=>k it (by simp) _ st
 item:=by
  intro X hP hw hK hc i pins s σ H E I hf st hg
  subst hP hw hK
  obtain ⟨f0,f1,f2,f3,f4,f5⟩:=hf it (by simp)
  have W:=Walks.range (prog:=X.prog) (w:=X.w) (I.ok.hd hc) it lo 1 n
  refine W.item i s _ _ hg st fun v h' tk hv st' kk=>?_
  obtain ⟨t,rfl⟩:=hv
  have I1:Inv X pins σ H { s with heap:=h',toks:=tk }:=I.turned (fun b o hb e=>kk b o (by simpa using hb) e) f0 f1 f3 f4 f5
  refine ⟨_, rfl, pi (s:={ s with heap:=h', toks:=tk }) (n := "range_iterator") st' rfl rfl (by decide) ⟨.int (lo + i), H, I1, ⟨t, ?_⟩, ⟨rfl, rfl⟩, st', fun b hb=>(hf b hb).1⟩⟩
  rw [Int.mul_one]
 done:=by
  intro X hP hw hK hc i pins s σ H E I hf st hg
  subst hP hw hK
  obtain ⟨f0,f1,f2,f3,f4,f5⟩:=hf it (by simp)
  exact wpAny_pyNext_range_end (I.ok.hd hc) st (by have:n≤i:=hg; omega) fun h' eb=>⟨rfl,I.turned (t':=s.toks) (fun b o hb e=>eb b o hb e) f0 f1 f3 f4 f5⟩
 self:=fun _ _ _ _ _ st h=>wpAny_pyIter_rangeiter st h
end L2
namespace L2
open PySem PySem.Spec PyProof.Rows
section
variable {X:Cx} {tg:Expr}
def tS (K:PySem.W.Frag) (tl:TE):TI:=fun σ H R=>tl σ H fun x H1=>∃a,x=.ref a∧(∃xs,SqL K H1 a xs)∧R (Itl K a) H1
def zb (K:PySem.W.Frag) (tl:TE):TI:=fun σ H R=>tl σ H fun x H1=>∃a,x=.ref a∧(∃xs,SqT K H1 a xs)∧R (Itt K a) H1
theorem cj {l:Expr} {tl:TE} (hl:PE X l tl):PI X tg l (tS X.K tl):=by
 intro pins s σ H R I h
 refine thn (hl pins s σ H _ I h) fun v s1 ⟨x,H1,I1,r1,q1⟩=>?_
 obtain ⟨a,e,⟨xs,hq⟩,q⟩:=q1
 subst e
 cases r1
 obtain ⟨its,rv,p,hz⟩:=I1.list hq
 refine wpAny_pyIter_list p.isList ?_
 refine ⟨s1.heap.objs.size,[s1.heap.objs.size],_,_,H1,rfl,I1.kept (t':=s1.toks) fun b o e=>Heap.get?_push_of_some _ e,nj a _,⟨_,Heap.get?_push_size _ rfl,rfl,rfl⟩,fun b hb=>?_,q⟩
 have e:b=s1.heap.objs.size:=by simpa using hb
 subst e
 exact I1.fpOk (Nat.le_refl _) (I1.hok.fresh (Nat.le_refl _))
theorem jW {l:Expr} {tl:TE} (hl:PE X l tl):PI X tg l (zb X.K tl):=by
 intro pins s σ H R I h
 refine thn (hl pins s σ H _ I h) fun v s1 ⟨x,H1,I1,r1,q1⟩=>?_
 obtain ⟨a,e,⟨xs,hq⟩,q⟩:=q1
 subst e
 cases r1
 obtain ⟨its,rv,p,hz⟩:=I1.tuple hq
 refine wpAny_pyIter_tuple (show s1.heap.IsTuple a its.toArray from p) ?_
 refine ⟨s1.heap.objs.size,[s1.heap.objs.size],_,_,H1,rfl,I1.kept (t':=s1.toks) fun b o e=>Heap.get?_push_of_some _ e,jV a _,⟨_,Heap.get?_push_size _ rfl,rfl,rfl⟩,fun b hb=>?_,q⟩
 have e:b=s1.heap.objs.size:=by simpa using hb
 subst e
 exact I1.fpOk (Nat.le_refl _) (I1.hok.fresh (Nat.le_refl _))
theorem gs {pins:List (Addr×Obj)} {σ:St} {H:Hp} {s:Shared} {R:It→Hp→Prop} {E:Value→Shared→Prop} {lo hi:Int} {t u v:Tok} {tk:Nat} (I:Inv X pins σ H s) (h1:-(2 ^ 62)≤lo) (h2:lo < 2 ^ 62) (h3:-(2 ^ 62)≤hi) (h4:hi < 2 ^ 62)
  (q:R (Itr lo (hi - lo).toNat) H):wpAny (model X.prog X.w) X.A (pyIter (.ref s.heap.objs.size)) (PIE X pins σ tg R) E { s with heap:=s.heap.push { cls:=.type "range",data:=.fields #[.int lo t,.int hi u,.int 1 v] },toks:=tk }:=by
 refine wpAny_pyIter_range (IsRange.new ..) (small_one h1 h2 h3 h4) ?_
 have I1:Inv X pins σ H { s with heap:=s.heap.push { cls:=.type "range",data:=.fields #[.int lo t,.int hi u,.int 1 v] },toks:=tk }:=I.kept fun b o e=>Heap.get?_push_of_some _ e
 refine ⟨(s.heap.push { cls:=.type "range",data:=.fields #[.int lo t,.int hi u,.int 1 v] }).objs.size,[(s.heap.push { cls:=.type "range",data:=.fields #[.int lo t,.int hi u,.int 1 v] }).objs.size],_,_,H,rfl,
  I1.kept (t':=tk) fun b o e=>Heap.get?_push_of_some _ e,gq _ lo (hi - lo).toNat,?_,fun b hb=>?_,q⟩
 ·have e1:lo + ((0:Nat):Int) * 1=lo:=by simp
  have e2:(((hi - lo).toNat:Nat):Int) - ((0:Nat):Int)=Builtin.Range.rangeSize lo hi 1:=by rw [rangeSize_one]; split <;> omega
  show IsRangeIter _ _ (lo + ((0:Nat):Int) * 1) ((((hi - lo).toNat:Nat):Int) - ((0:Nat):Int)) 1
  rw [e1,e2]
  exact Heap.get?_push_size _ rfl
 ·have e:b=(s.heap.push { cls:=.type "range",data:=.fields #[.int lo t,.int hi u,.int 1 v] }).objs.size:=by simpa using hb
  subst e
  exact I1.fpOk (Nat.le_refl _) (I1.hok.fresh (Nat.le_refl _))
def zc (ta:TA):TI:=fun σ H R=>ta σ H fun vs H1=>∃j:Int,vs=[.int j]∧-(2 ^ 62)≤j∧j < 2 ^ 62∧R (Itr 0 j.toNat) H1
def zd (ta:TA):TI:=fun σ H R=>ta σ H fun vs H1=>∃i j:Int,vs=[.int i,.int j]∧(-(2 ^ 62)≤i∧i < 2 ^ 62∧-(2 ^ 62)≤j∧j < 2 ^ 62)∧R (Itr i (j - i).toNat) H1
theorem fu {a:Expr} {ta:TA} {p pos:Pos} (hg:Gl X "range") (hm:X.mg "range" = none) (ha:PA X [a] ta) (hs:starEach [a] X.env=[(false,eval a X.env)]:=by rfl):PI X tg (.Call (.Name "range" p) [a] [] pos) (zc ta):=by
 intro pins s σ H R I h
 refine Call_ (eh I hg hm boot_range (PyProof.Rows.callWith_type1 (thn (ha pos pins s σ H _ I h) fun us s1 ⟨vs,H1,I1,r1,q1⟩=>?_) hs rfl))
 obtain ⟨j,e,q1,q2,q⟩:=q1
 subst e
 cases r1 with
 | cons r rr =>
  cases rr
  obtain ⟨t,rfl⟩:=r
  exact call_range_1 (gs I1 (by omega) (by omega) q1 q2 (by simpa using q))
theorem ia {a b:Expr} {ta:TA} {p pos:Pos} (hg:Gl X "range") (hm:X.mg "range" = none) (ha:PA X [a,b] ta) (hs:starEach [a,b] X.env=[(false,eval a X.env),(false,eval b X.env)]:=by rfl) (hs2:starEach [b] X.env=[(false,eval b X.env)]:=by rfl) :
  PI X tg (.Call (.Name "range" p) [a,b] [] pos) (zd ta):=by
 intro pins s σ H R I h
 refine Call_ (eh I hg hm boot_range (PyProof.Rows.callWith_type1 (thn (ha pos pins s σ H _ I h) fun us s1 ⟨vs,H1,I1,r1,q1⟩=>?_) (by rw [hs,hs2]) (by rw [hs2]; rfl)))
 obtain ⟨i,j,e,⟨q1,q2,q3,q4⟩,q⟩:=q1
 subst e
 cases r1 with
 | cons r rr =>
  cases rr with
  | cons r' rr =>
   cases rr
   obtain ⟨t,rfl⟩:=r
   obtain ⟨t',rfl⟩:=r'
   exact call_range_2 (gs I1 q1 q2 q3 q4 q)
def ze (wi:TI) (g:TG) (tb:TS):TS:=fun D σ H=>wi σ H fun J H1=>∃W:Nat→Nat→St→Hp→Prop,(∃m,W 0 m σ H1)∧∀i m σ H,W i m σ H →
 (J.stop i H∧D.nx σ H)∨(J.go i H∧∃N:St→Hp→Prop,(∀σ' H',N σ' H'→∃m',m' < m∧W (i + 1) m' σ' H')∧∀x H',J.yld i H x H'→g x σ H' fun σ2 H2=>tb { D with nx:=N,ct:=N,bk:=D.nx } σ2 H2)
def gt (fp:List Addr) (h:Heap):List (Addr×Obj):=fp.filterMap fun b=>(h.get? b).map fun o=>(b,o)
theorem aR {fp:List Addr} {h:Heap} {b:Addr} {o:Obj} (hb:b∈fp) (e:h.get? b=some o):(b,o)∈gt fp h:=List.mem_filterMap.mpr ⟨b,hb,by rw [e]; rfl⟩
theorem ib {fp:List Addr} {h:Heap} {p:Addr×Obj} (hp:p∈gt fp h):p.1∈fp∧h.get? p.1=some p.2:=by
 obtain ⟨b,hb,e⟩:=List.mem_filterMap.mp hp
 cases q:h.get? b with
 | none=>rw [q] at e; cases e
 | some o =>
  rw [q] at e
  have e':(b,o)=p:=Option.some.inj e
  subst e'
  exact ⟨hb,q⟩
theorem Inv.pinned {pins:List (Addr×Obj)} {σ:St} {H:Hp} {s:Shared} {fp:List Addr} (I:Inv X pins σ H s) (hf:∀b∈fp,dW X pins H b) (ho:∀b∈fp,∃o,s.heap.get? b=some o∧∀v,o.data≠.cell v):Inv X (pins ++ gt fp s.heap) σ H s :=
 I.pins_of fun p hp=>(List.mem_append.mp hp).elim (fun z=>I.pin p (List.mem_append_right _ z)) fun z=>by
  obtain ⟨hb,e⟩:=ib z
  obtain ⟨f0,f1,f2,_⟩:=hf p.1 hb
  obtain ⟨o,e',d⟩:=ho p.1 hb
  rw [e] at e'; cases e'
  exact ⟨e,f0,f1,f2,d⟩
theorem Inv.unpinned {pins pl:List (Addr×Obj)} {σ:St} {H:Hp} {s:Shared} (I:Inv X (pins ++ pl) σ H s):Inv X pins σ H s:=I.pins_of fun p hp=>I.pin p (List.mem_append_right _ (List.mem_append_left _ hp))
theorem ce {iter:Expr} {body:List Stmt} {wi:TI} {g:TG} {tb:TS} {pos:Pos} (hp:PassesOwn (model X.prog X.w) X.A X.env X.xe) (hc:X.calm=true) (hi:PI X tg iter wi) (hg:PG X tg g) (hb:PSs X body tb)
  (hs:∀x,foldedSetIterable iter X.env x=pure x:=by intro _; rfl):PS X (.For tg iter body [] pos) (ze wi g tb):=by
 intro pins s σ H D I h
 refine wpAny_For (thn (hi pins s σ H _ I h) fun v s1 h1=>thn h1 fun itv s2 h2=>?_) hs
 obtain ⟨it,fp,tn,J,H2,e,I2,T,st2,f2,W,⟨m0,w0⟩,turn⟩:=h2
 subst e
 have stat:∀ {H':Hp},(∀b∈fp,H' b=none)→∀b∈fp,dW X pins H' b:=fun hn b hb=>⟨hn b hb,(f2 b hb).2⟩
 refine codeAny_forLoop_any (fun n s'=>∃i σ' H',Inv X pins σ' H' s'∧tn i s'.heap∧(∀b∈fp,H' b=none)∧W i n σ' H') ?_ m0 ⟨0,σ,H2,I2,st2,fun b hb=>(f2 b hb).1,w0⟩
 rintro n s3 ⟨i,σ3,H3,I3,st3,fr3,w3⟩
 rcases turn i n σ3 H3 w3 with ⟨stop,qn⟩ | ⟨go,N,hN,step⟩
 ·refine wpAny_passesOwn hp (thn (T.done X rfl rfl rfl hc i pins s3 σ3 H3 X.xe I3 (stat fr3) st3 stop) fun r s4 ⟨hr,I4⟩=>?_)
  subst hr
  exact wpAny_execs_nil ⟨σ3,H3,I4,qn⟩
 ·refine wpAny_passesOwn hp (thn (T.item X rfl rfl rfl hc i pins s3 σ3 H3 X.xe I3 (stat fr3) st3 go) fun r s4 ⟨u,hr,h4⟩=>?_)
  subst hr
  refine wpAny_passesOwn hp (thn h4 fun _ s5 ⟨x,H5,I5,r5,y5,st5,fr5⟩=>?_)
  have I5':=I5.pinned (stat fr5) (T.obj _ _ st5)
  refine wpAny_passesOwn hp (thn (hg _ s5 σ3 H5 x u _ I5' r5 (step x H5 y5)) fun _ s6 ⟨σ6,H6,I6,q6⟩=>?_)
  refine wpAny_passesOwn hp (thn (hb _ s6 σ6 H6 _ I6 q6) fun f s7 q7=>?_)
  have again:∀ {σ7:St} {H7:Hp},Inv X (pins ++ gt fp s5.heap) σ7 H7 s7→N σ7 H7→∃m,m < n∧∃i σ' H',Inv X pins σ' H' s7∧tn i s7.heap∧(∀b∈fp,H' b=none)∧W i m σ' H':=fun {σ7 H7} I7 n7=>by
   obtain ⟨m',hm,w7⟩:=hN σ7 H7 n7
   refine ⟨m',hm,i + 1,σ7,H7,I7.unpinned,T.keep _ _ _ st5 fun b hb o e=>(I7.pin (b,o) (List.mem_append_right _ (List.mem_append_right _ (aR hb e)))).1,fun b hb=>?_,w7⟩
   obtain ⟨o,e,d⟩:=T.obj _ _ st5 b hb
   exact (I7.pin (b,o) (List.mem_append_right _ (List.mem_append_right _ (aR hb e)))).2.1
  cases f with
  | next=>obtain ⟨σ7,H7,I7,n7⟩:=q7; exact again I7 n7
  | cont=>obtain ⟨σ7,H7,I7,n7⟩:=q7; exact again I7 n7
  | brk=>obtain ⟨σ7,H7,I7,q7⟩:=q7; exact ⟨σ7,H7,I7.unpinned,q7⟩
  | ret v=>obtain ⟨x7,σ7,H7,I7,r7,q7⟩:=q7; exact ⟨x7,σ7,H7,I7.unpinned,r7,q7⟩
end
theorem ck {K:PySem.W.Frag} {a:Addr} {xs:List V} {g:TG} {tb:TS} {D:Ends} {σ:St} {H:Hp} (Pv:Nat→St→Hp→Prop) (h0:Pv 0 σ H) (hl:∀i σ H,i≤xs.length→Pv i σ H→SqL K H a xs)
  (hs:∀i x σ H,xs[i]? = some x→Pv i σ H→g x σ H fun σ2 H2=>tb { D with nx:=Pv (i + 1),ct:=Pv (i + 1),bk:=D.nx } σ2 H2) (hd:∀σ H,Pv xs.length σ H→D.nx σ H) :
  ∃W:Nat→Nat→St→Hp→Prop,(∃m,W 0 m σ H)∧∀i m σ H,W i m σ H →
   ((Itl K a).stop i H∧D.nx σ H)∨((Itl K a).go i H∧∃N:St→Hp→Prop,(∀σ' H',N σ' H'→∃m',m' < m∧W (i + 1) m' σ' H')∧∀x H',(Itl K a).yld i H x H'→g x σ H' fun σ2 H2=>tb { D with nx:=N,ct:=N,bk:=D.nx } σ2 H2):=by
 refine ⟨fun i m σ H=>m=xs.length - i∧i≤xs.length∧Pv i σ H,⟨xs.length,by simp,Nat.zero_le _,h0⟩,?_⟩
 rintro i m σ H ⟨rfl,hi,p⟩
 have q:=hl i σ H hi p
 by_cases hlt:i < xs.length
 ·refine .inr ⟨⟨xs,xs[i],q,by simp [hlt]⟩,Pv (i + 1),fun σ' H' p'=>⟨xs.length - (i + 1),by omega,rfl,hlt,p'⟩,fun x H' y=>?_⟩
  obtain ⟨e,y⟩:=y
  subst e
  exact hs i x σ _ (y xs q) p
 ·have e:i=xs.length:=by omega
  subst e
  exact .inl ⟨⟨xs,q,Nat.le_refl _⟩,hd σ H p⟩
theorem iE {K:PySem.W.Frag} {a:Addr} {xs:List V} {g:TG} {tb:TS} {D:Ends} {σ:St} {H:Hp} (Pv:Nat→St→Hp→Prop) (h0:Pv 0 σ H) (hl:∀i σ H,i≤xs.length→Pv i σ H→SqT K H a xs)
  (hs:∀i x σ H,xs[i]? = some x→Pv i σ H→g x σ H fun σ2 H2=>tb { D with nx:=Pv (i + 1),ct:=Pv (i + 1),bk:=D.nx } σ2 H2) (hd:∀σ H,Pv xs.length σ H→D.nx σ H) :
  ∃W:Nat→Nat→St→Hp→Prop,(∃m,W 0 m σ H)∧∀i m σ H,W i m σ H →
   ((Itt K a).stop i H∧D.nx σ H)∨((Itt K a).go i H∧∃N:St→Hp→Prop,(∀σ' H',N σ' H'→∃m',m' < m∧W (i + 1) m' σ' H')∧∀x H',(Itt K a).yld i H x H'→g x σ H' fun σ2 H2=>tb { D with nx:=N,ct:=N,bk:=D.nx } σ2 H2):=by
 refine ⟨fun i m σ H=>m=xs.length - i∧i≤xs.length∧Pv i σ H,⟨xs.length,by simp,Nat.zero_le _,h0⟩,?_⟩
 rintro i m σ H ⟨rfl,hi,p⟩
 have q:=hl i σ H hi p
 by_cases hlt:i < xs.length
 ·refine .inr ⟨⟨xs,xs[i],q,by simp [hlt]⟩,Pv (i + 1),fun σ' H' p'=>⟨xs.length - (i + 1),by omega,rfl,hlt,p'⟩,fun x H' y=>?_⟩
  obtain ⟨e,y⟩:=y
  subst e
  exact hs i x σ _ (y xs q) p
 ·have e:i=xs.length:=by omega
  subst e
  exact .inl ⟨⟨xs,q,Nat.le_refl _⟩,hd σ H p⟩
theorem ic {lo:Int} {n:Nat} {g:TG} {tb:TS} {D:Ends} {σ:St} {H:Hp} (Pv:Nat→St→Hp→Prop) (h0:Pv 0 σ H)
  (hs:∀i σ H,i < n→Pv i σ H→g (.int (lo + i)) σ H fun σ2 H2=>tb { D with nx:=Pv (i + 1),ct:=Pv (i + 1),bk:=D.nx } σ2 H2) (hd:∀σ H,Pv n σ H→D.nx σ H) :
  ∃W:Nat→Nat→St→Hp→Prop,(∃m,W 0 m σ H)∧∀i m σ H,W i m σ H →
   ((Itr lo n).stop i H∧D.nx σ H)∨((Itr lo n).go i H∧∃N:St→Hp→Prop,(∀σ' H',N σ' H'→∃m',m' < m∧W (i + 1) m' σ' H')∧∀x H',(Itr lo n).yld i H x H'→g x σ H' fun σ2 H2=>tb { D with nx:=N,ct:=N,bk:=D.nx } σ2 H2):=by
 refine ⟨fun i m σ H=>m=n - i∧i≤n∧Pv i σ H,⟨n,by simp,Nat.zero_le _,h0⟩,?_⟩
 rintro i m σ H ⟨rfl,hi,p⟩
 by_cases hlt:i < n
 ·refine .inr ⟨hlt,Pv (i + 1),fun σ' H' p'=>⟨n - (i + 1),by omega,rfl,hlt,p'⟩,fun x H' y=>?_⟩
  obtain ⟨e,y⟩:=y
  subst e y
  exact hs i σ _ hlt p
 ·have e:i=n:=by omega
  subst e
  exact .inl ⟨Nat.le_refl _,hd σ H p⟩
end L2
namespace L2
open PySem PySem.Spec PyProof.Rows
abbrev R2:=V→V→Hp→VK→Prop
def OpR (X:Cx) (f:Value→Value→Sem Value) (r:R2):Prop :=
 ∀ (pins:List (Addr×Obj)) (s:Shared) (σ:St) (H:Hp) (x y:V) (v u:Value) (Q:VK),Inv X pins σ H s→RelV x v→RelV y u→r x y H Q →
  wpAny (model X.prog X.w) X.A (f v u) (EP X pins σ Q) X.xe s
def UnR (X:Cx) (f:Value→Sem Value) (r:V→Hp→VK→Prop):Prop :=
 ∀ (pins:List (Addr×Obj)) (s:Shared) (σ:St) (H:Hp) (x:V) (v:Value) (Q:VK),Inv X pins σ H s→RelV x v→r x H Q →
  wpAny (model X.prog X.w) X.A (f v) (EP X pins σ Q) X.xe s
def cP (X:Cx) (f:Value) (r:List V→Hp→VK→Prop):Prop :=
 ∀ (pins:List (Addr×Obj)) (s:Shared) (σ:St) (H:Hp) (xs:List V) (us:List Value) (Q:VK),Inv X pins σ H s→Vals xs us→r xs H Q →
  wpAny (model X.prog X.w) X.A (call f us) (EP X pins σ Q) X.xe s
def Eo (X:Cx) (r:V→Hp→(Bool→Hp→Prop)→Prop):Prop :=
 ∀ (pins:List (Addr×Obj)) (s:Shared) (σ:St) (H:Hp) (x:V) (v:Value) (Q:Bool→Hp→Prop),Inv X pins σ H s→RelV x v→r x H Q →
  wpAny (model X.prog X.w) X.A (truthy v) (TP X pins σ Q) X.xe s
def tOp (r:R2) (ta tb:TE):TE:=fun σ H Q=>ta σ H fun x H1=>tb σ H1 fun y H2=>r x y H2 Q
def tUn (r:V→Hp→VK→Prop) (ta:TE):TE:=fun σ H Q=>ta σ H fun x H1=>r x H1 Q
def rI (C:Int→Int→Prop) (g:Int→Int→V):R2:=fun x y H Q=>∃i j,x=.int i∧y=.int j∧C i j∧Q (g i j) H
def rI0 (g:Int→Int→V):R2:=fun x y H Q=>∃i j,x=.int i∧y=.int j∧Q (g i j) H
def rU (g:Int→V):V→Hp→VK→Prop:=fun x H Q=>∃i,x=.int i∧Q (g i) H
section
variable {X:Cx} {a b c:Expr} {ta tb tc:TE} {pos:Pos}
theorem ut (ha:PE X a ta) (hb:PE X b tb) {pins:List (Addr×Obj)} {s:Shared} {σ:St} {H:Hp} {R:V→V→Hp→Prop} (I:Inv X pins σ H s)
  (h:ta σ H fun x H1=>tb σ H1 fun y H2=>R x y H2) {Q:Value→Shared→Prop} {f:Value→Value→Sem Value}
  (hf:∀v u s2 x y H2,Inv X pins σ H2 s2→RelV x v→RelV y u→R x y H2→wpAny (model X.prog X.w) X.A (f v u) Q X.xe s2) :
  wpAny (model X.prog X.w) X.A (eval a X.env) (fun v s₁=>wpAny (model X.prog X.w) X.A (eval b X.env) (fun u s₂=>wpAny (model X.prog X.w) X.A (f v u) Q X.xe s₂) X.xe s₁) X.xe s:=by
 refine thn (ha pins s σ H _ I h) fun v s1 ⟨x,H1,I1,r1,q1⟩=>?_
 refine thn (hb pins s1 σ H1 _ I1 q1) fun u s2 ⟨y,H2,I2,r2,q2⟩=>?_
 exact hf v u s2 x y H2 I2 r1 r2 q2
theorem az {op:Operator} {r:R2} (ho:OpR X (binaryOp op) r) (ha:PE X a ta) (hb:PE X b tb):PE X (.BinOp a op b pos) (tOp r ta tb):=by
 intro pins s σ H Q I h
 exact wpAny_BinOp (ut ha hb I h fun v u s2 x y H2 I2 rx ry q=>ho pins s2 σ H2 x y v u Q I2 rx ry q)
theorem pj {op:UnaryOp} {r:V→Hp→VK→Prop} (ho:UnR X (unaryOp op) r) (ha:PE X a ta):PE X (.UnaryOp op a pos) (tUn r ta):=by
 intro pins s σ H Q I h
 exact UnaryOp_ (thn (ha pins s σ H _ I h) fun v s1 ⟨x,H1,I1,r1,q1⟩=>ho pins s1 σ H1 x v Q I1 r1 q1)
theorem opI {f:Value→Value→Sem Value} {C:Int→Int→Prop} {g:Int→Int→Int}
  (rule:∀ (i j:Int) (t u:Tok) (s:Shared) (Q:Value→Shared→Prop) (E:Value→Shared→Prop),C i j→Q (.int (g i j) s.toks) { s with toks:=s.toks + 1 }→wpAny (model X.prog X.w) X.A (f (.int i t) (.int j u)) Q E s) :
  OpR X f (rI C fun i j=>.int (g i j)):=by
 intro pins s σ H x y v u Q I rx ry h
 obtain ⟨i,j,rfl,rfl,hc,q⟩:=h
 obtain ⟨t,rfl⟩:=rx
 obtain ⟨t',rfl⟩:=ry
 exact rule i j t t' s _ _ hc ⟨.int (g i j),H,I.tok _,⟨_,rfl⟩,q⟩
theorem zf {f:Value→Value→Sem Value} {g:Int→Int→Int}
  (rule:∀ (i j:Int) (t u:Tok) (s:Shared) (Q:Value→Shared→Prop) (E:Value→Shared→Prop),Q (.int (g i j) s.toks) { s with toks:=s.toks + 1 }→wpAny (model X.prog X.w) X.A (f (.int i t) (.int j u)) Q E s) :
  OpR X f (rI0 fun i j=>.int (g i j)):=by
 intro pins s σ H x y v u Q I rx ry h
 obtain ⟨i,j,rfl,rfl,q⟩:=h
 obtain ⟨t,rfl⟩:=rx
 obtain ⟨t',rfl⟩:=ry
 exact rule i j t t' s _ _ ⟨.int (g i j),H,I.tok _,⟨_,rfl⟩,q⟩
theorem rF {f:Value→Value→Sem Value} {g:Int→Int→Bool}
  (rule:∀ (i j:Int) (t u:Tok) (s:Shared) (Q:Value→Shared→Prop) (E:Value→Shared→Prop),Q (.bool (g i j)) s→wpAny (model X.prog X.w) X.A (f (.int i t) (.int j u)) Q E s) :
  OpR X f (rI0 fun i j=>.bl (g i j)):=by
 intro pins s σ H x y v u Q I rx ry h
 obtain ⟨i,j,rfl,rfl,q⟩:=h
 obtain ⟨t,rfl⟩:=rx
 obtain ⟨t',rfl⟩:=ry
 exact rule i j t t' s _ _ ⟨.bl (g i j),H,I,rfl,q⟩
def Ep (i j:Int):Prop:=0≤j∧j≤1000000∧i.natAbs < 2 ^ 64
def CMul (i j:Int):Prop:=(-(2 ^ 64) < i∧i < 2 ^ 64)∨(-(2 ^ 64) < j∧j < 2 ^ 64)
theorem CMul.ok {i j:Int} (h:CMul i j):IntMulOk i j:=by
 rcases h with ⟨h1,h2⟩ | ⟨h1,h2⟩
 ·exact .of_left (intBits_le_64 h1 h2)
 ·exact .of_right (intBits_le_64 h1 h2)
theorem aW:OpR X (binaryOp .Add) (rI0 fun i j=>.int (i + j)):=zf fun _ _ _ _ _ _ _ q=>add_int q
theorem bQ:OpR X (binaryOp .Sub) (rI0 fun i j=>.int (i - j)):=zf fun _ _ _ _ _ _ _ q=>sub_int q
theorem jX:OpR X (binaryOp .Mult) (rI CMul fun i j=>.int (i * j)):=opI fun _ _ _ _ _ _ _ hc q=>mul_int q hc.ok
theorem fz:OpR X (binaryOp .Mod) (rI (fun _ j=>0 < j) fun i j=>.int (i % j)):=opI fun i j _ _ _ _ _ hc q=>by
 have h1:(0:Int) < j:=hc
 exact mod_int' (by omega) (by rw [Int.fmod_eq_emod_of_nonneg i (by omega)]; exact q)
theorem fA:OpR X (binaryOp .Pow) (rI Ep fun i j=>.int (i ^ j.toNat)):=opI fun _ _ _ _ _ _ _ hc q=>pow_int_small hc.1 hc.2.1 hc.2.2 q
theorem unI {f:Value→Sem Value} {g:Int→Int}
  (rule:∀ (i:Int) (t:Tok) (s:Shared) (Q:Value→Shared→Prop) (E:Value→Shared→Prop),Q (.int (g i) s.toks) { s with toks:=s.toks + 1 }→wpAny (model X.prog X.w) X.A (f (.int i t)) Q E s) :
  UnR X f (rU fun i=>.int (g i)):=by
 intro pins s σ H x v Q I rx h
 obtain ⟨i,rfl,q⟩:=h
 obtain ⟨t,rfl⟩:=rx
 exact rule i t s _ _ ⟨.int (g i),H,I.tok _,⟨_,rfl⟩,q⟩
theorem jY:UnR X (unaryOp .USub) (rU fun i=>.int (-i)):=unI fun _ _ _ _ _ q=>neg_int q
end
def zg:V→V→Bool
 | .non,.non=>true | .non,.int _=>true | .int _,.non=>true | .non,.bl _=>true | .bl _,.non=>true | .non,.str _=>true | .str _,.non=>true
 | .int _,.int _=>true | .bl _,.bl _=>true | .str _,.str _=>true | .byt _,.byt _=>true
 | .int _,.str _=>true | .str _,.int _=>true | .bl _,.str _=>true | .str _,.bl _=>true
 | _,_=>false
def rEq:R2:=fun x y H Q=>zg x y=true∧Q (.bl (decide (x=y))) H
def rNe:R2:=fun x y H Q=>zg x y=true∧Q (.bl (!decide (x=y))) H
theorem iF {i j:Int}:decide (V.int i=V.int j)=(i == j):=by
 rw [Bool.eq_iff_iff]
 simp
theorem pq {i j:Bool}:decide (V.bl i=V.bl j)=(i == j):=by
 rw [Bool.eq_iff_iff]
 simp
theorem mj {i j:Str}:decide (V.str i=V.str j)=(i == j):=by
 rw [Bool.eq_iff_iff]
 simp
theorem mq {i j:Array UInt8}:decide (V.byt i=V.byt j)=(i.toList == j.toList):=by
 rw [Bool.eq_iff_iff]
 cases i
 cases j
 simp
section
variable {X:Cx} {a b c:Expr} {ta tb tc:TE} {pos:Pos}
theorem aO {pins:List (Addr×Obj)} {σ:St} {H:Hp} {s:Shared} {Q:VK} {k k':Bool} (I:Inv X pins σ H s) (q:Q (.bl k) H) (e:k=k'):EP X pins σ Q (.bool k') s:=by
 subst e
 exact ⟨.bl k,H,I,rfl,q⟩
theorem dA:OpR X (compareOp .Eq) rEq:=by
 intro pins s σ H x y v u Q I rx ry h
 obtain ⟨hs,q⟩:=h
 cases x with
 | non =>
  cases rx
  cases y with
  | non=>cases ry; exact PySem.EqNone.eq_none_none (aO I q (by simp))
  | bl j=>cases ry; exact PySem.EqNone.eq_none_bool (aO I q (by simp))
  | int j=>obtain ⟨t',rfl⟩:=ry; exact PySem.EqNone.eq_none_int (aO I q (by simp))
  | str j=>obtain ⟨t',rfl⟩:=ry; exact PySem.EqNone.eq_none_str (aO I q (by simp))
  | _=>exact absurd (show false=true from hs) Bool.false_ne_true
 | bl i =>
  cases rx
  cases y with
  | non=>cases ry; exact PySem.EqNone.eq_bool_none (aO I q (by simp))
  | bl j=>cases ry; exact eq_bool (aO I q pq)
  | str j=>obtain ⟨t',rfl⟩:=ry; exact PySem.EqMixed.eq_bool_str (aO I q (by simp))
  | _=>exact absurd (show false=true from hs) Bool.false_ne_true
 | int i =>
  obtain ⟨t,rfl⟩:=rx
  cases y with
  | non=>cases ry; exact PySem.EqNone.eq_int_none (aO I q (by simp))
  | int j=>obtain ⟨t',rfl⟩:=ry; exact eq_int (aO I q iF)
  | str j=>obtain ⟨t',rfl⟩:=ry; exact PySem.EqMixed.eq_int_str (aO I q (by simp))
  | _=>exact absurd (show false=true from hs) Bool.false_ne_true
 | str i =>
  obtain ⟨t,rfl⟩:=rx
  cases y with
  | non=>cases ry; exact PySem.EqNone.eq_str_none (aO I q (by simp))
  | bl j=>cases ry; exact PySem.EqMixed.eq_str_bool (aO I q (by simp))
  | int j=>obtain ⟨t',rfl⟩:=ry; exact PySem.EqMixed.eq_str_int (aO I q (by simp))
  | str j=>obtain ⟨t',rfl⟩:=ry; exact eq_str (aO I q mj)
  | _=>exact absurd (show false=true from hs) Bool.false_ne_true
 | byt i =>
  obtain ⟨t,rfl⟩:=rx
  cases y with
  | byt j=>obtain ⟨t',rfl⟩:=ry; exact PySem.W.eq_bytes (aO I q mq)
  | _=>exact absurd (show false=true from hs) Bool.false_ne_true
 | _=>cases y <;> exact absurd (show false=true from hs) Bool.false_ne_true
theorem jn:OpR X (compareOp .NotEq) rNe:=by
 intro pins s σ H x y v u Q I rx ry h
 obtain ⟨hs,q⟩:=h
 cases x with
 | non =>
  cases rx
  cases y with
  | non=>cases ry; exact PySem.EqNone.ne_none_none (aO I q (by simp))
  | bl j=>cases ry; exact PySem.EqNone.ne_none_bool (aO I q (by simp))
  | int j=>obtain ⟨t',rfl⟩:=ry; exact PySem.EqNone.ne_none_int (aO I q (by simp))
  | str j=>obtain ⟨t',rfl⟩:=ry; exact PySem.EqNone.ne_none_str (aO I q (by simp))
  | _=>exact absurd (show false=true from hs) Bool.false_ne_true
 | bl i =>
  cases rx
  cases y with
  | non=>cases ry; exact PySem.EqNone.ne_bool_none (aO I q (by simp))
  | bl j=>cases ry; exact ne_bool (aO I q (congrArg not pq))
  | str j=>obtain ⟨t',rfl⟩:=ry; exact PySem.EqMixed.ne_bool_str (aO I q (by simp))
  | _=>exact absurd (show false=true from hs) Bool.false_ne_true
 | int i =>
  obtain ⟨t,rfl⟩:=rx
  cases y with
  | non=>cases ry; exact PySem.EqNone.ne_int_none (aO I q (by simp))
  | int j=>obtain ⟨t',rfl⟩:=ry; exact ne_int (aO I q (congrArg not iF))
  | str j=>obtain ⟨t',rfl⟩:=ry; exact PySem.EqMixed.ne_int_str (aO I q (by simp))
  | _=>exact absurd (show false=true from hs) Bool.false_ne_true
 | str i =>
  obtain ⟨t,rfl⟩:=rx
  cases y with
  | non=>cases ry; exact PySem.EqNone.ne_str_none (aO I q (by simp))
  | bl j=>cases ry; exact PySem.EqMixed.ne_str_bool (aO I q (by simp))
  | int j=>obtain ⟨t',rfl⟩:=ry; exact PySem.EqMixed.ne_str_int (aO I q (by simp))
  | str j=>obtain ⟨t',rfl⟩:=ry; exact ne_str (aO I q (congrArg not mj))
  | _=>exact absurd (show false=true from hs) Bool.false_ne_true
 | byt i =>
  obtain ⟨t,rfl⟩:=rx
  cases y with
  | byt j=>obtain ⟨t',rfl⟩:=ry; exact PySem.W.ne_bytes (aO I q (congrArg not mq))
  | _=>exact absurd (show false=true from hs) Bool.false_ne_true
 | _=>cases y <;> exact absurd (show false=true from hs) Bool.false_ne_true
theorem zh:OpR X (compareOp .Lt) (rI0 fun i j=>.bl (decide (i < j))):=rF fun _ _ _ _ _ _ _ q=>lt_int q
theorem ie:OpR X (compareOp .LtE) (rI0 fun i j=>.bl (decide (i≤j))):=rF fun _ _ _ _ _ _ _ q=>le_int q
theorem cQ:OpR X (compareOp .Gt) (rI0 fun i j=>.bl (decide (j < i))):=rF fun _ _ _ _ _ _ _ q=>gt_int q
theorem pC:OpR X (compareOp .GtE) (rI0 fun i j=>.bl (decide (j≤i))):=rF fun _ _ _ _ _ _ _ q=>ge_int q
theorem mr:OpR X (compareOp .IsNot) (fun x y H Q=>y=.non∧Q (.bl (!decide (x=.non))) H):=by
 intro pins s σ H x y v u Q I rx ry h
 obtain ⟨rfl,q⟩:=h
 cases ry
 refine isnot_none_gen (aO I q ?_)
 cases x <;> first
  | (cases rx; rfl)
  | (obtain ⟨t,rfl⟩:=rx; rfl)
theorem ay (b:Expr) {op:CmpOp} (h:op≠.In:=by decide) (h2:op≠.NotIn:=by decide):behindInMarks op b=false:=by
 have e1:(op == CmpOp.In)=false:=by cases op <;> first | rfl | exact absurd rfl h
 have e2:(op == CmpOp.NotIn)=false:=by cases op <;> first | rfl | exact absurd rfl h2
 cases b <;> simp [behindInMarks,e1,e2]
theorem bR {op:CmpOp} {r:R2} (ho:OpR X (compareOp op) r) (ha:PE X a ta) (hb:PE X b tb) (hm:behindInMarks op b=false):PE X (.Compare a [op] [b] pos) (tOp r ta tb):=by
 intro pins s σ H Q I h
 exact wpAny_Compare1 (ut ha hb I h fun v u s2 x y H2 I2 rx ry q=>ho pins s2 σ H2 x y v u Q I2 rx ry q) hm
def tU (t:TE):TT:=fun σ H Q=>t σ H fun x H'=>∃k,x=.bl k∧Q k H'
theorem ax {op:CmpOp} {r:R2} (ho:OpR X (compareOp op) r) (ha:PE X a ta) (hb:PE X b tb) (hm:behindInMarks op b=false):PT X (.Compare a [op] [b] pos) (tU (tOp r ta tb)):=by
 intro pins s σ H Q I h
 refine wpAny_isTrue_Compare1 (thn (ha pins s σ H _ I h) fun v s1 ⟨x,H1,I1,r1,q1⟩=>thn (hb pins s1 σ H1 _ I1 q1) fun u s2 ⟨y,H2,I2,r2,q2⟩ =>
  thn (ho pins s2 σ H2 x y v u _ I2 r1 r2 q2) fun c s3 ⟨z,H3,I3,r3,k,e,q3⟩=>?_) hm
 subst e
 cases r3
 exact wpAny_truthy_bool ⟨H3,I3,q3⟩
def uu (r r':R2) (ta tb tc:TE):TE:=fun σ H Q=>ta σ H fun x H1=>tb σ H1 fun y H2=>r x y H2 fun z H3=>∃k,z=.bl k ∧
 (if k=true then tc σ H3 fun w' H4=>r' y w' H4 Q else Q (.bl false) H3)
theorem pE {op op':CmpOp} {r r':R2} (ho:OpR X (compareOp op) r) (ho':OpR X (compareOp op') r') (ha:PE X a ta) (hb:PE X b tb) (hc:PE X c tc)
  (hm:lastMarks [op,op'] [b,c]=false:=by with_unfolding_all rfl):PT X (.Compare a [op,op'] [b,c] pos) (tU (uu r r' ta tb tc)):=by
 intro pins s σ H Q I h
 refine isTrue_chain (thn (ha pins s σ H _ I h) fun v s1 ⟨x,H1,I1,r1,q1⟩=>test_link (thn (hb pins s1 σ H1 _ I1 q1) fun u s2 ⟨y,H2,I2,r2,q2⟩ =>
  thn (ho pins s2 σ H2 x y v u _ I2 r1 r2 q2) fun d s3 ⟨z,H3,I3,r3,k,e,q3⟩=>?_)) hm
 subst e
 cases r3
 refine wpAny_truthy_bool ?_
 cases k with
 | false =>
  obtain ⟨k',e',q'⟩:=q3
  cases e'
  exact ite_ff ⟨H3,I3,q'⟩
 | true =>
  refine ite_tt (test_last (thn (hc pins s3 σ H3 _ I3 q3) fun w' s4 ⟨z',H4,I4,r4,q4⟩=>thn (ho' pins s4 σ H4 y z' u w' _ I4 r2 r4 q4) fun d' s5 ⟨z2,H5,I5,r5,k2,e2,q5⟩=>?_))
  subst e2
  cases r5
  exact wpAny_truthy_bool ⟨H5,I5,q5⟩
def zj (K:PySem.W.Frag) (x:V) (H:Hp) (k:Bool):Prop :=
 match x with
 | .non=>k=false
 | .bl b=>k=b
 | .int i=>k=(i != 0)
 | .str y=>y.length≤sizeLine∧k=((y.length:Int) != 0)
 | .byt y=>y.size≤sizeLine∧k=((y.size:Int) != 0)
 | .ref p=>(∃xs,SqL K H p xs∧k=!xs.isEmpty)∨(∃xs,SqT K H p xs∧k=!xs.isEmpty)∨∃kvs,H p=some (.dK kvs)∧k=!kvs.isEmpty
 | _=>False
theorem jZ {κ:Type} {kvs:List (κ×V)} {vs:List (κ×Value)} (r:KV kvs vs):(!vs.isEmpty)=!kvs.isEmpty:=by
 cases r <;> rfl
theorem gu {xs:List V} {its:List Value} (r:Vals xs its):(!its.toArray.isEmpty)=!xs.isEmpty:=by
 cases r <;> simp
theorem fB:(sizeLine:Nat) < 2 ^ 63:=by rw [sizeLine_eq]; decide
theorem uv:Eo X (fun x H Q=>∃k,zj X.K x H k∧Q k H):=by
 intro pins s σ H x v Q I rx h
 obtain ⟨k,e,q⟩:=h
 have hl:=fB
 have hs:sizeLine=16777216:=sizeLine_eq
 cases x with
 | non =>
  cases rx
  have e':k=false:=e
  subst e'
  exact truthy_none ⟨H,I,q⟩
 | bl b =>
  cases rx
  have e':k=b:=e
  subst e'
  exact wpAny_truthy_bool ⟨H,I,q⟩
 | int i =>
  obtain ⟨t,rfl⟩:=rx
  have e':k=(i != 0):=e
  subst e'
  exact PySem.P.truthy_int ⟨H,I,q⟩
 | str y =>
  obtain ⟨t,rfl⟩:=rx
  obtain ⟨hy,e'⟩:y.length≤sizeLine∧k=((y.length:Int) != 0):=e
  subst e'
  exact PySem.P.truthy_str (by omega) ⟨H,I.tok _,q⟩
 | byt y =>
  obtain ⟨t,rfl⟩:=rx
  obtain ⟨hy,e'⟩:y.size≤sizeLine∧k=((y.size:Int) != 0):=e
  subst e'
  exact PySem.W.truthy_bytes (by omega) ⟨H,I.tok _,q⟩
 | ref p =>
  cases rx
  have e':(∃xs,SqL X.K H p xs∧k=!xs.isEmpty)∨(∃xs,SqT X.K H p xs∧k=!xs.isEmpty)∨∃kvs,H p=some (.dK kvs)∧k=!kvs.isEmpty:=e
  rcases e' with ⟨xs,hx,e'⟩ | ⟨xs,hx,e'⟩ | ⟨kvs,hx,e'⟩
  ·subst e'
   obtain ⟨its,r,pl,hz⟩:=I.list hx
   have hlen:=r.length
   exact wpAny_truthy_list pl.isList (by simp only [List.size_toArray]; omega) ⟨H,I.tok _,by rw [gu r]; exact q⟩
  ·subst e'
   obtain ⟨its,r,pl,hz⟩:=I.tuple hx
   have hlen:=r.length
   exact truthy_tuple pl (by simp only [List.size_toArray]; omega) ⟨H,I.tok _,by rw [gu r]; exact q⟩
  ·subst e'
   obtain ⟨hz,hS,vs,r,m⟩:kvs.length≤sizeLine∧(p == sysModules)=false∧∃vs,KV kvs vs∧s.heap.DictOf (bH X.prog X.w) p vs:=I.hok p _ hx
   have hlen:kvs.length=vs.length:=Paired.length r
   exact wpAny_truthy_dict hS m (by omega) ⟨H,I.tok _,by rw [jZ r]; exact q⟩
 | _=>exact (show False from e).elim
theorem gv (ha:PE X a ta) (he:∀aE,isTrue a X.env aE=(do let v←aE; standAt a.pos; holding [v] (truthy v))) :
  PT X a (fun σ H Q=>ta σ H fun x H'=>∃k,zj X.K x H' k∧Q k H'):=by
 intro pins s σ H Q I h
 exact isTrue_plain (thn (ha pins s σ H _ I h) fun v s1 ⟨x,H1,I1,r1,q1⟩=>uv pins s1 σ H1 x v Q I1 r1 q1) (he _)
theorem mw {x:V} {us:List Value} (r:Vals [x] us):∃u,us=[u]∧RelV x u:=by
 cases r with
 | cons r1 r2=>cases r2; exact ⟨_,rfl,r1⟩
theorem zk {x y:V} {us:List Value} (r:Vals [x,y] us):∃u w',us=[u,w']∧RelV x u∧RelV y w':=by
 cases r with
 | cons r1 r2 =>
  cases r2 with
  | cons r3 r4=>cases r4; exact ⟨_,_,rfl,r1,r3⟩
theorem pF:cP X (.builtin "abs") (fun xs H Q=>∃i,xs=[.int i]∧Q (.int (if i < 0 then -i else i)) H):=by
 intro pins s σ H xs us Q I r h
 obtain ⟨i,rfl,q⟩:=h
 obtain ⟨u,rfl,t,rfl⟩:=mw r
 exact call_abs_int fun u tk=>⟨.int (if i < 0 then -i else i),H,I.tok _,⟨_,rfl⟩,q⟩
theorem fC (hc:X.calm=true):cP X (.builtin "max") (fun xs H Q=>∃i j,xs=[.int i,.int j]∧Q (.int (if j > i then j else i)) H):=by
 intro pins s σ H xs us Q I r h
 obtain ⟨i,j,rfl,q⟩:=h
 obtain ⟨u,w',rfl,⟨t,rfl⟩,⟨t',rfl⟩⟩:=zk r
 refine max_two_ints (I.ok.hd hc) fun h' tk k=>⟨_,H,I.kept k,?_,q⟩
 by_cases hj:j > i
 ·rw [if_pos hj,if_pos hj]; exact ⟨_,rfl⟩
 ·rw [if_neg hj,if_neg hj]; exact ⟨_,rfl⟩
end
end L2
namespace L2
open PySem PySem.Spec PyProof.Rows
structure ObjM (h:Heap) (x dx C:Addr) (mA:Str→Option Value):Prop where
 obj:h.get? x=some (PySem.W.instObj C dx)
 ns:h.Ns1 dx mA
 ne:dx≠x
theorem nq {h:Heap} {dx:Addr} {mA:Str→Option Value} (n:h.Ns1 dx mA):∃od,h.get? dx=some od∧∀name,PySem.W.lookIn name od=some (mA name):=by
 obtain ⟨o,es,ep,ho,hd,hk,_,hm⟩:=n
 refine ⟨o,ho,fun name=>?_⟩
 have e:=hm name
 unfold nsFind findBy at e
 rw [← Array.find?_toList] at e
 unfold PySem.W.lookIn
 rw [hd]
 dsimp only
 split
 ·rename_i y q
  rw [q] at e
  exact congrArg some e
 ·rename_i q
  rw [q] at e
  have a:es.toList.any (·.refKey)=false:=by
   rw [List.any_eq_false]
   intro y hy
   obtain ⟨z,t,hkey⟩:=hk y (Array.mem_toList_iff.mp hy)
   simp [DictEntry.refKey,hkey]
  have a':¬ es.toList.any (·.refKey)=true:=by rw [a]; exact Bool.false_ne_true
  rw [if_neg a']
  exact congrArg some e
theorem ObjM.look {h:Heap} {x dx C:Addr} {mA:Str→Option Value} (I:ObjM h x dx C mA):∃od,PySem.W.InstAt h x (PySem.W.instObj C dx) C (some od)∧∀name,PySem.W.lookIn name od=some (mA name) :=
 let ⟨od,ho,hl⟩:=nq I.ns
 ⟨od,⟨I.obj,rfl,rfl,ho⟩,hl⟩
section
variable {prog:Program} {w:World} {A:Around} {E:Value→Shared→Prop} {s:Shared} {K:PySem.W.Frag} {x dx C f:Addr} {mA:Str→Option Value} {name:Str} {v:Value}
theorem rG {expr:Bool} {Q:Value→Shared→Prop} (X:K.In s.heap) (I:ObjM s.heap x dx C mA) (hg:PySem.W.plainGet K C name=true) (hh:PySem.W.hasDictIn K C=true)
  (ha:PySem.W.findIn K (.ref C) name=some none) (hv:mA name=some v) (hv':PySem.W.handedIn v=true) (h:Q v { s with toks:=s.toks + 1 }) :
  wpAny (model prog w) A (getAttr (.ref x) name expr) Q E s:=by
 obtain ⟨od,J,hl⟩:=I.look
 exact PySem.W.get_value X J (PySem.W.plainGet_of hg).1 (PySem.W.findObj_own hh ha rfl (by rw [hl,hv])) hv' h
theorem pG {pl:Sem Bool} {Q:Value×List Value→Shared→Prop} (X:K.In s.heap) (I:ObjM s.heap x dx C mA) (hg:PySem.W.plainGet K C name=true)
  (hf:PySem.W.findIn K (.ref C) name=some (some (.ref f))) (ht:PySem.W.isFn K (.ref f)=true) (hv:mA name=none) (h:Q (.ref f,[.ref x]) s) :
  wpAny (model prog w) A (getMethod (.ref x) name pl) Q E s:=by
 obtain ⟨od,J,hl⟩:=I.look
 exact PySem.W.method_fn X J (PySem.W.plainGet_of hg).1 (PySem.W.plainGet_of hg).2 hf (beq_iff_eq.mp ht) (by show (PySem.W.lookIn name od).map (·.isSome)=some false; rw [hl,hv]; rfl) h
theorem rH {ns:List Str} {Q:Unit→Shared→Prop} (X:K.In s.heap) (I:ObjM s.heap x dx C mA)
  (hs:PySem.W.findIn K (.ref C) "__setattr__" = some (some (.builtin "object.__setattr__"))) (hp:PySem.W.plainOver K C=true) (ht:PySem.W.takerIn K C name=some none) (hh:PySem.W.hasDictIn K C=true)
  (hw:PySem.Within mA ns) (hsz:ns.length≤sizeLine)
  (h:∀h',ObjM h' x dx C (fun y=>if y=name then some v else mA y)→Heap.SameBut dx s.heap h'→Q () { s with heap:=h',toks:=s.toks + 2 }) :
  wpAny (model prog w) A (setAttr (.ref x) name v) Q E s:=by
 obtain ⟨od,J,hl⟩:=I.look
 refine PySem.W.set_plain X J hs (PySem.W.osa_open (s:={ s with toks:=s.toks + 1 }) (r:=none) X J hp ht fun b=>?_)
 obtain ⟨cd,hc,hd'⟩:=PySem.W.any_some hh
 have hx:s.heap.get? x=some ⟨.ref C,some dx,.plain,#[]⟩:=I.obj
 refine wpAny_bind (wpAny_pure (wpAny_bind (wpAny_bind (wpAny_loadPart hx (wpAny_bind (PySem.W.Looks.here (s:={ s with toks:=s.toks + 1 }) (PySem.W.looks_clsIn X hc) ?_))))))
 rw [hd']
 refine wpAny_pure (a:=some dx) (wpAny_bind (wpAny_pure (wpAny_bind ?_)))
 refine wpAny_nsSet1 (s:={ s with toks:=s.toks + 1 }) I.ns fun h' hn2 hs2=>?_
 obtain ⟨oD,esD,epD,hoD,hdD,hcD⟩:=hn2.count (PySem.Within.cons name v hw)
 refine wpAny_bind (wpAny_lookBehind hoD (by rw [hdD]; exact pastItsLine_dict (Nat.le_trans hcD (by rw [List.length_cons]; omega))) ?_)
 exact wpAny_pure (h _ ⟨(hs2.2 _ (Ne.symm I.ne)).trans I.obj,hn2,I.ne⟩ hs2)
theorem pH {R:Result→Shared→Prop} {vs:List Value} {kw:List (Str×Value)} (X:K.In s.heap) (hm:PySem.W.makesIn K C=true)
  (hi:PySem.W.findIn K (.ref C) "__init__" = some (some (.ref f))) (hf:PySem.W.typeIn K (.ref f)=some (.type "function"))
  (h:codeAny (model prog w) (A.under (.builtin "type.__call__" ⟨.ref C :: vs,kw⟩)) (.call (.ref f) ⟨.ref (s.heap.objs.size + 1) :: vs,kw⟩) (PySem.W.InitBack (s.heap.objs.size + 1) R)
   { s with heap:=(s.heap.push PySem.W.emptyDict).push (PySem.W.instObj C s.heap.objs.size) }) :
  codeAny (model prog w) A (.call (.ref C) ⟨vs,kw⟩) R s:=by
 obtain ⟨hh,g,d,t,os⟩:=s
 exact PySem.W.make_core (PySem.W.makes_of X hm) (PySem.W.looks_findIn X hi) (fun self=>PySem.W.bind_fn X self hf) (.inl rfl) h
end
def cJ (f:Str) (v:V):List (Str×V)→List (Str×V)
 | []=>[(f,v)]
 | (g,x) :: r=>if g=f then (g,v) :: r else (g,x) :: cJ f v r
theorem bu (f g:Str) (v:V):∀fs:List (Str×V),(cJ f v fs).lookup g=if g=f then some v else fs.lookup g
 | []=>by
  show List.lookup g [(f,v)]=_
  by_cases h:g=f
  ·have hb:(g == f)=true:=beq_iff_eq.mpr h
   simp only [List.lookup,hb,if_pos h]
  ·have hb:(g == f)=false:=beq_eq_false_iff_ne.mpr h
   simp only [List.lookup,hb,if_neg h]
 | (k,x) :: r=>by
  have ih:=bu f g v r
  rw [show cJ f v ((k,x) :: r)=(if k=f then (k,v) :: r else (k,x) :: cJ f v r) from rfl]
  by_cases hk:k=f
  ·rw [if_pos hk]
   by_cases h:g=k
   ·have hb:(g == k)=true:=beq_iff_eq.mpr h
    simp only [List.lookup,hb,if_pos (h.trans hk)]
   ·have hb:(g == k)=false:=beq_eq_false_iff_ne.mpr h
    simp only [List.lookup,hb,if_neg (fun e:g=f=>h (e.trans hk.symm))]
  ·rw [if_neg hk]
   by_cases h:g=k
   ·have hb:(g == k)=true:=beq_iff_eq.mpr h
    simp only [List.lookup,hb,if_neg (fun e:g=f=>hk (h.symm.trans e))]
   ·have hb:(g == k)=false:=beq_eq_false_iff_ne.mpr h
    simp only [List.lookup,hb]
    exact ih
theorem fD (f:Str) (v:V):∀fs:List (Str×V),f∈(cJ f v fs).map (·.1)∧∀g,g∈fs.map (·.1)→g∈(cJ f v fs).map (·.1)
 | []=>⟨by simp [cJ],fun g h=>by simp at h⟩
 | (k,x) :: r=>by
  obtain ⟨i1,i2⟩:=fD f v r
  rw [show cJ f v ((k,x) :: r)=(if k=f then (k,v) :: r else (k,x) :: cJ f v r) from rfl]
  by_cases hk:k=f
  ·rw [if_pos hk]
   subst hk
   exact ⟨by simp,fun g h=>by simpa using h⟩
  ·rw [if_neg hk]
   refine ⟨?_,fun g h=>?_⟩
   ·rw [List.map_cons]
    exact List.mem_cons_of_mem _ i1
   ·rw [List.map_cons] at h ⊢
    rcases List.mem_cons.mp h with e | e
    ·exact List.mem_cons.mpr (.inl e)
    ·exact List.mem_cons_of_mem _ (i2 g e)
theorem dB (f:Str) (v:V):∀fs:List (Str×V),(cJ f v fs).length≤fs.length + 1
 | []=>by simp [cJ]
 | (k,x) :: r=>by
  have ih:=dB f v r
  rw [show cJ f v ((k,x) :: r)=(if k=f then (k,v) :: r else (k,x) :: cJ f v r) from rfl]
  by_cases hk:k=f
  ·rw [if_pos hk,List.length_cons,List.length_cons]; omega
  ·rw [if_neg hk,List.length_cons,List.length_cons]; omega
theorem RelO.some_of {v:V} {o:Option Value} (r:RelO (some v) o):∃u,o=some u∧RelV v u:=by
 cases o with
 | none=>exact (show False from r).elim
 | some u=>exact ⟨u,rfl,r⟩
theorem RelO.none_of {o:Option Value} (r:RelO none o):o=none:=by
 cases o with
 | none=>rfl
 | some u=>exact (show False from r).elim
theorem nr {v:V} {u:Value} (r:RelV v u):PySem.W.handedIn u=true:=by
 cases v with
 | non=>cases (show u=Value.none from r); rfl
 | bl b=>cases (show u=Value.bool b from r); rfl
 | int i=>obtain ⟨t,e⟩:=(show ∃t,u=Value.int i t from r); cases e; rfl
 | str x=>obtain ⟨t,e⟩:=(show ∃t,u=Value.str x t from r); cases e; rfl
 | byt b=>obtain ⟨t,e⟩:=(show ∃t,u=Value.bytes b t from r); cases e; rfl
 | flt b=>obtain ⟨t,e⟩:=(show ∃t,u=Value.float b t from r); cases e; rfl
 | ref a=>cases (show u=Value.ref a from r); rfl
 | ty n=>cases (show u=Value.type n from r); rfl
section
variable {P:Program} {w:World} {H H':Hp} {h h':Heap} {a C dx:Addr} {fs fs':List (Str×V)}
theorem eF (hok:HOk P w H h) (e:H a=some (.ins C dx fs)):∃mA,ObjM h a dx C mA∧(∀f,RelO (fs.lookup f) (mA f))∧PySem.Within mA (fs.map (·.1))∧fs.length≤1000∧H dx=some (.own a):=by
 obtain ⟨d,z,ne,ob,mA,n,r,q⟩:=(show ObjOk P w H h a (.ins C dx fs) from hok a _ e)
 exact ⟨mA,⟨ob,n,ne⟩,r,q,z,d⟩
end
structure Cls (K:PySem.W.Frag) (C:Addr):Prop where
 pg:PySem.W.plainGet K C Str.empty=true
 hd:PySem.W.hasDictIn K C=true
 po:PySem.W.plainOver K C=true
 sa:PySem.W.findIn K (.ref C) "__setattr__" = some (some (.builtin "object.__setattr__"))
theorem Cls.get {K:PySem.W.Frag} {C:Addr} (c:Cls K C) (f:Str):PySem.W.plainGet K C f=true:=c.pg
def NoAttr (K:PySem.W.Frag) (C:Addr) (f:Str):Prop:=PySem.W.findIn K (.ref C) f=some none
theorem NoAttr.taker {K:PySem.W.Frag} {C:Addr} {f:Str} (n:NoAttr K C f):PySem.W.takerIn K C f=some none:=by
 unfold PySem.W.takerIn
 rw [show PySem.W.findIn K (.ref C) f=some none from n]
 rfl
structure Con (K:PySem.W.Frag) (C:Addr) (f:Str) (v:V) (u:Value):Prop where
 at_:PySem.W.findIn K (.ref C) f=some (some u)
 rel:RelV v u
 get:PySem.W.specialIn K u "__get__" = some none
 cp:PySem.W.copiedNames.contains f=false
structure Meth (K:PySem.W.Frag) (C:Addr) (m:Str) (f:Addr):Prop where
 at_:PySem.W.findIn K (.ref C) m=some (some (.ref f))
 fn:PySem.W.isFn K (.ref f)=true
 kp:PySem.W.keepIn K (.ref f)=true
section
variable {X:Cx} {pins:List (Addr×Obj)} {σ:St} {H:Hp} {s:Shared} {a C dx:Addr} {fs:List (Str×V)} {f:Str} {v:V} {A:Around} {E:Value→Shared→Prop}
theorem kh {b:Bool} {Q:Value→Shared→Prop} (I:Inv X pins σ H s) (e:H a=some (.ins C dx fs)) (c:Cls X.K C) (n:NoAttr X.K C f) (l:fs.lookup f=some v)
  (h:∀u s',Inv X pins σ H s'→RelV v u→Q u s'):wpAny (model X.prog X.w) A (getAttr (.ref a) f b) Q E s:=by
 obtain ⟨mA,O,r,_,_,_⟩:=eF I.hok e
 obtain ⟨u,hu,ru⟩:=RelO.some_of (v:=v) (o:=mA f) (by rw [← l]; exact r f)
 exact rG I.kIn O (c.get f) c.hd n hu (nr ru) (h u _ (I.tok _) ru)
theorem ei {m:Str} {g:Addr} {pl:Sem Bool} {Q:Value×List Value→Shared→Prop} (I:Inv X pins σ H s) (e:H a=some (.ins C dx fs)) (c:Cls X.K C) (k:Meth X.K C m g) (l:fs.lookup m=none)
  (h:Q (.ref g,[.ref a]) s):wpAny (model X.prog X.w) A (getMethod (.ref a) m pl) Q E s:=by
 obtain ⟨mA,O,r,_,_,_⟩:=eF I.hok e
 have hn:mA m=none:=RelO.none_of (by rw [← l]; exact r m)
 exact pG I.kIn O (c.get m) k.at_ k.fn hn h
theorem kj {y:V} {u:Value} {Q:Unit→Shared→Prop} (I:Inv X pins σ H s) (e:H a=some (.ins C dx fs)) (c:Cls X.K C) (n:NoAttr X.K C f) (hl:fs.length < 1000) (ry:RelV y u)
  (h:∀s',Inv X pins σ (upd H a (.ins C dx (cJ f y fs))) s'→Q () s'):wpAny (model X.prog X.w) A (setAttr (.ref a) f u) Q E s:=by
 obtain ⟨mA,O,r,wi,_,ho⟩:=eF I.hok e
 have hz:(fs.map (·.1)).length≤sizeLine:=by rw [List.length_map,sizeLine_eq]; omega
 refine rH I.kIn O c.sa c.po n.taker c.hd wi hz fun h' O' sb=>h _ ?_
 have hd:∃o,h'.get? dx=some o:=let ⟨o,_,_,e',_⟩:=O'.ns; ⟨o,e'⟩
 refine I.write (x:=a) (e:=dx) (by rw [e]; exact True.intro) (.inr ho) (fun b q hb z=>(sb.2 b hb).trans z) hd ?_
 refine ⟨by rw [am O.ne]; exact ho,?_,O.ne,O'.obj,_,O'.ns,fun g=>?_,fun g hg=>?_⟩
 ·have:=dB f y fs; omega
 ·show RelO ((cJ f y fs).lookup g) (if g=f then some u else mA g)
  rw [bu]
  by_cases q:g=f
  ·rw [if_pos q,if_pos q]; exact ry
  ·rw [if_neg q,if_neg q]; exact r g
 ·by_cases q:g=f
  ·rw [q]; exact (fD f y fs).1
  ·refine (fD f y fs).2 g (wi g fun z=>hg ?_)
   show (if g=f then some u else mA g)=none
   rw [if_neg q]; exact z
theorem Inv.made (I:Inv X pins σ H s):Inv X pins σ (upd (upd H s.heap.objs.size (.own (s.heap.objs.size + 1))) (s.heap.objs.size + 1) (.ins C s.heap.objs.size []))
  { s with heap:=(s.heap.push PySem.W.emptyDict).push (PySem.W.instObj C s.heap.objs.size) }:=by
 have e1:(s.heap.push PySem.W.emptyDict).get? s.heap.objs.size=some PySem.W.emptyDict:=Heap.get?_push_size s.heap rfl
 have e2:((s.heap.push PySem.W.emptyDict).push (PySem.W.instObj C s.heap.objs.size)).get? (s.heap.objs.size + 1)=some (PySem.W.instObj C s.heap.objs.size):=by
  have:=Heap.get?_push_size (s.heap.push PySem.W.emptyDict) (o:=PySem.W.instObj C s.heap.objs.size) rfl
  rwa [Heap.size_push] at this
 have e3:(s.heap.push PySem.W.emptyDict).Ns s.heap.objs.size (fun _=>none):=⟨PySem.W.emptyDict,#[],_,e1,rfl,(fun e he=>absurd he (by simp)),fun _=>rfl⟩
 have I1:=I.laid (a:=s.heap.objs.size) (o:=.own (s.heap.objs.size + 1)) (h':=s.heap.push PySem.W.emptyDict) (t':=s.toks) (fun b u q=>Heap.get?_push_of_some _ q) (Nat.le_refl _) ⟨_,e1⟩
 refine I1.laid (a:=s.heap.objs.size + 1) (o:=.ins C s.heap.objs.size []) (t':=s.toks) (fun b u q=>Heap.get?_push_of_some _ q) (Nat.le_of_eq (Heap.size_push _ _)) ?_
 have ne:s.heap.objs.size≠s.heap.objs.size + 1:=Nat.ne_of_lt (Nat.lt_succ_self _)
 refine ⟨by rw [am ne,ae],Nat.zero_le _,ne,e2,fun _=>none,(Heap.Ns1.of_empty e3).at fun o q=>Heap.get?_push_of_some _ q,fun _=>True.intro,fun y hy=>absurd rfl hy⟩
theorem rJ {prog:Program} {w:World} {env:Env} {e:Expr} {f:Str} {pos:Pos} {s:Shared} {Q:Value→Shared→Prop} (hb:attributeBase e f env (eval e env)=eval e env)
  (h:wpAny (model prog w) A (eval e env) (fun o s₁=>wpAny (model prog w) A (getAttr o f true) Q E s₁) E s):wpAny (model prog w) A (eval (.Attribute e f pos) env) Q E s :=
 Attribute_any_ h (by rw [arm_eval_Attribute,hb])
end
def Er (K:PySem.W.Frag) (ta:TE) (f:Str):TE:=fun σ H Q=>ta σ H fun x H1=>∃a C dx fs v,x=.ref a∧H1 a=some (.ins C dx fs)∧Cls K C∧NoAttr K C f∧fs.lookup f=some v∧Q v H1
def zm (K:PySem.W.Frag) (ta tv:TE) (f:Str):TS:=fun D σ H=>tv σ H fun y H1=>ta σ H1 fun x H2=>∃a C dx fs,x=.ref a∧H2 a=some (.ins C dx fs)∧Cls K C∧NoAttr K C f∧fs.length < 1000 ∧
 D.nx σ (upd H2 a (.ins C dx (cJ f y fs)))
section
variable {X:Cx} {o e value:Expr} {f:Str} {pos pos' tpos:Pos} {ta tv:TE}
theorem fE (he:PE X e ta) (hb:attributeBase e f X.env (eval e X.env)=eval e X.env):PE X (.Attribute e f pos) (Er X.K ta f):=by
 intro pins s σ H Q I h
 refine rJ hb (thn (he pins s σ H _ I h) fun u s1 ⟨x,H1,I1,rx,a,C,dx,fs,v,ex,ea,c,n,l,q⟩=>?_)
 subst ex
 obtain rfl:u=Value.ref a:=rx
 exact kh I1 ea c n l fun u' s2 I2 ru=>⟨v,H1,I2,ru,q⟩
theorem pI (ha:PE X o ta) (hv:PE X value tv) (hs:swapsWith value (some (.Attribute o f pos')) pos.line X.env=pure false):PS X (.Assign [.Attribute o f pos'] value pos) (zm X.K ta tv f):=by
 intro pins s σ H D I h
 refine plainObj_wpAny_Assign_Attribute (thn (hv pins s σ H _ I h) fun u s1 ⟨y,H1,I1,ry,q⟩=>thn (ha pins s1 σ H1 _ I1 q) fun ov s2 ⟨x,H2,I2,rx,a,C,dx,fs,ex,ea,c,n,l,q2⟩=>?_) hs
 subst ex
 obtain rfl:ov=Value.ref a:=rx
 exact kj I2 ea c n l ry fun s3 I3=>⟨σ,_,I3,q2⟩
theorem tV {pl:Sem Bool} {m:Str} {apos:Pos} {args:List Expr} {pins:List (Addr×Obj)} {s:Shared} {σ:St} {H:Hp} {Q:Value→Shared→Prop} {te:TE} (he:PE X e te) (I:Inv X pins σ H s)
  (h:te σ H fun x H1=>∃a C dx fs g,x=.ref a∧H1 a=some (.ins C dx fs)∧Cls X.K C∧Meth X.K C m g∧fs.lookup m=none ∧
   ∀s1,Inv X pins σ H1 s1→wpAny (model X.prog X.w) X.A (callWith pos (.ref g) [.ref a] (backTo pos (starEach args X.env)) (backToKw pos (keywordEach [] X.env))) Q X.xe s1)
  (ht:eval (.Call (.Attribute e m apos) args [] pos) X.env=(do
   let ov←eval e X.env
   standAt apos.atName
   let (f,first)←holding [ov] (getMethod ov m pl)
   callWith pos f first (backTo pos (starEach args X.env)) (backToKw pos (keywordEach [] X.env)))) :
  wpAny (model X.prog X.w) X.A (eval (.Call (.Attribute e m apos) args [] pos) X.env) Q X.xe s:=by
 refine PySem.W.methodCall_KW (pl:=pl) (thn (he pins s σ H _ I h) fun u s1 ⟨x,H1,I1,rx,a,C,dx,fs,g,ex,ea,c,k,l,q⟩=>?_) ht
 subst ex
 obtain rfl:u=Value.ref a:=rx
 exact ei I1 ea c k l (q s1 I1)
end
section
variable {X:Cx} {pins:List (Addr×Obj)} {σ:St} {H:Hp} {s:Shared} {A:Around} {E:Value→Shared→Prop} {Q:Value→Shared→Prop} {c:Value} {b:Bool}
inductive TyOf (K:PySem.W.Frag) (H:Hp):V→Value→Prop where
 | non:TyOf K H .non (.type "NoneType")
 | bl (x:Bool):TyOf K H (.bl x) (.type "bool")
 | int (i:Int):TyOf K H (.int i) (.type "int")
 | str (x:Str):TyOf K H (.str x) (.type "str")
 | flt (x:UInt64):TyOf K H (.flt x) (.type "float")
 | lst {a:Addr} {xs:List V} (e:H a=some (.lst xs)):TyOf K H (.ref a) (.type "list")
 | frz {a:Addr} {o:Obj} {xs:List V} (e:H a=some (.frz o (.lst xs))):TyOf K H (.ref a) (.type "list")
 | tup {a:Addr} {xs:List V} (e:H a=some (.tup xs)):TyOf K H (.ref a) (.type "tuple")
 | dK {a:Addr} {kvs:List (Key×V)} (e:H a=some (.dK kvs)):TyOf K H (.ref a) (.type "dict")
 | dT {a:Addr} {kvs:List (List Key×V)} (e:H a=some (.dT kvs)):TyOf K H (.ref a) (.type "dict")
 | ins {a C dx:Addr} {fs:List (Str×V)} (e:H a=some (.ins C dx fs)) (cl:Cls K C) (ha:PySem.W.findIn K (.ref C) "__class__" = some (some (.builtin "object.__class__")))
   (hn:PySem.W.specialIn K (.builtin "object.__class__") "__get__" = some (some (.builtin "getset_descriptor.__get__"))) (htk:PySem.W.takesIn K (.builtin "object.__class__")=some true)
   (hm:PySem.W.mroIn K C (.type "object")=some true):TyOf K H (.ref a) (.ref C)
theorem nu {x:V} {u t:Value} (I:Inv X pins σ H s) (rx:RelV x u) (ty:TyOf X.K H x t) (e:PySem.W.kitOne X.K t c=some b) (h:∀tk,Q (.bool b) { s with toks:=tk }) :
  wpAny (model X.prog X.w) A (call (.builtin "isinstance") [u,c]) Q E s:=by
 cases ty with
 | non=>cases (show u=Value.none from rx); exact PySem.W.kia_one PySem.W.kitx_none I.kIn True.intro e (fun z=>nomatch z) h
 | bl y=>cases (show u=Value.bool y from rx); exact PySem.W.kia_one PySem.W.kitx_bool I.kIn True.intro e (fun z=>nomatch z) h
 | int i=>obtain ⟨t,q⟩:=(show ∃t,u=Value.int i t from rx); cases q; exact PySem.W.kia_one PySem.W.kitx_int I.kIn True.intro e (fun z=>nomatch z) h
 | str y=>obtain ⟨t,q⟩:=(show ∃t,u=Value.str y t from rx); cases q; exact PySem.W.kia_one PySem.W.kitx_str I.kIn True.intro e (fun z=>nomatch z) h
 | flt y=>obtain ⟨t,q⟩:=(show ∃t,u=Value.float y t from rx); cases q; exact PySem.W.kia_one PySem.W.kitx_float I.kIn True.intro e (fun z=>nomatch z) h
 | @lst a xs ea =>
  cases (show u=Value.ref a from rx)
  obtain ⟨_,_,n,_,h1⟩:=(show ObjOk X.prog X.w H s.heap a (.lst xs) from I.hok a _ ea)
  exact PySem.W.kia_one PySem.W.kitx_list I.kIn ⟨_,h1,rfl⟩ e (fun z=>nomatch z) h
 | @frz a ob xs ea =>
  cases (show u=Value.ref a from rx)
  obtain ⟨_,_,_,n,_,h1⟩:=(show ObjOk X.prog X.w H s.heap a (.frz ob (.lst xs)) from I.hok a _ ea)
  exact PySem.W.kia_one PySem.W.kitx_list I.kIn ⟨_,h1,rfl⟩ e (fun z=>nomatch z) h
 | @tup a xs ea =>
  cases (show u=Value.ref a from rx)
  obtain ⟨_,_,_,p⟩:=(show ObjOk X.prog X.w H s.heap a (.tup xs) from I.hok a _ ea)
  obtain ⟨o,h1,h2,_⟩:=p
  exact PySem.W.kia_one PySem.W.kitx_tuple I.kIn ⟨o,h1,h2⟩ e (fun z=>nomatch z) h
 | @dK a kvs ea =>
  cases (show u=Value.ref a from rx)
  obtain ⟨_,_,vs,_,p⟩:=(show ObjOk X.prog X.w H s.heap a (.dK kvs) from I.hok a _ ea)
  obtain ⟨o,es,ep,h1,h2,_⟩:=p
  exact PySem.W.kia_one PySem.W.kitx_dict I.kIn ⟨o,h1,h2.1⟩ e (fun z=>nomatch z) h
 | @dT a kvs ea =>
  cases (show u=Value.ref a from rx)
  obtain ⟨_,_,xs,_,o,es,ep,h1,h2,_⟩:=(show ObjOk X.prog X.w H s.heap a (.dT kvs) from I.hok a _ ea)
  exact PySem.W.kia_one PySem.W.kitx_dict I.kIn ⟨o,h1,h2.1⟩ e (fun z=>nomatch z) h
 | @ins a C dx fs ea cl ha hn htk hm =>
  cases (show u=Value.ref a from rx)
  obtain ⟨mA,O,_⟩:=eF I.hok ea
  obtain ⟨od,J,_⟩:=O.look
  exact PySem.W.kia_one (PySem.W.kitx_own (cl.get _) cl.hd ha hn htk hm) I.kIn J e (fun z=>nomatch z) h
end
end L2
namespace L2
open PySem PySem.Spec PyProof.Rows
structure Room (k:Nat) (A:Around):Prop where
 hd:A.handled=none
 dp:A.depth + 3 * k + 5 < recursionLimit
 un:A.units + 16 * k + 200 < cLine
 gd:A.guards=some []
theorem Room.mono {j k:Nat} {A:Around} (r:Room k A) (h:j≤k):Room j A:=⟨r.hd,by have:=r.dp; omega,by have:=r.un; omega,r.gd⟩
theorem Room.deeper {k:Nat} {A:Around} (r:Room (k + 1) A) (env:Env):Room k (A.deeper env) :=
 ⟨r.hd,by have:=r.dp; show A.depth + 1 + 3 * k + 5 < _; omega,by have:=r.un; show A.units + 3 + 16 * k + 200 < _; omega,r.gd⟩
theorem km {A:Around} {C:Addr} {us:List Value} {kw:List (Str×Value)}:(A.under (.builtin "type.__call__" ⟨.ref C :: us,kw⟩)).depth=A.depth + 1:=by
 first | rfl | simp [Around.under,Code.weight,Code.isCreation,Code.isGuard,Code.isCaller,Code.frames,Code.isFrame,guardIds]
theorem kn {A:Around} {C:Addr} {us:List Value} {kw:List (Str×Value)}:(A.under (.builtin "type.__call__" ⟨.ref C :: us,kw⟩)).units=A.units + 1:=by
 first | rfl | simp [Around.under,Code.cUnits,Code.frames,Code.isFrame]
theorem jo {A:Around} {C:Addr} {us:List Value} {kw:List (Str×Value)}:(A.under (.builtin "type.__call__" ⟨.ref C :: us,kw⟩)).guards=A.guards:=by
 have e:Code.guards (.builtin "type.__call__" ⟨.ref C :: us,kw⟩)=[]:=by
  have:(Code.builtin "type.__call__" ⟨.ref C :: us,kw⟩).isGuard=false:=by show guardIds.contains "type.__call__" = false; decide +kernel
  simp [Code.guards,this]
 unfold Around.under
 dsimp only
 rw [e]
 rfl
theorem Room.make {k:Nat} {A:Around} (r:Room (k + 1) A) (C:Addr) (us:List Value) (kw:List (Str×Value)):Room k (A.under (.builtin "type.__call__" ⟨.ref C :: us,kw⟩)) :=
 ⟨r.hd,by have:=r.dp; rw [km]; omega,by have:=r.un; rw [kn]; omega,by rw [jo]; exact r.gd⟩
theorem Room.depth {k:Nat} {A:Around} (r:Room k A):A.depth < recursionLimit:=by have:=r.dp; omega
theorem Room.units {k:Nat} {A:Around} (r:Room k A):A.units + 64 < cLine:=by have:=r.un; omega
def ko:TA:=fun _ H Q=>Q [] H
def pJ (ta:TE) (tr:TA):TA:=fun σ H Q=>ta σ H fun x H1=>tr σ H1 fun xs H2=>Q (x :: xs) H2
section
variable {X:Cx} {e:Expr} {es:List Expr} {te:TE} {t:TA} {pos:Pos}
theorem ad:PA X [] ko:=fun _ _ _ _ H Q I h=>Calls.spliced_nil ⟨[],H,I,.nil,h⟩
theorem aa (ha:PE X e te) (hr:PA X es t) (hs:starEach (e :: es) X.env=(false,eval e X.env) :: starEach es X.env:=by rfl):PA X (e :: es) (pJ te t):=by
 intro pos pins s σ H Q I h
 rw [hs]
 show wpAny _ _ (spliced ((false,eval e X.env) :: backTo pos (starEach es X.env))) _ _ s
 refine Calls.spliced_cons (thn (ha pins s σ H _ I h) fun u s1 ⟨x,H1,I1,r1,q1⟩=>?_)
 exact thn (hr pos pins s1 σ H1 _ I1 q1) fun us s2 ⟨xs,H2,I2,r2,q2⟩=>⟨x :: xs,H2,I2,.cons r1 r2,q2⟩
def Es (t:TA):TE:=fun σ H Q=>t σ H fun xs H1=>xs.length≤sizeLine∧∀p,H1 p=none→Q (.ref p) (upd H1 p (.tup xs))
def Et (t:TA):TE:=fun σ H Q=>t σ H fun xs H1=>xs.length≤sizeLine∧∀p,H1 p=none→Q (.ref p) (upd H1 p (.lst xs))
theorem aq {x1} (h:PA X es t):PE X (.Tuple es x1 pos) (Es t):=by
 intro pins s σ H Q I hq
 refine wpAny_Tuple_spliced (thn (h pos pins s σ H _ I hq) fun us s1 ⟨xs,H1,I1,r,z,q⟩=>⟨by rw [← r.length]; exact z,?_⟩)
 have hf:H1 s1.heap.objs.size=none:=I1.hok.fresh (Nat.le_refl _)
 refine ⟨.ref s1.heap.objs.size,upd H1 s1.heap.objs.size (.tup xs),I1.laid (t':=s1.toks) (fun b u e=>Heap.get?_push_of_some _ e) (Nat.le_refl _) ?_,rfl,q _ hf⟩
 exact ⟨z,us,r,⟨_,Heap.get?_push_size _ rfl,rfl,_,rfl⟩⟩
theorem aH (h:PA X es t):PE X (.List es pos) (Et t):=by
 intro pins s σ H Q I hq
 refine wpAny_List_spliced (thn (h pos pins s σ H _ I hq) fun us s1 ⟨xs,H1,I1,r,z,q⟩=>⟨by rw [← r.length]; exact z,?_⟩)
 have hf:H1 s1.heap.objs.size=none:=I1.hok.fresh (Nat.le_refl _)
 refine ⟨.ref s1.heap.objs.size,upd H1 s1.heap.objs.size (.lst xs),I1.laid (t':=s1.toks) (fun b u e=>Heap.get?_push_of_some _ e) (Nat.le_refl _) ?_,rfl,q _ hf⟩
 exact ⟨z,us,0,r,Heap.get?_push_size _ rfl⟩
end
abbrev Sp:=List V→Hp→VK→XK→Prop
abbrev CXT:=List Env→Hp→Shared→XK→Value→Shared→Prop
structure Env0 (P:Program) (w:World) (K:PySem.W.Frag) (mg:Str→Option Value) (base:Heap) (A:Around) (outer:List Env) (s:Shared) (H:Hp):Prop where
 frames:A.frames=some outer
 mod:Mod K mg base
 bs:∀b o,base.get? b=some o→s.heap.get? b=some o∧H b=none
 bsz:base.objs.size≤s.heap.objs.size
 funs:s.heap.FunFrames base outer
 frf:∀b∈frs outer,H b=none
 hok:HOk P w H s.heap
 bare:AllBare s.gens
def CE (outer:List Env) (P:Program) (w:World) (H:Hp) (s:Shared) (Q:VK) (u:Value) (s':Shared):Prop :=
 ∃v H',s'.os=s.os∧AllBare s'.gens∧Un (frs outer) [] H H' s.heap s'.heap∧HOk P w H' s'.heap∧RelV v u∧Q v H'
def CR (CX:CXT) (outer:List Env) (P:Program) (w:World) (H:Hp) (s:Shared) (Q:VK) (E:XK) (r:Result) (s':Shared):Prop :=
 match r with
 | .ok (.ret u)=>CE outer P w H s Q u s'
 | .ok _=>False
 | .error e=>CX outer H s E e s'
structure FnOk (P:Program) (w:World) (K:PySem.W.Frag) (mg:Str→Option Value) (base:Heap) (CX:CXT) (k:Nat) (f:Addr) (fd:FuncData) (ps:List Str) (sp:Sp):Prop where
 len:∀vs H Q E,sp vs H Q E→vs.length=ps.length
 run:∀ (A:Around) (outer:List Env) (s:Shared) (H:Hp) (args:Args) (us:List Value) (vs:List V) (Q:VK) (E:XK),Room k A→Env0 P w K mg base A outer s H→BindsTo s fd args (ps.zip us)→Vals vs us→sp vs H Q E →
  codeAny (model P w) A (.call (.ref f) args) (CR CX outer P w H s Q E) s
theorem FnOk.mono {P:Program} {w:World} {K:PySem.W.Frag} {mg:Str→Option Value} {base:Heap} {CX:CXT} {j k:Nat} {f:Addr} {fd:FuncData} {ps:List Str} {sp:Sp} (F:FnOk P w K mg base CX j f fd ps sp) (h:j≤k) :
  FnOk P w K mg base CX k f fd ps sp:=⟨F.len,fun A outer s H args us vs Q E hr=>F.run A outer s H args us vs Q E (hr.mono h)⟩
theorem Env0.make {P:Program} {w:World} {K:PySem.W.Frag} {mg:Str→Option Value} {base:Heap} {A:Around} {outer:List Env} {s:Shared} {H:Hp} (e:Env0 P w K mg base A outer s H) (C:Addr) (us:List Value) (kw:List (Str×Value)) :
  Env0 P w K mg base (A.under (.builtin "type.__call__" ⟨.ref C :: us,kw⟩)) outer s H:=⟨by first | exact e.frames | (simpa [Around.under,Code.envs,Code.isFrame,pushEnvs] using e.frames),e.mod,e.bs,e.bsz,e.funs,e.frf,e.hok,e.bare⟩
section
variable {X:Cx} {pins:List (Addr×Obj)} {σ:St} {H:Hp} {s s':Shared}
theorem Inv.env0 (I:Inv X pins σ H s):Env0 X.prog X.w X.K X.mg X.base X.A X.stack s H :=
 ⟨I.ok.frames,I.ok.mod,I.bs,Nat.le_trans I.ok.bsz I.sz,I.stack,I.stkFree,I.hok,I.bare⟩
theorem Inv.after {Q:VK} {u:Value} (I:Inv X pins σ H s) (h:CE X.stack X.prog X.w H s Q u s'):EP X pins σ Q u s':=by
 obtain ⟨v,H',os,bare,un,hok,r,q⟩:=h
 obtain ⟨hh,g,d,t,os'⟩:=s'
 obtain rfl:os'=s.os:=os
 exact ⟨v,H',I.call (h':=hh) (g':=g) (d':=d) (t':=t) (ch:=[]) un hok bare (fun b z=>absurd z (by simp)),r,q⟩
end
def tX (sp:Sp) (dvs:List V) (E:XK) (t:TA):TE:=fun σ H Q=>t σ H fun vs H1=>sp (vs ++ dvs) H1 Q E
def jp (C:Addr) (m:Str) (sp:Sp) (dvs:List V) (E:XK) (ta:TE) (t:TA):TE:=fun σ H Q=>ta σ H fun x H1=>∃a dx fs,x=.ref a∧H1 a=some (.ins C dx fs)∧fs.lookup m=none ∧
 t σ H1 fun vs H2=>sp (x :: (vs ++ dvs)) H2 Q E
def tY (C:Addr) (sp:Sp) (dvs:List V) (E:XK) (t:TA):TE:=fun σ H Q=>t σ H fun vs H1=>∀x dx,H1 x=none→H1 dx=none→dx≠x →
 sp (.ref x :: (vs ++ dvs)) (upd (upd H1 dx (.own x)) x (.ins C dx [])) (fun v H2=>v=.non∧Q (.ref x) H2) E
def Binds (K:PySem.W.Frag) (fd:FuncData) (ps:List Str) (ds:List Value):Prop :=
 ∀ (s:Shared) (us:List Value),K.In s.heap→(us ++ ds).length=ps.length→BindsTo s fd ⟨us,[]⟩ (ps.zip (us ++ ds))
theorem Binds.all {K:PySem.W.Frag} {fd:FuncData} {ps:List Str} (h:∀us:List Value,us.length=ps.length→bindArgs fd ⟨us,[]⟩=pure (ps.zip us)):Binds K fd ps []:=fun s us _ hl=>by
 rw [List.append_nil] at hl ⊢
 exact .of_eq (h us hl)
def dC (CX:CXT) (X:Cx) (E:XK):Prop:=∀ (pins:List (Addr×Obj)) (σ:St) (H:Hp) (s:Shared) (e:Value) (s':Shared),Inv X pins σ H s→CX X.stack H s E e s'→X.xe e s'
section
variable {X:Cx} {CX:CXT} {k:Nat} {f C:Addr} {fd:FuncData} {ps:List Str} {sp:Sp} {dvs:List V} {ds:List Value} {E:XK} {x m:Str} {p pos apos:Pos} {e o:Expr} {es:List Expr} {ta:TE} {t:TA}
theorem kq {pins:List (Addr×Obj)} {σ:St} {H:Hp} {s:Shared} {Q:VK} {us:List Value} {vs:List V} (F:FnOk X.prog X.w X.K X.mg X.base CX k f fd ps sp) (hr:Room k X.A) (hb:Binds X.K fd ps ds) (hd:Vals dvs ds) (hx:dC CX X E)
  (I:Inv X pins σ H s) (r:Vals vs us) (h:sp (vs ++ dvs) H Q E):wpAny (model X.prog X.w) X.A (call (.ref f) us) (EP X pins σ Q) X.xe s:=by
 have r2:Vals (vs ++ dvs) (us ++ ds):=r.append hd
 have hl:(us ++ ds).length=ps.length:=by rw [← r2.length]; exact F.len _ _ _ _ h
 refine wpAny_call (codeAny_mono (F.run X.A X.stack s H ⟨us,[]⟩ (us ++ ds) (vs ++ dvs) Q E hr I.env0 (hb s us I.kIn hl) r2 h) fun r s' hq=>?_)
 cases r with
 | error e=>exact hx pins σ H s e s' I hq
 | ok fl =>
  cases fl with
  | ret u=>exact I.after hq
  | next=>exact False.elim hq
  | brk=>exact False.elim hq
  | cont=>exact False.elim hq
theorem rK (F:FnOk X.prog X.w X.K X.mg X.base CX k f fd ps sp) (hr:Room k X.A) (hg:Gl X x) (hm:X.mg x=some (.ref f)) (hk:PySem.W.keepIn X.K (.ref f)=true) (hb:Binds X.K fd ps ds) (hd:Vals dvs ds) (hx:dC CX X E)
  (ha:PA X (e :: es) t) (hdb:(x == ("__debug__" : Str))=false:=by decide) (he:starEach (e :: es) X.env=(false,eval e X.env) :: starEach es X.env:=by rfl) (hpl:(backTo pos (starEach es X.env)).any (·.1)=false:=by rfl) :
  PE X (.Call (.Name x p) (e :: es) [] pos) (tX sp dvs E t):=by
 intro pins s σ H Q I h
 refine wpAny_Call_Name_kw (dQ I hg hm ?_ hdb)
 refine PySem.W.callWith_K (h₀:=X.base) I.ok.mod.kin hk (thn (ha pos pins s σ H _ I h) fun us s1 ⟨vs,H1,I1,r,q⟩=>⟨I1.kIn,?_⟩) he hpl
 exact kq F hr hb hd hx I1 r q
theorem mx {pl:Sem Bool} (he:PE X o ta) (c:Cls X.K C) (hm:Meth X.K C m f) (F:FnOk X.prog X.w X.K X.mg X.base CX k f fd ps sp) (hr:Room k X.A) (hb:Binds X.K fd ps ds) (hd:Vals dvs ds) (hx:dC CX X E) (ha:PA X (e :: es) t)
  (hst:starEach (e :: es) X.env=(false,eval e X.env) :: starEach es X.env:=by rfl) (hpl:(backTo pos (starEach es X.env)).any (·.1)=false:=by rfl)
  (ht:eval (.Call (.Attribute o m apos) (e :: es) [] pos) X.env=(do
   let ov←eval o X.env
   standAt apos.atName
   let (f,first)←holding [ov] (getMethod ov m pl)
   callWith pos f first (backTo pos (starEach (e :: es) X.env)) (backToKw pos (keywordEach [] X.env))):=by rfl) :
  PE X (.Call (.Attribute o m apos) (e :: es) [] pos) (jp C m sp dvs E ta t):=by
 intro pins s σ H Q I h
 refine PySem.W.methodCall_KW (pl:=pl) (thn (he pins s σ H _ I h) fun u s1 ⟨x,H1,I1,rx,a,dx,fs,ex,ea,l,q⟩=>?_) ht
 subst ex
 obtain rfl:u=Value.ref a:=rx
 refine ei I1 ea c hm l ?_
 refine PySem.W.callWith_K (first:=[.ref a]) (h₀:=X.base) I.ok.mod.kin hm.kp (thn (ha pos pins s1 σ H1 _ I1 q) fun us s2 ⟨vs,H2,I2,r,q2⟩=>⟨I2.kIn,?_⟩) hst hpl
 exact kq (us:=.ref a :: us) (vs:=.ref a :: vs) F hr hb hd hx I2 (.cons rfl r) q2
theorem pK {pl:Sem Bool} (he:PE X o ta) (c:Cls X.K C) (hm:Meth X.K C m f) (F:FnOk X.prog X.w X.K X.mg X.base CX k f fd ps sp) (hr:Room k X.A) (hb:Binds X.K fd ps ds) (hd:Vals dvs ds) (hx:dC CX X E)
  (ht:eval (.Call (.Attribute o m apos) [] [] pos) X.env=(do
   let ov←eval o X.env
   standAt apos.atName
   let (f,first)←holding [ov] (getMethod ov m pl)
   callWith pos f first (backTo pos (starEach [] X.env)) (backToKw pos (keywordEach [] X.env))):=by rfl) :
  PE X (.Call (.Attribute o m apos) [] [] pos) (jp C m sp dvs E ta ko):=by
 intro pins s σ H Q I h
 refine PySem.W.methodCall_KW (pl:=pl) (thn (he pins s σ H _ I h) fun u s1 ⟨x,H1,I1,rx,a,dx,fs,ex,ea,l,q⟩=>?_) ht
 subst ex
 obtain rfl:u=Value.ref a:=rx
 refine ei I1 ea c hm l ?_
 exact PySem.W.callWith_K0 (first:=[.ref a]) I1.kIn hm.kp (kq (us:=[.ref a]) (vs:=[.ref a]) F hr hb hd hx I1 (.cons rfl .nil) q)
structure Mk (K:PySem.W.Frag) (C f:Addr):Prop where
 makes:PySem.W.makesIn K C=true
 init:PySem.W.findIn K (.ref C) "__init__" = some (some (.ref f))
 fn:PySem.W.isFn K (.ref f)=true
 kp:PySem.W.keepIn K (.ref C)=true
theorem pL {pins:List (Addr×Obj)} {σ:St} {H:Hp} {s:Shared} {Q:VK} {us:List Value} {vs:List V} (M:Mk X.K C f) (F:FnOk X.prog X.w X.K X.mg X.base CX k f fd ps sp) (hr:Room (k + 1) X.A) (hb:Binds X.K fd ps ds) (hd:Vals dvs ds)
  (hx:dC CX X E) (I:Inv X pins σ H s) (r:Vals vs us)
  (h:∀x dx,H x=none→H dx=none→dx≠x→sp (.ref x :: (vs ++ dvs)) (upd (upd H dx (.own x)) x (.ins C dx [])) (fun v H2=>v=.non∧Q (.ref x) H2) E) :
  wpAny (model X.prog X.w) X.A (call (.ref C) us) (EP X pins σ Q) X.xe s:=by
 have hq:=h (s.heap.objs.size + 1) s.heap.objs.size (I.hok.fresh (Nat.le_succ _)) (I.hok.fresh (Nat.le_refl _)) (Nat.ne_of_lt (Nat.lt_succ_self _))
 have I2:=Inv.made (C:=C) I
 have r2:Vals (V.ref (s.heap.objs.size + 1) :: (vs ++ dvs)) (Value.ref (s.heap.objs.size + 1) :: (us ++ ds)):=.cons rfl (r.append hd)
 have hl:(Value.ref (s.heap.objs.size + 1) :: us ++ ds).length=ps.length:=by
  have e:=r2.length
  rw [F.len _ _ _ _ hq] at e
  exact e.symm
 refine wpAny_call (pH (f:=f) I.kIn M.makes M.init (beq_iff_eq.mp M.fn) (codeAny_mono (F.run _ X.stack _ _ ⟨Value.ref (s.heap.objs.size + 1) :: us,[]⟩ (Value.ref (s.heap.objs.size + 1) :: (us ++ ds)) _ _ E (hr.make C us [])
  (I2.env0.make C us []) (hb _ (Value.ref (s.heap.objs.size + 1) :: us) I2.kIn hl) r2 hq) fun r s' hq'=>?_))
 cases r with
 | error e=>exact hx pins σ _ _ e s' I2 hq'
 | ok fl =>
  cases fl with
  | ret u =>
   obtain ⟨v,H',I3,rv,ev,q3⟩:=I2.after hq'
   subst ev
   exact ⟨rv,⟨V.ref (s.heap.objs.size + 1),H',I3,rfl,q3⟩⟩
  | next=>exact False.elim hq'
  | brk=>exact False.elim hq'
  | cont=>exact False.elim hq'
theorem rL (M:Mk X.K C f) (F:FnOk X.prog X.w X.K X.mg X.base CX k f fd ps sp) (hr:Room (k + 1) X.A) (hg:Gl X x) (hm:X.mg x=some (.ref C)) (hb:Binds X.K fd ps ds) (hd:Vals dvs ds) (hx:dC CX X E)
  (ha:PA X (e :: es) t) (hdb:(x == ("__debug__" : Str))=false:=by decide) (he:starEach (e :: es) X.env=(false,eval e X.env) :: starEach es X.env:=by rfl) (hpl:(backTo pos (starEach es X.env)).any (·.1)=false:=by rfl) :
  PE X (.Call (.Name x p) (e :: es) [] pos) (tY C sp dvs E t):=by
 intro pins s σ H Q I h
 refine wpAny_Call_Name_kw (dQ I hg hm ?_ hdb)
 refine PySem.W.callWith_K (h₀:=X.base) I.ok.mod.kin M.kp (thn (ha pos pins s σ H _ I h) fun us s1 ⟨vs,H1,I1,r,q⟩=>⟨I1.kIn,?_⟩) he hpl
 exact pL M F hr hb hd hx I1 r q
end
section
variable {X:Cx} {CX:CXT} {k:Nat} {f C:Addr} {fd:FuncData} {ps ks:List Str} {sp:Sp} {E:XK} {x m:Str} {p pos apos kpos:Pos} {e o:Expr} {es:List Expr} {kws:List Keyword} {te ta:TE} {t tk:TA} {nm:Option Str}
structure KBinds (K:PySem.W.Frag) (fd:FuncData) (ps ks:List Str) (g:List Value→List Value→List Value) (gV:List V→List V→List V):Prop where
 to:∀ (s:Shared) (us ws:List Value),K.In s.heap→(g us ws).length=ps.length→BindsTo s fd ⟨us,ks.zip ws⟩ (ps.zip (g us ws))
 rel:∀ {vs:List V} {us:List Value} {zs:List V} {ws:List Value},Vals vs us→Vals zs ws→Vals (gV vs zs) (g us ws)
variable {g:List Value→List Value→List Value} {gV:List V→List V→List V}
end
structure FnScope (N P:List Str) (sc:Scope):Prop where
 kind:sc.kind=.function
 co:sc.isCoroutine=false
 gen:sc.isGenerator=false
 nd:N.Nodup
 pre:N.take P.length=P
 par:∀x∈P,sc.names.lookup x=some .local∨sc.names.lookup x=some .cell
 nofree:∀y∈sc.names,y.2≠.free
theorem ig {kindOf:Str→Option NameKind} {x:Str}:∀ {binds:List (Str×Value)} {m:Str→Option Value},(∀v,(x,v)∉binds)→bindL kindOf binds m x=m x
 | [],_,_=>rfl
 | (n,v) :: r,m,h=>by
  unfold bindL
  rw [ig fun w hw=>h w (List.mem_cons_of_mem _ hw)]
  split
  ·have:x≠n:=by rintro rfl; exact h v List.mem_cons_self
   simp [this]
  ·rfl
theorem ii {kindOf:Str→Option NameKind} {x:Str}:∀ {binds:List (Str×Value)} {m:Str→Option Value},(∀v,(x,v)∉binds)→bindC kindOf binds m x=m x
 | [],_,_=>rfl
 | (n,v) :: r,m,h=>by
  unfold bindC
  rw [ii fun w hw=>h w (List.mem_cons_of_mem _ hw)]
  split
  ·rfl
  ·have:x≠n:=by rintro rfl; exact h v List.mem_cons_self
   simp [this]
theorem ij {kindOf:Str→Option NameKind} {x:Str} {v:Value}:∀ {P:List Str} {vs:List Value} {i:Nat} {m:Str→Option Value},P.Nodup→P[i]? = some x→vs[i]? = some v→kindOf x=some .local →
  bindL kindOf (P.zip vs) m x=some v
 | [],_,_,_,_,h,_,_=>by simp at h
 | _ :: _,[],_,_,_,_,h,_=>by simp at h
 | p :: P,w :: vs,0,m,nd,h1,h2,hk=>by
  simp at h1 h2; subst h1; subst h2
  show bindL kindOf ((p,w) :: P.zip vs) m p=_
  unfold bindL
  rw [ig fun v hv=>(List.nodup_cons.mp nd).1 (List.of_mem_zip hv).1,if_pos hk]
  simp
 | p :: P,w :: vs,i + 1,m,nd,h1,h2,hk=>by
  show bindL kindOf ((p,w) :: P.zip vs) m x=_
  unfold bindL
  exact ij (i:=i) (List.nodup_cons.mp nd).2 (by simpa using h1) (by simpa using h2) hk
theorem ik {kindOf:Str→Option NameKind} {x:Str} {v:Value}:∀ {P:List Str} {vs:List Value} {i:Nat} {m:Str→Option Value},P.Nodup→P[i]? = some x→vs[i]? = some v→kindOf x≠some .local →
  bindC kindOf (P.zip vs) m x=some v
 | [],_,_,_,_,h,_,_=>by simp at h
 | _ :: _,[],_,_,_,_,h,_=>by simp at h
 | p :: P,w :: vs,0,m,nd,h1,h2,hk=>by
  simp at h1 h2; subst h1; subst h2
  show bindC kindOf ((p,w) :: P.zip vs) m p=_
  unfold bindC
  rw [ii fun v hv=>(List.nodup_cons.mp nd).1 (List.of_mem_zip hv).1,if_neg hk]
  simp
 | p :: P,w :: vs,i + 1,m,nd,h1,h2,hk=>by
  show bindC kindOf ((p,w) :: P.zip vs) m x=_
  unfold bindC
  exact ik (i:=i) (List.nodup_cons.mp nd).2 (by simpa using h1) (by simpa using h2) hk
def dD (N:List Str) (vs:List V):St:=vs.map some ++ List.replicate (N.length - vs.length) none
def dE (CX:CXT) (P:Program) (w:World) (K:PySem.W.Frag) (mg:Str→Option Value) (base:Heap) (N:List Str) (qual:Str) (scope:Scope) (f:Addr) (cd:Value) (A:Around) (outer:List Env) (s:Shared) (H:Hp) (E:XK):Cx where
 prog:=P
 w:=w
 K:=K
 mg:=mg
 base:=base
 A:=A.deeper (envOfC qual scope s.heap.objs.size f cd)
 N:=N
 s₀:=s
 H₀:=H
 env:=envOfC qual scope s.heap.objs.size f cd
 outer:=outer
 stack:=envOfC qual scope s.heap.objs.size f cd :: outer
 ex:=[]
 calm:=true
 fn:=fun _=>true
 pn:=[]
 xe:=fun e s'=>wpAny (model P w) (A.deeper (envOfC qual scope s.heap.objs.size f cd)) (leaving (envOfC qual scope s.heap.objs.size f cd) e) (fun _ s''=>CX outer H s E e s'') (fun e' s''=>CX outer H s E e' s'') s'
theorem jq {sc:Scope} {n:Nat} {x:Str} (h:sc.names.lookup x=some .cell):∃c,(cellsFrom n sc.names []).lookup x=some c:=by
 have q:=PySem.W.cellsFrom_some sc.names n [] (.inl h)
 exact Option.isSome_iff_exists.mp q
theorem nv {CX:CXT} {P:Program} {w:World} {K:PySem.W.Frag} {mg:Str→Option Value} {base:Heap} {N ps:List Str} {qual:Str} {scope:Scope} {f:Addr} {cd:Value} {A:Around} {outer:List Env} {s s1:Shared} {H:Hp} {E:XK} {us:List Value} {vs:List V}
  (S:FnScope N ps scope) (hd:A.handled=none) (e0:Env0 P w K mg base A outer s H) (hl:vs.length=ps.length) (r:Vals vs us)
  (x:InCallC s s.heap.objs.size (bindL (envOfC qual scope s.heap.objs.size f cd).kindOf (ps.zip us) fun _=>none) (cellsFrom (s.heap.objs.size + 1) scope.names []) (bindC (envOfC qual scope s.heap.objs.size f cd).kindOf (ps.zip us) fun _=>none) s1) :
  Inv (dE CX P w K mg base N qual scope f cd A outer s H E) [] (dD N vs) H s1:=by
 have hpl:ps.length≤N.length:=by have:=congrArg List.length S.pre; rw [List.length_take] at this; omega
 obtain ⟨h1,tk,rfl,hk⟩:=x.done
 have noA:∀b:Addr,b∉(dE CX P w K mg base N qual scope f cd A outer s H E).ex:=fun b z=>absurd (show b∈([]:List Addr) from z) (by simp)
 refine ⟨⟨e0.mod,S.kind,rfl,rfl,Nat.le_refl _,fun y z c h1 h2=>?_,fun y hy=>?_,fun y c _ h=>?_,fun _=>hd,Around.frames_deeper e0.frames,.inr ⟨rfl,rfl⟩,fun b z=>absurd z (noA b),e0.bs,e0.bsz,fun b _ _=>noA b,fun b z=>absurd z (noA b),e0.funs,e0.frf⟩,
  rfl,e0.bare,Un.kept hk,⟨_,x.toInCall.ns,fun i y v h1 h2 h3=>?_⟩,fun y c h=>⟨_,x.cell y c h⟩,e0.hok.fresh (Nat.le_refl _),fun y c h=>?_,fun p hp=>absurd (show p∈([]:List (Addr×Obj)) from hp) (by simp),e0.hok.kept hk,?_⟩
 ·exact name_of_addr x.apart (PySem.mem_of_lookup h1) (PySem.mem_of_lookup h2)
 ·have hy:scope.names.lookup y=some .cell∨scope.names.lookup y=some .free:=hy
  rcases hy with hy | hy
  ·exact jq hy
  ·exact absurd rfl (S.nofree _ (PySem.mem_of_lookup hy))
 ·exact Nat.le_of_lt (x.above y c (PySem.mem_of_lookup h))
 ·have hi:i < vs.length:=by
   unfold dD at h2
   by_cases hi:i < vs.length
   ·exact hi
   ·rw [List.getElem?_append_right (by simpa using hi)] at h2
    rw [List.getElem?_replicate] at h2
    split at h2 <;> cases h2
  have ha:vs[i]? = some v:=by
   unfold dD at h2
   rw [List.getElem?_append_left (by simpa using hi),List.getElem?_map] at h2
   cases e:vs[i]? with
   | none=>rw [e] at h2; cases h2
   | some a=>rw [e] at h2; cases h2; rfl
  obtain ⟨u,hu,rv⟩:=r.get ha
  have hp:ps[i]? = some y:=by
   rw [← S.pre,List.getElem?_take_of_lt (by omega)]; exact h1
  have ndP:ps.Nodup:=by rw [← S.pre]; exact S.nd.sublist (List.take_sublist _ _)
  refine ⟨u,rv,?_⟩
  rcases S.par y (List.mem_of_getElem? hp) with k | k
  ·exact .inl ⟨k,ij ndP hp hu k⟩
  ·obtain ⟨c,e⟩:=jq (n:=s.heap.objs.size + 1) k
   refine .inr ⟨.inl k,c,e,?_⟩
   have q:=x.cell y c e
   rw [ik ndP hp hu (by show scope.names.lookup y≠_; rw [k]; decide)] at q
   exact q
 ·exact e0.hok.fresh (Nat.le_of_lt (x.above y c (PySem.mem_of_lookup h)))
 ·unfold dD
  show _=N.length
  rw [List.length_append,List.length_map,List.length_replicate]
  omega
theorem tZ {CX:CXT} {P:Program} {w:World} {K:PySem.W.Frag} {mg:Str→Option Value} {base:Heap} {k:Nat} {f:Addr} {name qual:Str} {params:Arguments} {body:List Stmt} {scope:Scope} {dV kV doc pm cdv ct oc:Value} {an od:Option Addr}
  {osl:Array (Option Value)} {N ps:List Str} {sp:Sp} (lk:K.lookup f=some ⟨oc,od,.func (PySem.W.fnOf name qual params body scope dV kV doc pm an cdv ct),osl⟩) (hcd:PySem.W.codeIn K cdv qual=true) (S:FnScope N ps scope)
  (len:∀vs H Q E,sp vs H Q E→vs.length=ps.length)
  (hbody:∀ (A:Around) (outer:List Env) (s:Shared) (H:Hp) (vs:List V) (Q:VK) (E:XK),Room k (A.deeper (envOfC qual scope s.heap.objs.size f cdv))→sp vs H Q E →
   ∃t,PSs (dE CX P w K mg base N qual scope f cdv A outer s H E) body t∧t { nx:=fun _ H'=>Q .non H',rt:=Q } (dD N vs) H) :
  FnOk P w K mg base CX (k + 1) f (PySem.W.fnOf name qual params body scope dV kV doc pm an cdv ct) ps sp:=by
 refine ⟨len,fun A outer s H args us vs Q E hr e0 hb r hsp=>?_⟩
 have hl:=len _ _ _ _ hsp
 have KX:K.In s.heap:=e0.mod.kin.keeps fun b o e=>(e0.bs b o e).1
 have lim:s.heap.NoLimit:=e0.mod.nolimit.keeps fun b o e=>(e0.bs b o e).1
 have hkind:∀y∈ps.zip us,scope.names.lookup y.1=some .local∨(scope.names.lookup y.1=some .cell∧((cellsFrom (s.heap.objs.size + 1) scope.names []).lookup y.1).isSome=true):=fun ⟨n,v⟩ hy=>by
  rcases S.par n (List.of_mem_zip hy).1 with q | q
  ·exact .inl q
  ·exact .inr ⟨q,PySem.W.cellsFrom_some _ _ _ (.inl q)⟩
 refine codeAny_call_function hr.depth (KX _ _ lk) rfl S.co S.gen rfl (PySem.W.codeRec_of KX hcd) (hb _ _ _ _ ?_)
 refine wpAny_newFunctionEnv_cells S.kind hkind fun env he s1 x=>?_
 subst he
 refine ⟨lim.keeps x.toInCall.keep,codeAny_func ?_⟩
 obtain ⟨t,ht,hq⟩:=hbody A outer s H vs Q E (hr.deeper _) hsp
 have I:Inv (dE CX P w K mg base N qual scope f cdv A outer s H E) [] (dD N vs) H s1:=nv S hr.hd e0 hl r x
 refine wpAny_mono (ht [] s1 (dD N vs) H _ I hq) (fun fl s' hs=>?_) fun e s' hs=>hs
 have fin:∀ {σ':St} {H':Hp} {v:V} {u:Value},Inv (dE CX P w K mg base N qual scope f cdv A outer s H E) [] σ' H' s'→RelV v u→Q v H'→CE outer P w H s Q u s' :=
  fun {σ' H' v u} J rv q=>⟨v,H',J.os,J.bare,J.base,J.hok,rv,q⟩
 cases fl with
 | ret u =>
  obtain ⟨v,σ',H',J,rv,q⟩:=hs
  exact fin J rv q
 | next =>
  obtain ⟨σ',H',J,q⟩:=hs
  exact fin (v:=V.non) (u:=Value.none) J rfl q
 | brk =>
  obtain ⟨_,_,_,q⟩:=hs
  exact False.elim q
 | cont =>
  obtain ⟨_,_,_,q⟩:=hs
  exact False.elim q
end L2
namespace L2
open PySem PySem.Spec PyProof.Rows
section
variable {X:Cx} {x:Str} {p pos:Pos} {e:Expr} {es:List Expr} {t:TA} {id T:String} {r:List V→Hp→VK→Prop}
def tCB (r:List V→Hp→VK→Prop) (t:TA):TE:=fun σ H Q=>t σ H fun vs H1=>r vs H1 Q
theorem aJ (hc:cP X (.builtin id) r) (hg:Gl X x) (hm:X.mg x=none) (hv:bootBuiltins x=some (.builtin id)) (ha:PA X (e :: es) t) (hn:x ≠ "__name__" := by decide) (hdb:(x == ("__debug__" : Str))=false:=by decide)
  (he:starEach (e :: es) X.env=(false,eval e X.env) :: starEach es X.env:=by rfl) (hpl:(backTo pos (starEach es X.env)).any (·.1)=false:=by rfl):PE X (.Call (.Name x p) (e :: es) [] pos) (tCB r t):=by
 intro pins s σ H Q I h
 refine wpAny_Call_Name_kw (eh I hg hm hv ?_ hn hdb)
 exact PyProof.Rows.callWith_builtin1 (thn (ha pos pins s σ H _ I h) fun us s1 ⟨vs,H1,I1,r1,q1⟩=>hc pins s1 σ H1 vs us Q I1 r1 q1) he hpl
theorem fF (hc:cP X (.type T) r) (hg:Gl X x) (hm:X.mg x=none) (hv:bootBuiltins x=some (.type T)) (ha:PA X (e :: es) t) (hn:x ≠ "__name__" := by decide) (hdb:(x == ("__debug__" : Str))=false:=by decide)
  (he:starEach (e :: es) X.env=(false,eval e X.env) :: starEach es X.env:=by rfl) (hpl:(backTo pos (starEach es X.env)).any (·.1)=false:=by rfl):PE X (.Call (.Name x p) (e :: es) [] pos) (tCB r t):=by
 intro pins s σ H Q I h
 refine wpAny_Call_Name_kw (eh I hg hm hv ?_ hn hdb)
 exact PyProof.Rows.callWith_type1 (thn (ha pos pins s σ H _ I h) fun us s1 ⟨vs,H1,I1,r1,q1⟩=>hc pins s1 σ H1 vs us Q I1 r1 q1) he hpl
end
end L2
namespace HT
open PySem PyProof.Rows
section
open PySem.SeqAt
open PySem.AutoSeq1 (wpAny_loadPart')
open PySem.MeetsSeq PySem.MeetsSeq2 PySem.MeetsSeq3
end
section
variable {prog:Program} {w:World} {A:Around} {E:Value→Shared→Prop} {s:Shared}
theorem cat_tup {t b:Addr} {vs ws:List Value} {Q:Value→Shared→Prop} (ht:IsTup s.heap t vs.toArray) (hb:IsTup s.heap b ws.toArray) (hv:vs≠[])
  (h1:ws=[]→Q (.ref t) s) (h2:ws≠[]→Q (.ref s.heap.objs.size) { s with heap:=s.heap.push { cls:=.type "tuple",data:=.seq (vs ++ ws).toArray } })
  (hsz:vs.length + ws.length≤sizeLine):wpAny (model prog w) A (binaryOp .Add (.ref t) (.ref b)) Q E s:=by
 obtain ⟨⟨cls,dd,data,sl⟩,ho,hc,n,hd⟩:=id ht
 obtain ⟨⟨cls2,dd2,data2,sl2⟩,ho2,hc2,n2,hd2⟩:=id hb
 simp only at hc hd hc2 hd2
 subst hc hd hc2 hd2
 have e:vs.toArray ++ ws.toArray=(vs ++ ws).toArray:=by simp
 by_cases hw:ws=[]
 ·exact concat_meets ⟨_,ho,rfl⟩ ⟨_,ho2,rfl⟩ noFill_tuple_add seq_tuple_add PySem.F.slot_tuple_add PySem.F.entry_tuple_add (PySem.F.args_tuple_add_2 _ _)
   (tuple_addW1 t b vs.toArray ws.toArray n n2 dd dd2 sl sl2 (by simpa using hv) (by simp [hw])) ⟨ho,ho2,h1 hw⟩
 ·refine concat_meets ⟨_,ho,rfl⟩ ⟨_,ho2,rfl⟩ noFill_tuple_add seq_tuple_add PySem.F.slot_tuple_add PySem.F.entry_tuple_add (PySem.F.args_tuple_add_2 _ _)
   (tuple_addW2 t b vs.toArray ws.toArray n n2 dd dd2 sl sl2 (by simpa using hv) (by simpa using hw) (by rw [List.size_toArray,List.size_toArray]; exact hsz)) ⟨ho,ho2,?_⟩
  rw [e]
  exact h2 hw
def sIx (n d:Nat):Option Int→Nat
 | none=>d
 | some v=>if v < 0 then (v + (n:Int)).toNat else min v.toNat n
end
end HT
namespace L2
open PySem PySem.Spec PyProof.Rows
abbrev TO:=St→Hp→(Option Int→Hp→Prop)→Prop
def PO (X:Cx) (e:Option Expr) (t:TO):Prop :=
 ∀ (pins:List (Addr×Obj)) (s:Shared) (σ:St) (H:Hp) (Q:Option Int→Hp→Prop),Inv X pins σ H s→t σ H Q →
  wpAny (model X.prog X.w) X.A (evalPart e X.env) (fun u s'=>∃o H',Inv X pins σ H' s'∧IsPart u o∧Q o H') X.xe s
def zn (t:TE):TO:=fun σ H Q=>t σ H fun x H1=>∃i,x=.int i∧Q (some i) H1
section
variable {X:Cx} {e:Expr} {te:TE} {lo hi:Option Expr} {tl th:TO} {pos p2:Pos}
theorem my (h:PE X e te):PO X (some e) (zn te):=by
 intro pins s σ H Q I hw
 rw [evalPart_some]
 refine thn (h pins s σ H _ I hw) fun u s1 ⟨x,H1,I1,r1,q1⟩=>?_
 obtain ⟨i,rfl,q⟩:=q1
 obtain ⟨t,rfl⟩:=r1
 exact ⟨some i,H1,I1,.int i t,q⟩
def SlR (X:Cx) (r:V→Option Int→Option Int→Hp→VK→Prop):Prop :=
 ∀ (pins:List (Addr×Obj)) (s:Shared) (σ:St) (H:Hp) (x:V) (v vl vu:Value) (lo hi:Option Int) (sl:Addr) (Q:VK),Inv X pins σ H s→RelV x v→s.heap.IsSliceOf sl vl vu .none→IsPart vl lo→IsPart vu hi→r x lo hi H Q →
  ∃T id,typeLookup (.type T) "__getitem__" = pure (some (.builtin id))∧s.TypeIs v T∧wpAny (model X.prog X.w) X.A (getItem v (.ref sl)) (EP X pins σ Q) X.xe s
def tSl (r:V→Option Int→Option Int→Hp→VK→Prop) (te:TE) (tl th:TO):TE:=fun σ H Q=>te σ H fun x H1=>tl σ H1 fun l H2=>th σ H2 fun u H3=>r x l u H3 Q
theorem pM {r:V→Option Int→Option Int→Hp→VK→Prop} (hr:SlR X r) (he:PE X e te) (hl:PO X lo tl) (hu:PO X hi th):PE X (.Subscript e (.Slice lo hi none p2) pos) (tSl r te tl th):=by
 intro pins s σ H Q I h
 refine Subscript_ (thn (he pins s σ H _ I h) fun v s1 ⟨x,H1,I1,r1,q1⟩=>?_)
 refine wpAny_Slice (thn (hl pins s1 σ H1 _ I1 q1) fun vl s2 ⟨l,H2,I2,pl,q2⟩=>thn (hu pins s2 σ H2 _ I2 q2) fun vu s3 ⟨u,H3,I3,pu,q3⟩=>?_)
 rw [evalPart_none]
 refine wpAny_pure ?_
 have I4:Inv X pins σ H3 { s3 with heap:=s3.heap.push { cls:=.type "slice", data:=.fields #[vl, vu, .none] } }:=I3.kept (t':=s3.toks) fun b ob q=>Heap.get?_push_of_some _ q
 obtain ⟨T,id,hT,ht,hg⟩:=hr pins { s3 with heap:=s3.heap.push { cls:=.type "slice",data:=.fields #[vl,vu,.none] } } σ H3 x v vl vu l u s3.heap.objs.size Q I4 r1 (Heap.IsSliceOf.new ..) pl pu q3
 show wpAny (model X.prog X.w) X.A (subscriptTail e (.Slice lo hi none p2) v (.ref s3.heap.objs.size)) (EP X pins σ Q) X.xe { s3 with heap:=s3.heap.push { cls:=.type "slice",data:=.fields #[vl,vu,.none] } }
 exact tail_any (ops:=[.ref s3.heap.objs.size,v]) ht hT hg (by with_unfolding_all rfl)
def gx (xs:List V) (lo hi:Option Int):List V:=(xs.drop (HT.sIx xs.length 0 lo)).take (HT.sIx xs.length xs.length hi - HT.sIx xs.length 0 lo)
theorem fT (xs:List V) (lo hi:Option Int):(gx xs lo hi).length≤xs.length:=by
 unfold gx
 rw [List.length_take,List.length_drop]
 omega
def ua (K:PySem.W.Frag):R2:=fun x y H Q=>∃a b xs ys,x=.ref a∧y=.ref b∧SqT K H a xs∧SqT K H b ys∧xs≠[]∧xs.length + ys.length≤sizeLine ∧
 (ys=[]→Q (.ref a) H)∧(ys≠[]→∀p,H p=none→Q (.ref p) (upd H p (.tup (xs ++ ys))))
theorem Vals.nil_iff {xs:List V} {us:List Value} (r:Vals xs us):us=[]↔xs=[]:=by
 cases r with
 | nil=>simp
 | cons _ _=>simp
theorem mz:OpR X (binaryOp .Add) (ua X.K):=by
 intro pins s σ H x y v u Q I rx ry h
 obtain ⟨a,b,xs,ys,rfl,rfl,ha,hb,hx,hz,q1,q2⟩:=h
 cases rx
 cases ry
 obtain ⟨its,r1,p1,_⟩:=I.tuple ha
 obtain ⟨its2,r2,p2,_⟩:=I.tuple hb
 refine HT.cat_tup p1 p2 (fun z=>hx (r1.nil_iff.mp z)) (fun z=>⟨.ref a,H,I,rfl,q1 (r2.nil_iff.mp z)⟩) (fun z=>?_) (by rw [← r1.length,← r2.length]; exact hz)
 refine ⟨.ref s.heap.objs.size,_,I.laid (t':=s.toks) (o:=.tup (xs ++ ys)) (fun b ob q=>Heap.get?_push_of_some _ q) (Nat.le_refl _) ?_,rfl,q2 (fun w=>z (r2.nil_iff.mpr w)) _ (I.hok.fresh (Nat.le_refl _))⟩
 exact ⟨by rw [List.length_append]; exact hz,_,r1.append r2,IsTup.new _ _⟩
end
end L2
namespace L2
open PySem PySem.Spec PyProof.Rows
def ixN (n:Nat) (i:Int):Option Nat:=if 0≤i then (if i < n then some i.toNat else none) else if -(n:Int)≤i then some (i + n).toNat else none
def atI {α:Type} (xs:List α) (i:Int):Option α:=(ixN xs.length i).bind fun j=>xs[j]?
theorem mC {n:Nat} {i:Int} {j:Nat} (h:ixN n i=some j):seqIndex? i n=some j∧j < n∧-(n:Int)≤i∧i < n:=by
 unfold ixN at h
 by_cases h0:0≤i
 ·rw [if_pos h0] at h
  by_cases h1:i < n
  ·rw [if_pos h1] at h
   have e:i.toNat=j:=Option.some.inj h
   exact ⟨by rw [seqIndex_of h0 h1,e],by omega,by omega,h1⟩
  ·rw [if_neg h1] at h; cases h
 ·rw [if_neg h0] at h
  by_cases h1:-(n:Int)≤i
  ·rw [if_pos h1] at h
   have e:(i + n).toNat=j:=Option.some.inj h
   exact ⟨by rw [seqIndex_neg (by omega) h1,e],by omega,h1,by omega⟩
  ·rw [if_neg h1] at h; cases h
theorem iG {α:Type} {xs:List α} {i:Int} {v:α} (h:atI xs i=some v):∃j,seqIndex? i xs.length=some j∧xs[j]? = some v∧j < xs.length∧-(xs.length:Int)≤i∧i < xs.length:=by
 unfold atI at h
 cases e:ixN xs.length i with
 | none=>rw [e] at h; cases h
 | some j =>
  rw [e] at h
  obtain ⟨h1,h2,h3,h4⟩:=mC e
  exact ⟨j,h1,h,h2,h3,h4⟩
theorem rM {α:Type} {xs:List α} {j:Nat} {v:α} (h:xs[j]? = some v):atI xs (j:Int)=some v:=by
 have hj:j < xs.length:=(List.getElem?_eq_some_iff.mp h).1
 have e:ixN xs.length (j:Int)=some j:=by
  unfold ixN
  rw [if_pos (by omega),if_pos (by omega)]; simp
 unfold atI; rw [e]; exact h
def rN (b:Expr):Prop:=∀o i,subscripted b false o i=operate [o,i] (getItem o i)
def IxR (X:Cx) (r:R2):Prop :=
 ∀ (value slice:Expr) (pins:List (Addr×Obj)) (s:Shared) (σ:St) (H:Hp) (x y:V) (v u:Value) (Q:VK),Inv X pins σ H s→RelV x v→RelV y u→r x y H Q →
  subscripted slice false v u=operate [v,u] (getItem v u)→wpAny (model X.prog X.w) X.A (subscriptTail value slice v u) (EP X pins σ Q) X.xe s
def MtR (X:Cx) (id:String) (r:V→List V→Hp→VK→Prop):Prop :=
 ∀ (pins:List (Addr×Obj)) (s:Shared) (σ:St) (H:Hp) (x:V) (xs:List V) (v:Value) (us:List Value) (Q:VK),Inv X pins σ H s→RelV x v→Vals xs us→r x xs H Q →
  wpAny (model X.prog X.w) X.A (call (.builtin id) (v :: us)) (EP X pins σ Q) X.xe s
section
variable {X:Cx} {a b:Expr} {ta tb:TE} {pos:Pos}
theorem IxR.or {r r':R2} (h:IxR X r) (h':IxR X r'):IxR X (fun x y H Q=>r x y H Q∨r' x y H Q):=by
 intro value slice pins s σ H x y v u Q I rx ry q hs
 rcases q with q | q
 ·exact h value slice pins s σ H x y v u Q I rx ry q hs
 ·exact h' value slice pins s σ H x y v u Q I rx ry q hs
theorem aD {r:R2} (hr:IxR X r) (ha:PE X a ta) (hb:PE X b tb) (hs:rN b):PE X (.Subscript a b pos) (tOp r ta tb):=by
 intro pins s σ H Q I h
 exact Subscript_ (ut ha hb I h fun v u s2 x y H2 I2 rx ry q=>hr a b pins s2 σ H2 x y v u Q I2 rx ry q (hs _ _))
def zo (K:PySem.W.Frag):R2:=fun x y H Q=>∃p xs i v,x=.ref p∧y=.int i∧SqL K H p xs∧atI xs i=some v∧Q v H
def zp (K:PySem.W.Frag):R2:=fun x y H Q=>∃p xs i v,x=.ref p∧y=.int i∧SqT K H p xs∧atI xs i=some v∧Q v H
def zq:R2:=fun x y H Q=>∃z i c,x=.str z∧y=.int i∧z.length≤sizeLine∧atI z.cps.toList i=some c∧Q (.str ⟨#[c]⟩) H
theorem ix_list:IxR X (zo X.K):=by
 intro value slice pins s σ H x y v u Q I rx ry h hs
 obtain ⟨p,xs,i,z,rfl,rfl,hq,he,q⟩:=h
 cases rx
 obtain ⟨t,rfl⟩:=ry
 obtain ⟨its,r,pl,hz⟩:=I.list hq
 obtain ⟨j,h1,h2,h3,h4,h5⟩:=iG he
 obtain ⟨w,ew,rw'⟩:=r.get h2
 have hl:=r.length
 have hn:=fB
 have fin:EP X pins σ Q w s:=⟨z,H,I,rw',q⟩
 by_cases h0:0≤i
 ·have hj:i.toNat=j:=by
   rw [seqIndex_of h0 h5] at h1
   exact Option.some.inj h1
  exact item_listR pl.isList h0 (by omega) (by rw [hj]; simpa using ew) fin hs
 ·have hj:(i + (its.toArray.size:Int)).toNat=j:=by
   rw [seqIndex_neg (by omega) h4] at h1
   rw [List.size_toArray,← hl]
   exact Option.some.inj h1
  exact subscriptTail_builtinR (x:=w) pl.isList.typeIs slot_list_getitem.lookup
   (wpAny_getItem_list_neg (Q:=fun r s'=>r=w∧EP X pins σ Q r s') pl.isList (by omega) (by rw [List.size_toArray] <;> omega) (by omega) (by rw [hj]; simpa using ew) ⟨rfl,fin⟩) hs
theorem ix_tup:IxR X (zp X.K):=by
 intro value slice pins s σ H x y v u Q I rx ry h hs
 obtain ⟨p,xs,i,z,rfl,rfl,hq,he,q⟩:=h
 cases rx
 obtain ⟨t,rfl⟩:=ry
 obtain ⟨its,r,pl,hz⟩:=I.tuple hq
 obtain ⟨j,h1,h2,h3,h4,h5⟩:=iG he
 obtain ⟨w,ew,rw'⟩:=r.get h2
 have hl:=r.length
 have hn:=fB
 have fin:EP X pins σ Q w s:=⟨z,H,I,rw',q⟩
 exact subscriptTail_builtinR (x:=w) pl.typeIs slot_tuple_getitem.lookup
  (getItem_tuple (j:=j) (Q:=fun r s'=>r=w∧EP X pins σ Q r s') pl (by omega) (by omega) (by rw [List.size_toArray,← hl]; exact h1) (by simpa using ew) ⟨rfl,fin⟩) hs
theorem uw:IxR X zq:=by
 intro value slice pins s σ H x y v u Q I rx ry h hs
 obtain ⟨z,i,c,rfl,rfl,hz,he,q⟩:=h
 obtain ⟨t,rfl⟩:=rx
 obtain ⟨t',rfl⟩:=ry
 obtain ⟨j,h1,h2,h3,h4,h5⟩:=iG he
 have hl:z.cps.toList.length=z.length:=by simp [Str.length]
 rw [hl] at h1 h4 h5
 have hn:=fB
 exact tail_any (typeIs_str s z t) slot_str_getitem.lookup (getItem_str (c:=c) (by
  have e1:decide (i < -(2 ^ 63:Int))=false:=decide_eq_false (by omega)
  have e2:decide (i≥2 ^ 63)=false:=decide_eq_false (by omega)
  rw [e1,e2,Bool.or_false]) (by rw [h1]; simpa using h2) ⟨.str ⟨#[c]⟩,H,I.tok _,⟨_,rfl⟩,q⟩) hs
def rIx (K:PySem.W.Frag):R2:=fun x y H Q=>zo K x y H Q∨zp K x y H Q∨zq x y H Q
theorem bS:IxR X (rIx X.K):=ix_list.or (ix_tup.or uw)
theorem kr (its:List Value) (n j:Nat) (u:Value):Obj.mapSeq (·.setIfInBounds j u) { cls:=.type "list",data:=.seq its.toArray n }={ cls:=.type "list",data:=.seq (its.set j u).toArray n }:=by
 simp [Obj.mapSeq]
theorem Inv.lst {pins:List (Addr×Obj)} {σ:St} {H:Hp} {s:Shared} {p:Addr} {xs:List V} (I:Inv X pins σ H s) (h:H p=some (.lst xs)) :
  ∃ (its:List Value) (n:Nat),Vals xs its∧s.heap.get? p=some { cls:=.type "list",data:=.seq its.toArray n }∧xs.length≤sizeLine:=by
 obtain ⟨z,its,n,r,e⟩:=I.hok p _ h
 exact ⟨its,n,r,e,z⟩
theorem Inv.lstUpd {pins:List (Addr×Obj)} {σ:St} {H:Hp} {s:Shared} {p:Addr} {xs ys:List V} {its its':List Value} {n n':Nat} {f:Obj→Obj} (I:Inv X pins σ H s) (h:H p=some (.lst xs))
  (ho:s.heap.get? p=some { cls:=.type "list", data:=.seq its.toArray n }) (hf:f { cls:=.type "list", data:=.seq its.toArray n }={ cls:=.type "list", data:=.seq its'.toArray n' }) (r:Vals ys its') (hz:ys.length≤sizeLine) (t:Nat) :
  Inv X pins σ (upd H p (.lst ys)) { s with heap:=s.heap.update p f,toks:=t }:=by
 have e:(s.heap.update p f).get? p=some { cls:=.type "list", data:=.seq its'.toArray n' }:=by
  rw [Heap.get?_update_self f ho (by rw [hf] <;> rfl),hf]
 refine I.write (x:=p) (e:=p) (by rw [h]; trivial) (.inl rfl) (fun b u hb q=>(Heap.get?_update_other _ _ (Ne.symm hb)).trans q) ⟨_,e⟩ ?_
 exact ⟨hz,its',n',r,e⟩
def zr:V→V→V→Hp→(Hp→Prop)→Prop:=fun o i v H Q=>∃p xs k j,o=.ref p∧i=.int k∧H p=some (.lst xs)∧ixN xs.length k=some j∧Q (upd H p (.lst (xs.set j v)))
theorem jr:yY X zr:=by
 intro pins s σ H o i v ov iv u Q I ro ri rv h
 obtain ⟨p,xs,k,j,rfl,rfl,hp,hj,q⟩:=h
 cases ro
 obtain ⟨t,rfl⟩:=ri
 obtain ⟨its,n,r,ho,hz⟩:=I.lst hp
 obtain ⟨h1,h2,h3,h4⟩:=mC hj
 have hl:=r.length
 have hn:=fB
 have I':Inv X pins σ (upd H p (.lst (xs.set j v))) { s with heap:=s.heap.update p (Obj.mapSeq (·.setIfInBounds j u)) } :=
  I.lstUpd hp ho (kr its n j u) (r.set rv j) (by rw [List.length_set]; exact hz) s.toks
 by_cases h0:0≤k
 ·have hk:k.toNat=j:=by
   rw [seqIndex_of h0 h4] at h1
   exact Option.some.inj h1
  exact PySem.W.ki_setAt ho h0 (by omega) (by rw [List.size_toArray,← hl]; exact h4) (by rw [hk]; exact ⟨_,I',q⟩)
 ·have hk:(k + (its.toArray.size:Int)).toNat=j:=by
   rw [seqIndex_neg (by omega) h3] at h1
   rw [List.size_toArray,← hl]
   exact Option.some.inj h1
  exact PySem.W.ki_setBack ho (by omega) (by rw [List.size_toArray,← hl]; exact h3) (by omega) (by rw [hk]; exact ⟨_,I',q⟩)
theorem iH (lo hi:Option Int) (n:Nat):(sliceBounds lo hi none n).1=((HT.sIx n 0 lo:Nat):Int)∧(sliceBounds lo hi none n).2.1=((HT.sIx n n hi:Nat):Int)∧(sliceBounds lo hi none n).2.2=1:=by
 refine ⟨?_,?_,rfl⟩
 ·cases lo with
  | none=>simp [sliceBounds,HT.sIx]
  | some i =>
   simp only [sliceBounds,HT.sIx,Option.getD_none,show (1:Int) > 0 by decide,if_true]
   by_cases h:i < 0
   ·simp only [h,if_true] <;> omega
   ·simp only [h,if_false] <;> omega
 ·cases hi with
  | none=>simp [sliceBounds,HT.sIx]
  | some i =>
   simp only [sliceBounds,HT.sIx,Option.getD_none,show (1:Int) > 0 by decide,if_true]
   by_cases h:i < 0
   ·simp only [h,if_true] <;> omega
   ·simp only [h,if_false] <;> omega
theorem hI (its:List Value) (lo hi:Option Int):slicePick its.toArray lo hi none=((its.drop (HT.sIx its.length 0 lo)).take (HT.sIx its.length its.length hi - HT.sIx its.length 0 lo)).toArray:=by
 obtain ⟨h1,h2,h3⟩:=iH lo hi its.toArray.size
 unfold slicePick
 rw [h1,h2,h3]
 simp only [sliceRange_one,pick_run,List.size_toArray] <;> rfl
def Eu (K:PySem.W.Frag):V→Option Int→Option Int→Hp→VK→Prop:=fun x lo hi H Q=>∃a xs,x=.ref a∧SqL K H a xs∧∀p,H p=none→Q (.ref p) (upd H p (.lst (gx xs lo hi)))
theorem rO:SlR X (Eu X.K):=by
 intro pins s σ H x v vl vu lo hi sl Q I rx hs pl pu h
 obtain ⟨a,xs,rfl,hx,q⟩:=h
 cases rx
 obtain ⟨its,r,ht,hz⟩:=I.list hx
 have hlen:=r.length
 refine ⟨"list",_,slot_list_getitem.lookup,ht.isList.typeIs,?_⟩
 refine wpAny_getItem_list_slice ht.isList hs pl pu .none (by simp) ?_ (by rw [List.size_toArray] <;> omega)
 rw [hI,← hlen]
 refine ⟨.ref s.heap.objs.size,_,I.laid (t':=s.toks) (o:=.lst (gx xs lo hi)) (fun b ob q=>Heap.get?_push_of_some _ q) (Nat.le_refl _) ?_,rfl,q _ (I.hok.fresh (Nat.le_refl _))⟩
 exact ⟨Nat.le_trans (fT xs lo hi) hz,_,0,(r.drop (HT.sIx xs.length 0 lo)).take (HT.sIx xs.length xs.length hi - HT.sIx xs.length 0 lo),Heap.get?_push_size _ rfl⟩
def dX:V→Bool
 | .non=>true
 | .bl _=>true
 | .int _=>true
 | .str _=>true
 | _=>false
def eqV:V→V→Bool
 | .non,.non=>true
 | .bl a,.bl b=>a == b
 | .bl a,.int b=>(if a then 1 else 0) == b
 | .int a,.bl b=>a == (if b then 1 else 0)
 | .int a,.int b=>a == b
 | .str a,.str b=>a == b
 | _,_=>false
theorem ux {A:Around} {s:Shared} {y x:V} {u v:Value} (ry:RelV y u) (rx:RelV x v) (fy:dX y=true) (fx:dX x=true):SeqAt.EqAt A s u v (eqV y x):=by
 cases y with
 | non =>
  cases ry
  cases x with
  | non=>cases rx; exact SeqAt.EqAt.same _
  | bl b=>cases rx; exact SeqAt.EqAt.none_bool b
  | int b=>obtain ⟨t,rfl⟩:=rx; exact SeqAt.EqAt.none_int b t
  | str b=>obtain ⟨t,rfl⟩:=rx; exact SeqAt.EqAt.none_str b t
  | _=>exact absurd (show false=true from fx) Bool.false_ne_true
 | bl a =>
  cases ry
  cases x with
  | non=>cases rx; exact SeqAt.EqAt.bool_none a
  | bl b=>cases rx; exact SeqAt.EqAt.bool_bool a b
  | int b=>obtain ⟨t,rfl⟩:=rx; exact SeqAt.EqAt.bool_int a b t
  | str b=>obtain ⟨t,rfl⟩:=rx; exact SeqAt.EqAt.bool_str a b t
  | _=>exact absurd (show false=true from fx) Bool.false_ne_true
 | int a =>
  obtain ⟨t',rfl⟩:=ry
  cases x with
  | non=>cases rx; exact SeqAt.EqAt.int_none a t'
  | bl b=>cases rx; exact SeqAt.EqAt.int_bool a t' b
  | int b=>obtain ⟨t,rfl⟩:=rx; exact SeqAt.EqAt.int_int a t' b t
  | str b=>obtain ⟨t,rfl⟩:=rx; exact SeqAt.EqAt.int_str a t' b t
  | _=>exact absurd (show false=true from fx) Bool.false_ne_true
 | str a =>
  obtain ⟨t',rfl⟩:=ry
  cases x with
  | non=>cases rx; exact SeqAt.EqAt.str_none a t'
  | bl b=>cases rx; exact SeqAt.EqAt.str_bool a t' b
  | int b=>obtain ⟨t,rfl⟩:=rx; exact SeqAt.EqAt.str_int a t' b t
  | str b=>obtain ⟨t,rfl⟩:=rx; exact SeqAt.EqAt.str_str a t' b t
  | _=>exact absurd (show false=true from fx) Bool.false_ne_true
 | _=>exact absurd (show false=true from fy) Bool.false_ne_true
def eqU (x:V) (u:Value):Bool:=match u with
 | .none=>eqV .non x
 | .bool b=>eqV (.bl b) x
 | .int i _=>eqV (.int i) x
 | .str z _=>eqV (.str z) x
 | _=>false
theorem pN {x y:V} {u:Value} (r:RelV y u) (f:dX y=true):eqU x u=eqV y x:=by
 cases y with
 | non=>cases r; rfl
 | bl b=>cases r; rfl
 | int i=>obtain ⟨t,rfl⟩:=r; rfl
 | str z=>obtain ⟨t,rfl⟩:=r; rfl
 | _=>exact absurd (show false=true from f) Bool.false_ne_true
theorem eG {x:V}:∀ {xs:List V} {us:List Value},Vals xs us→xs.all dX=true→us.any (eqU x)=xs.any fun y=>eqV y x
 | _,_,.nil,_=>rfl
 | y :: xs,u :: us,.cons r t,f=>by
  rw [List.all_cons,Bool.and_eq_true] at f
  rw [List.any_cons,List.any_cons,pN r f.1,eG t f.2]
theorem dF {A:Around} {s:Shared} {x:V} {v:Value} (rx:RelV x v) (fx:dX x=true):∀ {xs:List V} {us:List Value},Vals xs us→xs.all dX=true→∀u∈us,SeqAt.EqAt A s u v (eqU x u)
 | _,_,.nil,_=>fun u hu=>by cases hu
 | y :: xs,u :: us,.cons r t,f=>fun u' hu=>by
  rw [List.all_cons,Bool.and_eq_true] at f
  rcases List.mem_cons.mp hu with rfl | hu
  ·rw [pN r f.1]; exact ux r rx f.1 fx
  ·exact dF rx fx t f.2 u' hu
def inV (x:V) (xs:List V):Bool:=xs.any fun y=>eqV y x
def rIn (K:PySem.W.Frag) (neg:Bool):R2:=fun x y H Q=>∃p xs,y=.ref p∧(SqL K H p xs∨SqT K H p xs)∧dX x=true∧xs.all dX=true∧Q (.bl (if neg then !inV x xs else inV x xs)) H
theorem im:OpR X (compareOp .In) (rIn X.K false):=by
 intro pins s σ H x y v u Q I rx ry h
 obtain ⟨p,xs,rfl,hq,fx,fs,q⟩:=h
 cases ry
 rcases hq with hq | hq
 ·obtain ⟨its,r,pl,hz⟩:=I.list hq
  refine SeqAt.in_listAt (eqU x) pl.isList (fun w hw=>dF rx fx r fs w (by simpa using hw)) ⟨.bl _,H,I,rfl,?_⟩
  rw [show its.toArray.any (eqU x)=its.any (eqU x) by simp,eG r fs]
  exact q
 ·obtain ⟨its,r,pl,hz⟩:=I.tuple hq
  refine SeqAt.in_tupleAt (eqU x) pl (fun w hw=>dF rx fx r fs w (by simpa using hw)) ⟨.bl _,H,I,rfl,?_⟩
  rw [show its.toArray.any (eqU x)=its.any (eqU x) by simp,eG r fs]
  exact q
theorem iI:OpR X (compareOp .NotIn) (rIn X.K true):=by
 intro pins s σ H x y v u Q I rx ry h
 obtain ⟨p,xs,rfl,hq,fx,fs,q⟩:=h
 cases ry
 rcases hq with hq | hq
 ·obtain ⟨its,r,pl,hz⟩:=I.list hq
  refine SeqAt.notIn_listAt (eqU x) pl.isList (fun w hw=>dF rx fx r fs w (by simpa using hw)) ⟨.bl _,H,I,rfl,?_⟩
  rw [show its.toArray.any (eqU x)=its.any (eqU x) by simp,eG r fs]
  exact q
 ·obtain ⟨its,r,pl,hz⟩:=I.tuple hq
  refine SeqAt.notIn_tupleAt (eqU x) pl (fun w hw=>dF rx fx r fs w (by simpa using hw)) ⟨.bl _,H,I,rfl,?_⟩
  rw [show its.toArray.any (eqU x)=its.any (eqU x) by simp,eG r fs]
  exact q
theorem bn:cP X (.builtin "len") (fun xs H Q=>∃p ys,xs=[.ref p]∧(SqL X.K H p ys∨SqT X.K H p ys)∧Q (.int ys.length) H):=by
 intro pins s σ H xs us Q I r h
 obtain ⟨p,ys,rfl,hq,q⟩:=h
 obtain ⟨u,rfl,rx⟩:=mw r
 cases rx
 have hn:=fB
 rcases hq with hq | hq
 ·obtain ⟨its,r',pl,hz⟩:=I.list hq
  have hlen:=r'.length
  exact Calls.call_len_list pl.isList (by simp only [List.size_toArray] <;> omega) ⟨.int ys.length,H,I.tok _,⟨s.toks + 1,by rw [List.size_toArray,hlen]⟩,q⟩
 ·obtain ⟨its,r',pl,hz⟩:=I.tuple hq
  have hlen:=r'.length
  exact len_tuple pl (by simp only [List.size_toArray] <;> omega) ⟨.int ys.length,H,I.tok _,⟨s.toks + 1,by rw [List.size_toArray,hlen]⟩,q⟩
theorem iJ:cP X (.type "list") (fun xs H Q=>∃p ys,xs=[.ref p]∧(SqL X.K H p ys∨SqT X.K H p ys)∧∀l,H l=none→Q (.ref l) (upd H l (.lst ys))):=by
 intro pins s σ H xs us Q I r h
 obtain ⟨p,ys,rfl,hq,q⟩:=h
 obtain ⟨u,rfl,rx⟩:=mw r
 cases rx
 have fin:∀ (its:List Value),Vals ys its→ys.length≤sizeLine→∀ (h':Heap) (c':Nat),(∀b o',s.heap.get? b=some o'→h'.get? b=some o') →
   h'.get? s.heap.objs.size=some { cls:=.type "list", dict:=none, data:=.seq its.toArray c', slots:=#[] }→EP X pins σ Q (.ref s.heap.objs.size) { s with heap:=h' }:=fun its r' hz h' c' kp e =>
  ⟨.ref s.heap.objs.size,_,I.laid (t':=s.toks) kp (Nat.le_refl _) (show ObjOk X.prog X.w _ h' _ (.lst ys) from ⟨hz,its,c',r',e⟩),rfl,q _ (I.hok.fresh (Nat.le_refl _))⟩
 rcases hq with hq | hq
 ·obtain ⟨its,r',pl,hz⟩:=I.list hq
  have hlen:=r'.length
  obtain ⟨o,ho,hc,n,hd⟩:=pl.isList
  exact call_list_seq p (.inl rfl) ho hc hd (fun h' c' kp e=>fin its r' hz h' c' kp e) (by simp only [List.size_toArray] <;> omega)
 ·obtain ⟨its,r',pl,hz⟩:=I.tuple hq
  have hlen:=r'.length
  obtain ⟨o,ho,hc,n,hd⟩:=pl
  exact call_list_seq p (.inr rfl) ho hc hd (fun h' c' kp e=>fin its r' hz h' c' kp e) (by simp only [List.size_toArray] <;> omega)
theorem dY:cP X (.type "tuple") (fun xs H Q=>∃p ys,xs=[.ref p]∧((SqL X.K H p ys∧∀l,H l=none→Q (.ref l) (upd H l (.tup ys)))∨(SqT X.K H p ys∧Q (.ref p) H))):=by
 intro pins s σ H xs us Q I r h
 obtain ⟨p,ys,rfl,h⟩:=h
 obtain ⟨u,rfl,rx⟩:=mw r
 cases rx
 rcases h with ⟨hq,q⟩ | ⟨hq,q⟩
 ·obtain ⟨its,r',pl,hz⟩:=I.list hq
  have hlen:=r'.length
  refine call_tuple_list pl.isList (fun h' kp=>?_) (by simp only [List.size_toArray] <;> omega)
  have I1:Inv X pins σ H { s with heap:=h' }:=I.kept (t':=s.toks) kp
  have I2:Inv X pins σ (upd H h'.objs.size (.tup ys)) { s with heap:=h'.push { cls:=.type "tuple", data:=.seq its.toArray } } :=
   I1.laid (t':=s.toks) (fun b o e=>Heap.get?_push_of_some _ e) (Nat.le_refl _) (show ObjOk X.prog X.w _ _ _ (.tup ys) from ⟨hz,its,r',IsTup.new _ _⟩)
  exact ⟨.ref h'.objs.size,_,I2,rfl,q _ (I1.hok.fresh (Nat.le_refl _))⟩
 ·obtain ⟨its,r',pl,hz⟩:=I.tuple hq
  exact call_tuple_same pl ⟨.ref p,H,I,rfl,q⟩
def tyV (K:PySem.W.Frag) (T:String) (x:V) (H:Hp):Prop:=match x with
 | .str _=>T = "str"
 | .int _=>T = "int"
 | .ref p=>(T = "list" ∧ ∃xs,SqL K H p xs)∨(T = "tuple" ∧ ∃o,K.lookup p=some o∧o.cls=.type "tuple" ∧ o.dict=none) ∨
   (T = "dict" ∧ ((∃kvs,H p=some (.dK kvs))∨∃kvs,H p=some (.dT kvs)))∨(T = "set" ∧ ∃S n,H p=some (.set S n))
 | _=>False
theorem pO {pins:List (Addr×Obj)} {σ:St} {H:Hp} {s:Shared} {T:String} {x:V} {v:Value} (I:Inv X pins σ H s) (r:RelV x v) (ty:tyV X.K T x H) :
  s.TypeIs v T∧∀a,v=.ref a→∃ob,s.heap.get? a=some ob∧ob.dict=none:=by
 cases x with
 | str z =>
  obtain ⟨t,rfl⟩:=r
  cases (show T = "str" from ty)
  exact ⟨typeIs_str s z t,fun _ e=>nomatch e⟩
 | int i =>
  obtain ⟨t,rfl⟩:=r
  cases (show T = "int" from ty)
  exact ⟨typeIs_int s i t,fun _ e=>nomatch e⟩
 | ref p =>
  cases r
  rcases ty with ⟨rfl,xs,hq⟩ | ⟨rfl,o,hk,hc,hd⟩ | ⟨rfl,hk⟩ | ⟨rfl,S,n,hk⟩
  ·obtain ⟨its,_,pl,_⟩:=I.list hq
   refine ⟨pl.isList.typeIs,fun a e=>?_⟩
   cases e
   obtain ⟨o,n,e,c,hd,_⟩:=pl
   exact ⟨o,e,hd⟩
  ·refine ⟨⟨o,I.kIn p o hk,hc⟩,fun a e=>?_⟩
   cases e
   exact ⟨o,I.kIn _ o hk,hd⟩
  ·have z:∃o,s.heap.get? p=some o∧o.ExactDict:=by
    rcases hk with ⟨kvs,hk⟩ | ⟨kvs,hk⟩
    ·obtain ⟨_,_,_,_,o,_,_,e,ex,_⟩:=I.hok p _ hk
     exact ⟨o,e,ex⟩
    ·obtain ⟨_,_,_,_,o,_,_,e,ex,_⟩:=I.hok p _ hk
     exact ⟨o,e,ex⟩
   obtain ⟨o,e,ex⟩:=z
   refine ⟨⟨o,e,ex.1⟩,fun a e2=>?_⟩
   cases e2
   exact ⟨o,e,ex.2.1⟩
  ·obtain ⟨o,_,_,_,e,ex,_⟩:=I.hok p _ hk
   refine ⟨⟨o,e,ex.1⟩,fun a e2=>?_⟩
   cases e2
   exact ⟨o,e,ex.2.1⟩
 | _=>exact False.elim ty
def Ev (K:PySem.W.Frag) (T:String) (r:V→List V→Hp→VK→Prop) (to:TE):TE:=fun σ H Q=>to σ H fun x H1=>tyV K T x H1∧r x [] H1 Q
def tBM (K:PySem.W.Frag) (T:String) (r:V→List V→Hp→VK→Prop) (to:TE) (t:TA):TE:=fun σ H Q=>to σ H fun x H1=>tyV K T x H1∧t σ H1 fun xs H2=>r x xs H2 Q
variable {o e:Expr} {es:List Expr} {to:TE} {t:TA} {name:Str} {apos cpos:Pos} {T id:String} {r:V→List V→Hp→VK→Prop}
theorem kA (pa:PlainAttrs T) (slot:Slot T name id) (hty:typeOf (.builtin id)=pure (.type "method_descriptor")) (hm:MtR X id r) (ho:PE X o to)
  (hbase:attributeBase o name X.env (eval o X.env)=eval o X.env:=by rfl) (hline:(apos.endLine == cpos.line)=true:=by rfl):PE X (.Call (.Attribute o name apos) [] [] cpos) (Ev X.K T r to):=by
 intro pins s σ H Q I h
 refine wpAny_Call_method0_late hbase hline (thn (ho pins s σ H _ I h) fun v s1 ⟨x,H1,I1,r1,ty,q1⟩=>?_)
 obtain ⟨h1,h2⟩:=pO I1 r1 ty
 exact ⟨T,id,pa,slot,hty,h1,h2,Calls.callWith_builtin rfl (PySem.evalArgs_none (hm pins s1 σ H1 x [] v [] Q I1 r1 .nil q1))⟩
theorem dq (pa:PlainAttrs T) (slot:Slot T name id) (hty:typeOf (.builtin id)=pure (.type "method_descriptor")) (hm:MtR X id r) (ho:PE X o to) (ha:PA X (e :: es) t)
  (hbase:attributeBase o name X.env (eval o X.env)=eval o X.env:=by rfl)
  (hfew:((backTo cpos (starEach (e :: es) X.env)).all (fun x=>!x.1) && (backToKw cpos (keywordEach [] X.env)).all (fun x=>x.1.isSome)
   && decide ((e :: es).length + ([]:List Keyword).length + (if ([]:List Keyword).isEmpty then 0 else 1) < 30))=true:=by rfl)
  (hline:(apos.endLine == cpos.line)=true:=by rfl) (hs:starEach (e :: es) X.env=(false,eval e X.env) :: starEach es X.env:=by rfl) (hplain:(backTo cpos (starEach es X.env)).any (·.1)=false:=by rfl) :
  PE X (.Call (.Attribute o name apos) (e :: es) [] cpos) (tBM X.K T r to t):=by
 intro pins s σ H Q I h
 refine wpAny_Call_method_late hbase hfew hline rfl (thn (ho pins s σ H _ I h) fun v s1 ⟨x,H1,I1,r1,ty,q1⟩=>?_)
 obtain ⟨h1,h2⟩:=pO I1 r1 ty
 refine ⟨T,id,pa,slot,hty,h1,h2,?_⟩
 have hA:=ha cpos pins s1 σ H1 _ I1 q1
 rw [hs] at hA ⊢
 refine Calls.callWith_builtin (by show (false || (backTo cpos (starEach es X.env)).any (·.1))=false; rw [hplain] <;> rfl) (Calls.evalArgs_plain ?_)
 exact thn hA fun us s2 ⟨vs,H2,I2,r2,q2⟩=>hm pins s2 σ H2 x vs v us Q I2 r1 r2 q2
/- xs.append(e),list.index on a module's tuple .. are MtR facts of 06m -/
end
end L2
namespace L2
open PySem PySem.Spec PyProof.Rows
def MtM (X:Cx) (id:String) (r:V→List V→Hp→VK→Prop):Prop :=
 ∀ (pins:List (Addr×Obj)) (s:Shared) (σ:St) (H:Hp) (x:V) (xs:List V) (v:Value) (us:List Value) (Q:VK),Inv X pins σ H s→RelV x v→Vals xs us→r x xs H Q →
  wpAny (model X.prog X.w) X.A (call (.builtin id) (v :: us)) (EP X pins σ Q) X.xe s
theorem Vals.one:∀ {x:V} {us:List Value},Vals [x] us→∃u,us=[u]∧RelV x u
 | _,_,.cons r .nil=>⟨_,rfl,r⟩
theorem Vals.zero:∀ {us:List Value},Vals [] us→us=[]
 | _,.nil=>rfl
theorem Vals.dropLast {xs:List V} {us:List Value} (h:Vals xs us):Vals xs.dropLast us.dropLast:=by
 induction h with
 | nil=>exact .nil
 | cons r t ih =>
  cases t with
  | nil=>exact .nil
  | cons q t'=>exact .cons r ih
theorem kB {α:Type} (l:List α):l.eraseIdx (l.length - 1)=l.dropLast:=by
 induction l with
 | nil=>rfl
 | cons a r ih =>
  cases r with
  | nil=>rfl
  | cons b r =>
   have e:(a :: b :: r).length - 1=((b :: r).length - 1) + 1:=by
    have h1:(a :: b :: r).length=r.length + 2:=rfl
    have h2:(b :: r).length=r.length + 1:=rfl
    omega
   rw [e,List.eraseIdx_cons_succ,ih]
   all_goals rfl
section
variable {X:Cx} {pins:List (Addr×Obj)} {σ:St} {H:Hp} {s:Shared} {l b:Addr} {xs ys zs:List V}
theorem Inv.lset {its its':List Value} {n:Nat} {f:Array Value→Array Value} {t':Nat} (I:Inv X pins σ H s) (hH:H l=some (.lst xs))
  (e:s.heap.get? l=some { cls:=.type "list", data:=.seq its.toArray n }) (hf:f its.toArray=its'.toArray) (hv:Vals ys its') (hz:ys.length≤sizeLine) :
  Inv X pins σ (upd H l (.lst ys)) { s with heap:=s.heap.update l (Obj.mapSeq f),toks:=t' }:=by
 have q:=PySem.IsL.update e f
 rw [hf] at q
 refine I.write (x:=l) (e:=l) (by rw [hH]; exact trivial) (.inl rfl) (fun b' u hb hu=>(Heap.get?_update_other s.heap (Obj.mapSeq f) (Ne.symm hb)).trans hu) ⟨_,q⟩ ?_
 exact ⟨hz,its',_,hv,q⟩
theorem Inv.lnew {its:List Value} {t':Nat} (I:Inv X pins σ H s) (hv:Vals ys its) (hz:ys.length≤sizeLine) :
  Inv X pins σ (upd H s.heap.objs.size (.lst ys)) { s with heap:=s.heap.push { cls:=.type "list", data:=.seq its.toArray }, toks:=t' } :=
 I.laid (fun _ _ q=>Heap.get?_push_of_some _ q) (Nat.le_refl _) ⟨hz,its,0,hv,Heap.get?_push_size _ rfl⟩
theorem Inv.fresh (I:Inv X pins σ H s):H s.heap.objs.size=none:=I.hok.fresh (Nat.le_refl _)
theorem Inv.lstM (I:Inv X pins σ H s) (hH:H l=some (.lst xs)):xs.length≤sizeLine∧∃ (its:List Value) (n:Nat),Vals xs its∧xs.length=its.length∧s.heap.get? l=some { cls:=.type "list",data:=.seq its.toArray n }:=by
 obtain ⟨z,its,n,r,e⟩:=I.hok l _ hH
 exact ⟨z,its,n,r,r.length,e⟩
theorem pP {n:Nat} (h:n≤sizeLine):Builtin.List.listTooLong n=false:=by
 unfold Builtin.List.listTooLong
 exact decide_eq_false (by omega)
end
section
variable {X:Cx}
def rP:V→List V→Hp→VK→Prop:=fun x vs H Q=>∃l xs y,x=.ref l∧vs=[y]∧H l=some (.lst xs)∧xs.length < sizeLine∧Q .non (upd H l (.lst (xs ++ [y])))
theorem bI:MtM X "list.append" rP:=by
 intro pins s σ H x vs v us Q I rx rv h
 obtain ⟨l,xs,y,rfl,rfl,hH,hz,q⟩:=h
 cases rx
 obtain ⟨u,rfl,ru⟩:=rv.one
 obtain ⟨z,its,n,r,hl,e⟩:=I.lstM hH
 refine call_meets F.slot_list_append ⟨_,e,rfl⟩ F.entry_list_append (F.args_list_append_2 _ _) (PySem.list_append l its.toArray n u (by rw [List.size_toArray]; omega)) ⟨e,?_⟩
 refine ⟨.non,_,I.lset (its':=its ++ [u]) hH e (by simp) (r.append (.cons ru .nil)) ?_,rfl,q⟩
 rw [List.length_append,List.length_singleton]
 omega
def rQ:V→List V→Hp→VK→Prop:=fun x vs H Q=>∃l b xs zs,x=.ref l∧vs=[.ref b]∧H l=some (.lst xs)∧H b=some (.lst zs)∧xs.length + zs.length≤sizeLine∧Q .non (upd H l (.lst (xs ++ zs)))
theorem fG:MtM X "list.extend" rQ:=by
 intro pins s σ H x vs v us Q I rx rv h
 obtain ⟨l,b,xs,zs,rfl,rfl,hH,hB,hz,q⟩:=h
 cases rx
 obtain ⟨u,rfl,ru⟩:=rv.one
 cases ru
 obtain ⟨z,its,n,r,hl,e⟩:=I.lstM hH
 obtain ⟨z2,its2,n2,r2,hl2,e2⟩:=I.lstM hB
 have hsz:its.toArray.size + its2.toArray.size≤sizeLine:=by rw [List.size_toArray,List.size_toArray]; omega
 have hlong:¬ (!its.toArray.isEmpty && Builtin.List.listTooLong (its.toArray.size + its2.toArray.size))=true:=by
  rw [pP hsz,Bool.and_false]
  exact Bool.false_ne_true
 refine call_meets F.slot_list_extend ⟨_,e,rfl⟩ F.entry_list_extend (F.args_list_extend_2 _ _)
  (AutoSeq1.list_extend_list_list_0 l its.toArray n b its2.toArray n2 hlong (by rw [List.size_toArray]; omega) (by omega)) ⟨e,e2,?_⟩
 refine ⟨.non,_,I.lset (its':=its ++ its2) hH e (by simp) (r.append r2) ?_,rfl,q⟩
 rw [List.length_append]
 omega
def Ew:V→List V→Hp→VK→Prop:=fun x vs H Q=>∃l xs y,x=.ref l∧vs=[]∧H l=some (.lst xs)∧xs[xs.length - 1]? = some y∧Q y (upd H l (.lst xs.dropLast))
theorem kC:MtM X "list.pop" Ew:=by
 intro pins s σ H x vs v us Q I rx rv h
 obtain ⟨l,xs,y,rfl,rfl,hH,hy,q⟩:=h
 cases rx
 have hus:=rv.zero
 subst hus
 obtain ⟨z,its,n,r,hl,e⟩:=I.lstM hH
 obtain ⟨u,hu,ru⟩:=r.get hy
 have hy':its.toArray[its.toArray.size - 1]? = some u:=by
  show its.toArray[its.length - 1]? = some u
  rw [← Array.getElem?_toList,← hl]
  exact hu
 refine call_meets F.slot_list_pop ⟨_,e,rfl⟩ F.entry_list_pop (F.args_list_pop_1 _) (MeetsSeq.list_pop_last l its.toArray n u hy' (by rw [List.size_toArray]; omega)) ⟨e,?_⟩
 refine ⟨y,_,I.lset (its':=its.dropLast) hH e ?_ r.dropLast ?_,ru,q⟩
 ·show its.toArray.eraseIdxIfInBounds (its.toArray.size - 1)=its.dropLast.toArray
  rw [List.size_toArray,List.eraseIdxIfInBounds_toArray,kB]
 ·rw [List.length_dropLast]
  omega
def Ex:R2:=fun x y H Q=>∃l b xs zs,x=.ref l∧y=.ref b∧H l=some (.lst xs)∧H b=some (.lst zs)∧xs.length + zs.length≤sizeLine∧∀p,H p=none→Q (.ref p) (upd H p (.lst (xs ++ zs)))
theorem ej:OpR X (binaryOp .Add) Ex:=by
 intro pins s σ H x y v u Q I rx ry h
 obtain ⟨l,b,xs,zs,rfl,rfl,hH,hB,hz,q⟩:=h
 cases rx
 cases ry
 obtain ⟨z,its,n,r,hl,e⟩:=I.lstM hH
 obtain ⟨z2,its2,n2,r2,hl2,e2⟩:=I.lstM hB
 refine PySem.P.add_list e e2 ?_ (by rw [List.size_toArray,List.size_toArray]; omega)
 have ea:its.toArray ++ its2.toArray=(its ++ its2).toArray:=by simp
 rw [ea]
 exact ⟨.ref _,_,I.lnew (t':=s.toks) (r.append r2) (by rw [List.length_append]; omega),rfl,q _ I.fresh⟩
end
section
variable {prog:Program} {w:World} {A:Around} {E:Value→Shared→Prop} {s:Shared}
end
section
variable {X:Cx}
end
end L2
namespace Att
open PySem PySem.W PySem.Calls PyProof.Rows
theorem fY {P:Params} {h:Heap}:∀ (ns:List Int) (vs:List Value),WellAll P h vs (ns.map WData.int)→IntsAre vs ns:=by
 intro ns
 induction ns with
 | nil =>
  intro vs w
  rw [List.map_nil] at w
  cases w
  exact .nil
 | cons n ns ih =>
  intro vs w
  rw [List.map_cons] at w
  cases w with
  | cons a b =>
   cases a
   exact .cons _ _ (ih _ b)
theorem nw {l:OpenLaw} {n:Nat} (hn:l.most=some n) {P:Params} {h:Heap} {args:List WData} {vals:List Value}
  (hpre:l.row.toRowW.claim.pre args=true) (hwl:WellAll P h vals args) :
  ∃a vs ns,vals=[Value.ref a]∧args=[WData.list (ns.map WData.int)]∧h.get? a=some { cls:=.type "list",data:=.seq vs.toArray }∧IntsAre vs ns∧ns.length≤n:=by
 have hsh:WShape.hasAll [] args [.list .int]=true:=(pre_splitW hpre).1
 have hc:l.pre.holds [] { args:=args }=true:=(pre_splitW hpre).2
 obtain ⟨d,r,rfl,h1,h2⟩:=hasAllW_cons hsh
 obtain rfl:=hasAllW_nil h2
 obtain ⟨xs,rfl,h3⟩:=hasW_list h1
 obtain ⟨ns,rfl⟩:=items_int h3
 have hlen:ns.length≤n:=by
  unfold OpenLaw.pre at hc
  have h4:(WTm.not (.lt (.lit (.int (n:Int))) (.len (.arg 0)))).holds [] { args:=[.list (ns.map .int)] }=true:=by
   have h4:=(holds_andW hc).1
   rw [hn] at h4
   exact h4
  have h5:=condW_of h4 (w_not (w_lt w_lit (w_len_list (w_arg rfl))))
  rw [List.length_map] at h5
  refine Nat.le_of_not_lt fun q=>?_
  have q':(n:Int) < ((ns.length:Nat):Int):=by omega
  first
   | (rw [decide_eq_true q'] at h5; exact absurd h5 (by decide))
   | (simp at h5; omega)
 cases hwl with
 | cons w1 w2 =>
  cases w2
  cases w1 with
  | list ho hall=>exact ⟨_,_,ns,rfl,rfl,ho,fY ns _ hall,hlen⟩
theorem ny (l:OpenLaw) (args:List WData):l.row.toRowW.claim.post args (.bool true) args=true :=
 postW_of (r:=l.row.toRowW) (X:=(true == true))
  (show WShape.has [] (.bool true) .bool=true by first | rfl | decide | simp [WShape.has,WShape.arms,WShape.armsAll])
  (show (WTm.eq .res (.lit (.bool true))).value [] { args:=args,res:=some (.bool true),after:=args }=some (.bool (true == true)) from w_eq_bool (w_res rfl) w_lit) rfl
theorem attach_call {l:OpenLaw} {n:Nat} {q:Program} {loose:List Str} {XP:(Str→Option Value)→Heap→Prop} {YP:World→Heap→Prop} {d:DefRec}
  (hn:l.most=some n) (hdf:d.params.defaults=[])
  (call:∀ (w:World) (s₀ s₁:Shared) (mg mb:Str→Option Value) (fa:Addr) (o:Obj) (pm cd doc:Value) (a:Addr) (vs:List Value) (ns:List Int),
   Ground q loose [] XP w s₀ mg mb s₁.heap→YP w s₁.heap →
   s₁.heap.get? fa=some o→o.data=.func (docDef d.name d.params d.body d.scope pm cd doc)→s₁.heap.CodeRec cd d.name→mg d.name=some (.ref fa) →
   s₁.heap.get? a=some { cls:=.type "list",data:=.seq vs.toArray }→IntsAre vs ns→ns.length≤n→s₁.gens=#[] →
   codeAny (model l.prog w) callerA (.call (.ref fa) ⟨[.ref a],[]⟩) (fun r s'=>r=.ok (.ret (.bool true))∧OldK s₁.heap s'.heap∧s'.os=s₁.os∧AllBare s'.gens) s₁) :
  WalkO q loose XP YP l.row.toRowW d [] (fun f vs=>PySem.call f vs):=by
 intro w s₀ s₁ mg mb G Y fa o pm cd doc dV kV ho hd hcd hD hmg hg args vals as hpre hlay hrd hwl hlo
 obtain rfl:dV=.none:=Dflts.none hD hdf
 obtain rfl:kV=.none:=Dflts.noKw hD
 obtain ⟨a,vs,ns,rfl,rfl,hobj,hints,hlen⟩:=nw hn hpre hwl
 refine enter_call (codeAny_mono (call w s₀ s₁ mg mb fa o pm cd doc a vs ns G Y ho (fd_plain hd) hcd hmg hobj hints hlen hg) fun r s' hq=>?_)
 obtain ⟨rfl,h2,h3,h4⟩:=hq
 exact ⟨.inl ⟨.bool true,.bool true,[],rfl,fun _=>rfl,.bool true,ny l _,fun _=>⟨List.Pairwise.nil,fun _ hm=>(nomatch hm)⟩⟩,h2,h3,h4⟩
section
variable {prog:Program} {w:World} {A:Around} {E:Value→Shared→Prop} {s:Shared} {K:Frag}
def Ey (h:Heap) (L d:Addr):List (Addr×Obj):=(List.range h.objs.size).filterMap fun a=>if a=L∨a=d then none else (h.get? a).map fun o=>(a,o)
end
end Att
namespace L2
open PySem PySem.Spec PyProof.Rows
theorem io:∀ {vs:List Value} {ns:List Int},IntsAre vs ns→Vals (ns.map V.int) vs
 | _,_,.nil=>.nil
 | _,_,.cons n t h=>.cons ⟨t,rfl⟩ (io h)
def uy (H:Hp):Prop:=∀b,H b=none∨∃o xs,H b=some (.frz o (.lst xs))
theorem pQ {P:Program} {w:World} {K:PySem.W.Frag} {mg mb:Str→Option Value} {CX:CXT} {k:Nat} {fa a:Addr} {fd:FuncData} {x:Str} {sp:Sp} {s₁:Shared} {vs:List Value} {ns:List Int}
  (KX:K.In s₁.heap) (hns:s₁.heap.Ns mainGlobals mg) (hb:s₁.heap.Ns builtinsNs mb) (hbb:∀x:Str,x ≠ "__name__" → mb x=bootBuiltins x) (hlim:s₁.heap.NoLimit) (hg:s₁.gens=#[])
  (ha:s₁.heap.get? a=some { cls:=.type "list",data:=.seq vs.toArray }) (hi:IntsAre vs ns) (hl:ns.length≤sizeLine) (hr:Room k callerA)
  (F:∀base:Heap,K.In base→base.Ns mainGlobals mg→FnOk P w K mg base CX k fa fd [x] sp) (hbind:∀ (s:Shared) (u:Value),BindsTo s fd ⟨[u],[]⟩ [(x,u)])
  (hsp:∀H:Hp,uy H→SqL K H a (ns.map V.int)→sp [.ref a] H (fun v _=>v=.bl true) fun _ _ _=>False)
  (hCX:∀H e s',CX [] H s₁ (fun _ _ _=>False) e s'→False) :
  codeAny (model P w) callerA (.call (.ref fa) ⟨[.ref a],[]⟩) (fun r s'=>r=.ok (.ret (.bool true))∧OldK s₁.heap s'.heap∧s'.os=s₁.os∧AllBare s'.gens) s₁:=by
 have rv:=io hi
 have lenV:=hi.length
 have core:∀H:Hp,uy H→SqL K H a (ns.map V.int)→HOk P w H s₁.heap→(∀b,H b≠none→b=a)→(H a≠none→K.lookup a=none) →
   codeAny (model P w) callerA (.call (.ref fa) ⟨[.ref a],[]⟩) (fun r s'=>r=.ok (.ret (.bool true))∧OldK s₁.heap s'.heap∧s'.os=s₁.os∧AllBare s'.gens) s₁:=by
  intro H hO hS hok hA hK
  have base_of:∀ {b:Addr} {o:Obj},s₁.heap.get? b=some o→H b=none→(iC s₁.heap H).get? b=some o:=fun e n=>oU e n
  have noA:∀ {b:Addr} {o:Obj} {es:Array DictEntry} {ep:Nat},s₁.heap.get? b=some o→o.data=.dict es ep→H b=none:=fun {b o es ep} e d=>by
   cases q:H b with
   | none=>rfl
   | some u =>
    have e':b=a:=hA b (by rw [q]; simp)
    subst e'
    rw [ha] at e; cases e
    have d':Data.seq vs.toArray _=Data.dict es ep:=d
    cases d'
  have nsK:∀ {b:Addr} {m:Str→Option Value},s₁.heap.Ns b m→(iC s₁.heap H).Ns b m:=fun {b m} ⟨o,es,ep,e,d,r⟩=>⟨o,es,ep,base_of e (noA e d),d,r⟩
  have hKb:K.In (iC s₁.heap H):=fun b o e=>base_of (KX b o e) (by
   cases q:H b with
   | none=>rfl
   | some u =>
    have e':b=a:=hA b (by rw [q]; simp)
    subst e'
    rw [hK (by rw [q]; simp)] at e; cases e)
  have hM:Mod K mg (iC s₁.heap H):=⟨hKb,nsK hns,⟨mb,nsK hb,hbb⟩,let ⟨mc,h1,h2⟩:=hlim; ⟨mc,nsK h1,h2⟩⟩
  have e0:Env0 P w K mg (iC s₁.heap H) callerA [] s₁ H:=⟨rfl,hM,fun b o e=>rD e,Nat.le_of_eq (ni _ _),trivial,fun b hb=>absurd (show b∈([]:List Addr) from hb) (by simp),hok,.of_eq hg⟩
  refine codeAny_mono ((F _ hKb (nsK hns)).run callerA [] s₁ H ⟨[.ref a],[]⟩ [.ref a] [.ref a] _ _ hr e0 (hbind s₁ (.ref a)) (.cons rfl .nil) (hsp H hO hS)) fun r s' h=>?_
  cases r with
  | error e=>exact (hCX H e s' h).elim
  | ok fl =>
   cases fl with
   | next=>exact False.elim h
   | brk=>exact False.elim h
   | cont=>exact False.elim h
   | ret u =>
    obtain ⟨v,H',os,bare,un,hok',r',q⟩:=h
    have q':v=.bl true:=q
    subst q'
    obtain rfl:u=Value.bool true:=r'
    refine ⟨rfl,OldK.of_keep fun b o e=>?_,os,bare⟩
    cases q:H b with
    | none=>exact un.keep b o e q (by intro z; exact absurd (show b∈([]:List Addr) from z) (by simp)) (by simp)
    | some u =>
     rcases hO b with z | ⟨ob,xs,z⟩
     ·rw [q] at z; cases z
     ·have z2:=un.frzs b ob _ z
      obtain ⟨e1,_⟩:=hok b _ z
      obtain ⟨e2,_⟩:=hok' b _ z2
      rw [e] at e1; cases e1
      exact e2
 cases hk:K.lookup a with
 | some o =>
  have e:=KX a o hk
  rw [ha] at e
  cases e
  refine core (fun _=>none) (fun _=>.inl rfl) (.inr ⟨_,vs.toArray,_,hk,rfl,rfl,rfl,by rw [List.size_toArray,lenV]; exact hl,by simpa using rv⟩) (fun b u z=>by have z':(none:Option HO)=some u:=z; cases z') (fun b z=>absurd rfl z) fun z=>absurd rfl z
 | none =>
  refine core (fun b=>if b=a then some (.frz { cls:=.type "list",data:=.seq vs.toArray } (.lst (ns.map V.int))) else none) (fun b=>?_) (.inl (.inr ⟨{ cls:=.type "list",data:=.seq vs.toArray },if_pos rfl⟩)) (fun b u z=>?_) (fun b z=>?_) fun _=>hk
  ·by_cases hb:b=a
   ·exact .inr ⟨_,_,if_pos hb⟩
   ·exact .inl (if_neg hb)
  ·by_cases hb:b=a
   ·have z':=(if_pos hb).symm.trans z
    cases z'
    subst hb
    exact ⟨ha,by rw [List.length_map]; exact hl,vs,_,rv,ha⟩
   ·have z':=(if_neg hb).symm.trans z
    cases z'
  ·by_cases hb:b=a
   ·exact hb
   ·exact absurd (if_neg hb) z
end L2
namespace L2
open PySem PySem.Spec PyProof.Rows
theorem walk_of {l:PySem.W.OpenLaw} {n k:Nat} {q:Program} {loose:List Str} {XP:(Str→Option Value)→Heap→Prop} {YP:World→Heap→Prop} {d:DefRec} {K:Params→PySem.W.Frag} {CX:World→CXT} {sp:World→Sp} {x:Str}
  (hn:l.most=some n) (hn2:n≤sizeLine) (hdf:d.params.defaults=[]) (hr:Room k callerA)
  (hY:∀ (w:World) (h:Heap),YP w h→(K w.params).In h)
  (F:∀ (w:World) (mg:Str→Option Value) (fa:Addr) (h:Heap),(K w.params).In h→h.Ns mainGlobals mg→mg d.name=some (.ref fa) →
   ∃fd:FuncData,(∀ (s:Shared) (u:Value),BindsTo s fd ⟨[u],[]⟩ [(x,u)]) ∧
    ∀base:Heap,(K w.params).In base→base.Ns mainGlobals mg→FnOk l.prog w (K w.params) mg base (CX w) k fa fd [x] (sp w))
  (hsp:∀ (w:World) (H:Hp) (a:Addr) (ns:List Int),ns.length≤n→uy H→SqL (K w.params) H a (ns.map V.int)→sp w [.ref a] H (fun v _=>v=.bl true) fun _ _ _=>False)
  (hCX:∀ (w:World) (H:Hp) (s:Shared) (e:Value) (s':Shared),CX w [] H s (fun _ _ _=>False) e s'→False) :
  PySem.W.WalkO q loose XP YP l.row.toRowW d [] (fun f vs=>PySem.call f vs):=by
 refine Att.attach_call hn hdf fun w s₀ s₁ mg mb fa o pm cd doc a vs ns G Y ho hd hcd hmg hobj hints hlen hg=>?_
 have KX:=hY w _ Y
 obtain ⟨fd,hb,hF⟩:=F w mg fa _ KX G.T.g hmg
 exact pQ KX G.T.g G.T.b G.T.builtins G.T.nolimit hg hobj hints (Nat.le_trans hlen hn2) hr hF hb (fun H hO hS=>hsp w H a ns hlen hO hS) fun H e s'=>hCX w H s₁ e s'
end L2
namespace L2
open PySem PySem.Spec PyProof.Rows
def inClass (s:Stmt) (j:Nat):Stmt:=match s with
 | .ClassDef _ _ _ body _ _ _ _ _ _ _=>body.getD j (.Pass ⟨0,0,0,0⟩)
 | _=>.Pass ⟨0,0,0,0⟩
def defArgs (s:Stmt):Arguments:=match s with
 | .FunctionDef _ a _ _ _ _ _ _ _ _=>a
 | _=>{ posonlyargs:=[],args:=[],vararg:=none,kwonlyargs:=[],kw_defaults:=[],kwarg:=none,defaults:=[] }
def defBody (s:Stmt):List Stmt:=match s with
 | .FunctionDef _ _ b _ _ _ _ _ _ _=>b
 | _=>[]
def defScope (s:Stmt):Scope:=match s with
 | .FunctionDef _ _ _ _ _ _ sc _ _ _=>sc
 | _=>{ kind:=.function,names:=[],isGenerator:=false,isCoroutine:=false }
abbrev CX0:CXT:=fun _ _ _ _ _ _=>False
abbrev E0:XK:=fun _ _ _=>False
theorem mD {X:Cx}:dC CX0 X E0:=fun _ _ _ _ _ _ _ h=>h.elim
structure Fun (K:PySem.W.Frag) (x qual:Str) (st:Stmt) (f:Addr) (fd:FuncData):Prop where
 ex:∃ (oc:Value) (od:Option Addr) (kV doc pm:Value) (an:Option Addr) (cdv ct:Value) (osl:Array (Option Value)),
  fd=PySem.W.fnOf x qual (defArgs st) (defBody st) (defScope st) .none kV doc pm an cdv ct∧K.lookup f=some ⟨oc,od,.func fd,osl⟩∧PySem.W.codeIn K cdv qual=true
 kp:PySem.W.keepIn K (.ref f)=true
section
variable {P:Program} {w:World} {K:PySem.W.Frag} {mg:Str→Option Value} {base:Heap}
theorem Fun.ok {x qual:Str} {st:Stmt} {f:Addr} {fd:FuncData} {N ps:List Str} {k:Nat} {sp:Sp} (F:Fun K x qual st f fd) (S:FnScope N ps (defScope st)) (len:∀vs H Q E,sp vs H Q E→vs.length=ps.length)
  (hbody:∀ (cdv:Value) (A:Around) (outer:List Env) (s:Shared) (H:Hp) (vs:List V) (Q:VK) (E:XK),Room k (A.deeper (envOfC qual (defScope st) s.heap.objs.size f cdv))→sp vs H Q E →
   ∃t,PSs (dE CX0 P w K mg base N qual (defScope st) f cdv A outer s H E).nox (defBody st) t∧t { nx:=fun _ H'=>Q .non H',rt:=Q } (dD N vs) H):FnOk P w K mg base CX0 (k + 1) f fd ps sp:=by
 obtain ⟨oc,od,kV,doc,pm,an,cdv,ct,osl,rfl,lk,hcd⟩:=F.ex
 refine tZ lk hcd S len fun A outer s H vs Q E hr hsp=>?_
 obtain ⟨t,h,q⟩:=hbody cdv A outer s H vs Q E hr hsp
 exact ⟨t,h.nox,q⟩
theorem Fun.binds {x qual:Str} {st:Stmt} {f:Addr} {fd:FuncData} {ps:List Str} (F:Fun K x qual st f fd)
  (h:∀ (kV doc pm:Value) (an:Option Addr) (cdv ct:Value) (us:List Value),us.length=ps.length→bindArgs (PySem.W.fnOf x qual (defArgs st) (defBody st) (defScope st) .none kV doc pm an cdv ct) ⟨us,[]⟩=pure (ps.zip us)):Binds K fd ps []:=by
 obtain ⟨oc,od,kV,doc,pm,an,cdv,ct,osl,rfl,lk,hcd⟩:=F.ex
 exact .all (h kV doc pm an cdv ct)
theorem aF {x qual:Str} {st:Stmt} {f:Addr} {oc:Value} {od an:Option Addr} {osl:Array (Option Value)} {kV doc pm cdv ct:Value} (l:K.lookup f=some ⟨oc,od,.func (PySem.W.fnOf x qual (defArgs st) (defBody st) (defScope st) .none kV doc pm an cdv ct),osl⟩)
  (c:PySem.W.codeIn K cdv qual=true) (k:PySem.W.keepIn K (.ref f)=true):Fun K x qual st f (PySem.W.fnOf x qual (defArgs st) (defBody st) (defScope st) .none kV doc pm an cdv ct):=⟨⟨oc,od,kV,doc,pm,an,cdv,ct,osl,rfl,l,c⟩,k⟩
end
section
variable {X:Cx}
theorem pv (i:Nat) {x:Str} {pos:Pos} (hN:X.N[i]? = some x:=by rfl) (hv:Vis X.env.scope x:=by first | exact Or.inl rfl | exact Or.inr (Or.inl rfl) | exact Or.inr (Or.inr rfl)) (hd:(x == ("__debug__" : Str))=false:=by decide)
  (hcd:(x == ("__classdict__" : Str))=false:=by decide):PE X (.Name x pos) (oV i):=um hN hv hd hcd
end
theorem aI {A B:Prop} (h:B):if false=true then A else B:=by
 rw [if_neg Bool.false_ne_true]
 exact h
theorem aT {A B:Prop} (h:A):if true=true then A else B:=by
 rw [if_pos rfl]
 exact h
theorem cR {c A B:Prop} [Decidable c] (h1:c→A) (h2:¬ c→B):if c then A else B:=by
 by_cases h:c
 ·rw [if_pos h]
  exact h1 h
 ·rw [if_neg h]
  exact h2 h
def Same (H H':Hp):Prop:=∀b o,H b=some o→H' b=some o
theorem Same.refl (H:Hp):Same H H:=fun _ _ h=>h
theorem Same.trans {H H1 H2:Hp} (a:Same H H1) (b:Same H1 H2):Same H H2:=fun c o h=>b c o (a c o h)
theorem Same.free {H H':Hp} (e:Same H H') {l:Addr} (h:H' l=Option.none):H l=Option.none:=by
 cases q:H l with
 | none=>rfl
 | some o =>
  rw [e l o q] at h
  cases h
end L2
set_option Elab.async false
set_option linter.all false
set_option maxRecDepth 100000
namespace L2
open PySem PySem.Spec PyProof.Rows
def aY (env:Env):List (Str×NameKind)→List (Str×Addr)→List (Str×Addr)
 | [],acc=>acc
 | (n,k) :: r,acc=>aY env r (if (k == NameKind.free)=true then (n,(env.cells.lookup n).getD 0) :: acc else acc)
theorem cu (env:Env):∀ (names:List (Str×NameKind)) (acc:List (Str×Addr)) (x:Str) (c:Addr),(∀y∈names,y.2=.free→∃c,env.cells.lookup y.1=some c) →
  (∀x c,acc.lookup x=some c→env.cells.lookup x=some c)→(aY env names acc).lookup x=some c→env.cells.lookup x=some c
 | [],acc,x,c,_,h,e=>h x c e
 | (n,k) :: r,acc,x,c,hf,h,e=>by
  refine cu env r _ x c (fun y hy=>hf y (List.mem_cons_of_mem _ hy)) (fun x c e'=>?_) e
  by_cases hk:(k == NameKind.free)=true
  ·rw [if_pos hk] at e'
   obtain ⟨c0,hc0⟩:=hf (n,k) List.mem_cons_self (by simpa using hk)
   have hc0':env.cells.lookup n=some c0:=hc0
   rw [List.lookup_cons] at e'
   cases hx:x == n with
   | true =>
    rw [hx] at e'
    have:x=n:=by simpa using hx
    subst this
    rw [hc0'] at e' ⊢
    simpa using e'
   | false=>rw [hx] at e'; exact h x c e'
  ·rw [if_neg hk] at e'; exact h x c e'
theorem gy (env:Env):∀ (names:List (Str×NameKind)) (acc:List (Str×Addr)) (x:Str),(∃c,acc.lookup x=some c)→∃c,(aY env names acc).lookup x=some c
 | [],acc,x,h=>h
 | (n,k) :: r,acc,x,h=>by
  refine gy env r _ x ?_
  by_cases hk:(k == NameKind.free)=true
  ·rw [if_pos hk,List.lookup_cons]
   cases hx:x == n with
   | true=>exact ⟨_,rfl⟩
   | false=>exact h
  ·rw [if_neg hk]; exact h
theorem fH (env:Env):∀ (names:List (Str×NameKind)) (acc:List (Str×Addr)) (x:Str),(x,NameKind.free)∈names→∃c,(aY env names acc).lookup x=some c
 | [],acc,x,h=>by simp at h
 | (n,k) :: r,acc,x,h=>by
  rcases List.mem_cons.mp h with e | e
  ·have e1:x=n:=congrArg Prod.fst e
   have e2:NameKind.free=k:=congrArg Prod.snd e
   subst e1
   subst e2
   refine gy env r _ x ?_
   rw [if_pos (by simp),List.lookup_cons]
   simp
  ·exact fH env r _ x e
theorem el {env:Env} {scope:Scope} (hf:∀y∈scope.names,y.2=.free→∃c,env.cells.lookup y.1=some c):closureFor scope env=pure (aY env scope.names []):=by
 have key:∀ (names:List (Str×NameKind)) (acc:List (Str×Addr)),(∀y∈names,y.2=.free→∃c,env.cells.lookup y.1=some c) →
   (forIn names acc (fun (x:Str×NameKind) (r:List (Str×Addr))=>(if (x.2 == NameKind.free)=true then do
    let a←cellOf env x.1
    pure (ForInStep.yield ((x.1,a) :: r)) else pure (ForInStep.yield r)) ):Sem (List (Str×Addr)))=pure (aY env names acc):=by
  intro names
  induction names with
  | nil=>intro acc _; rfl
  | cons y r ih =>
   intro acc h
   obtain ⟨n,k⟩:=y
   have ih':=fun acc=>ih acc fun z hz=>h z (List.mem_cons_of_mem _ hz)
   rw [List.forIn_cons]
   by_cases hk:(k == NameKind.free)=true
   ·obtain ⟨c,hc⟩:=h (n,k) List.mem_cons_self (by simpa using hk)
    have hc':env.cells.lookup n=some c:=hc
    have e1:cellOf env n=pure c:=by unfold cellOf; rw [hc']
    have e2:aY env ((n,k) :: r) acc=aY env r ((n,c) :: acc):=by
     show aY env r _=_
     rw [if_pos hk,hc']; rfl
    rw [if_pos hk,e2,← ih']
    show ((cellOf env n >>= fun a=>pure (ForInStep.yield ((n,a) :: acc))) >>= _)=_
    rw [e1]
    rfl
   ·have e2:aY env ((n,k) :: r) acc=aY env r acc:=by
     show aY env r _=_
     rw [if_neg hk]
    rw [if_neg hk,e2,← ih']
    rfl
 have:=key scope.names [] hf
 simp only [closureFor]
 exact (congrArg (fun m=>m >>= fun r=>(pure r:Sem _)) this).trans rfl
theorem iK {env:Env} {scope:Scope} (hcell:∀y∈scope.names,y.2≠.cell) {x:Str}:((relabel scope env).names.lookup x=some .cell∨(relabel scope env).names.lookup x=some .free)→(x,NameKind.free)∈scope.names:=by
  have key:∀names:List (Str×NameKind),(∀y∈names,y.2≠.cell)→∀k,(names.map fun (n,k)=>if (k == NameKind.free && env.scope.kind == .function && env.kindOf n == some .cell) then (n,NameKind.cell) else (n,k)).lookup x=some k →
      (k=.cell∨k=.free)→(x,NameKind.free)∈names:=by
    intro names
    induction names with
    | nil=>intro _ k h _; simp at h
    | cons y r ih =>
      obtain ⟨n,k'⟩:=y
      intro hc k h hk
      have nc:k'≠.cell:=hc (n,k') List.mem_cons_self
      rw [List.map_cons] at h
      by_cases hb:(k' == NameKind.free && env.scope.kind == .function && env.kindOf n == some .cell)=true
      · have hb':k'=.free:=by simp at hb; exact hb.1.1
        dsimp only at h
        rw [if_pos hb,List.lookup_cons] at h
        cases hx:x == n with
        | true => have : x = n := by simpa using hx
                  subst this; subst hb'; exact List.mem_cons_self
        | false=>rw [hx] at h; exact List.mem_cons_of_mem _ (ih (fun y hy=>hc y (List.mem_cons_of_mem _ hy)) k h hk)
      · dsimp only at h
        rw [if_neg hb,List.lookup_cons] at h
        cases hx:x == n with
        | true =>
          rw [hx] at h
          have:x=n:=by simpa using hx
          subst this
          have e:k'=k:=by simpa using h
          rcases hk with q | q
          · exact absurd (e.trans q) nc
          · rw [e,q]; exact List.mem_cons_self
        | false=>rw [hx] at h; exact List.mem_cons_of_mem _ (ih (fun y hy=>hc y (List.mem_cons_of_mem _ hy)) k h hk)
  rintro (h | h)
  · exact key _ hcell _ h (.inl rfl)
  · exact key _ hcell _ h (.inr rfl)
def aG (X:Cx) (pins:List (Addr×Obj)) (s2:Shared) (H2:Hp) (scope:Scope) (C:Addr) (N':List Str) (fp:List Addr):Cx where
 prog:=X.prog
 w:=X.w
 K:=X.K
 mg:=X.mg
 base:=X.base
 A:=X.A
 N:=N'
 s₀:=s2
 H₀:=H2
 env:=compEnvC scope (aY X.env scope.names []) C X.env
 outer:=X.stack
 stack:=X.stack
 ex:=fp
 fn:=fun _=>false
 calm:=X.calm
 pn:=X.pn ++ pins
 xe:=fun _ _=>False
def bi (σ:St) (cap:List Nat) (k:Nat):St:=List.replicate k none ++ cap.map fun j=>(σ[j]?).join
def leS (σ σ':St):Prop:=σ'.length=σ.length∧∀ (i:Nat) v,σ[i]? = some (some v)→σ'[i]? = some (some v)
theorem leS.set {σ:St} {i:Nat} {v:V} (h:σ[i]? = some none):leS σ (σ.set i (some v)):=by
 refine ⟨by simp,fun j w e=>?_⟩
 by_cases hj:j=i
 ·subst hj; rw [h] at e; cases e
 ·rw [List.getElem?_set_ne (Ne.symm hj)]; exact e
structure CompOk (X:Cx) (scope:Scope) (own:List Str) (cs:List Str) (cap:List Nat):Prop where
 kind:scope.kind=.function
 cell:∀y∈scope.names,y.2≠.cell
 names:∀y∈scope.names,y.2=.local→scope.names.lookup y.1=some .local
 free:∀y∈scope.names,y.2=.free→X.env.kindOf y.1=some .cell∨X.env.kindOf y.1=some .free
 caps:∀ (i:Nat) y,cs[i]? = some y→∃j,cap[i]? = some j∧X.N[j]? = some y∧(y,NameKind.free)∈scope.names
 ownl:∀y∈own,scope.names.lookup y=some .local
 len:cs.length=cap.length
 free2:∀y,(y,NameKind.free)∈scope.names→scope.names.lookup y=some .local→False
def iL (X:Cx) (ifs:List Expr) (tt:TT):Prop :=
 ∀ (pins:List (Addr×Obj)) (s:Shared) (σ:St) (H:Hp) (Q:Bool→Hp→Prop),Inv X pins σ H s→tt σ H Q →
  wpAny (model X.prog X.w) X.A (forIn ifs true fun c r=>if r=true then do let ok←isTrue c X.env (eval c X.env); pure (ForInStep.yield ok) else pure (ForInStep.yield r)) (TP X pins σ Q) X.xe s
def zt:TT:=fun _ H Q=>Q true H
theorem cB {X:Cx}:iL X [] zt:=fun _ _ _ H _ I h=>wpAny_tests_nil ⟨H,I,h⟩
theorem pR {X:Cx} {c:Expr} {tt:TT} (h:PT X c tt):iL X [c] tt:=fun pins s σ H Q I q=>wpAny_tests_one (h pins s σ H Q I q)
def gz (σ:St) (cap:List Nat) (k:Nat) (J:It) (g:TG) (tt:TT) (te:TE) (Q:List V→Hp→Prop) (W:Nat→Nat→List V→Hp→Prop):Prop :=
 ∀i m ys H,W i m ys H→(J.stop i H∧ys.length≤sizeLine∧Q ys H) ∨
  (J.go i H∧ys.length < sizeLine∧∀x H',J.yld i H x H'→g x (bi σ cap k) H' fun σ2 H2=>leS (bi σ cap k) σ2∧tt σ2 H2 fun ok H3 =>
   if ok=true then te σ2 H3 (fun v H4=>∃m',m' < m∧W (i + 1) m' (ys ++ [v]) H4) else ∃m',m' < m∧W (i + 1) m' ys H3)
theorem HOk.but {P:Program} {w:World} {H:Hp} {h h':Heap} {C:Addr} (x:HOk P w H h) (n:H C=none) (k:Heap.SameBut C h h'):HOk P w H h':=fun b ob e=>by
 refine (x b ob e).stay (fun c w' hc q=>(k.2 c ?_).trans q) (fun _ q=>q) fun _ _ q=>q
 rintro rfl
 rcases hc with rfl | hc
 ·rw [n] at e; cases e
 ·rw [n] at hc; cases hc
theorem HOk.add {P:Program} {w:World} {H:Hp} {h:Heap} {a:Addr} {o:HO} (x:HOk P w H h) (n:H a=none) (new:ObjOk P w (upd H a o) h a o):HOk P w (upd H a o) h:=fun b u e=>by
 by_cases hb:b=a
 ·subst hb; rw [ae] at e; cases e; exact new
 ·rw [am hb] at e
  exact (x b u e).stay (fun c v _ q=>q) (fun c q=>by rw [am (ah q n)]; exact q) fun c xs q=>by rw [am (ah q n)]; exact q
section
variable {X:Cx} {pins:List (Addr×Obj)} {σ:St} {H2:Hp} {s2:Shared} {scope:Scope} {own cs:List Str} {cap:List Nat} {fp:List Addr}
theorem ip {h1:Heap} {C:Addr} {tk:Nat} (I:Inv X pins σ H2 s2) (ok:CompOk X scope own cs cap) (hf:∀b∈fp,dW X pins H2 b) (hfl:∀b∈fp,b < s2.heap.objs.size)
  (hC:s2.heap.objs.size≤C) (hns:h1.Ns C (fun _=>none)) (old:∀b o,s2.heap.get? b=some o→h1.get? b=some o) :
  Inv (aG X pins s2 H2 scope C (own ++ cs) fp) [] (bi σ cap own.length) H2 { s2 with heap:=h1,toks:=tk }:=by
 have hfr:∀y∈scope.names,y.2=.free→∃c,X.env.cells.lookup y.1=some c:=fun y hy e=>I.ok.has y.1 (ok.free y hy e)
 have sub:∀x c,(aY X.env scope.names []).lookup x=some c→X.env.cells.lookup x=some c:=fun x c e=>cu X.env scope.names [] x c hfr (fun _ _ z=>by simp at z) e
 have clt:∀x c,(aY X.env scope.names []).lookup x=some c→c < s2.heap.objs.size:=fun x c e=>by
  obtain ⟨v,o,ho,_⟩:=I.cell x c (sub x c e)
  exact Heap.lt_size ho
 refine ⟨⟨I.ok.mod,ok.kind,I.ok.glob,I.ok.blt,hC,fun y z c h1 h2=>I.ok.inj y z c (sub y c h1) (sub z c h2),fun y hy=>?_,fun y c z=>?_,I.ok.hd,I.ok.frames,.inl rfl,fun b hb=>?_,I.bs,Nat.le_trans I.ok.bsz I.sz,fun b o e hb=>?_,fun b hb z=>?_,I.stack,I.stkFree⟩,
  rfl,I.bare,Un.kept old,⟨_,hns,fun i y v e1 e2 e3=>?_⟩,fun y c e=>?_,I.hok.fresh hC,fun y c e=>I.freeC y c (sub y c e),fun p hp=>?_,I.hok.kept old,?_⟩
 ·have hm:=iK ok.cell hy
  exact fH X.env scope.names [] y hm
 ·exact absurd (show false=true from z) Bool.false_ne_true
 ·exact ⟨Nat.ne_of_lt (Nat.lt_of_lt_of_le (hfl b hb) hC),fun x c e=>(hf b hb).2.2.2.2.1 x c (sub x c e)⟩
 ·rcases (hf b hb).2.2.2.1 with z | z
  ·exact I.ok.noex b o e z
  ·exact absurd (Nat.lt_of_lt_of_le (Heap.lt_size (I.ok.bs b o e).1) z) (Nat.lt_irrefl _)
 ·rcases List.mem_cons.mp (I.stkSub b z) with q | q
  ·exact (hf b hb).2.1 q
  ·exact (hf b hb).2.2.1 q
 ·have hi:own.length≤i:=by
   refine Nat.le_of_not_lt fun q=>?_
   unfold bi at e2
   rw [List.getElem?_append_left (by simpa using q),List.getElem?_replicate] at e2
   split at e2 <;> cases e2
  have e1':cs[i - own.length]? = some y:=by
   have e1:(own ++ cs)[i]? = some y:=e1
   rwa [List.getElem?_append_right hi] at e1
  obtain ⟨j,hj,hN,hm⟩:=ok.caps _ y e1'
  have hk:=ok.free _ hm rfl
  have e2':σ[j]? = some (some v):=by
   unfold bi at e2
   rw [List.getElem?_append_right (by simpa using hi),List.length_replicate,List.getElem?_map,hj] at e2
   have e2:(σ[j]?).join=some v:=by simpa using e2
   cases q:σ[j]? with
   | none=>rw [q] at e2; cases e2
   | some w=>rw [q] at e2; have:w=some v:=e2; rw [this]
  obtain ⟨m,hn,hl⟩:=I.loc
  obtain ⟨u,ru,l⟩:=hl j y v hN e2' (by rcases hk with q | q; exact .inr (.inl q); exact .inr (.inr q))
  refine ⟨u,ru,.inr ?_⟩
  obtain ⟨c,hc⟩:=fH X.env scope.names [] y hm
  have hc':=sub y c hc
  have cellu:h1.IsCell c (some u):=by
   rcases l with ⟨k,_⟩ | ⟨k,c',e,o,ho,hd⟩
   ·rcases hk with q | q <;> (have z:X.env.kindOf y=_:=q; rw [k] at z; cases z)
   ·rw [hc'] at e; cases e
    exact ⟨o,old _ _ ho,hd⟩
  refine ⟨?_,c,hc,cellu⟩
  rcases e3 with z | z | z
  ·exfalso
   have key:∀names:List (Str×NameKind),True:=fun _=>trivial
   have z:(relabel scope X.env).names.lookup y=some .local:=z
   have zz:scope.names.lookup y=some .local:=by
    unfold relabel at z
    dsimp only at z
    revert z
    generalize scope.names=names
    induction names with
    | nil=>intro z; simp at z
    | cons q r ih =>
     obtain ⟨n,k⟩:=q
     intro z
     rw [List.map_cons] at z
     by_cases hb:(k == NameKind.free && X.env.scope.kind == .function && X.env.kindOf n == some .cell)=true
     ·dsimp only at z
      rw [if_pos hb,List.lookup_cons] at z
      rw [List.lookup_cons]
      cases hx:y == n with
      | true=>rw [hx] at z; cases z
      | false=>rw [hx] at z; exact ih z
     ·dsimp only at z
      rw [if_neg hb,List.lookup_cons] at z
      rw [List.lookup_cons]
      cases hx:y == n with
      | true=>rw [hx] at z; exact z
      | false=>rw [hx] at z; exact ih z
   have:=ok.free2 y hm zz
   exact this
  ·exact .inl z
  ·exact .inr z
 ·obtain ⟨v,o,ho,hd⟩:=I.cell y c (sub y c e)
  exact ⟨v,o,old _ _ ho,hd⟩
 ·have hp':p∈X.pn ++ pins:=by
   have:p∈(X.pn ++ pins) ++ []:=hp
   simpa using this
  obtain ⟨e,n,ne,nf,d⟩:=I.pin p hp'
  refine ⟨old _ _ e,n,Nat.ne_of_lt (Nat.lt_of_lt_of_le (Heap.lt_size e) hC),fun z=>?_,d⟩
  rcases List.mem_cons.mp (I.stkSub p.1 z) with q | q
  ·exact ne q
  ·exact nf q
 ·show (bi σ cap own.length).length=(own ++ cs).length
  unfold bi
  rw [List.length_append,List.length_replicate,List.length_map,List.length_append,ok.len]
end
end L2
set_option Elab.async false
set_option linter.all false
set_option maxRecDepth 100000
namespace L2
open PySem PySem.Spec PyProof.Rows
section
variable {X:Cx} {pins:List (Addr×Obj)} {σ:St} {H2:Hp} {s2:Shared} {scope:Scope} {own cs:List Str} {cap:List Nat} {fp:List Addr} {it:Addr} {tn:Nat→Heap→Prop}
 {elt tg iter:Expr} {ifs:List Expr} {pos:Pos} {J:It} {g:TG} {tt:TT} {te:TE} {E:Value→Shared→Prop} {W:Nat→Nat→List V→Hp→Prop} {Qf:List V→Hp→Prop}
structure BlkEnd (X:Cx) (pins:List (Addr×Obj)) (σ:St) (Qf:List V→Hp→Prop) (D C:Addr) (s':Shared):Prop where
 ex:∃ (ys:List V) (H':Hp),H' D=none∧Qf ys H'∧Inv X pins σ (upd H' D (.lst ys)) s'∧dW X pins (upd H' D (.lst ys)) C
 ns:∃m,s'.heap.Ns C m
theorem Inv.bareP {pins':List (Addr×Obj)} {H:Hp} {s:Shared} (I:Inv X pins' σ H s):Inv X [] σ H s:=I.pins_of fun p hp=>absurd hp (by simp)
theorem js {RR:Value→Addr→Result→Shared→Prop} (I:Inv X pins σ H2 s2) (ok:CompOk X scope own cs cap) (hc:X.calm=true) (T:Turn X.prog X.w X.K tg J fp it tn) (st:tn 0 s2.heap) (hf:∀b∈fp,dW X pins H2 b)
  (hg:∀C,PG (aG X pins s2 H2 scope C (own ++ cs) fp) tg g) (hi:∀C,iL (aG X pins s2 H2 scope C (own ++ cs) fp) ifs tt) (he:∀C,PE (aG X pins s2 H2 scope C (own ++ cs) fp) elt te)
  (w0:∃m,W 0 m [] H2) (turn:gz σ cap own.length J g tt te Qf W)
  (hRR:∀D C s',BlkEnd X pins σ Qf D C s'→RR (.ref D) C (.ok .next) s') :
  wpAny (model X.prog X.w) X.A (newList []) (fun acc s₃=>wpAny (model X.prog X.w) X.A (newFunctionEnv scope X.env.globals (aY X.env scope.names []) [] X.env.qual none .none (some X.env)) (fun cenv s₄ =>
   codeAny (model X.prog X.w) X.A (.compStart (.ListComp elt [⟨tg,iter,ifs,0⟩] scope pos) 0 (.ref it) acc { cenv with scope:=relabel scope X.env }) (RR acc cenv.locals) s₄) E s₃) E s2:=by
 refine wpAny_newObj_type (wpAny_newFunctionEnv ok.cell (by intro y hy; simp at hy) (fun h₁ hns₁ hsb₁=>?_) ok.kind)
 dsimp only at hns₁ hsb₁ ⊢
 generalize hHH:s2.heap.push { cls:=.type "list",dict:=none,data:=.seq ([]:List Value).toArray }=HH at hns₁ hsb₁ ⊢
 have hCs:HH.objs.size=s2.heap.objs.size + 1:=by rw [← hHH,Heap.size_push]
 have hDC:s2.heap.objs.size≠HH.objs.size:=by rw [hCs]; exact Nat.ne_of_lt (Nat.lt_succ_self _)
 have hCle:s2.heap.objs.size≤HH.objs.size:=by rw [hCs]; exact Nat.le_succ _
 have hfl:∀b∈fp,b < s2.heap.objs.size:=fun b hb=>by
  obtain ⟨o,e,_⟩:=T.obj 0 _ st b hb
  exact Heap.lt_size e
 have old:∀b o,s2.heap.get? b=some o→h₁.get? b=some o:=fun b o e=>hsb₁.extBut b o (by rw [hCs]; exact Nat.ne_of_lt (Nat.lt_succ_of_lt (Heap.lt_size e))) (Heap.get?_push_of_some _ (hHH ▸ Heap.get?_push_of_some _ e))
 have hacc:h₁.PlainList s2.heap.objs.size #[]:=⟨_,hsb₁.extBut _ _ hDC (Heap.get?_push_of_some _ (hHH ▸ Heap.get?_push_size _ rfl))⟩
 generalize hD:s2.heap.objs.size=D at *
 generalize hCC:HH.objs.size=C at *
 have hns₁':h₁.Ns C (fun _=>none):=hns₁
 have I0:Inv (aG X pins s2 H2 scope C (own ++ cs) fp) [] (bi σ cap own.length) H2 { s2 with heap:=h₁,toks:=s2.toks + ([]:List (Str×Value)).length } :=
  ip I ok hf (fun b hb=>by rw [hD]; exact hfl b hb) (by rw [hD]; exact hCle) hns₁' old
 have Dfs:D∉frs X.stack:=fun hb=>by
  obtain ⟨_,o,ho,_⟩:=I.stack.mem hb
  exact absurd (Heap.lt_size ho) (by rw [hD]; exact Nat.lt_irrefl _)
 have Dfp:∀b∈fp,D≠b:=fun b hb z=>absurd (hfl b hb) (by rw [← z]; exact Nat.lt_irrefl _)
 have clt:∀x c,(aY X.env scope.names []).lookup x=some c→c < D:=fun x c e=>by
  have e':=cu X.env scope.names [] x c (fun y hy e=>I.ok.has y.1 (ok.free y hy e)) (fun _ _ z=>by simp at z) e
  obtain ⟨v,o,ho,_⟩:=I.cell x c e'
  have:=Heap.lt_size ho
  rw [hD] at this; exact this
 have plt:∀p∈X.pn ++ pins,p.1 < D:=fun p hp=>by
  have:=Heap.lt_size (I.pin p hp).1
  rw [hD] at this; exact this
 have stat:∀ {H':Hp} {ob:Obj},(∀b∈fp,H' b=none)→∀b∈fp,dW (aG X pins s2 H2 scope C (own ++ cs) fp) [(D,ob)] H' b:=fun {H' ob} hn b hb=>by
  have q:=I0.ok.exf b hb
  refine ⟨hn b hb,q.1,I0.ok.exfs b hb,.inl hb,q.2,fun p hp=>?_⟩
  rcases List.mem_append.mp hp with z | z
  ·exact (hf b hb).2.2.2.2.2 p z
  ·have:p=(D,ob):=by simpa using z
   subst this
   exact Dfp b hb
 have loop:codeAny (model X.prog X.w) X.A (.compLoop (.ListComp elt [⟨tg,iter,ifs,0⟩] scope pos) 0 (.ref it) (.ref D) (compEnvC scope (aY X.env scope.names []) C X.env)) (RR (.ref D) C)
   { s2 with heap:=h₁,toks:=s2.toks + ([]:List (Str×Value)).length }:=by
  obtain ⟨m0,w0⟩:=w0
  refine codeAny_loop rfl (fun n s'=>∃i H' its ys,Inv (aG X pins s2 H2 scope C (own ++ cs) fp) [] (bi σ cap own.length) H' s'∧tn i s'.heap∧(∀b∈fp,H' b=none)∧s'.heap.PlainList D its.toArray∧Vals ys its∧H' D=none∧W i n ys H') ?_ m0
   ⟨0,H2,[],[],I0,T.keep 0 _ _ st fun b _ o e=>old b o e,fun b hb=>(hf b hb).1,hacc,.nil,I.hok.fresh (by rw [hD]; exact Nat.le_refl _),w0⟩
  rintro n s3 ⟨i,H3,its,ys,I3,st3,fr3,⟨nn,pl3⟩,rv3,hD3,w3⟩
  show wpAny _ X.A ((compTurn (.ListComp elt [⟨tg,iter,ifs,0⟩] scope pos) 0 (.ref it) (.ref D) (compEnvC scope (aY X.env scope.names []) C X.env)).onRaise (fun x=>do noteFrame x (compEnvC scope (aY X.env scope.names []) C X.env); theTreesLotGoes x)) _ _ s3
  refine wpAny_noted ?_
  rw [compTurn_list]
  refine wpAny_bind (wpAny_standAt (wpAny_bind ?_))
  have I3':Inv (aG X pins s2 H2 scope C (own ++ cs) fp) [(D, { cls:=.type "list", data:=.seq its.toArray nn })] (bi σ cap own.length) H3 s3 :=
   I3.pins_of fun p hp=>by
    have:p=(D,{ cls:=.type "list",data:=.seq its.toArray nn }):=by simpa using hp
    subst this
    exact ⟨pl3,hD3,hDC,Dfs,fun v z=>by cases z⟩
  rcases turn i n ys H3 w3 with ⟨stop,hz,qf⟩ | ⟨go,hz,step⟩
  ·refine thn (T.done (aG X pins s2 H2 scope C (own ++ cs) fp) rfl rfl rfl hc i _ s3 _ H3 _ I3' (stat fr3) st3 stop) fun r s4 ⟨hr,I4⟩=>?_
   subst hr
   refine wpAny_pure (hRR D C s4 ⟨⟨ys,H3,hD3,qf,?_,?_⟩,?_⟩)
   ·have pl4:=(I4.pin (D,_) (List.mem_append_right _ (List.mem_singleton.mpr rfl))).1
    have u4:=I4.base
    have Ds2:s2.heap.get? D=none:=Heap.get?_none_of_le (by rw [hD]; exact Nat.le_refl _)
    refine I.call' (s':=s4) (ch:=fp) I4.os ⟨u4.keep,u4.slot,fun b o e n hx=>?_,u4.there,fun b xs e=>?_,fun b o u e=>?_,fun b ps e=>?_⟩ ?_ I4.bare fun b hb=>⟨(hf b hb).2.2.2.1,(hf b hb).2.1,(hf b hb).2.2.2.2.1,(hf b hb).2.2.2.2.2⟩
    ·rw [am (fun z=>by rw [z,Ds2] at e; cases e)]
     exact u4.free b o e n hx
    ·have:=u4.tups b xs e
     rw [am (ah this hD3)]; exact this
    ·have:=u4.frzs b o u e
     rw [am (ah this hD3)]; exact this
    ·obtain ⟨more,e'⟩:=u4.tbls b ps e
     exact ⟨more,by rw [am (ah e' hD3)]; exact e'⟩
    ·exact I4.hok.add hD3 ⟨hz,its,nn,rv3,pl4⟩
   ·have CH:(upd H3 D (.lst ys)) C=none:=by rw [am (Ne.symm hDC)]; exact I4.free
    exact I.fpOk (H':=upd H3 D (.lst ys)) (by rw [hD]; exact hCle) CH
   ·obtain ⟨m,hn,_⟩:=I4.loc
    exact ⟨m,hn⟩
  ·refine thn (T.item (aG X pins s2 H2 scope C (own ++ cs) fp) rfl rfl rfl hc i _ s3 _ H3 _ I3' (stat fr3) st3 go) fun r s4 ⟨u,hr,h4⟩=>?_
   subst hr
   refine wpAny_bind (thn h4 fun _ s5 ⟨x,H5,I5,r5,y5,st5,fr5⟩=>?_)
   have I5':=I5.pinned (stat fr5) (T.obj _ _ st5)
   refine wpAny_bind (wpAny_mono (hg C _ s5 _ H5 x u _ I5' r5 (step x H5 y5)) (fun _ s6 ⟨σ6,H6,I6,le6,q6⟩=>?_) fun _ _ z=>False.elim z)
   refine wpAny_bind (wpAny_mono (hi C _ s6 σ6 H6 _ I6 q6) (fun b s7 ⟨H7,I7,q7⟩=>?_) fun _ _ z=>False.elim z)
   have back:∀ {pins':List (Addr×Obj)} {H8:Hp} {s8:Shared},Inv (aG X pins s2 H2 scope C (own ++ cs) fp) pins' σ6 H8 s8→Inv (aG X pins s2 H2 scope C (own ++ cs) fp) [] (bi σ cap own.length) H8 s8:=fun I8 =>
    I8.bareP.weak le6.1.symm fun i v e=>le6.2 i v e
   cases b with
   | false =>
    rw [if_neg Bool.false_ne_true] at q7
    obtain ⟨m',hm,w7⟩:=q7
    refine wpAny_pure ⟨rfl,m',hm,i + 1,H7,its,ys,back I7,T.keep _ _ _ st5 fun b hb o e=>?_,fun b hb=>?_,⟨nn,?_⟩,rv3,?_,w7⟩
    ·exact (I7.pin (b,o) (List.mem_append_right _ (List.mem_append_right _ (aR hb e)))).1
    ·obtain ⟨o,e,d⟩:=T.obj _ _ st5 b hb
     exact (I7.pin (b,o) (List.mem_append_right _ (List.mem_append_right _ (aR hb e)))).2.1
    ·exact (I7.pin (D,_) (List.mem_append_right _ (List.mem_append_left _ (List.mem_singleton.mpr rfl)))).1
    ·exact (I7.pin (D,_) (List.mem_append_right _ (List.mem_append_left _ (List.mem_singleton.mpr rfl)))).2.1
   | true =>
    rw [if_pos rfl] at q7
    refine wpAny_bind (wpAny_bind (wpAny_mono (he C _ s7 σ6 H7 _ I7 q7) (fun y s8 ⟨v,H8,I8,r8,m',hm,w8⟩=>?_) fun _ _ z=>False.elim z))
    have pD:=I8.pin (D,{ cls:=.type "list",data:=.seq its.toArray nn }) (List.mem_append_right _ (List.mem_append_left _ (List.mem_singleton.mpr rfl)))
    have hlen:=rv3.length
    refine wpAny_bind (wpAny_list_append_plain (hsz:=by rw [List.size_toArray]; omega) ⟨nn,pD.1⟩ fun h9 pl9 sb9=>wpAny_pure (wpAny_pure ?_))
    have I8':=back I8
    refine ⟨rfl,m',hm,i + 1,H8,its ++ [y],ys ++ [v],?_,T.keep _ _ _ st5 fun b hb o e=>?_,fun b hb=>?_,?_,rv3.append (.cons r8 .nil),pD.2.1,w8⟩
    ·exact I8'.turned (t':=s8.toks) (fun b o hb e=>sb9.extBut b o hb e) pD.2.1 hDC (.inr (by show s2.heap.objs.size≤D; rw [hD]; exact Nat.le_refl _)) (fun x c e=>Nat.ne_of_lt (clt x c e)) fun p hp=>by
      have hp':p∈X.pn ++ pins:=by
       have:p∈(X.pn ++ pins) ++ []:=hp
       simpa using this
      exact Nat.ne_of_lt (plt p hp')
    ·exact sb9.extBut b o (Ne.symm (Dfp b hb)) (I8.pin (b,o) (List.mem_append_right _ (List.mem_append_right _ (aR hb e)))).1
    ·obtain ⟨o,e,d⟩:=T.obj _ _ st5 b hb
     exact (I8.pin (b,o) (List.mem_append_right _ (List.mem_append_right _ (aR hb e)))).2.1
    ·have e:its.toArray.push y=(its ++ [y]).toArray:=by simp
     rw [← e]; exact pl9
 exact codeAny_compStart_list loop (T.self _ 0 _ _ _ (T.keep 0 _ _ st fun b _ o e=>old b o e) loop)
def pS (wi:TI) (cap:List Nat) (k:Nat) (g:TG) (tt:TT) (te:TE):TE:=fun σ H Q=>wi σ H fun J H1 =>
 ∃W:Nat→Nat→List V→Hp→Prop,(∃m,W 0 m [] H1)∧gz σ cap k J g tt te (fun ys H'=>∀p,H' p=none→Q (.ref p) (upd H' p (.lst ys))) W
theorem ge {wi:TI} (hc:X.calm=true) (hit:PI X tg iter wi) (ok:CompOk X scope own cs cap)
  (hg:∀pins s2 H2 C fp,PG (aG X pins s2 H2 scope C (own ++ cs) fp) tg g) (hi:∀pins s2 H2 C fp,iL (aG X pins s2 H2 scope C (own ++ cs) fp) ifs tt) (he:∀pins s2 H2 C fp,PE (aG X pins s2 H2 scope C (own ++ cs) fp) elt te)
  (hs:∀x,foldedSetIterable iter X.env x=pure x:=by intro _; rfl):PE X (.ListComp elt [⟨tg,iter,ifs,0⟩] scope pos) (pS wi cap own.length g tt te):=by
 intro pins s σ H Q I h
 rw [eval_ListComp]
 refine wpAny_comprehension_free (use:=none) rfl hs (el fun y hy e=>I.ok.has y.1 (ok.free y hy e)) ok.kind ok.names (thn (hit pins s σ H _ I h) fun v s1 h1=>thn h1 fun itv s2 h2=>?_)
 obtain ⟨it,fp,tn,J,H2,e,I2,T,st2,f2,W,w0,turn⟩:=h2
 subst e
 refine js (RR:=fun acc C=>compPost (model X.prog X.w) X.A X.xe none (EP X pins σ Q) acc C) I2 ok hc T st2 f2 (fun C=>hg _ _ _ _ _) (fun C=>hi _ _ _ _ _) (fun C=>he _ _ _ _ _) w0 turn fun D C s' B=>?_
 obtain ⟨⟨ys,H',hD,q,I',fp'⟩,m,hn⟩:=B
 obtain ⟨f0,f1,f2',f3,f4,f5⟩:=fp'
 exact ⟨m,hn,fun h' sb=>⟨.ref D,_,I'.turned (t':=s'.toks) (fun b o hb e=>sb.extBut b o hb e) f0 f1 f3 f4 f5,rfl,q D hD⟩⟩
theorem mE {wi:TI} {i:Nat} {y:Str} {py spos:Pos} (hc:X.calm=true) (hN:X.N.Nodup) (hiy:X.N[i]? = some y) (hy:X.env.scope.names.lookup y=some .local)
  (hsw:swapsWith (.ListComp elt [⟨tg,iter,ifs,0⟩] scope pos) (some (.Name y py)) spos.line X.env=pure true) (hit:PI X tg iter wi) (ok:CompOk X scope own cs cap)
  (hg:∀pins s2 H2 C fp,PG (aG X pins s2 H2 scope C (own ++ cs) fp) tg g) (hi:∀pins s2 H2 C fp,iL (aG X pins s2 H2 scope C (own ++ cs) fp) ifs tt) (he:∀pins s2 H2 C fp,PE (aG X pins s2 H2 scope C (own ++ cs) fp) elt te)
  (hs:∀x,foldedSetIterable iter X.env x=pure x:=by intro _; rfl):PS X (.Assign [.Name y py] (.ListComp elt [⟨tg,iter,ifs,0⟩] scope pos) spos) (uq (pS wi cap own.length g tt te) (jm i)):=by
 intro pins s σ H D0 I h
 rw [exec_Assign_Name_used _ _ _ _ hsw]
 refine wpAny_bind (wpAny_standAt (wpAny_bind ?_))
 show wpAny _ X.A (do let _←comprehension (.ListComp elt [⟨tg,iter,ifs,0⟩] scope pos) scope X.env _ (newList []) false (eval iter X.env) (some (assign (.Name y py) X.env))) _ _ s
 refine wpAny_bind (wpAny_mono (wpAny_comprehension_free (use:=some (assign (.Name y py) X.env)) (Q:=fun _ s'=>SP X pins D0 .next s') rfl hs (el fun y hy e=>I.ok.has y.1 (ok.free y hy e)) ok.kind ok.names
  (thn (hit pins s σ H _ I h) fun v s1 h1=>thn h1 fun itv s2 h2=>?_)) (fun _ s' hq=>wpAny_pure (wpAny_pure hq)) fun _ _ e=>e)
 obtain ⟨it,fp,tn,J,H2,e,I2,T,st2,f2,W,w0,turn⟩:=h2
 subst e
 refine js (RR:=fun acc C=>compPost (model X.prog X.w) X.A X.xe (some (assign (.Name y py) X.env)) (fun _ s'=>SP X pins D0 .next s') acc C) I2 ok hc T st2 f2 (fun C=>hg _ _ _ _ _) (fun C=>hi _ _ _ _ _) (fun C=>he _ _ _ _ _) w0 turn fun D C s' B=>?_
 obtain ⟨⟨ys,H',hD,q,I',fp'⟩,m,hn⟩:=B
 obtain ⟨f0,f1,f2',f3,f4,f5⟩:=fp'
 show wpAny _ X.A (assign (.Name y py) X.env (.ref D)) _ _ _
 refine wpAny_assign_Name (hZ I' hN hiy (.inl hy) (v:=.ref D) rfl (fun s3 I3 ⟨a,sb,ha⟩=>?_) (.inr hy))
 have hCa:C≠a:=by
  rcases ha with z | z
  ·rw [z]; exact f1
  ·exact fun q=>f4 y a z q.symm
 refine ⟨m,hn.sameBut sb hCa,fun h' sb'=>⟨_,_,I3.turned (t':=s3.toks) (fun b o hb e=>sb'.extBut b o hb e) f0 f1 f3 f4 f5,q D hD⟩⟩
end
end L2
set_option Elab.async false
set_option linter.all false
set_option maxRecDepth 100000
namespace L2
open PySem PySem.Spec PyProof.Rows
def CDivB (i j:Int):Prop:=0 < j∧j≤10 ^ 60
theorem CDivB.np {i j:Int} (h:CDivB i j):Builtin.divisionGoesByPylong i j=false:=by
 refine PyProof.noPylong_of_log2 ?_
 have h1:j.natAbs < 2 ^ 200:=by
  obtain ⟨a,b⟩:=h
  omega
 have h2:j.natAbs.log2 < 200:=(Nat.log2_lt (by have:=h.1; omega)).mpr h1
 omega
section
variable {X:Cx}
theorem jt:OpR X (binaryOp .FloorDiv) (rI CDivB fun i j=>.int (i / j)):=opI fun i j _ _ _ _ _ hc q=>by
 refine floordiv_int (by have:=hc.1; omega) ?_ (.inl hc.np)
 rw [Int.fdiv_eq_ediv_of_nonneg _ (by have:=hc.1; omega)]
 exact q
theorem Inv.kitx {pins:List (Addr×Obj)} {σ:St} {H:Hp} {s:Shared} {x:V} {u t:Value} (I:Inv X pins σ H s) (rx:RelV x u) (ty:TyOf X.K H x t) :
  ∃P:Heap→Prop,PySem.W.KitX X.K u t P∧P s.heap∧u≠.builtin "__main__.__loader__#opaque" := by
 cases ty with
 | non=>cases (show u=Value.none from rx); exact ⟨_,PySem.W.kitx_none,True.intro,fun z=>nomatch z⟩
 | bl y=>cases (show u=Value.bool y from rx); exact ⟨_,PySem.W.kitx_bool,True.intro,fun z=>nomatch z⟩
 | int i=>obtain ⟨t,q⟩:=(show ∃t,u=Value.int i t from rx); cases q; exact ⟨_,PySem.W.kitx_int,True.intro,fun z=>nomatch z⟩
 | str y=>obtain ⟨t,q⟩:=(show ∃t,u=Value.str y t from rx); cases q; exact ⟨_,PySem.W.kitx_str,True.intro,fun z=>nomatch z⟩
 | flt y=>obtain ⟨t,q⟩:=(show ∃t,u=Value.float y t from rx); cases q; exact ⟨_,PySem.W.kitx_float,True.intro,fun z=>nomatch z⟩
 | @lst a xs ea =>
  cases (show u=Value.ref a from rx)
  obtain ⟨_,_,n,_,h1⟩:=(show ObjOk X.prog X.w H s.heap a (.lst xs) from I.hok a _ ea)
  exact ⟨_,PySem.W.kitx_list,⟨_,h1,rfl⟩,fun z=>nomatch z⟩
 | @frz a ob xs ea =>
  cases (show u=Value.ref a from rx)
  obtain ⟨_,_,_,n,_,h1⟩:=(show ObjOk X.prog X.w H s.heap a (.frz ob (.lst xs)) from I.hok a _ ea)
  exact ⟨_,PySem.W.kitx_list,⟨_,h1,rfl⟩,fun z=>nomatch z⟩
 | @tup a xs ea =>
  cases (show u=Value.ref a from rx)
  obtain ⟨_,_,_,p⟩:=(show ObjOk X.prog X.w H s.heap a (.tup xs) from I.hok a _ ea)
  obtain ⟨o,h1,h2,_⟩:=p
  exact ⟨_,PySem.W.kitx_tuple,⟨o,h1,h2⟩,fun z=>nomatch z⟩
 | @dK a kvs ea =>
  cases (show u=Value.ref a from rx)
  obtain ⟨_,_,vs,_,p⟩:=(show ObjOk X.prog X.w H s.heap a (.dK kvs) from I.hok a _ ea)
  obtain ⟨o,es,ep,h1,h2,_⟩:=p
  exact ⟨_,PySem.W.kitx_dict,⟨o,h1,h2.1⟩,fun z=>nomatch z⟩
 | @dT a kvs ea =>
  cases (show u=Value.ref a from rx)
  obtain ⟨_,_,xs,_,o,es,ep,h1,h2,_⟩:=(show ObjOk X.prog X.w H s.heap a (.dT kvs) from I.hok a _ ea)
  exact ⟨_,PySem.W.kitx_dict,⟨o,h1,h2.1⟩,fun z=>nomatch z⟩
 | @ins a C dx fs ea cl ha hn htk hm =>
  cases (show u=Value.ref a from rx)
  obtain ⟨mA,O,_⟩:=eF I.hok ea
  obtain ⟨od,J,_⟩:=O.look
  exact ⟨_,PySem.W.kitx_own (cl.get _) cl.hd ha hn htk hm,J,fun z=>nomatch z⟩
def clV:V→Option Value
 | .ty T=>some (.type T)
 | .ref C=>some (.ref C)
 | _=>none
theorem clV.rel {v:V} {u c:Value} (e:clV v=some c) (r:RelV v u):u=c:=by
 cases v with
 | ty T=>have e':Value.type T=c:=Option.some.inj e; rw [← e']; exact r
 | ref C=>have e':Value.ref C=c:=Option.some.inj e; rw [← e']; exact r
 | _=>cases e
def clVs:List V→Option (List Value)
 | []=>some []
 | v :: r=>match clV v,clVs r with
  | some c,some cs=>some (c :: cs)
  | _,_=>none
theorem clVs.rel:∀ {vs:List V} {us cs:List Value},clVs vs=some cs→Vals vs us→us=cs
 | [],_,_,e,.nil=>Option.some.inj e
 | v :: r,_,_,e,.cons r1 r2=>by
  unfold clVs at e
  split at e
  ·rename_i c cs' e1 e2
   cases e
   rw [clV.rel e1 r1,clVs.rel e2 r2]
  ·cases e
theorem cK:cP X (.builtin "isinstance") (fun xs H Q=>∃x cv t c b,xs=[x,cv]∧TyOf X.K H x t∧clV cv=some c∧PySem.W.kitOne X.K t c=some b∧Q (.bl b) H):=by
 intro pins s σ H xs us Q I rv h
 obtain ⟨x,cv,t,c,b,rfl,ty,e1,e2,q⟩:=h
 cases rv with
 | cons r1 rr =>
  cases rr with
  | cons r2 rr =>
   cases rr
   rw [clV.rel e1 r2]
   exact nu I r1 ty e2 fun tk=>⟨.bl b,H,I.tok tk,rfl,q⟩
theorem iM:cP X (.builtin "isinstance") (fun xs H Q=>∃x p t cvs cs b,xs=[x,.ref p]∧TyOf X.K H x t∧H p=some (.tup cvs)∧clVs cvs=some cs∧PySem.W.kitAny X.K t cs=some b∧Q (.bl b) H):=by
 intro pins s σ H xs us Q I rv h
 obtain ⟨x,p,t,cvs,cs,b,rfl,ty,hp,e1,e2,q⟩:=h
 cases rv with
 | cons r1 rr =>
  cases rr with
  | cons r2 rr =>
   cases rr
   cases r2
   obtain ⟨_,its,rits,o,ho,hc,n,hd⟩:=I.hok p _ hp
   obtain ⟨P,Z,p1,p2⟩:=I.kitx r1 ty
   obtain ⟨oc,od,dt,osl⟩:=o
   replace hc:oc=.type "tuple" := hc
   replace hd:dt=.seq its.toArray n:=hd
   subst hc hd
   have e3:=clVs.rel e1 rits
   subst e3
   exact PySem.W.kia_tup Z I.kIn p1 ho e2 p2 fun tk=>⟨.bl b,H,I.tok tk,rfl,q⟩
end
mutual
inductive DatV (K:PySem.W.Frag) (H:Hp):V→PyData→Prop
 | non:DatV K H .non .none
 | bl (b:Bool):DatV K H (.bl b) (.bool b)
 | int (i:Int):DatV K H (.int i) (.int i)
 | str (x:Str):DatV K H (.str x) (.str x)
 | lst {a:Addr} {xs:List V} {ds:List PyData}:SqL K H a xs→DatVs K H xs ds→DatV K H (.ref a) (.list ds)
 | tup {a:Addr} {xs:List V} {ds:List PyData}:SqT K H a xs→DatVs K H xs ds→DatV K H (.ref a) (.tuple ds)
inductive DatVs (K:PySem.W.Frag) (H:Hp):List V→List PyData→Prop
 | nil:DatVs K H [] []
 | cons {x:V} {d:PyData} {xs:List V} {ds:List PyData}:DatV K H x d→DatVs K H xs ds→DatVs K H (x :: xs) (d :: ds)
end
section
variable {X:Cx} {pins:List (Addr×Obj)} {σ:St} {H:Hp} {s:Shared}
mutual
theorem Inv.reads (I:Inv X pins σ H s):∀ {v:V} {d:PyData},DatV X.K H v d→∀ {u:Value},RelV v u→∃as,Reads s.heap u d as
 | _,_,.non,u,r=>by cases (show u=Value.none from r); exact ⟨_,.none⟩
 | _,_,.bl b,u,r=>by cases (show u=Value.bool b from r); exact ⟨_,.bool b⟩
 | _,_,.int i,u,r=>by obtain ⟨t,e⟩:=(show ∃t,u=Value.int i t from r); subst e; exact ⟨_,.int i t⟩
 | _,_,.str x,u,r=>by obtain ⟨t,e⟩:=(show ∃t,u=Value.str x t from r); subst e; exact ⟨_,.str x t⟩
 | _,_,.lst (a:=a) h hs,u,r=>by
  cases (show u=Value.ref a from r)
  obtain ⟨its,rv,⟨o,n,e,c,_,d⟩,_⟩:=I.list h
  obtain ⟨as,ra⟩:=I.readsAll hs rv
  exact ⟨_,.list e c d (by simpa using ra)⟩
 | _,_,.tup (a:=a) h hs,u,r=>by
  cases (show u=Value.ref a from r)
  obtain ⟨its,rv,⟨o,e,c,n,d⟩,_⟩:=I.tuple h
  obtain ⟨as,ra⟩:=I.readsAll hs rv
  exact ⟨_,.tuple e c d (by simpa using ra)⟩
theorem Inv.readsAll (I:Inv X pins σ H s):∀ {vs:List V} {ds:List PyData},DatVs X.K H vs ds→∀ {us:List Value},Vals vs us→∃as,ReadsAll s.heap us ds as
 | _,_,.nil,_,.nil=>⟨_,.nil⟩
 | _,_,.cons h hs,_,.cons r rs=>by
  obtain ⟨as,ra⟩:=I.reads h r
  obtain ⟨bs,rb⟩:=I.readsAll hs rs
  exact ⟨_,.cons ra rb⟩
end
end
section
variable {X:Cx}
theorem df (hu:X.A.units + 64 < cLine):OpR X (compareOp .NotEq) (fun x y H Q=>∃da db,DatV X.K H x da∧DatV X.K H y db∧SeqAt.shaped da=true∧SeqAt.shaped db=true∧Q (.bl (!PyData.eqv da db)) H):=by
 intro pins s σ H x y v u Q I rx ry h
 obtain ⟨da,db,hx,hy,s1,s2,q⟩:=h
 obtain ⟨as,ra⟩:=I.reads hx rx
 obtain ⟨bs,rb⟩:=I.reads hy ry
 exact ne_dataH ra rb s1 s2 hu ⟨.bl _,H,I,rfl,q⟩
theorem uz (hu:X.A.units + 64 < cLine):OpR X (compareOp .Eq) (fun x y H Q=>∃da db,DatV X.K H x da∧DatV X.K H y db∧SeqAt.shaped da=true∧SeqAt.shaped db=true∧Q (.bl (PyData.eqv da db)) H):=by
 intro pins s σ H x y v u Q I rx ry h
 obtain ⟨da,db,hx,hy,s1,s2,q⟩:=h
 obtain ⟨as,ra⟩:=I.reads hx rx
 obtain ⟨bs,rb⟩:=I.reads hy ry
 exact eq_dataH ra rb s1 s2 hu ⟨.bl _,H,I,rfl,q⟩
end
section
variable {prog:Program} {w:World} {A:Around} {E:Value→Shared→Prop}
theorem gA {it l:Addr} {items:Array Value} (hne:l≠it):∀ (n i:Nat) (s:Shared) (Q:List Value→Shared→Prop),s.heap.IsListIter it l i→s.heap.IsList l items→i + n≤items.size →
  (∀h',h'.IsListIter it l (i + n)→Heap.SameBut it s.heap h'→Q ((items.toList.drop i).take n) { s with heap:=h' })→wpAny (model prog w) A (draw (.ref it) n) Q E s
 | 0,i,s,Q,hit,_,_,hQ=>by
  show wpAny _ _ (pure []) Q E s
  exact wpAny_pure (by simpa using hQ s.heap hit (Heap.SameBut.refl ..))
 | n + 1,i,s,Q,hit,ht,hle,hQ=>by
  have hlt:i < items.size:=by omega
  show wpAny _ _ (pyNext (.ref it) >>= _) Q E s
  refine wpAny_bind (wpAny_pyNext_list_item hit ht (x:=items[i]) (by simp [hlt]) fun h₁ hit₁ hs₁=>?_)
  refine wpAny_bind (wpAny_holding (gA hne n (i + 1) _ _ hit₁ (ht.extBut hs₁.extBut hne) (by omega) fun h₂ hit₂ hs₂=>wpAny_pure ?_))
  have hd:items.toList.drop i=items[i] :: items.toList.drop (i + 1):=by simp [List.drop_eq_getElem_cons,hlt]
  have q:=hQ h₂ (by rw [show i + (n + 1)=i + 1 + n by omega]; exact hit₂) (hs₁.trans hs₂)
  rw [hd,List.take_succ_cons] at q
  exact q
theorem eH {s:Shared} {l:Addr} {items:Array Value} {Q:List Value→Shared→Prop} (hh:A.handled=none) (ht:s.heap.IsList l items)
  (hQ:∀h',Heap.ExtBut s.heap.objs.size s.heap h'→Q items.toList { s with heap:=h' }):wpAny (model prog w) A (unpackItems (.ref l) items.size none) Q E s:=by
 have hlt:l≠s.heap.objs.size:=by obtain ⟨o,ho,_⟩:=ht; exact Nat.ne_of_lt (Heap.lt_size ho)
 have hp:(s.heap.push { cls:=.type "list_iterator",data:=.fields #[.ref l,.int 0 0] }).IsList l items:=by
  obtain ⟨o,ho,r⟩:=ht; exact ⟨o,Heap.get?_push_of_some _ ho,r⟩
 unfold unpackItems
 refine wpAny_bind ?_
 ·unfold notIterableAtAll
  refine wpAny_bind (wpAny_specialOf ht.typeIs PySem.slot_list_iter.lookup ?_)
  refine wpAny_pure ?_
  simp only [Bool.false_eq_true,if_false]
  refine wpAny_bind (wpAny_holding (wpAny_pyIter_list ht ?_))
  refine wpAny_bind (wpAny_holding (gA hlt items.size 0 _ _ ⟨_,Heap.get?_push_size _ rfl,rfl,rfl⟩ hp (by omega) fun h₁ hit₁ hs₁=>?_))
  have hall:List.take items.size (List.drop 0 items.toList)=items.toList:=by
   rw [List.drop_zero]; exact List.take_of_length_le (by simp)
  rw [hall]
  rw [if_neg (by simp)]
  have ht₁:h₁.IsList l items:=hp.extBut hs₁.extBut hlt
  refine wpAny_bind (wpAny_holding (wpAny_pyNext_list_end hh hit₁ ht₁ (by simp) fun h₂ he₂=>?_))
  simp only [Option.isSome_none,Bool.false_eq_true,if_false]
  refine wpAny_pure (hQ h₂ fun b o hb e=>he₂ b o hb (hs₁.extBut b o hb (Heap.get?_push_of_some _ e)))
theorem eo {s:Shared} {env:Env} {elts:List Expr} {x1} {pos:Pos} {l:Addr} {items:Array Value} {Q:Unit→Shared→Prop} (hh:A.handled=none) (ht:s.heap.IsList l items)
  (hn:(assignEach elts env).length=items.size) (hstar:(assignEach elts env).findIdx? (·.1)=none)
  (h:∀h',Heap.ExtBut s.heap.objs.size s.heap h'→wpAny (model prog w) A (assignInOrder ((assignEach elts env).map (·.2)) items.toList) Q E { s with heap:=h' }) :
  wpAny (model prog w) A (assign (.Tuple elts x1 pos) env (.ref l)) Q E s:=by
 rw [assign_Tuple]
 refine wpAny_bind (wpAny_standAt ?_)
 unfold unpack
 rw [hn,hstar]
 exact wpAny_bind (wpAny_holding (eH hh ht h))
end
section
variable {X:Cx} {pos:Pos}
def Ez (K:PySem.W.Frag) (n:Nat) (t:TGs):TG:=fun v σ H Q=>∃a xs,v=.ref a∧(SqL K H a xs∨SqT K H a xs)∧xs.length=n∧t xs σ H Q
theorem kD {es:List Expr} {k:Nat} {t:TGs} {n:Nat} (hc:X.calm=true) (h:PGs X es t)
  (hn:(assignEach es X.env).length=n:=by rfl) (hst:(assignEach es X.env).findIdx? (·.1)=none:=by rfl):PG X (.Tuple es k pos) (Ez X.K n t):=by
 intro pins s σ H v u Q I r hw
 obtain ⟨a,xs,e1,hq,hl,hw⟩:=hw
 rcases hq with hq | hq
 ·subst e1
  cases r
  obtain ⟨its,rv,ht,hz⟩:=I.list hq
  refine eo (I.ok.hd hc) ht.isList (by simp [hn,← hl,rv.length]) hst fun h' hx=>?_
  have I1:Inv X pins σ H { s with heap:=h' }:=I.kept (t':=s.toks) fun b o e=>hx b o (Nat.ne_of_lt (Heap.lt_size e)) e
  exact h pins _ σ H xs _ Q I1 (by simpa using rv) hw
 ·exact aZ hc h hn hst pins s σ H v u Q I r ⟨a,xs,e1,hq,hl,hw⟩
end
section
variable {X:Cx}
theorem Inv.turnedN {pins:List (Addr×Obj)} {σ:St} {H:Hp} {s:Shared} {h':Heap} {t':Nat} {ch:List Addr} (I:Inv X pins σ H s) (hf:∀b∈ch,dW X pins H b) (k:∀b o,b∉ch→s.heap.get? b=some o→h'.get? b=some o):Inv X pins σ H { s with heap:=h',toks:=t' }:=by
 have hLc:X.env.locals∉ch:=fun z=>(hf _ z).2.1 rfl
 have nt:∀b u,H b=some u→b∉ch:=fun b u e z=>by rw [(hf b z).1] at e; cases e
 refine I.step (g':=s.gens) (d':=s.drawn) (ch:=ch) (fun b hb=>⟨(hf b hb).2.2.2.1,(hf b hb).2.1,(hf b hb).2.2.2.2.1,(hf b hb).2.2.2.2.2⟩) (fun b o _ _ hc e _=>k b o hc e) (fun b o _ _ hc e _=>⟨o.slots,k b o hc e⟩) (fun _ _ _ _ n=>n)
  (fun b o hc e=>⟨o,k b o hc e⟩) (fun _ _ e=>e) (fun _ _ _ e=>e) (fun b ps e=>⟨#[],by rw [e]; simp⟩) (fun m hm=>?_) (fun b u e=>?_) I.bare
 ·obtain ⟨o,es,ep,ho,r⟩:=hm
  exact ⟨o,es,ep,k _ o hLc ho,r⟩
 ·refine (I.hok b u e).stay (fun c v hc q=>k c v ?_ q) (fun _ q=>q) fun _ _ q=>q
  rcases hc with z | z
  ·rw [z]; exact nt b u e
  ·exact nt c _ z
theorem Inv.track {pins:List (Addr×Obj)} {σ:St} {H:Hp} {s:Shared} {a:Addr} {o:HO} (I:Inv X pins σ H s) (hf:dW X pins H a) (fa:X.s₀.heap.objs.size≤a) (new:ObjOk X.prog X.w (upd H a o) s.heap a o):Inv X pins σ (upd H a o) s:=by
 obtain ⟨f0,f1,f2,f3,f4,f5⟩:=hf
 have s0:∀b o,X.s₀.heap.get? b=some o→b≠a:=fun b o e=>Nat.ne_of_lt (Nat.lt_of_lt_of_le (Heap.lt_size e) fa)
 refine ⟨I.ok,I.os,I.bare,⟨I.base.keep,I.base.slot,fun b o e n hx=>?_,I.base.there,fun b xs e=>?_,fun b o u e=>?_,fun b ps e=>?_⟩,I.loc,I.cell,?_,fun x c e=>?_,fun p hp=>?_,I.hok.add f0 new,I.len⟩
 ·rw [am (s0 b o e)]; exact I.base.free b o e n hx
 ·have q:=I.base.tups b xs e
  rw [am (ah q f0)]; exact q
 ·have q:=I.base.frzs b o u e
  rw [am (ah q f0)]; exact q
 ·obtain ⟨more,q⟩:=I.base.tbls b ps e
  exact ⟨more,by rw [am (ah q f0)]; exact q⟩
 ·rw [am (Ne.symm f1)]; exact I.free
 ·rw [am (f4 x c e)]; exact I.freeC x c e
 ·obtain ⟨e,n,r⟩:=I.pin p hp
  exact ⟨e,by rw [am (f5 p hp)]; exact n,r⟩
end
structure ZipAp (z TI TO i1 i2:Addr):Prop where
 nd:[z,TI,TO,i1,i2].Nodup
end L2
set_option Elab.async false
set_option linter.all false
set_option maxRecDepth 100000
namespace L2
open PySem PySem.Spec PyProof.Rows
def Dn (P:Program) (w:World) (K:PySem.W.Frag) (mg:Str→Option Value) (base:Heap) (x:Str) (ps:List Str) (k:Nat) (sp:Sp):Prop :=
 ∃ (f:Addr) (fd:FuncData),FnOk P w K mg base CX0 k f fd ps sp∧Binds K fd ps []∧PySem.W.keepIn K (.ref f)=true∧mg x=some (.ref f)
theorem ar {X:Cx} {k:Nat} {ps:List Str} {sp:Sp} {x:Str} {p pos:Pos} {e:Expr} {es:List Expr} {t:TA} (D:Dn X.prog X.w X.K X.mg X.base x ps k sp) (hr:Room k X.A) (hg:Gl X x) (ha:PA X (e :: es) t)
  (hdb:(x == ("__debug__" : Str))=false:=by decide) (he:starEach (e :: es) X.env=(false,eval e X.env) :: starEach es X.env:=by rfl) (hpl:(backTo pos (starEach es X.env)).any (·.1)=false:=by rfl) :
  PE X (.Call (.Name x p) (e :: es) [] pos) (tX sp [] E0 t):=by
 obtain ⟨f,fd,F,hb,hk,hm⟩:=D
 exact rK F hr hg hm hk hb .nil mD ha hdb he hpl
def mF (sc:Scope) (N:List Str) (scope:Scope) (own cs:List Str) (cap:List Nat):Bool :=
 decide (scope.kind=.function) && scope.names.all (fun y=>decide (y.2≠.cell)) && scope.names.all (fun y=>decide (y.2=.local→scope.names.lookup y.1=some .local)) &&
 scope.names.all (fun y=>decide (y.2=.free→sc.names.lookup y.1=some .cell∨sc.names.lookup y.1=some .free)) && own.all (fun y=>decide (scope.names.lookup y=some .local)) &&
 decide (cs.length=cap.length) && (cs.zip cap).all (fun y=>decide (N[y.2]? = some y.1) && decide ((y.1,NameKind.free)∈scope.names)) && scope.names.all (fun y=>decide (y.2=.free→scope.names.lookup y.1≠some .local))
theorem cf {X:Cx} {sc:Scope} {N:List Str} {scope:Scope} {own cs:List Str} {cap:List Nat} (h1:X.env.scope=sc) (h2:X.N=N) (h:mF sc N scope own cs cap=true):CompOk X scope own cs cap:=by
 subst h1 h2
 unfold mF at h
 simp only [Bool.and_eq_true,List.all_eq_true,decide_eq_true_eq] at h
 obtain ⟨⟨⟨⟨⟨⟨⟨a1,a2⟩,a3⟩,a4⟩,a5⟩,a6⟩,a7⟩,a8⟩:=h
 refine ⟨a1,a2,a3,a4,fun i y e=>?_,a5,a6,fun y hy e=>a8 _ hy rfl e⟩
 have hi:i < cs.length:=(List.getElem?_eq_some_iff.mp e).1
 have hj:i < cap.length:=by rw [← a6]; exact hi
 refine ⟨cap[i],List.getElem?_eq_getElem hj,?_⟩
 have hm:(y,cap[i])∈cs.zip cap:=by
  have:(cs.zip cap)[i]? = some (y,cap[i]):=by
   rw [List.getElem?_zip_eq_some]
   exact ⟨e,List.getElem?_eq_getElem hj⟩
  exact List.mem_of_getElem? this
 exact a7 _ hm
theorem cC {σ:St} {H:Hp} {A B:Hp→Prop} (h:A H):zt σ H (fun ok H3=>if ok=true then A H3 else B H3):=by
 show (if (true:Bool)=true then A H else B H)
 rw [if_pos rfl]
 exact h
section
variable {X:Cx} {tg:Expr}
def uA (K:PySem.W.Frag) (tl:TE):TI:=fun σ H R=>tS K tl σ H R∨zb K tl σ H R
theorem pT {l:Expr} {tl:TE} (hl:PE X l tl):PI X tg l (uA X.K tl):=by
 intro pins s σ H R I h
 rcases h with h | h
 ·exact cj hl pins s σ H R I h
 ·exact jW hl pins s σ H R I h
end
def aK:List String:=["NoneType","bool","int","str","list","tuple","dict"]
theorem rR {K:PySem.W.Frag}:∀T∈aK,PySem.W.kitOne K (.type T) (.type "int")=some (T == "int" || T == "bool"):=by
 intro T h
 simp only [aK,List.mem_cons,List.not_mem_nil,or_false] at h
 rcases h with rfl | rfl | rfl | rfl | rfl | rfl | rfl <;> kernel_rfl
theorem ju {K:PySem.W.Frag}:∀T∈aK,PySem.W.kitOne K (.type T) (.type "bool")=some (T == "bool"):=by
 intro T h
 simp only [aK,List.mem_cons,List.not_mem_nil,or_false] at h
 rcases h with rfl | rfl | rfl | rfl | rfl | rfl | rfl <;> kernel_rfl
theorem pU {K:PySem.W.Frag}:∀T∈aK,PySem.W.kitOne K (.type T) (.type "list")=some (T == "list"):=by
 intro T h
 simp only [aK,List.mem_cons,List.not_mem_nil,or_false] at h
 rcases h with rfl | rfl | rfl | rfl | rfl | rfl | rfl <;> kernel_rfl
theorem nz {K:PySem.W.Frag}:∀T∈aK,PySem.W.kitOne K (.type T) (.type "tuple")=some (T == "tuple"):=by
 intro T h
 simp only [aK,List.mem_cons,List.not_mem_nil,or_false] at h
 rcases h with rfl | rfl | rfl | rfl | rfl | rfl | rfl <;> kernel_rfl
theorem dg {K:PySem.W.Frag}:∀T∈aK,PySem.W.kitOne K (.type T) (.type "str")=some (T == "str"):=by
 intro T h
 simp only [aK,List.mem_cons,List.not_mem_nil,or_false] at h
 rcases h with rfl | rfl | rfl | rfl | rfl | rfl | rfl <;> kernel_rfl
theorem rS {K:PySem.W.Frag}:∀T∈aK,PySem.W.kitAny K (.type T) [.type "list",.type "tuple"]=some (T == "list" || T == "tuple"):=by
 intro T h
 have h1:=pU (K:=K) T h
 have h2:=nz (K:=K) T h
 unfold PySem.W.kitAny
 rw [h1]
 cases e:(T == "list") with
 | true=>rfl
 | false =>
  show PySem.W.kitAny K (.type T) [.type "tuple"]=_
  unfold PySem.W.kitAny
  rw [h2]
  cases e2:(T == "tuple") <;> rfl
def Ty (K:PySem.W.Frag) (H:Hp) (x:V) (T:String):Prop:=T∈aK∧TyOf K H x (.type T)
theorem Ty.int {K:PySem.W.Frag} {H:Hp} {i:Int}:Ty K H (.int i) "int" := ⟨by simp [aK],.int i⟩
theorem Ty.bl {K:PySem.W.Frag} {H:Hp} {b:Bool}:Ty K H (.bl b) "bool" := ⟨by simp [aK],.bl b⟩
theorem Ty.non {K:PySem.W.Frag} {H:Hp}:Ty K H .non "NoneType" := ⟨by simp [aK],.non⟩
theorem Ty.str {K:PySem.W.Frag} {H:Hp} {x:Str}:Ty K H (.str x) "str" := ⟨by simp [aK],.str x⟩
theorem Ty.lst {K:PySem.W.Frag} {H:Hp} {a:Addr} {xs:List V} (e:H a=some (.lst xs)):Ty K H (.ref a) "list" := ⟨by simp [aK],.lst e⟩
theorem Ty.tup {K:PySem.W.Frag} {H:Hp} {a:Addr} {xs:List V} (e:H a=some (.tup xs)):Ty K H (.ref a) "tuple" := ⟨by simp [aK],.tup e⟩
theorem Ty.dK {K:PySem.W.Frag} {H:Hp} {a:Addr} {xs:List (Key×V)} (e:H a=some (.dK xs)):Ty K H (.ref a) "dict" := ⟨by simp [aK],.dK e⟩
def aE:V→Int→Bool
 | .int i,l=>decide (l≤i)
 | _,_=>false
def nA:V→Bool
 | .bl _=>true
 | _=>false
theorem uB {K:PySem.W.Frag} {H:Hp} {x:V} {T:String} (t:TyOf K H x (.type T)) (h:T∈aK):(T == "int")=true→∃i,x=.int i:=by
 intro e
 have e':T = "int" := by simpa using e
 subst e'
 generalize hv:Value.type "int" = tv at t
 cases t with
 | int i=>exact ⟨i,rfl⟩
 | _=>exact absurd hv (by simp)
theorem mG {K:PySem.W.Frag} {H:Hp} {x:V} {T:String} (t:TyOf K H x (.type T)):(T == "bool")=nA x:=by
 generalize hv:Value.type T=tv at t
 cases t with
 | bl b=>cases hv; rfl
 | non=>cases hv; rfl
 | int i=>cases hv; rfl
 | str i=>cases hv; rfl
 | flt i=>cases hv; rfl
 | lst i=>cases hv; rfl
 | frz i=>cases hv; rfl
 | tup i=>cases hv; rfl
 | dK i=>cases hv; rfl
 | dT i=>cases hv; rfl
 | ins=>cases hv
end L2
namespace Pc
open PySem L2
structure Pot (a b:Int):Prop where
 a0:0≤a
 b0:0≤b
 b1:b < 2147483629
def zu (H:Hp) (p:Addr):Prop:=∃a b,Pot a b∧H p=some (.lst [.int a,.int b])
def But (p:Addr) (H H':Hp):Prop:=∀b o,b≠p→H b=some o→H' b=some o
theorem But.refl {p:Addr} {H:Hp}:But p H H:=fun _ _ _ e=>e
theorem But.trans {p:Addr} {H H1 H2:Hp} (a:But p H H1) (b:But p H1 H2):But p H H2:=fun c o n e=>b c o n (a c o n e)
theorem But.upd {p:Addr} {H:Hp} {o:HO}:But p H (upd H p o):=fun b u n e=>by rw [am n]; exact e
theorem But.new {p q:Addr} {H:Hp} {o:HO} (h:H q=none):But p H (L2.upd H q o):=fun b u n e=>by rw [am (ah e h)]; exact e
theorem But.same {p:Addr} {H H':Hp} (b:But p H H') (h:H p=none):Same H H':=fun c o e=>b c o (ah e h) e
structure Kd where
 w:Int
 h:Int
 wo:Int
 wa:Int
 tu:Bool
def kdV (k:Kd):List V:=[.int k.w,.int k.h,.int k.wo,.int k.wa,.bl k.tu]
structure Good (k:Kd):Prop where
 w:1≤k.w
 h:1≤k.h
 wo:0≤k.wo
 wa:0≤k.wa
 w':k.w < 10 ^ 60
 h':k.h < 10 ^ 60
 wo':k.wo < 10 ^ 60
 wa':k.wa < 10 ^ 60
def TupAt (H:Hp) (v:V) (k:Kd):Prop:=∃a,v=.ref a∧H a=some (.tup (kdV k))
def zw (H:Hp) (v:V) (k:Kd):Prop:=∃a,v=.ref a∧H a=some (.lst (kdV k))
def RowAt (H:Hp) (v:V) (k:Kd):Prop:=TupAt H v k∨zw H v k
abbrev Tups (H:Hp):List V→List Kd→Prop:=Paired (TupAt H)
theorem Tups.keep {H H':Hp} (k:∀b xs,H b=some (.tup xs)→H' b=some (.tup xs)):∀ {xs:List V} {ks:List Kd},Tups H xs ks→Tups H' xs ks:=fun r =>
 Paired.mapP r fun v kd ⟨a,e,h⟩=>⟨a,e,k a _ h⟩
structure ToldAt (H:Hp) (t l:Addr) (bl:Int) (xs:List V) (ks:List Kd):Prop where
 t:H t=some (.tup [.int bl,.ref l])
 l:H l=some (.lst xs)
 r:Tups H xs ks
 b0:0≤bl
 b1:bl < 10 ^ 60
 g:∀k∈ks,Good k
 n0:1≤xs.length
 n1:xs.length≤8
def bN (K:PySem.W.Frag):Sp:=fun vs H Q _=>∃ (x:V) (T:String) (l:Int),vs=[x,.int l]∧Ty K H x T∧Q (.bl (aE x l)) H
def gf (K:PySem.W.Frag):Sp:=fun vs H Q _=>∃ (x:V) (T:String),vs=[x]∧Ty K H x T∧Q (.bl (nA x)) H
def jv (K:PySem.W.Frag):Sp:=fun vs H Q _=>∃ (x:V) (T:String), vs=[x]∧Ty K H x T∧∀H', Same H H'→Q (.bl (T == "list" || T == "tuple")) H'
def iq:List V→Bool
 | [w,h,wo,wa,tu]=>aE w 1 && aE h 1 && aE wo 0 && aE wa 0 && nA tu
 | _=>false
def eI (K:PySem.W.Frag):Sp:=fun vs H Q _=>∃ (x:V) (T:String),vs=[x]∧Ty K H x T ∧ 
 ((T ≠ "list" ∧ T ≠ "tuple" ∧ ∀H', Same H H'→Q (.bl false) H')∨∃ (a:Addr) (xs:List V), x=.ref a∧(H a=some (.lst xs)∨H a=some (.tup xs))∧(∀y∈xs, ∃U, Ty K H y U)∧∀H', Same H H'→Q (.bl (iq xs)) H')
theorem gB {k:Kd} (g:Good k):iq (kdV k)=true:=by
 show (decide (1≤k.w) && decide (1≤k.h) && decide (0≤k.wo) && decide (0≤k.wa) && true)=true
 rw [decide_eq_true g.w,decide_eq_true g.h,decide_eq_true g.wo,decide_eq_true g.wa]
 rfl
theorem Ty.same {K:PySem.W.Frag} {H H':Hp} {x:V} {T:String} (s:Same H H') (t:Ty K H x T):Ty K H' x T:=by
 refine ⟨t.1,?_⟩
 have t2:=t.2
 generalize hv:Value.type T=tv at t2 ⊢
 cases t2 with
 | non=>exact .non
 | bl b=>exact .bl b
 | int b=>exact .int b
 | str b=>exact .str b
 | flt b=>exact .flt b
 | lst e=>exact .lst (s _ _ e)
 | frz e=>exact .frz (s _ _ e)
 | tup e=>exact .tup (s _ _ e)
 | dK e=>exact .dK (s _ _ e)
 | dT e=>exact .dT (s _ _ e)
 | ins=>cases hv
end Pc
set_option Elab.async false
set_option linter.all false
set_option maxRecDepth 100000
namespace L2
open PySem PySem.Spec PyProof.Rows
def pV (K:PySem.W.Frag):List V→Hp→VK→Prop:=fun xs H Q=>∃p ys,xs=[V.ref p]∧((SqL K H p ys∧∀l,H l=none→Q (.ref l) (upd H l (.tup ys)))∨(SqT K H p ys∧Q (.ref p) H))
theorem pW {K:PySem.W.Frag} {j:Nat} {a:Addr} {xs:List V} {g:TG} {tb:TS} {D:Ends} {σ:St} {H:Hp} (hσ:σ[j]? = some (some (.ref a))) (hs:H a=some (.lst xs)∨H a=some (.tup xs)) (Pv:Nat→St→Hp→Prop) (h0:Pv 0 σ H)
  (hk:∀i σ H',i≤xs.length→Pv i σ H'→∀o,H a=some o→H' a=some o)
  (ht:∀i x σ H,xs[i]? = some x→Pv i σ H→g x σ H fun σ2 H2=>tb { D with nx:=Pv (i + 1),ct:=Pv (i + 1),bk:=D.nx } σ2 H2) (hd:∀σ H,Pv xs.length σ H→D.nx σ H):ze (uA K (oV j)) g tb D σ H:=by
 rcases hs with z | z
 ·exact .inl ⟨_,hσ,a,rfl,⟨xs,SqL.of z⟩,ck (xs:=xs) Pv h0 (fun i σ H' hi p=>SqL.of (hk i σ H' hi p _ z)) ht hd⟩
 ·exact .inr ⟨_,hσ,a,rfl,⟨xs,SqT.of z⟩,iE (xs:=xs) Pv h0 (fun i σ H' hi p=>SqT.of (hk i σ H' hi p _ z)) ht hd⟩
def Nx (n:Nat) (Pv:Nat→List V→Hp→Prop) (i:Nat) (ys:List V) (H:Hp):Prop:=∃m',m' < n - i∧m'=n - (i + 1)∧i + 1≤n∧Pv (i + 1) ys H
theorem Nx.of {n:Nat} {Pv:Nat→List V→Hp→Prop} {i:Nat} {ys:List V} {H:Hp} (h:i < n) (p:Pv (i + 1) ys H):Nx n Pv i ys H:=⟨n - (i + 1),by omega,rfl,h,p⟩
theorem gC {K:PySem.W.Frag} {a:Addr} {xs:List V} {σ:St} {cap:List Nat} {k:Nat} {g:TG} {tt:TT} {te:TE} {Q:List V→Hp→Prop} {H:Hp} (hs:H a=some (.lst xs)∨H a=some (.tup xs)) (Pv:Nat→List V→Hp→Prop)
  (hk:∀i ys H',i≤xs.length→Pv i ys H'→∀o,H a=some o→H' a=some o) (h0:Pv 0 [] H)
  (ht:∀i x ys H',xs[i]? = some x→Pv i ys H'→ys.length < sizeLine∧g x (bi σ cap k) H' fun σ2 H2=>leS (bi σ cap k) σ2∧tt σ2 H2 fun ok H3=>if ok=true then te σ2 H3 (fun v H4=>Nx xs.length Pv i (ys ++ [v]) H4) else Nx xs.length Pv i ys H3)
  (hd:∀ys H',Pv xs.length ys H'→ys.length≤sizeLine∧Q ys H') :
  (H a=some (.lst xs)→∃W,(∃m,W 0 m [] H)∧gz σ cap k (Itl K a) g tt te Q W)∧(H a=some (.tup xs)→∃W,(∃m,W 0 m [] H)∧gz σ cap k (Itt K a) g tt te Q W):=by
 refine ⟨fun z=>⟨fun i m ys H'=>m=xs.length - i∧i≤xs.length∧Pv i ys H',⟨_,rfl,Nat.zero_le _,h0⟩,?_⟩,fun z=>⟨fun i m ys H'=>m=xs.length - i∧i≤xs.length∧Pv i ys H',⟨_,rfl,Nat.zero_le _,h0⟩,?_⟩⟩
 ·rintro i m ys H' ⟨rfl,hi,p⟩
  have z':=hk i ys H' hi p _ z
  by_cases hin:i < xs.length
  ·obtain ⟨e,hg⟩:=ht i xs[i] ys H' (by simp [hin]) p
   refine .inr ⟨⟨xs,xs[i],SqL.of z',by simp [hin]⟩,e,fun x H2 yl=>?_⟩
   obtain ⟨e1,e2⟩:=yl
   have e3:=e2 xs (SqL.of z')
   have e4:x=xs[i]:=by simpa [hin] using e3.symm
   subst e1 e4
   exact hg
  ·have e:i=xs.length:=by omega
   subst e
   obtain ⟨a1,a2⟩:=hd ys H' p
   exact .inl ⟨⟨xs,SqL.of z',Nat.le_refl _⟩,a1,a2⟩
 ·rintro i m ys H' ⟨rfl,hi,p⟩
  have z':=hk i ys H' hi p _ z
  by_cases hin:i < xs.length
  ·obtain ⟨e,hg⟩:=ht i xs[i] ys H' (by simp [hin]) p
   refine .inr ⟨⟨xs,xs[i],SqT.of z',by simp [hin]⟩,e,fun x H2 yl=>?_⟩
   obtain ⟨e1,e2⟩:=yl
   have e3:=e2 xs (SqT.of z')
   have e4:x=xs[i]:=by simpa [hin] using e3.symm
   subst e1 e4
   exact hg
  ·have e:i=xs.length:=by omega
   subst e
   obtain ⟨a1,a2⟩:=hd ys H' p
   exact .inl ⟨⟨xs,SqT.of z',Nat.le_refl _⟩,a1,a2⟩
theorem nC {K:PySem.W.Frag} {j:Nat} {a:Addr} {xs:List V} {σ:St} {cap:List Nat} {k:Nat} {g:TG} {tt:TT} {te:TE} {Q:VK} {H:Hp} (hσ:σ[j]? = some (some (.ref a))) (hs:H a=some (.lst xs)∨H a=some (.tup xs)) (Pv:Nat→List V→Hp→Prop)
  (hk:∀i ys H',i≤xs.length→Pv i ys H'→∀o,H a=some o→H' a=some o) (h0:Pv 0 [] H)
  (ht:∀i x ys H',xs[i]? = some x→Pv i ys H'→ys.length < sizeLine∧g x (bi σ cap k) H' fun σ2 H2=>leS (bi σ cap k) σ2∧tt σ2 H2 fun ok H3=>if ok=true then te σ2 H3 (fun v H4=>Nx xs.length Pv i (ys ++ [v]) H4) else Nx xs.length Pv i ys H3)
  (hd:∀ys H',Pv xs.length ys H'→ys.length≤sizeLine∧∀p,H' p=none→Q (.ref p) (upd H' p (.lst ys))):pS (uA K (oV j)) cap k g tt te σ H Q:=by
 obtain ⟨c1,c2⟩:=gC (K:=K) (σ:=σ) (cap:=cap) (k:=k) (g:=g) (tt:=tt) (te:=te) hs Pv hk h0 ht hd
 rcases hs with z | z
 ·exact .inl ⟨_,hσ,a,rfl,⟨xs,SqL.of z⟩,c1 z⟩
 ·exact .inr ⟨_,hσ,a,rfl,⟨xs,SqT.of z⟩,c2 z⟩
end L2
namespace Pc
open PySem L2
def kF (b:Int) (r:Addr):List (Str×V):=cJ "kind_rows" (.ref r) (cJ "blade_width" (.int b) [])
theorem kbw:¬ (("blade_width" : Str) = "kind_rows"):=by decide +kernel
theorem kG (b:Int) (r:Addr):(kF b r).lookup ("blade_width" : Str)=some (.int b):=by
 unfold kF
 rw [bu,if_neg kbw,bu,if_pos rfl]
theorem cS (b:Int) (r:Addr):(kF b r).lookup ("kind_rows" : Str)=some (.ref r):=by
 unfold kF
 rw [bu,if_pos rfl]
theorem cw (b:Int) (r:Addr) {m:Str} (h1:¬ m = "kind_rows") (h2:¬ m = "blade_width"):(kF b r).lookup m=none:=by
 unfold kF
 rw [bu,if_neg h1,bu,if_neg h2]
 all_goals rfl
def ShopAt (C:Addr) (H:Hp) (x:Addr) (b:Int) (ks:List Kd):Prop:=∃dx r rs,H x=some (.ins C dx (kF b r))∧H r=some (.tup rs)∧Tups H rs ks
theorem ShopAt.keep {C:Addr} {H H':Hp} {x:Addr} {b:Int} {ks:List Kd} (s:ShopAt C H x b ks) (k1:∀b xs,H b=some (.tup xs)→H' b=some (.tup xs)) (k2:∀b C dx fs,H b=some (.ins C dx fs)→H' b=some (.ins C dx fs)):ShopAt C H' x b ks:=by
 obtain ⟨dx,r,rs,h1,h2,h3⟩:=s
 exact ⟨dx,r,rs,k2 _ _ _ _ h1,k1 _ _ h2,Tups.keep k1 h3⟩
def kH (C:Addr):Sp:=fun vs H Q _=>∃ (x dx ks:Addr) (b:Int) (rs:List V) (kds:List Kd),vs=[.ref x,.int b,.ref ks]∧H x=some (.ins C dx [])∧0≤b∧(H ks=some (.lst rs)∨H ks=some (.tup rs))∧Paired (RowAt H) rs kds∧(∀k∈kds,Good k)∧1≤rs.length∧rs.length≤8 ∧
 ∀H':Hp,ShopAt C H' x b kds→(∀c o,c≠x→H c=some o→H' c=some o)→Q .non H'
def gh (C:Addr):Sp:=fun vs H Q _=>∃ (x:Addr) (b:Int) (ks:List Kd),vs=[.ref x]∧ShopAt C H x b ks∧Q (.int b) H
def iN (C:Addr):Sp:=fun vs H Q _=>∃ (x:Addr) (b:Int) (ks:List Kd),vs=[.ref x]∧ShopAt C H x b ks∧∀ (l:Addr) (rs:List V),H l=none→Tups H rs ks→Q (.ref l) (upd H l (.lst rs))
theorem mH {K:PySem.W.Frag} {H:Hp} {k:Kd}:∀y∈kdV k,∃U,Ty K H y U:=by
 intro y hy
 simp only [kdV,List.mem_cons,List.not_mem_nil,or_false] at hy
 rcases hy with rfl | rfl | rfl | rfl | rfl
 ·exact ⟨_,.int⟩
 ·exact ⟨_,.int⟩
 ·exact ⟨_,.int⟩
 ·exact ⟨_,.int⟩
 ·exact ⟨_,.bl⟩
theorem Paired.getR {α β:Type} {F:α→β→Prop}:∀ {l₁:List α} {l₂:List β} {i:Nat} {x:α},Paired F l₁ l₂→l₁[i]? = some x→∃y,l₂[i]? = some y∧F x y
 | _,_,_,_,.nil,e=>by simp at e
 | _,_,0,_,.cons h _,e=>by simp at e; subst e; exact ⟨_,rfl,h⟩
 | _,_,i + 1,x,.cons _ t,e=>by
  obtain ⟨y,h1,h2⟩:=Paired.getR (i:=i) (x:=x) t (by simpa using e)
  exact ⟨y,by simpa using h1,h2⟩
theorem RowAt.same {H H':Hp} {v:V} {k:Kd} (s:Same H H') (r:RowAt H v k):RowAt H' v k:=by
 rcases r with ⟨a,e,h⟩ | ⟨a,e,h⟩
 ·exact .inl ⟨a,e,s _ _ h⟩
 ·exact .inr ⟨a,e,s _ _ h⟩
theorem nD {K:PySem.W.Frag} {H:Hp} {v:V} {k:Kd} {Q:VK} {E:XK} (r:RowAt H v k) (g:Good k) (q:∀H',Same H H'→Q (.bl true) H'):eI K [v] H Q E:=by
 rcases r with ⟨a,rfl,h⟩ | ⟨a,rfl,h⟩
 ·exact ⟨_,_,rfl,.tup h,.inr ⟨a,_,rfl,.inr h,mH,fun H' s=>by rw [gB g]; exact q H' s⟩⟩
 ·exact ⟨_,_,rfl,.lst h,.inr ⟨a,_,rfl,.inl h,mH,fun H' s=>by rw [gB g]; exact q H' s⟩⟩
structure ShopTxt (K:PySem.W.Frag) (C:Addr):Prop where
 cl:Cls K C
 nB:NoAttr K C "blade_width"
 nK:NoAttr K C "kind_rows"
end Pc
set_option Elab.async false
set_option linter.all false
set_option maxRecDepth 100000
namespace L2
open PySem PySem.Spec PyProof.Rows
def Mn (P:Program) (w:World) (K:PySem.W.Frag) (mg:Str→Option Value) (base:Heap) (C:Addr) (m:Str) (ps:List Str) (k:Nat) (sp:Sp):Prop :=
 ∃ (f:Addr) (fd:FuncData),FnOk P w K mg base CX0 k f fd ps sp∧Binds K fd ps []∧Meth K C m f
theorem iO {X:Cx} {k:Nat} {C:Addr} {ps:List Str} {sp:Sp} {m:Str} {o:Expr} {ta:TE} {apos pos:Pos} {pl:Sem Bool} (he:PE X o ta) (c:Cls X.K C) (D:Mn X.prog X.w X.K X.mg X.base C m ps k sp) (hr:Room k X.A)
  (ht:eval (.Call (.Attribute o m apos) [] [] pos) X.env=(do
   let ov←eval o X.env
   standAt apos.atName
   let (f,first)←holding [ov] (getMethod ov m pl)
   callWith pos f first (backTo pos (starEach [] X.env)) (backToKw pos (keywordEach [] X.env))):=by rfl):PE X (.Call (.Attribute o m apos) [] [] pos) (jp C m sp [] E0 ta ko):=by
 obtain ⟨f,fd,F,hb,hm⟩:=D
 exact pK he c hm F hr hb .nil mD ht
def Kn (P:Program) (w:World) (K:PySem.W.Frag) (mg:Str→Option Value) (base:Heap) (x:Str) (C:Addr) (ps:List Str) (k:Nat) (sp:Sp):Prop :=
 ∃ (f:Addr) (fd:FuncData),Mk K C f∧FnOk P w K mg base CX0 k f fd ps sp∧Binds K fd ps []∧mg x=some (.ref C)
theorem zx {X:Cx} {k:Nat} {C:Addr} {ps:List Str} {sp:Sp} {x:Str} {p pos:Pos} {e:Expr} {es:List Expr} {t:TA} (D:Kn X.prog X.w X.K X.mg X.base x C ps k sp) (hr:Room (k + 1) X.A) (hg:Gl X x) (ha:PA X (e :: es) t)
  (hdb:(x == ("__debug__" : Str))=false:=by decide) (he:starEach (e :: es) X.env=(false,eval e X.env) :: starEach es X.env:=by rfl) (hpl:(backTo pos (starEach es X.env)).any (·.1)=false:=by rfl) :
  PE X (.Call (.Name x p) (e :: es) [] pos) (tY C sp [] E0 t):=by
 obtain ⟨f,fd,M,F,hb,hm⟩:=D
 exact rL M F hr hg hm hb .nil mD ha hdb he hpl
end L2
namespace Pc
open PySem L2
theorem Paired.app {α β:Type} {F:α→β→Prop}:∀ {l₁ m₁:List α} {l₂ m₂:List β},Paired F l₁ l₂→Paired F m₁ m₂→Paired F (l₁ ++ m₁) (l₂ ++ m₂)
 | _,_,_,_,.nil,s=>s
 | _,_,_,_,.cons r t,s=>.cons r (Paired.app t s)
theorem Same.but {p:Addr} {H H':Hp} (s:Same H H'):But p H H':=fun b o _ e=>s b o e
theorem Same.new {q:Addr} {H:Hp} {o:HO} (h:H q=none):Same H (upd H q o):=fun b u e=>by rw [am (ah e h)]; exact e
end Pc
set_option Elab.async false
set_option linter.all false
set_option maxRecDepth 100000
namespace L2
open PySem PySem.Spec PyProof.Rows
def RI (M:Model) (Γ:PySem.Ctx) (p:Pos) (s:Shared) (e:End) (s':Shared):Sem Fin→Prop
 | .pure (.done f)=>e=.ret (.ok f)∧s=s'
 | .pure (.again c)=>Runs M (Γ.goto c) p (M.den c) [] s e s'
 | .raise x=>e=.ret (.error x)∧s=s'
 | .rule _ k=>Runs M Γ p (k ()) [] s e s'
 | .at p' k=>Runs M Γ p' (k ()) [] s e s'
 | .load a _ k=>∃o,s.heap.get? a=some o∧Runs M Γ p (k o) [] s e s'
 | .update a _ f k=>Runs M Γ p (k ()) [] { s with heap:=s.heap.update a f } e s'
 | .loadIfAlive a k=>Runs M Γ p (k (s.heap.get? a)) [] s e s'
 | .point _ k=>Runs M Γ p (k ()) [] s e s'
 | .alloc o k=>Runs M Γ p (k s.heap.objs.size) [] { s with heap:=s.heap.push o } e s'
 | .fresh k=>Runs M Γ p (k s.toks) [] { s with toks:=s.toks + 1 } e s'
 | .ask k=>Runs M Γ p (k ⟨M.prog,M.w.params⟩) [] s e s'
 | .choose src n k=>Runs M Γ p (k (M.w.draws src (s.drawn.get src) % n)) [] { s with drawn:=s.drawn.bump src } e s'
 | .os q _ k=>Runs M Γ p (k (Os.step s.os q).2) [] { s with os:=(Os.step s.os q).1 } e s'
 | .handled own k=>Runs M Γ p (k (if own then Γ.own else Γ.handled)) [] s e s'
 | .genState g k=>∃st,s.gens[g]? = some st∧Runs M Γ p (k st.seen) [] s e s'
 | .stack k=>Runs M Γ p (k ((Γ.code,p) :: Γ.below)) [] s e s'
 | .thread k=>Runs M Γ p (k 0) [] s e s'
 | .newGen c k=>Runs M Γ p (k s.gens.size) [] { s with gens:=s.gens.push (.fresh c) } e s'
 | .yield v g l k=>e=.susp v g l k Γ.code p []∧s=s'
 | .call c h g l k=>(∃r s₁,Runs M (Γ.enter c h p) p (M.den c) [] s (.ret r) s₁∧Runs M Γ p (k r) [] s₁ e s') ∨
   (∃v g₀ l₀ k₀ c₀ p₀ fs,Runs M (Γ.enter c h p) p (M.den c) [] s (.susp v g₀ l₀ k₀ c₀ p₀ fs) s'∧e=.susp v g₀ l₀ k₀ c₀ p₀ (fs ++ [.ret k h g l Γ.code p []]))
 | .resume g r _ k=>(∃c e₁ s₁,r=.send .none∧s.gens[g]? = some (.fresh c)∧Runs M (Γ.wake c p) p (M.den c) [] (s.setGen g .running) e₁ s₁∧Runs M Γ p (k e₁.result) [] (s₁.setGen g e₁.genState) e s') ∨
   (∃k₀ l₀ c₀ p₀ fs cl e₁ s₁,s.gens[g]? = some (.suspended k₀ l₀ c₀ p₀ fs cl)∧Runs M (Γ.wake c₀ p) p₀ (k₀ r) fs (s.setGen g .running) e₁ s₁∧Runs M Γ p (k e₁.result) [] (s₁.setGen g e₁.genState) e s') ∨
   (∃c v,r=.send v∧v≠.none∧s.gens[g]? = some (.fresh c)∧Runs M Γ p (k .justStarted) [] s e s') ∨
   (∃c x,r=.throw x∧s.gens[g]? = some (.fresh c)∧Runs M Γ p (k (.raised x)) [] (s.setGen g .finished) e s') ∨
   (s.gens[g]? = some .running∧Runs M Γ p (k .running) [] s e s')∨(s.gens[g]? = some .finished∧Runs M Γ p (k .finished) [] s e s')
 | _=>True
def RJ (M:Model) (Γ:PySem.Ctx) (p:Pos) (t:Sem Fin) (s:Shared) (e:End) (s':Shared):List Frame→Prop
 | []=>RI M Γ p s e s' t
 | F :: fs=>(∃k h g l c₁ p₁ kp r s₁,F=.ret k h g l c₁ p₁ kp∧Runs M (Γ.over (F :: fs)) p t [] s (.ret r) s₁∧Runs M (Γ.goto c₁) p₁ (k r) fs s₁ e s') ∨
   (∃g k l c₁ p₁ r s₁,F=.gen g k l c₁ p₁∧Runs M (Γ.over (F :: fs)) p t [] s (.ret r) s₁∧Runs M (Γ.goto c₁) p₁ (k (End.ret r).result) fs (s₁.setGen g .finished) e s') ∨
   (∃v g₀ l₀ k₀ c₀ p₀ fs₀,splitAtGen (F :: fs)=none∧Runs M (Γ.over (F :: fs)) p t [] s (.susp v g₀ l₀ k₀ c₀ p₀ fs₀) s'∧e=.susp v g₀ l₀ k₀ c₀ p₀ (fs₀ ++ F :: fs)) ∨
   (∃pre g k c₁ p₁ rest v g₀ l₀ k₀ c₀ p₀ fs₀ s₁,splitAtGen (F :: fs)=some (pre,(g,k,c₁,p₁),rest)∧Runs M (Γ.over (F :: fs)) p t [] s (.susp v g₀ l₀ k₀ c₀ p₀ fs₀) s₁∧Runs M (Γ.goto c₁) p₁ (k (.yielded v)) rest (s₁.setGen g (End.susp v g₀ l₀ k₀ c₀ p₀ (fs₀ ++ pre)).genState) e s')
theorem bA {M:Model} {Γ:PySem.Ctx} {p:Pos} {t:Sem Fin} {fs:List Frame} {s s':Shared} {e:End} (h:Runs M Γ p t fs s e s'):RJ M Γ p t s e s' fs:=by
 cases h with
 | done=>exact ⟨rfl,rfl⟩
 | raise=>exact ⟨rfl,rfl⟩
 | again _ b=>exact b
 | rule b=>exact b
 | «at» b=>exact b
 | load a b=>exact ⟨_,a,b⟩
 | update _ b=>exact b
 | loadIfAlive b=>exact b
 | point b=>exact b
 | alloc b=>exact b
 | fresh b=>exact b
 | ask b=>exact b
 | choose _ b=>exact b
 | os b=>exact b
 | handled b=>exact b
 | genState a b=>exact ⟨_,a,b⟩
 | stack b=>exact b
 | thread b=>exact b
 | newGen b=>exact b
 | call a b=>exact .inl ⟨_,_,a,b⟩
 | callSusp a=>exact .inr ⟨_,_,_,_,_,_,_,a,rfl⟩
 | yield=>exact ⟨rfl,rfl⟩
 | resumeFresh a b _ c=>exact .inl ⟨_,_,_,rfl,a,b,c⟩
 | resumeSuspended a b _ c=>exact .inr (.inl ⟨_,_,_,_,_,_,_,_,a,b,c⟩)
 | resumeJustStarted a b c=>exact .inr (.inr (.inl ⟨_,_,rfl,b,a,c⟩))
 | resumeThrowFresh a b=>exact .inr (.inr (.inr (.inl ⟨_,_,rfl,a,b⟩)))
 | resumeRunning a b=>exact .inr (.inr (.inr (.inr (.inl ⟨a,b⟩))))
 | resumeFinished a b=>exact .inr (.inr (.inr (.inr (.inr ⟨a,b⟩))))
 | segRet a b=>exact .inl ⟨_,_,_,_,_,_,_,_,_,rfl,a,b⟩
 | segGen a b=>exact .inr (.inl ⟨_,_,_,_,_,_,_,rfl,a,b⟩)
 | segSuspOut a b=>exact .inr (.inr (.inl ⟨_,_,_,_,_,_,_,a,b,rfl⟩))
 | segSuspGen a b _ c=>exact .inr (.inr (.inr ⟨_,_,_,_,_,_,_,_,_,_,_,_,_,_,a,b,c⟩))
theorem gD {M:Model} {Γ:PySem.Ctx} {p:Pos} {t:Sem Fin} {fs:List Frame} {s s':Shared} {e:End} (h:Runs M Γ p t fs s e s'):∀ {e2:End} {s2:Shared},Runs M Γ p t fs s e2 s2→e=e2∧s'=s2:=by
 induction h with
 | done=>exact fun h2=>⟨(bA h2).1.symm,(bA h2).2⟩
 | raise=>exact fun h2=>⟨(bA h2).1.symm,(bA h2).2⟩
 | again _ _ ih=>exact fun h2=>ih (bA h2)
 | rule _ ih=>exact fun h2=>ih (bA h2)
 | «at» _ ih=>exact fun h2=>ih (bA h2)
 | load he _ ih =>
  intro e2 s2 h2
  obtain ⟨o,b1,b2⟩:=bA h2
  rw [he] at b1; cases b1; exact ih b2
 | update _ _ ih=>exact fun h2=>ih (bA h2)
 | loadIfAlive _ ih=>exact fun h2=>ih (bA h2)
 | point _ ih=>exact fun h2=>ih (bA h2)
 | alloc _ ih=>exact fun h2=>ih (bA h2)
 | fresh _ ih=>exact fun h2=>ih (bA h2)
 | ask _ ih=>exact fun h2=>ih (bA h2)
 | choose _ _ ih=>exact fun h2=>ih (bA h2)
 | os _ ih=>exact fun h2=>ih (bA h2)
 | handled _ ih=>exact fun h2=>ih (bA h2)
 | genState he _ ih =>
  intro e2 s2 h2
  obtain ⟨o,b1,b2⟩:=bA h2
  rw [he] at b1; cases b1; exact ih b2
 | stack _ ih=>exact fun h2=>ih (bA h2)
 | thread _ ih=>exact fun h2=>ih (bA h2)
 | newGen _ ih=>exact fun h2=>ih (bA h2)
 | call _ _ ih1 ih2 =>
  intro e2 s2 h2
  rcases bA h2 with ⟨r,s1,a,b⟩ | ⟨_,_,_,_,_,_,_,a,_⟩
  ·obtain ⟨q1,q2⟩:=ih1 a; cases q1; subst q2; exact ih2 b
  ·obtain ⟨q1,_⟩:=ih1 a; cases q1
 | callSusp _ ih1 =>
  intro e2 s2 h2
  rcases bA h2 with ⟨r,s1,a,b⟩ | ⟨_,_,_,_,_,_,_,a,b⟩
  ·obtain ⟨q1,_⟩:=ih1 a; cases q1
  ·obtain ⟨q1,q2⟩:=ih1 a; cases q1; exact ⟨b.symm,q2⟩
 | yield=>exact fun h2=>⟨(bA h2).1.symm,(bA h2).2⟩
 | resumeFresh hg _ _ _ ih1 ih2 =>
  intro e2 s2 h2
  rcases bA h2 with ⟨_,_,_,_,g,a,b⟩ | ⟨_,_,_,_,_,_,_,_,g,_⟩ | ⟨_,v,rv,n,_⟩ | ⟨_,_,rv,_⟩ | ⟨g,_⟩ | ⟨g,_⟩
  ·rw [hg] at g; cases g; obtain ⟨q1,q2⟩:=ih1 a; subst q1 q2; exact ih2 b
  ·rw [hg] at g; cases g
  ·cases rv; exact absurd rfl n
  ·cases rv
  ·rw [hg] at g; cases g
  ·rw [hg] at g; cases g
 | resumeSuspended hg _ _ _ ih1 ih2 =>
  intro e2 s2 h2
  rcases bA h2 with ⟨_,_,_,_,g,a,b⟩ | ⟨_,_,_,_,_,_,_,_,g,a,b⟩ | ⟨_,v,rv,n,g,_⟩ | ⟨_,_,rv,g,_⟩ | ⟨g,_⟩ | ⟨g,_⟩
  ·rw [hg] at g; cases g
  ·rw [hg] at g; cases g; obtain ⟨q1,q2⟩:=ih1 a; subst q1 q2; exact ih2 b
  ·rw [hg] at g; cases g
  ·rw [hg] at g; cases g
  ·rw [hg] at g; cases g
  ·rw [hg] at g; cases g
 | resumeJustStarted hg n _ ih =>
  intro e2 s2 h2
  rcases bA h2 with ⟨_,_,_,rv,_⟩ | ⟨_,_,_,_,_,_,_,_,g,a,b⟩ | ⟨_,v,rv,_,g,b⟩ | ⟨_,_,rv,g,_⟩ | ⟨g,_⟩ | ⟨g,_⟩
  ·cases rv; exact absurd rfl n
  ·rw [hg] at g; cases g
  ·exact ih b
  ·cases rv
  ·rw [hg] at g; cases g
  ·rw [hg] at g; cases g
 | resumeThrowFresh hg _ ih =>
  intro e2 s2 h2
  rcases bA h2 with ⟨_,_,_,rv,_⟩ | ⟨_,_,_,_,_,_,_,_,g,a,b⟩ | ⟨_,v,rv,_,g,b⟩ | ⟨_,_,rv,g,b⟩ | ⟨g,_⟩ | ⟨g,_⟩
  ·cases rv
  ·rw [hg] at g; cases g
  ·cases rv
  ·cases rv; exact ih b
  ·rw [hg] at g; cases g
  ·rw [hg] at g; cases g
 | resumeRunning hg _ ih =>
  intro e2 s2 h2
  rcases bA h2 with ⟨_,_,_,_,g,_⟩ | ⟨_,_,_,_,_,_,_,_,g,a,b⟩ | ⟨_,v,rv,_,g,b⟩ | ⟨_,_,rv,g,b⟩ | ⟨g,b⟩ | ⟨g,_⟩
  ·rw [hg] at g; cases g
  ·rw [hg] at g; cases g
  ·rw [hg] at g; cases g
  ·rw [hg] at g; cases g
  ·exact ih b
  ·rw [hg] at g; cases g
 | resumeFinished hg _ ih =>
  intro e2 s2 h2
  rcases bA h2 with ⟨_,_,_,_,g,_⟩ | ⟨_,_,_,_,_,_,_,_,g,a,b⟩ | ⟨_,v,rv,_,g,b⟩ | ⟨_,_,rv,g,b⟩ | ⟨g,b⟩ | ⟨g,b⟩
  ·rw [hg] at g; cases g
  ·rw [hg] at g; cases g
  ·rw [hg] at g; cases g
  ·rw [hg] at g; cases g
  ·rw [hg] at g; cases g
  ·exact ih b
 | segRet _ _ ih1 ih2 =>
  intro e2 s2 h2
  rcases bA h2 with ⟨_,_,_,_,_,_,_,_,_,z,a,b⟩ | ⟨_,_,_,_,_,_,_,z,_⟩ | ⟨_,_,_,_,_,_,_,_,a,_⟩ | ⟨_,_,_,_,_,_,_,_,_,_,_,_,_,_,_,a,_⟩
  ·cases z; obtain ⟨q1,q2⟩:=ih1 a; cases q1; subst q2; exact ih2 b
  ·cases z
  ·obtain ⟨q1,_⟩:=ih1 a; cases q1
  ·obtain ⟨q1,_⟩:=ih1 a; cases q1
 | segGen _ _ ih1 ih2 =>
  intro e2 s2 h2
  rcases bA h2 with ⟨_,_,_,_,_,_,_,_,_,z,a,b⟩ | ⟨_,_,_,_,_,_,_,z,a,b⟩ | ⟨_,_,_,_,_,_,_,_,a,_⟩ | ⟨_,_,_,_,_,_,_,_,_,_,_,_,_,_,_,a,_⟩
  ·cases z
  ·cases z; obtain ⟨q1,q2⟩:=ih1 a; cases q1; subst q2; exact ih2 b
  ·obtain ⟨q1,_⟩:=ih1 a; cases q1
  ·obtain ⟨q1,_⟩:=ih1 a; cases q1
 | segSuspOut hn _ ih1 =>
  intro e2 s2 h2
  rcases bA h2 with ⟨_,_,_,_,_,_,_,_,_,z,a,b⟩ | ⟨_,_,_,_,_,_,_,z,a,b⟩ | ⟨_,_,_,_,_,_,_,_,a,z⟩ | ⟨_,_,_,_,_,_,_,_,_,_,_,_,_,_,hs,a,_⟩
  ·obtain ⟨q1,_⟩:=ih1 a; cases q1
  ·obtain ⟨q1,_⟩:=ih1 a; cases q1
  ·obtain ⟨q1,q2⟩:=ih1 a; cases q1; exact ⟨z.symm,q2⟩
  ·rw [hn] at hs; cases hs
 | segSuspGen hs _ _ _ ih1 ih2 =>
  intro e2 s2 h2
  rcases bA h2 with ⟨_,_,_,_,_,_,_,_,_,z,a,b⟩ | ⟨_,_,_,_,_,_,_,z,a,b⟩ | ⟨_,_,_,_,_,_,_,hn,a,z⟩ | ⟨_,_,_,_,_,_,_,_,_,_,_,_,_,_,hs',a,b⟩
  ·obtain ⟨q1,_⟩:=ih1 a; cases q1
  ·obtain ⟨q1,_⟩:=ih1 a; cases q1
  ·rw [hn] at hs; cases hs
  ·rw [hs] at hs'; cases hs'; obtain ⟨q1,q2⟩:=ih1 a; cases q1; subst q2; exact ih2 b
theorem rT {α:Type} (M:Model) (Γ:PySem.Ctx) (t:Sem α):∀ (Q Q':α→Pos→Shared→Prop) (E E':Value→Pos→Shared→Prop) (p:Pos) (s:Shared),Sem.wp M Γ t Q E p s→Sem.wp M Γ t Q' E' p s →
  Sem.wp M Γ t (fun a p' s'=>Q a p' s'∧Q' a p' s') (fun e p' s'=>E e p' s'∧E' e p' s') p s:=by
 have det:∀ {Δ:PySem.Ctx} {p:Pos} {s:Shared} {r r':Result} {s1 s2:Shared},Returns M Δ p s r s1→Returns M Δ p s r' s2→r=r'∧s1=s2:=by
  intro Δ p s r r' s1 s2 h1 h2
  obtain ⟨q1,q2⟩:=gD h1 h2
  cases q1
  exact ⟨rfl,q2⟩
 have detW:∀ {Δ:PySem.Ctx} {p:Pos} {g:Nat} {r:Resume} {s:Shared} {x x':GenResult} {s1 s2:Shared},Wakes M Δ p g r s x s1→Wakes M Δ p g r s x' s2→x=x'∧s1=s2:=by
  intro Δ p g r s x x' s1 s2 h1 h2
  unfold Wakes at h1 h2
  split at h1
  ·exact h1.elim
  ·split at h1
   ·obtain ⟨e1,t1,a1,_,rfl,rfl⟩:=h1
    rename_i hg _ _
    simp only [hg] at h2
    obtain ⟨e2,t2,a2,_,rfl,rfl⟩:=h2
    obtain ⟨q1,q2⟩:=gD a1 a2
    subst q1 q2
    exact ⟨rfl,rfl⟩
   ·rename_i hg _ _ hn
    simp only [hg] at h2
    obtain ⟨rfl,rfl⟩:=h1
    obtain ⟨rfl,rfl⟩:=h2
    exact ⟨rfl,rfl⟩
   ·rename_i hg _ _
    simp only [hg] at h2
    obtain ⟨rfl,rfl⟩:=h1
    obtain ⟨rfl,rfl⟩:=h2
    exact ⟨rfl,rfl⟩
  ·rename_i hg
   simp only [hg] at h2
   obtain ⟨e1,t1,a1,_,rfl,rfl⟩:=h1
   obtain ⟨e2,t2,a2,_,rfl,rfl⟩:=h2
   obtain ⟨q1,q2⟩:=gD a1 a2
   subst q1 q2
   exact ⟨rfl,rfl⟩
  ·rename_i hg
   simp only [hg] at h2
   obtain ⟨rfl,rfl⟩:=h1
   obtain ⟨rfl,rfl⟩:=h2
   exact ⟨rfl,rfl⟩
  ·rename_i hg
   simp only [hg] at h2
   obtain ⟨rfl,rfl⟩:=h1
   obtain ⟨rfl,rfl⟩:=h2
   exact ⟨rfl,rfl⟩
 induction t with
 | pure a=>intro Q Q' E E' p s h h'; exact ⟨h,h'⟩
 | raise e=>intro Q Q' E E' p s h h'; exact ⟨h,h'⟩
 | unsupported _=>intro Q Q' E E' p s h _; exact h
 | finish _=>intro Q Q' E E' p s h _; exact h
 | rule _ k ih=>intro Q Q' E E' p s h h'; exact ih () _ _ _ _ p s h h'
 | «at» p' k ih=>intro Q Q' E E' p s h h'; exact ih () _ _ _ _ p' s h h'
 | load a _ k ih =>
  intro Q Q' E E' p s h h'; obtain ⟨o,ho,h⟩:=h; obtain ⟨o',ho',h'⟩:=h'
  rw [ho] at ho'; cases ho'; exact ⟨o,ho,ih o _ _ _ _ p s h h'⟩
 | update a _ f k ih=>intro Q Q' E E' p s h h'; exact ⟨h.1,ih () _ _ _ _ p _ h.2 h'.2⟩
 | loadIfAlive a k ih=>intro Q Q' E E' p s h h'; exact ih _ _ _ _ _ p s h h'
 | point _ k ih=>intro Q Q' E E' p s h h'; exact ih () _ _ _ _ p s h h'
 | register _ _=>intro Q Q' E E' p s h _; exact h
 | alloc o k ih=>intro Q Q' E E' p s h h'; exact ih _ _ _ _ _ p _ h h'
 | fresh k ih=>intro Q Q' E E' p s h h'; exact ih _ _ _ _ _ p _ h h'
 | ask k ih=>intro Q Q' E E' p s h h'; exact ih _ _ _ _ _ p s h h'
 | choose src m k ih=>intro Q Q' E E' p s h h'; exact ⟨h.1,ih _ _ _ _ _ p _ h.2 h'.2⟩
 | os q _ k ih=>intro Q Q' E E' p s h h'; exact ih _ _ _ _ _ p _ h h'
 | call c hd _ _ k ih =>
  intro Q Q' E E' p s h h'; obtain ⟨r,s',hr,h⟩:=h; obtain ⟨r',s'',hr',h'⟩:=h'
  obtain ⟨rfl,rfl⟩:=det hr hr'
  exact ⟨r,s',hr,ih r _ _ _ _ p s' h h'⟩
 | handled own k ih=>intro Q Q' E E' p s h h'; exact ih _ _ _ _ _ p s h h'
 | genState g k ih =>
  intro Q Q' E E' p s h h'; obtain ⟨st,hs,h⟩:=h; obtain ⟨st',hs',h'⟩:=h'
  rw [hs] at hs'; cases hs'; exact ⟨st,hs,ih _ _ _ _ _ p s h h'⟩
 | newGen c k ih=>intro Q Q' E E' p s h h'; exact ih _ _ _ _ _ p _ h h'
 | resume g r _ k ih =>
  intro Q Q' E E' p s h h'; obtain ⟨x,s',hw,h⟩:=h; obtain ⟨x',s'',hw',h'⟩:=h'
  obtain ⟨rfl,rfl⟩:=detW hw hw'
  exact ⟨x,s',hw,ih x _ _ _ _ p s' h h'⟩
 | yield _ _ _ _=>intro Q Q' E E' p s h _; exact h
 | stack k ih=>intro Q Q' E E' p s h h'; exact ih _ _ _ _ _ p s h h'
 | fork _ _=>intro Q Q' E E' p s h _; exact h
 | thread k ih=>intro Q Q' E E' p s h h'; exact ih _ _ _ _ _ p s h h'
 | await _ _ _ _ _=>intro Q Q' E E' p s h _; exact h
theorem cD {α:Type} {M:Model} {A:Around} {t:Sem α} {Q Q':α→Shared→Prop} {E E':Value→Shared→Prop} {s:Shared} (h:wpAny M A t Q E s) (h':wpAny M A t Q' E' s) :
  wpAny M A t (fun a s'=>Q a s'∧Q' a s') (fun e s'=>E e s'∧E' e s') s:=fun Γ p hΓ=>rT M Γ t _ _ _ _ p s (h Γ p hΓ) (h' Γ p hΓ)
def Q2 (e:Addr) (h:Heap):Prop:=∃oe vs,h.get? e=some oe∧oe.data=.fields vs∧vs[2]? = some .none
section
variable {M:Model} {A:Around} {E:Value→Shared→Prop} {s:Shared} {base:Heap} {env:Env} {outer l:List Env} {L e:Addr} {cls a0 fl:Value} {Q:Unit→Shared→Prop}
theorem Q2.set {e c:Addr} {h:Heap} {i:Nat} {v:Value} (hi:i≠2) (q:Q2 e h):Q2 e (h.update c (Obj.mapFields (·.setIfInBounds i v))):=by
 obtain ⟨oe,vs,he,hd,h2⟩:=q
 by_cases z:c=e
 ·subst z
  have hd':=Obj.data_mapFields hd (·.setIfInBounds i v)
  exact ⟨_,_,Heap.get?_update_self _ he (Obj.isFreed_of_fields hd'),hd',by rw [Array.getElem?_setIfInBounds_ne hi]; exact h2⟩
 ·exact ⟨oe,vs,(Heap.get?_update_other _ _ z).trans he,hd,h2⟩
theorem Q2.push {e:Addr} {h:Heap} {o:Obj} (q:Q2 e h):Q2 e (h.push o):=let ⟨oe,vs,he,r⟩:=q; ⟨oe,vs,Heap.get?_push_of_some _ he,r⟩
theorem pX {head:Value} {nx:Bool} (hfr:A.frames=some (env :: outer)) (hl:s.heap.FunFrames base (env :: outer)) (hf:env.frame=some L) (q:Q2 e s.heap)
  (h:∀h₁ o ts,Q2 e h₁→o.data=.fields ts→3 < ts.size→Q () { s with heap:=(h₁.push o).update e (Obj.mapFields (·.setIfInBounds 1 (Value.ref h₁.objs.size))) }) :
  wpAny M A (do let a←frameOf env; let pl←entryPlaceOf L nx; let b←EntryCells.newEntry head a .none (rawInt L) .none pl; setField (.ref e) 1 b) Q E s:=by
 obtain ⟨oe,vs,he,hd,h2⟩:=q
 have hene:e∉(env :: outer).filterMap (·.frame):=fun hm=>by
  obtain ⟨_,o,ho,hnf⟩:=hl.mem hm
  rw [he] at ho; injection ho with ho; subst ho; exact hnf vs hd
 refine wpAny_bind (wpAny_frameOf_fun hfr hl hf fun h₁ hs₁=>?_)
 refine wpAny_bind (wpAny_entryPlaceOf fun pl hpl=>?_)
 unfold EntryCells.newEntry newFields
 refine wpAny_bind (wpAny_newObj_type ?_ (hpl.sizeOk5 _ _ _ _ _))
 have he₁:h₁.get? e=some oe:=(hs₁.2.1 e hene).trans he
 have h2s:2 < vs.size:=(Array.getElem?_eq_some_iff.mp h2).1
 exact wpAny_setField (Heap.get?_push_of_some _ he₁) hd (by omega) (h h₁ _ _ ⟨oe,vs,he₁,hd,h2⟩ rfl (by simp only [List.size_toArray,List.length_append,List.length_cons,List.length_nil]; omega))
theorem iP (tr:s.heap.TracedAtW base e cls a0 fl) (q:Q2 e s.heap):wpAny M A (setFlight (.ref e) none) (fun _ s'=>Q2 e s'.heap) E s:=by
 obtain ⟨oe,vs,T,oT,ts,he,hcls,hd,h1,hnT,hTe,hT,hdT,h3⟩:=tr
 unfold setFlight
 refine wpAny_bind (wpAny_field he hd h1 ?_)
 rw [if_pos (show (Value.ref T != Value.none)=true from by simp)]
 exact wpAny_setField hT hdT (Array.getElem?_eq_some_iff.mp h3).1 (q.set (by decide))
theorem zy (hfr:A.frames=some (env :: outer)) (hf:env.frame=some L) (f:Heap.FlyingW base (env :: outer) e cls a0 s.heap) (q:Q2 e s.heap):wpAny M A (noteFrame (.ref e) env) (fun _ s'=>Q2 e s'.heap) E s:=by
 obtain ⟨hkb,hen,hl,oe,vs,T,oT,ts,he,hcls,hd,h1,hnT,hTe,hT,hdT,h3⟩:=f
 unfold noteFrame
 simp only [hf]
 refine wpAny_bind (wpAny_field he hd h1 ?_)
 rw [if_pos (show (Value.ref T != Value.none)=true from by simp)]
 refine wpAny_bind (wpAny_field hT hdT h3 ?_)
 rw [if_neg (show ¬ ((Value.none == rawInt L)=true) from by simp [rawInt])]
 refine wpAny_bind (wpAny_setField hT hdT (Array.getElem?_eq_some_iff.mp h3).1 ?_)
 refine pX (s:={ s with heap:=s.heap.update T (Obj.mapFields (·.setIfInBounds 3 Value.none)) }) hfr (hl.of_keeps fun b o hb hnf=>⟨o,(Heap.get?_update_other _ _ (fun z=>?_)).trans hb,rfl⟩) hf (q.set (by decide)) fun h₁ o _ q1 _ _=>q1.push.set (by decide)
 rw [← z,hT] at hb; injection hb with hb; subst hb; exact hnf ts hdT
theorem uC {h:Heap} {args:List Value} (hfr:A.frames=some (env :: outer)) (hf:env.frame=some L) (hl:h.FunFrames base (env :: outer)) (hx:Heap.MadeExcOf h s.heap e cls args):wpAny M A (leaving env (.ref e)) (fun _ s'=>Q2 e s'.heap) E s:=by
 obtain ⟨t,he,htn,ht⟩:=hx.there
 have q:Q2 e s.heap:=⟨_,_,he,rfl,rfl⟩
 unfold leaving noteFrame
 simp only [hf]
 refine wpAny_bind (wpAny_bind (wpAny_field he rfl (x:=.none) rfl ?_))
 rw [if_neg (by decide)]
 refine pX (base:=base) hfr (hl.of_keeps fun b o hb _=>⟨o,hx.keeps b o hb,rfl⟩) hf q fun h₁ o ts q1 ho h3=>?_
 obtain ⟨oe1,vs1,he1,hd1,h21⟩:=q1
 have hTe:h₁.objs.size≠e:=Nat.ne_of_gt (Heap.lt_size he1)
 have hd3:=Obj.data_mapFields hd1 (·.setIfInBounds 1 (Value.ref h₁.objs.size))
 have he3:=Heap.get?_update_self (Obj.mapFields (·.setIfInBounds 1 (Value.ref h₁.objs.size))) (Heap.get?_push_of_some o he1) (Obj.isFreed_of_fields hd3)
 have h2s:2 < vs1.size:=(Array.getElem?_eq_some_iff.mp h21).1
 have hT:=(Heap.get?_update_other (h₁.push o) (Obj.mapFields (·.setIfInBounds 1 (Value.ref h₁.objs.size))) (Ne.symm hTe)).trans (Heap.get?_push_size h₁ (Obj.isFreed_of_fields ho))
 unfold setFlight
 refine wpAny_bind (wpAny_field he3 hd3 (x:=.ref h₁.objs.size) (by rw [Array.getElem?_setIfInBounds_self_of_lt (by omega)]) ?_)
 rw [if_pos (show (Value.ref h₁.objs.size != Value.none)=true from by simp)]
 exact wpAny_setField hT ho h3 ((Q2.push (o:=o) ⟨oe1,vs1,he1,hd1,h21⟩).set (i:=1) (by decide) |>.set (by decide))
end
section
variable {M:Model} {A:Around} {E:Value→Shared→Prop} {s:Shared} {base:Heap} {env:Env} {outer l:List Env} {L e:Addr} {cls a0 fl:Value} {Q:Unit→Shared→Prop}
theorem iQ {h:Heap} {args:List Value} (hfr:A.frames=some (env :: outer)) (hf:env.frame=some L) (hkb:base.StaysIn h) (hl:h.FunFrames base (env :: outer)) (hx:Heap.MadeExcOf h s.heap e cls args)
  (hQ:∀h' t,Heap.FlyingW base outer e cls (.ref t) h'→h'.TupAt t args→base.get? t=none→s.heap.UpToSlots h'→Q2 e h'→Q () { s with heap:=h' }):wpAny M A (leaving env (.ref e)) Q E s :=
 wpAny_mono (cD (uC (E:=E) hfr hf hl hx) (wpAny_leaves_madeW (Q:=fun _ s'=>Q2 e s'.heap→Q () s') (E:=E) hfr hf hkb hl hx fun h' t a b c d q=>hQ h' t a b c d q)) (fun _ _ z=>z.2 z.1) fun _ _ z=>z.1
theorem ir (hfr:A.frames=some (env :: outer)) (hf:env.frame=some L) (f:Heap.FlyingW base (env :: outer) e cls a0 s.heap) (q:Q2 e s.heap)
  (hQ:∀h',Heap.HeldW base (env :: outer) e cls a0 L h'→s.heap.UpToSlots h'→Q2 e h'→Q () { s with heap:=h' }):wpAny M A (noteFrame (.ref e) env) Q E s :=
 wpAny_mono (cD (zy (E:=E) hfr hf f q) (wpAny_looks_onW (Q:=fun _ s'=>Q2 e s'.heap→Q () s') (E:=E) hfr hf f fun h' a b q=>hQ h' a b q)) (fun _ _ z=>z.2 z.1) fun _ _ z=>z.1
theorem uD (hh:Heap.HeldW base l e cls a0 L s.heap) (q:Q2 e s.heap) (hQ:∀h',Heap.FlyingW base l e cls a0 h'→s.heap.UpToSlots h'→Q2 e h'→Q () { s with heap:=h' }):wpAny M A (setFlight (.ref e) none) Q E s :=
 wpAny_mono (cD (iP (E:=E) hh.2.2.2 q) (wpAny_landsW (Q:=fun _ s'=>Q2 e s'.heap→Q () s') (E:=E) hh fun h' a b q=>hQ h' a b q)) (fun _ _ z=>z.2 z.1) fun _ _ z=>z.1
theorem iR (hh:Heap.FlyingW base l e cls a0 s.heap) (q:Q2 e s.heap) (hQ:∀h',Heap.FlyingW base l e cls a0 h'→s.heap.UpToSlots h'→Q2 e h'→Q () { s with heap:=h' }):wpAny M A (setFlight (.ref e) none) Q E s :=
 wpAny_mono (cD (iP (E:=E) hh.2.2.2.at q) (lands_againW (Q:=fun _ s'=>Q2 e s'.heap→Q () s') (E:=E) hh fun h' a b q=>hQ h' a b q)) (fun _ _ z=>z.2 z.1) fun _ _ z=>z.1
end
end L2
set_option Elab.async false
set_option linter.all false
set_option maxRecDepth 100000
namespace L2
open PySem PySem.Spec PyProof.Rows
theorem ObjOk.ex {P:Program} {w:World} {H:Hp} {h:Heap} {a:Addr} {o:HO} (x:ObjOk P w H h a o):∃ob,h.get? a=some ob:=by
 cases o with
 | lst xs=>obtain ⟨_,_,_,_,e⟩:=x; exact ⟨_,e⟩
 | tup xs=>obtain ⟨_,_,_,o,e,_⟩:=x; exact ⟨_,e⟩
 | dK kvs=>obtain ⟨_,_,_,_,o,_,_,e,_⟩:=x; exact ⟨_,e⟩
 | dT kvs=>obtain ⟨_,_,_,_,o,_,_,e,_⟩:=x; exact ⟨_,e⟩
 | set S n=>obtain ⟨o,_,_,_,e,_⟩:=x; exact ⟨_,e⟩
 | ins C dx fs=>obtain ⟨_,_,_,e,_⟩:=x; exact ⟨_,e⟩
 | own y=>exact x
 | xd fs=>obtain ⟨_,⟨_,_,_,e,_⟩,_⟩:=x; exact ⟨_,e⟩
 | rng lo hi=>obtain ⟨_,_,_,e⟩:=x; exact ⟨_,e⟩
 | frz ob u=>exact ⟨_,x.1⟩
 | tbl ps=>exact ⟨_,(show h.get? a=some _ from x)⟩
 | met f y=>exact ⟨_,(show h.get? a=some _ from x)⟩
 | ext φ=>exact x.2.1
structure Flew (P:Program) (w:World) (outer:List Env) (H:Hp) (s:Shared) (ea:Addr) (C:Value) (H':Hp) (B:Heap) (s':Shared):Prop where
 os:s'.os=s.os
 bare:AllBare s'.gens
 un:Un (frs outer) [] H H' s.heap s'.heap
 hok:HOk P w H' s'.heap
 fly:∃a0,Heap.FlyingW B outer ea C a0 s'.heap
 ctx:Q2 ea s'.heap
 cov:∀b o,b∉frs outer→(H' b≠none∨∃o',s.heap.get? b=some o')→s'.heap.get? b=some o→B.get? b=some o
 new:s.heap.get? ea=none∧H' ea=none
def CXx (P:Program) (w:World):CXT:=fun outer H s E e s'=>∃ea C H' B,e=Value.ref ea∧Flew P w outer H s ea C H' B s'∧E C none H'
section
variable {X:Cx} {pins:List (Addr×Obj)} {σ:St} {H:Hp} {s:Shared}
theorem Inv.raised {h2:Heap} {ea:Addr} {C:Value} {vs:List Value} {M:Model} {E:Value→Shared→Prop} {Q:Unit→Shared→Prop} (I:Inv X pins σ H s) (hst:X.stack=X.env :: X.outer) (hfr:X.env.frame=some X.env.locals) (hex:X.ex=[])
  (hx:Heap.MadeExcOf s.heap h2 ea C vs) (hQ:∀B h',Flew X.prog X.w X.outer X.H₀ X.s₀ ea C H B { s with heap:=h' }→Q () { s with heap:=h' }) :
  wpAny M X.A (leaving X.env (.ref ea)) Q E { s with heap:=h2 }:=by
 have fS:frs X.stack=X.env.locals :: X.fs:=by rw [hst]; unfold frs; rw [List.filterMap_cons,hfr]; rfl
 have st:s.heap.FunFrames X.base (X.env :: X.outer):=by rw [← hst]; exact I.stack
 have hin:∀env∈(X.env :: X.outer),∀b,env.frame=some b→b∈frs X.stack:=fun env he b hb=>by rw [hst]; exact List.mem_filterMap.mpr ⟨env,he,hb⟩
 have s0L:∀b o,X.s₀.heap.get? b=some o→b≠X.env.locals:=fun b o e=>Nat.ne_of_lt (Nat.lt_of_lt_of_le (Heap.lt_size e) I.ok.above)
 have Ubase:Un X.fs [] X.H₀ H X.s₀.heap s.heap:=by have:=I.base; rw [hex] at this; exact this
 have trk:∀b u,H b=some u→b∉frs X.stack:=fun b u e hb=>by rw [I.stkFree b hb] at e; cases e
 have ofd:∀b,b∈X.fs→∃o,s.heap.get? b=some o∧∀vs,o.data≠.fields vs:=fun b hb=>by
  obtain ⟨_,o,ho,hd⟩:=I.funs.mem hb
  exact ⟨o,ho,hd⟩
 refine iQ (base:=PySem.W.hideAll s.heap (frs X.stack)) (h:=s.heap) (by rw [← hst]; exact I.ok.frames) hfr (fun b o q=>PySem.W.of_hideAll _ q) (PySem.W.funFrames_hide st hin) hx fun h' t fl tup hbt sm q2=>hQ (PySem.W.hideAll s.heap (frs X.stack)) h' ?_
 have toB:∀b o,b∉frs X.stack→s.heap.get? b=some o→h'.get? b=some o:=fun b o nb e=>fl.1 _ _ (PySem.W.hideAll_get _ e nb)
 have nfs:∀b o,X.s₀.heap.get? b=some o→b∉X.fs→b∉frs X.stack:=fun b o e nb z=>by
  rw [fS] at z
  rcases List.mem_cons.mp z with q | q
  ·exact s0L b o e q
  ·exact nb q
 have slot1:∀b o,b∈X.fs→s.heap.get? b=some o→∃sl,h'.get? b=some { o with slots:=sl }:=fun b o hb e=>by
  obtain ⟨o',e',hd⟩:=ofd b hb
  rw [e] at e'; cases e'
  exact sm b o (hx.keeps _ _ e) hd
 refine ⟨I.os,I.bare,⟨fun b o e n hb _=>?_,fun b o e n hb _=>?_,fun b o e n _=>Ubase.free b o e n (by simp),fun b o e _=>?_,Ubase.tups,Ubase.frzs,Ubase.tbls⟩,fun b u e=>?_,⟨_,fl⟩,q2,fun b o nb hh e=>?_,?_,?_⟩
 ·exact toB b o (nfs b o e hb) (Ubase.keep b o e n hb (by simp))
 ·obtain ⟨sl,e1⟩:=Ubase.slot b o e n hb (by simp)
  obtain ⟨sl',e2⟩:=slot1 b _ hb e1
  exact ⟨sl',e2⟩
 ·obtain ⟨o',e1⟩:=Ubase.there b o e (by simp)
  by_cases hb:b∈X.fs
  ·obtain ⟨sl,e2⟩:=slot1 b _ hb e1
   exact ⟨_,e2⟩
  ·exact ⟨o',toB b o' (nfs b o e hb) e1⟩
 ·refine (I.hok b u e).stay (fun c v hc q=>toB c v ?_ q) (fun _ q=>q) fun _ _ q=>q
  rcases hc with z | z
  ·rw [z]; exact trk b u e
  ·exact trk c _ z
 ·rcases hh with z | ⟨o',z⟩
  ·cases q:H b with
   | none=>exact absurd q z
   | some u =>
    obtain ⟨ob,eb⟩:=(I.hok b u q).ex
    have eB:=PySem.W.hideAll_get _ eb (trk b u q)
    have:=fl.1 _ _ eB
    rw [e] at this; cases this
    exact eB
  ·obtain ⟨o'',e1⟩:=Ubase.there b o' z (by simp)
   have eB:=PySem.W.hideAll_get _ e1 (nfs b o' z nb)
   have:=fl.1 _ _ eB
   rw [e] at this; cases this
   exact eB
 ·cases q:X.s₀.heap.get? ea with
  | none=>rfl
  | some o =>
   obtain ⟨o',e1⟩:=Ubase.there ea o q (by simp)
   rw [hx.new] at e1; cases e1
 ·cases q:H ea with
  | none=>rfl
  | some u =>
   obtain ⟨ob,eb⟩:=(I.hok ea u q).ex
   rw [hx.new] at eb; cases eb
theorem Flew.inv {ea:Addr} {C:Value} {H':Hp} {B h6:Heap} {s':Shared} {t:Nat} (I:Inv X pins σ H s) (f:Flew X.prog X.w X.stack H s ea C H' B s') (hB:B.StaysIn h6) (sm:s'.heap.UpToSlots h6):Inv X pins σ H' { s' with heap:=h6,toks:=t }:=by
 have trk:∀b u,H' b=some u→b∉frs X.stack:=fun b u e hb=>by
  obtain ⟨o,ho⟩:∃o,s.heap.get? b=some o:=let ⟨_,o,ho,_⟩:=I.stack.mem hb; ⟨o,ho⟩
  have:=f.un.free b o ho (I.stkFree b hb) (by simp)
  rw [this] at e; cases e
 have slot1:∀b o,b∈frs X.stack→s'.heap.get? b=some o→∃sl,h6.get? b=some { o with slots:=sl }:=fun b o hb e=>by
  obtain ⟨a0,fl⟩:=f.fly
  obtain ⟨_,o',e',hd⟩:=fl.2.2.1.mem hb
  rw [e] at e'; cases e'
  exact sm b o e hd
 refine I.call' (ch:=[]) f.os ⟨fun b o e n hb _=>?_,fun b o e n hb _=>?_,fun b o e n _=>f.un.free b o e n (by simp),fun b o e _=>?_,f.un.tups,f.un.frzs,f.un.tbls⟩ (fun b u e=>?_) f.bare (fun b z=>absurd z (by simp))
 ·exact hB _ _ (f.cov b o hb (.inr ⟨o,e⟩) (f.un.keep b o e n hb (by simp)))
 ·obtain ⟨sl,e1⟩:=f.un.slot b o e n hb (by simp)
  obtain ⟨sl',e2⟩:=slot1 b _ hb e1
  exact ⟨sl',e2⟩
 ·obtain ⟨o',e1⟩:=f.un.there b o e (by simp)
  by_cases hb:b∈frs X.stack
  ·obtain ⟨sl,e2⟩:=slot1 b _ hb e1
   exact ⟨_,e2⟩
  ·exact ⟨o',hB _ _ (f.cov b o' hb (.inr ⟨o,e⟩) e1)⟩
 ·refine (f.hok b u e).stay (fun c v hc q=>?_) (fun _ q=>q) fun _ _ q=>q
  have hc':H' c≠none:=by
   rcases hc with z | z
   ·rw [z,e]; exact fun z=>nomatch z
   ·rw [z]; exact fun z=>nomatch z
  have nc:c∉frs X.stack:=by
   cases q':H' c with
   | none=>exact absurd q' hc'
   | some u'=>exact trk c u' q'
  exact hB _ _ (f.cov c v nc (.inl hc') q)
end
def bmVE:List Value:=[.type "ValueError",.type "Exception",.type "BaseException",.type "object"]
def ExcC (K:PySem.W.Frag) (C:Addr):Prop:=PySem.W.excIn K C bmVE "ValueError.__new__" = true
theorem ExcC.obj {K:PySem.W.Frag} {C:Addr} {h:Heap} (X:K.In h) (q:ExcC K C):∃bm N nm qn bs hdct sn sub ab col dd k0 k1 k2 k3 k5 mN,
  h.get? C=some (excClassObj nm qn C N bs bm hdct sn sub ab col dd k0 k1 k2 k3 k5 "ValueError.__new__")∧h.Ns N mN∧mN "__init__" = none∧OwnTail h bmVE bm:=by
 unfold ExcC PySem.W.excIn at q
 split at q
 ·rename_i dd cd sl ho
  split at q
  ·rename_i C' bm k0 k1 k2 k3 n k5 hm hs
   simp only [Bool.and_eq_true,beq_iff_eq,Bool.not_eq_true'] at q
   obtain ⟨⟨⟨⟨⟨e1,e2⟩,e3⟩,e4⟩,e5⟩,e6⟩:=q
   obtain ⟨nm,bs,mro,ns,qn,hd,sn,sub,ab,col,del⟩:=cd
   dsimp only at hm e3 e5 e6
   subst e1 e2 hm e3
   obtain ⟨l⟩:=sl
   simp only at hs
   subst hs
   exact ⟨bm,ns,nm,qn,bs,hd,sn,sub,ab,col,dd,k0,k1,k2,k3,k5,_,X _ _ ho,.of_isNs (PySem.W.isNs_of_in X e5),PySem.W.nsMap_none_of_in X e5 e6,PySem.W.tail_of_in X e4⟩
  ·cases q
 ·cases q
section
variable {X:Cx} {x:Str} {C:Addr} {e0:Expr} {np cpos pos:Pos} {t:TA}
def pY (R:Value→Hp→Prop) (C:Addr) (t:TA):TS:=fun _ σ H=>t σ H fun vs H1=>vs.length≤sizeLine∧R (.ref C) H1
theorem dG {R:Value→Hp→Prop} (hc:X.calm=true) (hg:Gl X x) (hm:X.mg x=some (.ref C)) (ec:ExcC X.K C) (ha:PA X [e0] t)
  (hR:∀pins σ H s h2 ea vs,Inv X pins σ H s→Heap.MadeExcOf s.heap h2 ea (.ref C) vs→R (.ref C) H→X.xe (.ref ea) { s with heap:=h2 })
  (he:starEach [e0] X.env=[(false,eval e0 X.env)]:=by rfl) (hd:(x == ("__debug__" : Str))=false:=by decide) :
  PS X (.Raise (some (.Call (.Name x np) [e0] [] cpos)) none pos) (pY R C t):=by
 intro pins s σ H D I h
 obtain ⟨bm,N,nm,qn,bs,hdct,sn,sub,ab,col,dd,k0,k1,k2,k3,k5,mN,hC,hN,hni,T⟩:=ec.obj I.ok.mod.kin
 refine wpAny_Raise_call_subT (C:=C) (nm:=nm) (q:=qn) (N:=N) (bs:=bs) (bm:=bm) (hdct:=hdct) (sn:=sn) (sub:=sub) (ab:=ab) (col:=col) (dd:=dd) (k0:=k0) (k1:=k1) (k2:=k2) (k3:=k3) (k5:=k5)
  PySem.F.excBase_ValueError (mN:=mN) (T.hasType PySem.F.excBase_ValueError.hasBase) (I.ok.hd hc) (by rw [he]; rfl) hni (dQ I hg hm ⟨rfl,?_⟩ hd)
 have h2:=ha cpos pins s σ H _ I h
 rw [he] at h2 ⊢
 refine Calls.evalArgs_plain (thn h2 fun us s2 ⟨vs,H1,I1,rv,hl,q⟩=>⟨rfl,by rw [← rv.length]; exact hl,I1.bk _ _ hC,hN.keeps I1.bk,T.keeps I1.bk,fun h' ea hx=>?_⟩)
 exact hR pins σ H1 s2 h' ea us I1 hx q
end
section
variable {P:Program} {w:World} {K:PySem.W.Frag} {mg:Str→Option Value} {base:Heap}
theorem cF {N:List Str} {qual:Str} {scope:Scope} {f:Addr} {cd:Value} {A:Around} {outer:List Env} {s₀:Shared} {H₀:Hp} {E:XK} {C:Addr} :
  ∀pins σ H s h2 ea vs,Inv (dE (CXx P w) P w K mg base N qual scope f cd A outer s₀ H₀ E) pins σ H s→Heap.MadeExcOf s.heap h2 ea (.ref C) vs→(fun c H=>E c none H) (Value.ref C) H →
   (dE (CXx P w) P w K mg base N qual scope f cd A outer s₀ H₀ E).xe (.ref ea) { s with heap:=h2 }:=fun pins σ H s h2 ea vs I hx q =>
 I.raised (E:=fun e' s''=>CXx P w outer H₀ s₀ E e' s'') rfl rfl rfl hx fun B h' f=>⟨ea,_,H,B,rfl,f,q⟩
theorem Fun.okX {x qual:Str} {st:Stmt} {f:Addr} {fd:FuncData} {N ps:List Str} {k:Nat} {sp:Sp} (F:Fun K x qual st f fd) (S:FnScope N ps (defScope st)) (len:∀vs H Q E,sp vs H Q E→vs.length=ps.length)
  (hbody:∀ (cdv:Value) (A:Around) (outer:List Env) (s:Shared) (H:Hp) (vs:List V) (Q:VK) (E:XK),Room k (A.deeper (envOfC qual (defScope st) s.heap.objs.size f cdv))→sp vs H Q E →
   ∃t,PSs (dE (CXx P w) P w K mg base N qual (defScope st) f cdv A outer s H E) (defBody st) t∧t { nx:=fun _ H'=>Q .non H',rt:=Q } (dD N vs) H):FnOk P w K mg base (CXx P w) (k + 1) f fd ps sp:=by
 obtain ⟨oc,od,kV,doc,pm,an,cdv,ct,osl,rfl,lk,hcd⟩:=F.ex
 exact tZ lk hcd S len fun A outer s H vs Q E hr hsp=>hbody cdv A outer s H vs Q E hr hsp
end
def XP (X:Cx) (pins:List (Addr×Obj)) (σ:St) (E:XK) (v:Value) (s':Shared):Prop:=∃ea C H H' B s0,v=Value.ref ea∧Inv X pins σ H s0∧Flew X.prog X.w X.stack H s0 ea C H' B s'∧E C none H'
abbrev TX:=St→Hp→VK→XK→Prop
def PEx (X:Cx) (e:Expr) (t:TX):Prop :=
 ∀ (pins:List (Addr×Obj)) (s:Shared) (σ:St) (H:Hp) (Q:VK) (E:XK),Inv X pins σ H s→t σ H Q E→wpAny (model X.prog X.w) X.A (eval e X.env) (EP X pins σ Q) (XP X pins σ E) s
section
variable {X:Cx} {k:Nat} {f C:Addr} {fd:FuncData} {ps:List Str} {sp:Sp} {x m:Str} {p pos apos:Pos} {e o:Expr} {es:List Expr} {ta:TE} {t:TA}
theorem rV {pins:List (Addr×Obj)} {σ:St} {H:Hp} {s:Shared} {Q:VK} {E:XK} {us:List Value} {vs:List V} (F:FnOk X.prog X.w X.K X.mg X.base (CXx X.prog X.w) k f fd ps sp) (hr:Room k X.A) (hb:Binds X.K fd ps [])
  (I:Inv X pins σ H s) (r:Vals vs us) (h:sp vs H Q E):wpAny (model X.prog X.w) X.A (call (.ref f) us) (EP X pins σ Q) (XP X pins σ E) s:=by
 have hl:(us ++ []).length=ps.length:=by rw [List.append_nil,← r.length]; exact F.len _ _ _ _ h
 have b:=hb s us I.kIn hl
 rw [List.append_nil] at b
 refine wpAny_call (codeAny_mono (F.run X.A X.stack s H ⟨us,[]⟩ us vs Q E hr I.env0 b r h) fun r s' hq=>?_)
 cases r with
 | error e =>
  obtain ⟨ea,C,H',B,e1,fl,q⟩:=hq
  exact ⟨ea,C,H,H',B,s,e1,I,fl,q⟩
 | ok fl =>
  cases fl with
  | ret u=>exact I.after hq
  | next=>exact False.elim hq
  | brk=>exact False.elim hq
  | cont=>exact False.elim hq
end
end L2
set_option Elab.async false
set_option linter.all false
set_option maxRecDepth 100000
namespace L2
open PySem PySem.Spec PyProof.Rows
def Cx.marked (X:Cx) (ea:Addr):Cx:={ X with A:=X.A.mark (some (.ref ea)),calm:=false,xe:=fun _ _=>False }
section
variable {X:Cx} {pins:List (Addr×Obj)} {σ:St} {H:Hp} {s:Shared}
theorem Inv.mark (I:Inv X pins σ H s) (ea:Addr):Inv (X.marked ea) pins σ H s :=
 ⟨⟨I.ok.mod,I.ok.kind,I.ok.glob,I.ok.blt,I.ok.above,I.ok.inj,I.ok.has,I.ok.cab,fun z=>absurd (show false=true from z) Bool.false_ne_true,I.ok.frames,I.ok.stk,I.ok.exf,I.ok.bs,I.ok.bsz,I.ok.noex,I.ok.exfs,I.ok.funs,I.ok.frf⟩,
  I.os,I.bare,I.base,I.loc,I.cell,I.free,I.freeC,I.pin,I.hok,I.len⟩
theorem Inv.unmark {ea:Addr} (ok:X.Ok) (I:Inv (X.marked ea) pins σ H s):Inv X pins σ H s :=
 ⟨ok,I.os,I.bare,I.base,I.loc,I.cell,I.free,I.freeC,I.pin,I.hok,I.len⟩
theorem Inv.track2 {a:Addr} {o:HO} (I:Inv X pins σ H s) (f0:H a=none) (f1:a≠X.env.locals) (hna:X.s₀.heap.get? a=none) (f4:∀x c,X.env.cells.lookup x=some c→c≠a) (f5:∀p∈X.pn ++ pins,p.1≠a)
  (new:ObjOk X.prog X.w (upd H a o) s.heap a o):Inv X pins σ (upd H a o) s:=by
 have s0:∀b o,X.s₀.heap.get? b=some o→b≠a:=fun b o e z=>by rw [z,hna] at e; cases e
 refine ⟨I.ok,I.os,I.bare,⟨I.base.keep,I.base.slot,fun b o e n hx=>?_,I.base.there,fun b xs e=>?_,fun b o u e=>?_,fun b ps e=>?_⟩,I.loc,I.cell,?_,fun x c e=>?_,fun p hp=>?_,I.hok.add f0 new,I.len⟩
 ·rw [am (s0 b o e)]; exact I.base.free b o e n hx
 ·have q:=I.base.tups b xs e
  rw [am (ah q f0)]; exact q
 ·have q:=I.base.frzs b o u e
  rw [am (ah q f0)]; exact q
 ·obtain ⟨more,q⟩:=I.base.tbls b ps e
  exact ⟨more,by rw [am (ah q f0)]; exact q⟩
 ·rw [am (Ne.symm f1)]; exact I.free
 ·rw [am (f4 x c e)]; exact I.freeC x c e
 ·obtain ⟨e,n,r⟩:=I.pin p hp
  exact ⟨e,by rw [am (f5 p hp)]; exact n,r⟩
theorem dR {M:Model} {A:Around} {E:Value→Shared→Prop} {i:Nat} {x:Str} {pos:Pos} {Q:Unit→Shared→Prop} (I:Inv X pins σ H s) (hN:X.N.Nodup) (hi:X.N[i]? = some x) (hk:X.env.scope.names.lookup x=some .local)
  (h:∀s',Inv X pins (σ.set i none) H s'→Q () s'):wpAny M A (do bindName X.env x .none; unbindBehindTheSuite X.env x pos) Q E s:=by
 obtain ⟨m,hn,hl⟩:=id I.loc
 have hcls:(X.env.scope.kind == .class || (X.env.scope.kind == .module && X.env.locals != X.env.globals))=false:=by rw [I.ok.kind]; rfl
 refine wpAny_nameGoes_keeps hk hn hcls fun h' v hn' hs=>h _ ?_
 obtain ⟨oL,_,_,hoL,_⟩:=id hn
 have cne:=I.cne
 have hok:HOk X.prog X.w H h':=I.hok.but I.free hs
 refine ⟨I.ok,I.os,I.bare,⟨fun b o e n hb hx=>?_,fun b o e n hb hx=>?_,I.base.free,fun b o e hx=>?_,I.base.tups,I.base.frzs,I.base.tbls⟩,⟨_,hn',fun j y v' e1 e2 e3=>?_⟩,fun y c e=>?_,I.free,I.freeC,fun p hp=>?_,hok,by simpa using I.len⟩
 ·exact (hs.2 b (Nat.ne_of_lt (Nat.lt_of_lt_of_le (Heap.lt_size e) I.ok.above))).trans (I.base.keep b o e n hb hx)
 ·obtain ⟨sl,e1⟩:=I.base.slot b o e n hb hx
  exact ⟨sl,(hs.2 b (Nat.ne_of_lt (Nat.lt_of_lt_of_le (Heap.lt_size e) I.ok.above))).trans e1⟩
 ·obtain ⟨o',e1⟩:=I.base.there b o e hx
  exact ⟨o',(hs.2 b (Nat.ne_of_lt (Nat.lt_of_lt_of_le (Heap.lt_size e) I.ok.above))).trans e1⟩
 ·have hj:j≠i:=fun z=>by
   subst z
   have hiσ:j < σ.length:=by rw [I.len]; exact (List.getElem?_eq_some_iff.mp hi).1
   rw [List.getElem?_set_self hiσ] at e2
   cases e2
  rw [List.getElem?_set_ne (Ne.symm hj)] at e2
  obtain ⟨u',r',q⟩:=hl j y v' e1 e2 e3
  refine ⟨u',r',?_⟩
  rcases q with ⟨k,e⟩ | ⟨k,c,e,z⟩
  ·refine .inl ⟨k,?_⟩
   have:y≠x:=fun e=>hj (gm hN e1 (e ▸ hi))
   simp [this,e]
  ·exact .inr ⟨k,c,e,z.sameBut hs (cne y c e)⟩
 ·obtain ⟨v',z⟩:=I.cell y c e
  exact ⟨v',z.sameBut hs (cne y c e)⟩
 ·obtain ⟨e,n,ne,nf,d⟩:=I.pin p hp
  exact ⟨(hs.2 p.1 ne).trans e,n,ne,nf,d⟩
end
def IsA (a:Addr) (C:Value) (h:Heap):Prop:=∃o,h.get? a=some o∧o.cls=C∧∃vs,o.data=.fields vs∧vs[2]? = some .none
theorem IsA.of {a:Addr} {C:Value} {h:Heap} (x:∃o,h.get? a=some o∧o.cls=C) (q:Q2 a h):IsA a C h:=by
 obtain ⟨o,e,c⟩:=x
 obtain ⟨o',vs,e',d,n⟩:=q
 rw [e] at e'
 cases e'
 exact ⟨o,e,c,vs,d,n⟩
theorem IsA.obj {P:Program} {w:World} {H:Hp} {h:Heap} {a:Addr} {C:Value} (x:IsA a C h):ObjOk P w H h a (.ext (IsA a C)):=by
 obtain ⟨o,e,c⟩:=id x
 exact ⟨x,⟨o,e⟩,fun h1 h2 ⟨o',e',c'⟩ k=>⟨o',k o' e',c'⟩⟩
section
variable {X:Cx} {e:Expr} {tx:TX} {ts:TS} {i:Nat} {n y:Str} {CE:Addr} {b₀:Stmt} {suite:List Stmt} {np hpos epos pos:Pos}
end
structure RoomH (k:Nat) (A:Around):Prop where
 dp:A.depth + 3 * k + 5 < recursionLimit
 un:A.units + 16 * k + 200 < cLine
structure FnH (P:Program) (w:World) (K:PySem.W.Frag) (mg:Str→Option Value) (base:Heap) (k:Nat) (f:Addr) (fd:FuncData) (ps:List Str) (sp:Sp):Prop where
 len:∀vs H Q E,sp vs H Q E→vs.length=ps.length
 run:∀ (A:Around) (outer:List Env) (s:Shared) (H:Hp) (args:Args) (us:List Value) (vs:List V) (Q:VK) (E:XK),RoomH k A→Env0 P w K mg base A outer s H→BindsTo s fd args (ps.zip us)→Vals vs us→sp vs H Q E →
  codeAny (model P w) A (.call (.ref f) args) (CR CX0 outer P w H s Q E) s
end L2
set_option maxRecDepth 100000
namespace PySem
open Sem (wp)
open PySem.W (Frag Looks looks_findIn looks_subIn)
structure ExK (K:Frag) (C:Addr):Prop where
 lkC:PySem.W.findIn K (.ref C) "__class__" = some (some (.builtin "object.__class__"))
 lkG:PySem.W.findIn K (.ref C) "__getattribute__" = some (some (.builtin "BaseException.__getattribute__"))
 lkA:PySem.W.findIn K (.ref C) "__getattr__" = some none
 subB:PySem.W.subIn K (.ref C) (.type "BaseException")=some true
 subO:PySem.W.subIn K (.ref C) (.type "object")=some true
 cls:(PySem.W.clsIn K C).isSome=true
section
variable {prog:Program} {w:World} {A:Around} {E:Value→Shared→Prop} {h:Heap} {g:Array GenState} {d:Drawn} {t:Nat} {os:OsState} {a:Addr} {o:Obj} {K:Frag} {C:Addr}
theorem kI {R:Result→Shared→Prop} (X:K.In h) (F0:ExK K C) (hx:h.get? a=some o) (hc:o.cls=.ref C) (hq:R (.ok (.ret (.ref C))) ⟨h,g,d,t,os⟩) :
  codeAny (model prog w) A (.call (.builtin "getset_descriptor.__get__") ⟨[.builtin "object.__class__",.ref a,.ref C],[]⟩) R ⟨h,g,d,t,os⟩:=by
 have hT5:(⟨h,g,d,t,os⟩:Shared).TypeIs (.builtin "object.__class__") "getset_descriptor" := F.typeOf_object_class
 have L:Looks (model prog w) h (isSubtype (.ref C) (.type (".".intercalate ("object.__class__".cutAt '.').dropLast))) true:=by
  rw [F.owner_object_class]; exact looks_subIn X F0.subO
 refine codeAny_call_builtin F.slot_gs_get.plain F.entry_gs_get (F.slot_gs_get.check _ _ _ _ _ _ _ _ hT5 (F.args_gs_get _ _ _) ?_)
 repeat (any_goals (first | assumption | (with_reducible refine wpAny_loadPart_at hx ?_; rw [hc]) | (with_reducible refine Looks.at L ?_) | wp_step))
 refine ⟨Code.quiet_builtin _ (by decide +kernel),codeAny_builtin F.entry_object_class ?_⟩
 repeat (any_goals (first | assumption | (with_reducible refine wpAny_loadPart_at hx ?_; rw [hc]) | wp_step))
theorem iS {tk:Tok} {Q:Fin→Shared→Prop} (X:K.In h) (F0:ExK K C) (hx:h.get? a=some o) (hc:o.cls=.ref C) (hq:Q (.done (.ret (.ref C))) ⟨h,g,d,t,os⟩) :
  wpAny (model prog w) A (Builtin.«object.__getattribute__» ⟨[.ref a,.str "__class__" tk],[]⟩) Q E ⟨h,g,d,t,os⟩:=by
 have hT5:(⟨h,g,d,t,os⟩:Shared).TypeIs (.builtin "object.__class__") "getset_descriptor" := F.typeOf_object_class
 have f5:=F.typeOf_object_class
 have f6:=F.slot_gs_get.lookup
 have f7:=F.slot_gs_set.lookup
 have L:Looks (model prog w) h (typeLookup (.ref C) "__class__") _:=looks_findIn X F0.lkC
 repeat (any_goals (first | assumption | (with_reducible refine wpAny_loadPart_at hx ?_; rw [hc]) | (with_reducible refine Looks.at L ?_) | wp_step))
 refine kI X F0 hx hc ?_
 repeat (any_goals (first | assumption | wp_step))
theorem nE {nameV:Value} {Q:Unit→Shared→Prop} (X:K.In h) (F0:ExK K C) (hx:h.get? a=some o) (hc:o.cls=.ref C) (hq:Q () ⟨h,g,d,t,os⟩) :
  wpAny (model prog w) A (checkBuiltinCall "BaseException.__getattribute__" ⟨[.ref a,nameV],[]⟩) Q E ⟨h,g,d,t,os⟩:=by
 have hk:builtinKind "BaseException.__getattribute__" = some .slot:=by decide +kernel
 have hsplit:splitId "BaseException.__getattribute__" = some ("BaseException","__getattribute__"):=by decide +kernel
 have L:Looks (model prog w) h (isSubtype (.ref C) (.type "BaseException")) true:=looks_subIn X F0.subB
 have ha:=F.args_bexc_ga (.ref a) nameV
 simp only [checkBuiltinCall,hk,hsplit]
 refine wpAny_bind ?_
 ·unfold isInstance
  repeat (first | (with_reducible refine wpAny_loadPart_at hx ?_; rw [hc]) | (with_reducible refine Looks.at L ?_) | wp_step)
  exact hq
theorem jw {tk:Tok} {R:Result→Shared→Prop} (X:K.In h) (F0:ExK K C) (hx:h.get? a=some o) (hc:o.cls=.ref C) (hq:R (.ok (.ret (.ref C))) ⟨h,g,d,t,os⟩) :
  codeAny (model prog w) A (.call (.builtin "BaseException.__getattribute__") ⟨[.ref a,.str "__class__" tk],[]⟩) R ⟨h,g,d,t,os⟩ :=
 codeAny_call_builtin F.attrBase_ValueError.ga.plain F.entry_bexc_ga (nE X F0 hx hc (iS X F0 hx hc hq))
theorem nF {tk:Tok} {Q:Value→Shared→Prop} (X:K.In h) (F0:ExK K C) (hx:h.get? a=some o) (hc:o.cls=.ref C) (hq:Q (.ref C) ⟨h,g,d,t,os⟩) :
  wpAny (model prog w) A (getAttrBy (.ref a) (.str "__class__" tk) false) Q E ⟨h,g,d,t,os⟩:=by
 have LG:Looks (model prog w) h (typeLookup (.ref C) "__getattribute__") _:=looks_findIn X F0.lkG
 have LA:Looks (model prog w) h (typeLookup (.ref C) "__getattr__") _:=looks_findIn X F0.lkA
 have f3:=F.attrBase_ValueError.ga.bind (.ref a)
 have hx2:(Value.builtin "BaseException.__getattribute__" == Value.builtin "object.__getattribute__")=false:=by decide +kernel
 have hx1:(onTheHeap (Value.ref C) && Value.builtin "BaseException.__getattribute__" == Value.builtin "object.__getattribute__")=false:=by rw [hx2]; rfl
 repeat (any_goals (first | assumption | (with_reducible refine wpAny_loadPart_at hx ?_; rw [hc]) | (with_reducible refine Looks.at LG ?_) | (with_reducible refine Looks.at LA ?_) | wp_step))
 refine jw X F0 hx hc ?_
 repeat (any_goals (first | assumption | wp_step))
theorem jx {Q:Option Value→Shared→Prop} (X:K.In h) (F0:ExK K C) (hx:h.get? a=some o) (hc:o.cls=.ref C) (hq:Q (some (.ref C)) ⟨h,g,d,t + 1,os⟩) :
  wpAny (model prog w) A (getAttr? (.ref a) "__class__") Q E ⟨h,g,d,t,os⟩:=by
 unfold getAttr? getAttrBy?
 repeat (any_goals (first | assumption | with_reducible apply nF X F0 hx hc | wp_step))
end
end PySem
namespace L2
open PySem PySem.Spec PyProof.Rows
theorem mI {K:PySem.W.Frag} {x C:Addr} (F0:ExK K C):PySem.W.KitX K (.ref x) (.ref C) (IsA x (.ref C)) where
 ty:=fun M h _ ⟨o,e,c,_⟩=>by
  have L:PySem.W.Looks M h (typeOf (.ref x)) o.cls:=(PySem.W.Looks.ld e).andThen .now
  rw [c] at L
  exact L
 it:=fun _ _ X _=>by
  have z:=F0.cls
  unfold PySem.W.clsIn at z
  split at z
  ·rename_i c' d' cd' sl' ho
   intro A' Q' E' s' k q
   unfold isType loadHead
   exact wpAny_bind (wpAny_loadPart (k _ _ (X _ _ ho)) (wpAny_pure q))
  ·cases z
 ne:=fun h tp dd its n sl X htp=>by
  have z:=F0.cls
  refine Bool.eq_false_iff.mpr fun q=>?_
  have e:C=tp:=Value.ref.inj (beq_iff_eq.mp q)
  subst e
  unfold PySem.W.clsIn at z
  split at z
  ·rename_i c' d' cd' sl' ho
   have z:=(X _ _ ho).symm.trans htp
   cases z
  ·cases z
 ca:=fun {_ _ _ _ _ s} X p k=>by
  obtain ⟨h,g,d,t,os⟩:=s
  obtain ⟨o,e,c,_⟩:=p
  exact jx X F0 e c k
section
variable {X:Cx}
theorem iT {C:Addr} (F0:ExK X.K C):cP X (.builtin "isinstance") (fun xs H Q=>∃a cv c b,xs=[.ref a,cv]∧H a=some (.ext (IsA a (.ref C)))∧clV cv=some c∧PySem.W.kitOne X.K (.ref C) c=some b∧Q (.bl b) H):=by
 intro pins s σ H xs us Q I rv h
 obtain ⟨a,cv,c,b,rfl,ha,e1,e2,q⟩:=h
 cases rv with
 | cons r1 rr =>
  cases rr with
  | cons r2 rr =>
   cases rr
   cases r1
   rw [clV.rel e1 r2]
   exact PySem.W.kia_one (mI F0) I.kIn (I.hok a _ ha).1 e2 (fun z=>nomatch z) fun tk=>⟨.bl b,H,I.tok tk,rfl,q⟩
theorem hJ {C:Addr} (F0:ExK X.K C):cP X (.builtin "isinstance") (fun xs H Q=>∃a p cvs cs b,xs=[.ref a,.ref p]∧H a=some (.ext (IsA a (.ref C)))∧H p=some (.tup cvs)∧clVs cvs=some cs∧PySem.W.kitAny X.K (.ref C) cs=some b∧Q (.bl b) H):=by
 intro pins s σ H xs us Q I rv h
 obtain ⟨a,p,cvs,cs,b,rfl,ha,hp,e1,e2,q⟩:=h
 cases rv with
 | cons r1 rr =>
  cases rr with
  | cons r2 rr =>
   cases rr
   cases r1
   cases r2
   obtain ⟨_,its,rits,o,ho,hc,n,hd⟩:=I.hok p _ hp
   obtain ⟨oc,od,dt,osl⟩:=o
   replace hc:oc=.type "tuple" := hc
   replace hd:dt=.seq its.toArray n:=hd
   subst hc hd
   have e3:=clVs.rel e1 rits
   subst e3
   exact PySem.W.kia_tup (mI F0) I.kIn (I.hok a _ ha).1 ho e2 (fun z=>nomatch z) fun tk=>⟨.bl b,H,I.tok tk,rfl,q⟩
end
end L2
set_option Elab.async false
set_option linter.all false
set_option maxRecDepth 100000
namespace PySem
open Sem (wp)
open AutoSeq1 (wpAny_loadPart')
section
variable {prog:Program} {w:World} {A:Around} {E:Value→Shared→Prop} {s:Shared}
theorem fZ {it t:Addr} {i:Nat} {items} {x:Value} {Q:Value→Shared→Prop} (hit:s.heap.IsTupleIter it t i)
  (ht:s.heap.IsTuple t items) (hx:items[i]? = some x)
  (hQ:∀h',h'.IsTupleIter it t (i + 1)→Heap.SameBut it s.heap h'→Q x { s with heap:=h' }) :
  wpAny (model prog w) A (Builtin.SmallTypes.nextOf (.ref it)) Q E s:=by
 obtain ⟨o,ho,hc,hd⟩:=id hit
 obtain ⟨ol,hol,_,nl,hdl⟩:=ht
 unfold Builtin.SmallTypes.nextOf
 refine wpAny_bind (wpAny_callSpecial?_slot (name:=Str.ofString "__next__") hit.typeIs F.slot_tuple_iterator_next
  (wpAny_call_entry F.slot_tuple_iterator_next hit.typeIs F.entry_tuple_iterator_next ?_ (F.args_tuple_iterator_next_1 _)))
 show wpAny _ _ (field (.ref it) 0 >>= _) _ _ s
 refine wpAny_bind (wpAny_field ho hd (x:=.ref t) rfl ?_)
 show wpAny _ _ (if (Value.ref t == Value.none)=true then _ else _) _ _ s
 rw [if_neg (show ¬ ((Value.ref t == Value.none)=true) from Bool.false_ne_true)]
 show wpAny _ _ (field (.ref it) 1 >>= _) _ _ s
 refine wpAny_bind (wpAny_field ho hd (x:=.int i 0) rfl ?_)
 show wpAny _ _ (seqItems? (.ref t) >>= _) _ _ s
 refine wpAny_bind (wpAny_seqItems hol hdl ?_)
 simp only [Int.toNat_natCast,hx]
 refine wpAny_bind (wpAny_setField ho hd (by simp) (wpAny_pure ⟨x,rfl,wpAny_pure (hQ _ ?_ (Heap.SameBut.update ..))⟩))
 exact ⟨_,Heap.get?_update_self _ ho (Obj.isFreed_of_fields (Obj.data_mapFields hd _)),(Obj.cls_mapFields ..).trans hc,by
  rw [Obj.data_mapFields hd]; simp [rawInt]⟩
theorem dH {it t:Addr} {i:Nat} {items} {Q:Value→Shared→Prop} (hh:A.handled=none)
  (hit:s.heap.IsTupleIter it t i) (ht:s.heap.IsTuple t items) (hx:items[i]? = none)
  (hE:∀h' e, Heap.ExtBut it s.heap h'→(∃o, h'.get? e=some o∧o.cls=.type "StopIteration")→E (.ref e) { s with heap:=h' }) :
  wpAny (model prog w) A (Builtin.SmallTypes.nextOf (.ref it)) Q E s:=by
 obtain ⟨o,ho,hc,hd⟩:=id hit
 obtain ⟨ol,hol,_,nl,hdl⟩:=ht
 unfold Builtin.SmallTypes.nextOf
 refine wpAny_bind (wpAny_callSpecial?_slot (name:=Str.ofString "__next__") hit.typeIs F.slot_tuple_iterator_next
  (wpAny_call_entry F.slot_tuple_iterator_next hit.typeIs F.entry_tuple_iterator_next ?_ (F.args_tuple_iterator_next_1 _)))
 show wpAny _ _ (field (.ref it) 0 >>= _) _ _ s
 refine wpAny_bind (wpAny_field ho hd (x:=.ref t) rfl ?_)
 show wpAny _ _ (if (Value.ref t == Value.none)=true then _ else _) _ _ s
 rw [if_neg (show ¬ ((Value.ref t == Value.none)=true) from Bool.false_ne_true)]
 show wpAny _ _ (field (.ref it) 1 >>= _) _ _ s
 refine wpAny_bind (wpAny_field ho hd (x:=.int i 0) rfl ?_)
 show wpAny _ _ (seqItems? (.ref t) >>= _) _ _ s
 refine wpAny_bind (wpAny_seqItems hol hdl ?_)
 simp only [Int.toNat_natCast,hx]
 refine wpAny_bind (wpAny_rule (wpAny_bind (wpAny_setField ho hd (by simp) ?_)))
 show wpAny _ _ (newExc (.type "StopIteration") [] >>= _) _ _ _
 refine wpAny_bind ?_
 simp only [newExc,newTuple]
 refine wpAny_bind (wpAny_newObj_type ?_ (by size_fits))
 refine wpAny_bind (m:=firstArgMember _ _) (wpAny_of_eq (a:=Value.none) (by first | rfl | (simp only [firstArgMember]; rfl)) ?_)
 refine wpAny_newObj_type ?_ (by size_fits)
 simp only [raiseNew]
 refine wpAny_bind (wpAny_handled ?_)
 first | rw [show A.in1.handled=none from hh] | rw [hh]
 refine wpAny_bind (wpAny_pure (wpAny_throw ?_))
 exact hE _ _ (((Heap.SameBut.update ..).extBut.push _).push _) ⟨_,Heap.get?_push_size _ rfl,rfl⟩
end
theorem pZ {prog:Program} {w:World} {A:Around} (hh:A.handled=none) (it l:Addr) (hne:l≠it) (items:Array Value) :
  Draws prog w A it [it,l] items.size (fun i v=>items[i]? = some v) (fun i h=>h.IsTupleIter it l i∧h.IsTuple l items) where
 live:=fun _ _ st=>let ⟨o,ho,_⟩:=st.1; ⟨o,ho⟩
 frame:=fun _ _ _ st hk=>⟨st.1.at fun o e=>hk it (by simp) o e,let ⟨o,ho,r⟩:=st.2; ⟨o,hk l (by simp) o ho,r⟩⟩
 item:=fun i s Q E hi st hQ=>by
  refine fZ st.1 st.2 (x:=items[i]) (by simp [hi]) fun h' hit' hs'=>?_
  exact hQ _ h' s.toks (by simp [hi]) ⟨hit',st.2.extBut hs'.extBut hne⟩ hs'
 done:=fun s Q E st hE=>dH hh st.1 st.2 (by simp) hE
theorem gE (l:Addr) (items:Array Value) (n:Nat) (dct:Option Addr) (sl:Array (Option Value)) :
  Meets (Builtin.«enumerate.__new__» ⟨[.type "enumerate",.ref l],[]⟩) (fun _ R s=>s.heap.get? l=some { cls:=.type "tuple",dict:=dct,data:=.seq items n,slots:=sl } ∧
   R (.ok (.ret (.ref (s.heap.push { cls:=.type "tuple_iterator",data:=.fields #[.ref l,.int 0 0] }).objs.size)))
    { s with heap:=(s.heap.push { cls:=.type "tuple_iterator",data:=.fields #[.ref l,.int 0 0] }).push { cls:=.type "enumerate",data:=.fields #[.none,.bool false,.ref s.heap.objs.size,rawInt 0,.none,.none] } }) :=
 .of_wp fun prog w A R s h=>by
  obtain ⟨hp,g,d,tk,os⟩:=s; obtain ⟨hl,h⟩:=h
  have hsub:=sub_enumerate
  have hL:Heap.IsTuple (Shared.heap ⟨hp,g,d,tk,os⟩) l items:=⟨_,hl,rfl,n,rfl⟩
  wp_walk using wpAny_loadPart' hl
  refine wpAny_stack_any fun st=>wpAny_pure ?_
  split
  ·rename_i c _ _ _ _ _
   cases (c == Value.type "enumerate")
   ·wp_walk using wpAny_loadPart' hl,wpAny_pyIter_tuple hL
    exact ⟨_,rfl,h⟩
   ·wp_walk using wpAny_loadPart' hl,wpAny_pyIter_tuple hL
    exact ⟨_,rfl,h⟩
  ·wp_walk using wpAny_loadPart' hl,wpAny_pyIter_tuple hL
   exact ⟨_,rfl,h⟩
section
variable {prog:Program} {w:World} {A:Around} {E:Value→Shared→Prop} {s:Shared}
theorem eA {l:Addr} {items:Array Value} {Q:Value→Shared→Prop} (hL:s.heap.IsTuple l items)
  (h:∀h',IsEnum h' (s.heap.objs.size + 1) s.heap.objs.size 0 .none→h'.IsTupleIter s.heap.objs.size l 0→h'.objs.size=s.heap.objs.size + 2 →
   (∀b o,s.heap.get? b=some o→h'.get? b=some o)→Q (.ref (s.heap.objs.size + 1)) { s with heap:=h' }) :
  wpAny (model prog w) A (call (.type "enumerate") [.ref l]) Q E s:=by
 obtain ⟨⟨c,dct,dt,sl⟩,hl,hc,n,hd⟩:=hL
 replace hc:c=.type "tuple" := hc
 replace hd:dt=.seq items n:=hd
 subst hc hd
 refine callType_new F.called_enumerate (by decide) (F.typeCall_enumerate_1 _) (F.newCall_enumerate_1 _) (fun obj=>F.args_object_init_2 obj _) F.entry_enumerate_new
  (gE l items n dct sl) ⟨hl,?_⟩
 have hz:(s.heap.push { cls:=.type "tuple_iterator",data:=.fields #[.ref l,.int 0 0] }).objs.size=s.heap.objs.size + 1:=Heap.size_push ..
 show _∧_
 rw [hz]
 have he:IsEnum ((s.heap.push { cls:=.type "tuple_iterator",data:=.fields #[.ref l,.int 0 0] }).push
   { cls:=.type "enumerate",data:=.fields #[.none,.bool false,.ref s.heap.objs.size,rawInt 0,.none,.none] }) (s.heap.objs.size + 1) s.heap.objs.size 0 .none:=by
  have:=Heap.get?_push_size (s.heap.push { cls:=.type "tuple_iterator",data:=.fields #[.ref l,.int 0 0] })
   (o:={ cls:=.type "enumerate",data:=.fields #[.none,.bool false,.ref s.heap.objs.size,rawInt 0,.none,.none] }) rfl
  rw [hz] at this; exact this
 refine ⟨⟨_,he,rfl⟩,h _ he ⟨_,Heap.get?_push_of_some _ (Heap.get?_push_size _ rfl),rfl,rfl⟩ (by rw [Heap.size_push,hz]) fun b o x=>Heap.get?_push_of_some _ (Heap.get?_push_of_some _ x)⟩
end
end PySem
set_option Elab.async false
set_option linter.all false
set_option maxRecDepth 100000
namespace L2
open PySem PySem.Spec PyProof.Rows
def Ite (f:List V→HO) (l:Addr):It :=
  ⟨fun i H=>∃xs x,H l=some (f xs)∧xs[i]? = some x,
   fun i H v H'=>∃p xs x,H p=none∧v=.ref p∧H'=upd H p (.tup [.int i,x])∧H l=some (f xs)∧xs[i]? = some x,
   fun i H=>∃xs,H l=some (f xs)∧xs.length≤i⟩
section
variable {X:Cx} {pins:List (Addr×Obj)} {σ:St} {H:Hp} {s:Shared}
theorem iu {f:List V→HO} {tn:Nat→Heap→Prop} {es:List Expr} {kk:Nat} {tp:Pos} {e it l:Addr} {i:Nat} {xs:List V} {x:V} {u:Value} {tk:Nat} {h':Heap} {E:Value→Shared→Prop} (hne:e≠it) (I:Inv X pins σ H s) (hf:∀b∈[e,it],dW X pins H b) (hl:H l=some (f xs)) (hx:xs[i]? = some x)
  (ho:∀b∈[e, it], b < s.heap.objs.size) (r:RelV x u) (b1:IsEnumOut h' e it ((i:Int) + 1) u s.heap.objs.size) (b3:h'.get? s.heap.objs.size=some { cls:=.type "tuple", data:=.seq #[.int i tk, u] })
  (bk:∀b o,b≠e→b≠it→s.heap.get? b=some o→h'.get? b=some o) (hn:∀h'',IsEnum h'' e it ((i + 1:Nat):Int) u→Heap.SameBut e h' h''→tn (i + 1) h'') :
  wpAny (model X.prog X.w) X.A (letOwnedTupleGo (.Tuple es kk tp) (.ref e) (.ref s.heap.objs.size)) (fun _ s2=>∃x H',Inv X pins σ H' s2∧RelV x (.ref s.heap.objs.size)∧(Ite f l).yld i H x H'∧tn (i + 1) s2.heap∧∀b∈[e,it],H' b=none) E { s with heap:=h',toks:=tk + 1 }:=by
 refine wpAny_letOwnedTupleGo_enum b1 fun h'' c1 cs=>?_
 have es':e < s.heap.objs.size:=ho e (by simp)
 have k2:∀b o,b∉[e,it]→s.heap.get? b=some o→h''.get? b=some o:=fun b o hb q=>by
  simp only [List.mem_cons,List.not_mem_nil,or_false,not_or] at hb
  exact cs.extBut b o hb.1 (bk b o hb.1 hb.2 q)
 have I1:Inv X pins σ H { s with heap:=h'',toks:=tk + 1 }:=I.turnedN (t':=tk + 1) hf k2
 have hp:h''.get? s.heap.objs.size=some { cls:=.type "tuple", data:=.seq #[.int i tk, u] }:=cs.extBut _ _ (Nat.ne_of_gt es') b3
 have hn0:H s.heap.objs.size=none:=I.hok.fresh (Nat.le_refl _)
 have fpk:=I.fpOk (H':=H) (Nat.le_refl _) hn0
 have I2:Inv X pins σ (upd H s.heap.objs.size (.tup [.int i,x])) { s with heap:=h'',toks:=tk + 1 }:=I1.track fpk I.sz ⟨by show 2≤sizeLine; decide,[.int i tk,u],.cons ⟨tk,rfl⟩ (.cons r .nil),_,hp,rfl,_,rfl⟩
 refine ⟨.ref s.heap.objs.size,_,I2,rfl,⟨_,xs,x,hn0,rfl,rfl,hl,hx⟩,hn h'' c1 cs,fun b hb=>?_⟩
 rw [am (Nat.ne_of_lt (ho b hb))]
 exact (hf b hb).1
end
theorem kJ {P:Program} {w:World} {K:PySem.W.Frag} {es:List Expr} {kk:Nat} {tp:Pos} (l e it:Addr) (hne:e≠it) :
  Turn P w K (.Tuple es kk tp) (Ite .lst l) [e,it] e (fun i h=>(∃old,IsEnum h e it i old)∧h.IsListIter it l i) where
 mem:=by simp
 obj:=fun i h st b hb=>by
  obtain ⟨⟨old,a1⟩,⟨o2,a2,_,d2⟩⟩:=st
  simp only [List.mem_cons,List.not_mem_nil,or_false] at hb
  rcases hb with rfl | rfl
  ·exact ⟨_,a1,fun v q=>by cases q⟩
  ·exact ⟨_,a2,fun v q=>by rw [d2] at q; cases q⟩
 keep:=fun i h h' st k=>by
  obtain ⟨⟨old,a1⟩,a2⟩:=st
  exact ⟨⟨old,k e (by simp) _ a1⟩,a2.at fun o q=>k it (by simp) o q⟩
 item:=by
  intro X hP hw hK hc i pins s σ H E I hf st hg
  subst hP hw hK
  obtain ⟨⟨old,a1⟩,a2⟩:=st
  obtain ⟨xs,x,e1,ex⟩:=hg
  obtain ⟨its,rv,p1,_⟩:=I.list (SqL.of e1)
  obtain ⟨u,hu,r⟩:=rv.get ex
  have ho:∀b∈[e,it],b < s.heap.objs.size:=fun b hb=>by
   obtain ⟨o2,a2',_⟩:=a2
   simp only [List.mem_cons,List.not_mem_nil,or_false] at hb
   rcases hb with rfl | rfl
   ·exact Heap.lt_size a1
   ·exact Heap.lt_size a2'
  refine wpAny_pyNext_enum_item a1 a2 p1.isList (x:=u) (by simpa using hu) hne fun h' b1 b2 b3 b4 bk=>⟨_,rfl,?_⟩
  exact iu (tn:=fun i h=>(∃old,IsEnum h e it i old)∧h.IsListIter it l i) hne I hf e1 ex ho r b1 b3 bk fun h'' c1 cs=>⟨⟨u,c1⟩,b2.extBut cs.extBut (Ne.symm hne)⟩
 done:=by
  intro X hP hw hK hc i pins s σ H E I hf st hg
  subst hP hw hK
  obtain ⟨⟨old,a1⟩,a2⟩:=st
  obtain ⟨xs,e1,ex⟩:=hg
  obtain ⟨its,rv,p1,_⟩:=I.list (SqL.of e1)
  have lv:=rv.length
  refine wpAny_pyNext_enum_end (I.ok.hd hc) a1 a2 p1.isList (by simp; omega) fun h' bk=>⟨rfl,?_⟩
  exact I.turnedN (t':=s.toks) hf fun b o hb q=>by
   simp only [List.mem_cons,List.not_mem_nil,or_false,not_or] at hb
   exact bk b o hb.2 q
 self:=fun _ _ _ _ _ st h=>by obtain ⟨⟨old,a1⟩,_⟩:=st; exact wpAny_pyIter_enum a1 h
theorem kL {P:Program} {w:World} {K:PySem.W.Frag} {es:List Expr} {kk:Nat} {tp:Pos} (l e it:Addr) (hne:e≠it) :
  Turn P w K (.Tuple es kk tp) (Ite .tup l) [e,it] e (fun i h=>(∃old,IsEnum h e it i old)∧h.IsTupleIter it l i) where
 mem:=by simp
 obj:=fun i h st b hb=>by
  obtain ⟨⟨old,a1⟩,⟨o2,a2,_,d2⟩⟩:=st
  simp only [List.mem_cons,List.not_mem_nil,or_false] at hb
  rcases hb with rfl | rfl
  ·exact ⟨_,a1,fun v q=>by cases q⟩
  ·exact ⟨_,a2,fun v q=>by rw [d2] at q; cases q⟩
 keep:=fun i h h' st k=>by
  obtain ⟨⟨old,a1⟩,a2⟩:=st
  exact ⟨⟨old,k e (by simp) _ a1⟩,a2.at fun o q=>k it (by simp) o q⟩
 item:=by
  intro X hP hw hK hc i pins s σ H E I hf st hg
  subst hP hw hK
  obtain ⟨⟨old,a1⟩,a2⟩:=st
  obtain ⟨xs,x,e1,ex⟩:=hg
  obtain ⟨its,rv,p1,_⟩:=I.tuple (SqT.of e1)
  obtain ⟨u,hu,r⟩:=rv.get ex
  have lt:i < its.toArray.size:=by simp; exact (List.getElem?_eq_some_iff.mp hu).1
  have ho:∀b∈[e,it],b < s.heap.objs.size:=fun b hb=>by
   obtain ⟨o2,a2',_⟩:=a2
   simp only [List.mem_cons,List.not_mem_nil,or_false] at hb
   rcases hb with rfl | rfl
   ·exact Heap.lt_size a1
   ·exact Heap.lt_size a2'
  have nl:∀b∈[e,it],l≠b:=fun b hb q=>by rw [q,(hf b hb).1] at e1; cases e1
  have p1':s.heap.IsTuple l its.toArray:=p1
  have DD:Draws X.prog X.w X.A.in1 it [it,l] its.toArray.size (fun i v=>its.toArray[i]? = some v) (fun i h=>h.IsTupleIter it l i∧h.IsTuple l its.toArray):=pZ (show X.A.in1.handled=none from I.ok.hd hc) it l (nl it (by simp)) its.toArray
  refine wpAny_pyNext_enum_itemD DD a1 ⟨a2,p1'⟩ lt hne (by simp only [List.mem_cons,List.not_mem_nil,or_false,not_or]; exact ⟨hne,Ne.symm (nl e (by simp))⟩) fun x' h' tk px b1 b2 b3 b4 bk=>⟨_,rfl,?_⟩
  have hu':its.toArray[i]? = some u:=by simpa using hu
  have eu:u=x':=Option.some.inj (hu'.symm.trans px)
  subst eu
  exact iu (tn:=fun i h=>(∃old,IsEnum h e it i old)∧h.IsTupleIter it l i) hne I hf e1 ex ho r b1 b3 bk fun h'' c1 cs=>⟨⟨u,c1⟩,b2.1.extBut cs.extBut (Ne.symm hne)⟩
 done:=by
  intro X hP hw hK hc i pins s σ H E I hf st hg
  subst hP hw hK
  obtain ⟨⟨old,a1⟩,a2⟩:=st
  obtain ⟨xs,e1,ex⟩:=hg
  obtain ⟨its,rv,p1,_⟩:=I.tuple (SqT.of e1)
  have lv:=rv.length
  have p1':s.heap.IsTuple l its.toArray:=p1
  have hT:s.TypeIs (.ref e) "enumerate" := ⟨_,a1,rfl⟩
  unfold pyNext
  refine wpAny_bind (wpAny_attempt (wpAny_callSpecial?_slot (name:=Str.ofString "__next__") hT F.slot_enumerate_next
   (wpAny_call_entry F.slot_enumerate_next hT F.entry_enumerate_next ?_ (F.args_enumerate_next_1 _))))
  show wpAny _ _ (field (.ref e) 2 >>= _) _ _ _
  refine wpAny_bind (wpAny_field a1 rfl (x:=.ref it) rfl ?_)
  refine wpAny_bind (dH (I.ok.hd hc) a2 p1' (by simp; omega) fun h' x he' hx'=>?_)
  obtain ⟨o,ho,hc⟩:=hx'
  refine wpAny_bind (wpAny_isInstance (T := "StopIteration") (b:=true) ⟨o,ho,hc⟩ isSubtype_stop ?_)
  refine wpAny_pure ⟨rfl,?_⟩
  exact I.turnedN (t':=s.toks) hf fun b o hb q=>by
   simp only [List.mem_cons,List.not_mem_nil,or_false,not_or] at hb
   exact he' b o hb.2 q
 self:=fun _ _ _ _ _ st h=>by obtain ⟨⟨old,a1⟩,_⟩:=st; exact wpAny_pyIter_enum a1 h
def zA (ta:TA):TI:=fun σ H R=>ta σ H fun vs H1=>∃l xs,vs=[.ref l]∧((H1 l=some (.lst xs)∧R (Ite .lst l) H1)∨(H1 l=some (.tup xs)∧R (Ite .tup l) H1))
theorem rW {X:Cx} {a:Expr} {ta:TA} {p pos tp:Pos} {es:List Expr} {kk:Nat} (hg:Gl X "enumerate") (hm:X.mg "enumerate" = none) (ha:PA X [a] ta)
  (hs:starEach [a] X.env=[(false,eval a X.env)]:=by rfl) :
  PI X (.Tuple es kk tp) (.Call (.Name "enumerate" p) [a] [] pos) (zA ta):=by
 intro pins s σ H R I h
 refine Call_ (eh I hg hm PyProof.Rows.boot_enumerate (PyProof.Rows.callWith_type1 (thn (ha pos pins s σ H _ I h) fun us s1 ⟨vs,H1,I1,r1,q1⟩=>?_) (by rw [hs]; rfl) (by rfl)))
 obtain ⟨l,xs,rfl,q⟩:=q1
 cases r1 with
 | cons r rr =>
  cases rr
  cases r
  rcases q with ⟨e1,q⟩ | ⟨e1,q⟩
  ·obtain ⟨its1,rv1,p1,_⟩:=I1.list (SqL.of e1)
   refine call_enumerate_list p1.isList fun h' z1 z2 sz keep=>?_
   have I2:Inv X pins σ H1 { s1 with heap:=h' }:=I1.kept (t':=s1.toks) keep
   refine wpAny_pyIter_enum z1 ⟨s1.heap.objs.size + 1,[s1.heap.objs.size + 1,s1.heap.objs.size],_,_,H1,rfl,I2,kJ l _ _ (Nat.succ_ne_self _),⟨⟨_,z1⟩,z2⟩,fun b hb=>?_,q⟩
   have hb':s1.heap.objs.size≤b:=by
    simp only [List.mem_cons,List.not_mem_nil,or_false] at hb
    rcases hb with rfl | rfl <;> omega
   exact I1.fpOk hb' (I1.hok.fresh hb')
  ·obtain ⟨its1,rv1,p1,_⟩:=I1.tuple (SqT.of e1)
   have p1':s1.heap.IsTuple l its1.toArray:=p1
   refine eA p1' fun h' z1 z2 sz keep=>?_
   have I2:Inv X pins σ H1 { s1 with heap:=h' }:=I1.kept (t':=s1.toks) keep
   refine wpAny_pyIter_enum z1 ⟨s1.heap.objs.size + 1,[s1.heap.objs.size + 1,s1.heap.objs.size],_,_,H1,rfl,I2,kL l _ _ (Nat.succ_ne_self _),⟨⟨_,z1⟩,z2⟩,fun b hb=>?_,q⟩
   have hb':s1.heap.objs.size≤b:=by
    simp only [List.mem_cons,List.not_mem_nil,or_false] at hb
    rcases hb with rfl | rfl <;> omega
   exact I1.fpOk hb' (I1.hok.fresh hb')
theorem qc {f:List V→HO} (hf:∀xs ys,f xs=f ys→xs=ys) {l:Addr} {xs:List V} {g:TG} {tb:TS} {D:Ends} {σ:St} {H:Hp} (Pv:Nat→St→Hp→Prop) (h0:Pv 0 σ H) (hk:∀i σ H',Pv i σ H'→H' l=some (f xs))
  (ht:∀i x p σ H,xs[i]? = some x→H p=none→Pv i σ H→g (.ref p) σ (upd H p (.tup [.int i,x])) fun σ2 H2=>tb { D with nx:=Pv (i + 1),ct:=Pv (i + 1),bk:=D.nx } σ2 H2) (hd:∀σ H,Pv xs.length σ H→D.nx σ H) :
  ∃W:Nat→Nat→St→Hp→Prop,(∃m,W 0 m σ H)∧∀i m σ H,W i m σ H →
   ((Ite f l).stop i H∧D.nx σ H)∨((Ite f l).go i H∧∃N:St→Hp→Prop,(∀σ' H',N σ' H'→∃m',m' < m∧W (i + 1) m' σ' H')∧∀x H',(Ite f l).yld i H x H'→g x σ H' fun σ2 H2=>tb { D with nx:=N,ct:=N,bk:=D.nx } σ2 H2):=by
 refine ⟨fun i m σ H=>m=xs.length - i∧i≤xs.length∧Pv i σ H,⟨xs.length,by simp,Nat.zero_le _,h0⟩,?_⟩
 rintro i m σ H ⟨rfl,hi,p⟩
 have e1:=hk i σ H p
 by_cases hlt:i < xs.length
 ·refine .inr ⟨⟨xs,xs[i],e1,by simp [hlt]⟩,Pv (i + 1),fun σ' H' p'=>⟨xs.length - (i + 1),by omega,rfl,hlt,p'⟩,fun v H' y=>?_⟩
  obtain ⟨q,xs',x,hq,rfl,rfl,e1',ex⟩:=y
  rw [e1] at e1'
  cases hf _ _ (Option.some.inj e1')
  exact ht i x q σ H ex hq p
 ·have e:i=xs.length:=by omega
  subst e
  exact .inl ⟨⟨xs,e1,Nat.le_refl _⟩,hd σ H p⟩
end L2
set_option Elab.async false
set_option linter.all false
set_option maxRecDepth 100000
namespace Pc
open PySem L2
def bB (k:Kd):Bool:=k.tu && !decide (k.w=k.h)
def lyT (i:Nat) (k:Kd):List (Nat×Bool):=(i,false) :: if bB k=true then [(i,true)] else []
def lyK:List Kd→Nat→List (Nat×Bool)
 | [],_=>[]
 | k :: r,i=>lyT i k ++ lyK r (i + 1)
theorem jy (k:Kd):∀ (ks:List Kd) (i:Nat),lyK (ks ++ [k]) i=lyK ks i ++ lyT (i + ks.length) k
 | [],i=>by simp [lyK]
 | c :: r,i=>by
  show lyT i c ++ lyK (r ++ [k]) (i + 1)=(lyT i c ++ lyK r (i + 1)) ++ _
  rw [jy k r (i + 1),List.append_assoc]
  congr 2
  simp only [List.length_cons]
  congr 1
  omega
theorem rX (i:Nat) (k:Kd):(lyT i k).length≤2:=by unfold lyT; split <;> simp
theorem iU:∀ (ks:List Kd) (i:Nat),(lyK ks i).length≤2 * ks.length
 | [],i=>by simp [lyK]
 | c :: r,i=>by
  have:=iU r (i + 1)
  have:=rX i c
  simp only [lyK,List.length_append,List.length_cons]
  omega
def EA (H:Hp) (v:V) (p:Nat×Bool):Prop:=∃a,v=.ref a∧H a=some (.tup [.int p.1,.bl p.2])
abbrev Lys (H:Hp):List V→List (Nat×Bool)→Prop:=Paired (EA H)
theorem Lys.keep {H H':Hp} (k:∀b xs,H b=some (.tup xs)→H' b=some (.tup xs)) {xs:List V} {ps:List (Nat×Bool)} (r:Lys H xs ps):Lys H' xs ps :=
 Paired.mapP r fun v kd ⟨a,e,h⟩=>⟨a,e,k a _ h⟩
theorem qd {H H3:Hp} {l t:Addr} {ys:List V} {ps:List (Nat×Bool)} {i:Nat} {b:Bool} (hl:H l=none) (s3:Same H H3) (l3:H3 l=some (.lst ys)) (y3:Lys H3 ys ps) (ht:H3 t=none) :
  Same H (upd (upd H3 t (.tup [.int (i:Int),.bl b])) l (.lst (ys ++ [.ref t])))∧(upd (upd H3 t (.tup [.int (i:Int),.bl b])) l (.lst (ys ++ [.ref t]))) l=some (.lst (ys ++ [.ref t])) ∧
   Lys (upd (upd H3 t (.tup [.int (i:Int),.bl b])) l (.lst (ys ++ [.ref t]))) (ys ++ [.ref t]) (ps ++ [(i,b)]):=by
 have lt:l≠t:=ah l3 ht
 refine ⟨fun c o e=>?_,ae,Paired.snoc (Lys.keep (fun c xs e=>?_) y3) ⟨t,rfl,by rw [am (Ne.symm lt),ae]⟩⟩
 ·have e3:=s3 c o e
  rw [am (ah e hl),am (ah e3 ht)]; exact e3
 ·have cl:c≠l:=fun z=>by rw [z,l3] at e; cases e
  rw [am cl,am (ah e ht)]; exact e
def eJ (K:PySem.W.Frag):Sp:=fun vs H Q _=>∃ (a:Addr) (k:Kd),vs=[.ref a]∧H a=some (.tup (kdV k))∧Q (.bl (bB k)) H
def gF (C:Addr):Sp:=fun vs H Q _=>∃ (x:Addr) (b:Int) (ks:List Kd),vs=[.ref x]∧ShopAt C H x b ks∧ks.length≤8 ∧
 ∀ (l:Addr) (ys:List V) (H':Hp),H l=none→H' l=some (.lst ys)→Lys H' ys (lyK ks 0)→Same H H'→Q (.ref l) H'
def cN (ks:List Kd) (x t:V):Bool:=match x,t with
 | .int i,.bl b=>decide (0≤i) && match ks[i.toNat]? with
  | some k=>!b || bB k
  | none=>false
 | _,_=>false
def cT (K:PySem.W.Frag) (C:Addr):Sp:=fun vs H Q _=>∃ (s:Addr) (b:Int) (ks:List Kd) (x t:V) (T U:String),vs=[.ref s,x,t]∧ShopAt C H s b ks∧Ty K H x T∧Ty K H t U∧Q (.bl (cN ks x t)) H
end Pc
set_option Elab.async false
set_option linter.all false
set_option maxRecDepth 100000
namespace L2
open PySem PySem.Spec PyProof.Rows
section
variable {X:Cx}
theorem qg {k:Nat} {C:Addr} {ps:List Str} {sp:Sp} {m:Str} {o:Expr} {e:Expr} {es:List Expr} {ta:TE} {t:TA} {apos pos:Pos} {pl:Sem Bool} (he:PE X o ta) (c:Cls X.K C) (D:Mn X.prog X.w X.K X.mg X.base C m ps k sp) (hr:Room k X.A) (ha:PA X (e :: es) t)
  (hst:starEach (e :: es) X.env=(false,eval e X.env) :: starEach es X.env:=by rfl) (hpl:(backTo pos (starEach es X.env)).any (·.1)=false:=by rfl)
  (ht:eval (.Call (.Attribute o m apos) (e :: es) [] pos) X.env=(do
   let ov←eval o X.env
   standAt apos.atName
   let (f,first)←holding [ov] (getMethod ov m pl)
   callWith pos f first (backTo pos (starEach (e :: es) X.env)) (backToKw pos (keywordEach [] X.env))):=by rfl):PE X (.Call (.Attribute o m apos) (e :: es) [] pos) (jp C m sp [] E0 ta t):=by
 obtain ⟨f,fd,F,hb,hm⟩:=D
 exact mx he c hm F hr hb .nil mD ha hst hpl ht
def MnX (P:Program) (w:World) (K:PySem.W.Frag) (mg:Str→Option Value) (base:Heap) (C:Addr) (m:Str) (ps:List Str) (k:Nat) (sp:Sp):Prop :=
 ∃ (f:Addr) (fd:FuncData),FnOk P w K mg base (CXx P w) k f fd ps sp∧Binds K fd ps []∧Meth K C m f
end
end L2
set_option Elab.async false
set_option linter.all false
set_option maxRecDepth 100000
namespace L2
open PySem PySem.Spec PyProof.Rows
theorem zB {P:Program} {w:World} {X:Cx}:dC (CXx P w) X E0:=fun _ _ _ _ _ _ _ ⟨_,_,_,_,_,_,h⟩=>h.elim
section
variable {X:Cx}
theorem qh {k:Nat} {C:Addr} {ps:List Str} {sp:Sp} {m:Str} {o:Expr} {e:Expr} {es:List Expr} {ta:TE} {t:TA} {apos pos:Pos} {pl:Sem Bool} (he:PE X o ta) (c:Cls X.K C) (D:MnX X.prog X.w X.K X.mg X.base C m ps k sp) (hr:Room k X.A) (ha:PA X (e :: es) t)
  (hst:starEach (e :: es) X.env=(false,eval e X.env) :: starEach es X.env:=by rfl) (hpl:(backTo pos (starEach es X.env)).any (·.1)=false:=by rfl)
  (ht:eval (.Call (.Attribute o m apos) (e :: es) [] pos) X.env=(do
   let ov←eval o X.env
   standAt apos.atName
   let (f,first)←holding [ov] (getMethod ov m pl)
   callWith pos f first (backTo pos (starEach (e :: es) X.env)) (backToKw pos (keywordEach [] X.env))):=by rfl):PE X (.Call (.Attribute o m apos) (e :: es) [] pos) (jp C m sp [] E0 ta t):=by
 obtain ⟨f,fd,F,hb,hm⟩:=D
 exact mx he c hm F hr hb .nil zB ha hst hpl ht
end
end L2
namespace Pc
open PySem L2
end Pc
namespace Pc
open PySem PySem.Spec L2
end Pc
set_option Elab.async false
set_option linter.all false
set_option maxRecDepth 100000
namespace L2
open PySem PySem.Spec PyProof.Rows
section
variable {K:PySem.W.Frag} {C X:Addr}
theorem eK (h:ExcC K C):(PySem.W.clsIn K C).isSome=true∧PySem.W.typeIn K (.ref C)=some (.type "type"):=by
 unfold ExcC PySem.W.excIn at h
 split at h
 ·rename_i e
  refine ⟨?_,?_⟩
  ·unfold PySem.W.clsIn
   rw [e]
   rfl
  ·show Option.map (fun x=>x.cls) (List.lookup C K)=_
   rw [e]
   rfl
 ·cases h
theorem iw {t:Value} {b:Bool} (hx:ExcC K X) (s:PySem.W.subIn K t (.ref X)=some b):PySem.W.kitCls K t (.ref X)=some b:=by
 obtain ⟨h1,h2⟩:=eK hx
 unfold PySem.W.kitCls
 simp only [h1,h2,s]
 rfl
theorem eL:PySem.W.kitOne K (.ref C) (.ref C)=some true:=by
 unfold PySem.W.kitOne
 rw [if_pos (by simp)]
theorem uE {b:Bool} (hx:ExcC K X) (ne:¬ X=C) (s:PySem.W.subIn K (.ref C) (.ref X)=some b):PySem.W.kitOne K (.ref C) (.ref X)=some b:=by
 unfold PySem.W.kitOne
 rw [if_neg (fun z=>ne (Value.ref.inj (beq_iff_eq.mp z)).symm)]
 exact iw hx s
theorem aA (s0:PySem.W.subIn K (.ref C) (.ref C)=some true) (hx:ExcC K X) (s:PySem.W.subIn K (.ref C) (.ref X)=some false):PySem.W.kitOne K (.ref C) (.ref X)=some false :=
 uE hx (fun z=>by rw [z,s0] at s; cases s) s
theorem iV (s:PySem.W.subIn K (.ref C) (.type "ValueError")=some true):PySem.W.kitOne K (.ref C) (.type "ValueError")=some true:=by
 unfold PySem.W.kitOne
 rw [if_neg (fun z=>by cases (beq_iff_eq.mp z))]
 show (if PySem.W.kitMeta "ValueError" = true then PySem.W.subIn K (.ref C) (.type "ValueError") else none)=_
 rw [if_pos (show PySem.W.kitMeta "ValueError" = true by decide +kernel)]
 exact s
theorem bD {t:Value}:PySem.W.kitAny K t []=some false:=rfl
theorem ap {t c:Value} {cs:List Value} (h:PySem.W.kitOne K t c=some false) (r:PySem.W.kitAny K t cs=some false):PySem.W.kitAny K t (c :: cs)=some false:=by
 show (match PySem.W.kitOne K t c with | some true=>some true | some false=>PySem.W.kitAny K t cs | none=>none)=_
 rw [h]
 exact r
theorem iW (hx:ExcC K X) (b:PySem.W.subIn K (.ref X) (.type "BaseException")=some true) (s:PySem.W.subIn K (.ref C) (.ref X)=some true):PySem.W.exmOne K (.ref C) (.ref X)=some true:=by
 unfold PySem.W.exmOne
 rw [b,if_pos (show ((some true == some true)=true) from rfl)]
 exact iw hx s
end
end L2
set_option Elab.async false
set_option linter.all false
set_option maxRecDepth 100000
namespace L2
open PySem PySem.Spec PyProof.Rows
section
variable {X:Cx} {k:Nat} {f C:Addr} {fd:FuncData} {ps:List Str} {sp:Sp} {x:Str} {p pos:Pos} {e:Expr} {es:List Expr} {t:TA}
end
section
variable {X:Cx}
def uF (tk tv:TE):TE:=fun σ H Q=>∀p,H p=none→tk σ (upd H p (.dK [])) fun x H1=>tv σ H1 fun y H2=>H2 p=some (.dK [])∧∃i,x=.int i∧Q (.ref p) (upd H2 p (.dK [(Sum.inl i,y)]))
theorem qi {kx vx:Expr} {tk tv:TE} {pos:Pos} (hk:PE X kx tk) (hv:PE X vx tv):PE X (.Dict [some kx] [vx] pos) (uF tk tv):=by
 intro pins s σ H Q I h
 have hb:sysModules < s.heap.objs.size:=Nat.lt_trans (show sysModules < mainGlobals by decide) (I.mod.glob.keeps I.bk).lt
 have hn:=I.hok.fresh (Nat.le_refl s.heap.objs.size)
 have hd:(s.heap.objs.size == sysModules)=false:=beq_eq_false_iff_ne.mpr (Nat.ne_of_gt hb)
 have I1:Inv X pins σ (upd H s.heap.objs.size (.dK [])) { s with heap:=s.heap.push { cls:=.type "dict",data:=.dict #[] } } :=
  I.laid (a:=s.heap.objs.size) (o:=.dK []) (t':=s.toks) (fun _ _ q=>Heap.get?_push_of_some _ q) (Nat.le_refl _) ⟨Nat.zero_le _,hd,[],.nil,Heap.DictOf.new _⟩
 refine wpAny_Dict_walk (knd:=bH X.prog X.w) rfl rfl (by simp) (by show 1≤15; decide) (pairTrees_cons_walk (thn (hk pins _ σ _ _ I1 (h _ hn)) fun u s1 ⟨x,H1,J1,rx,q1⟩=>thn (hv pins s1 σ H1 _ J1 q1) fun w2 s2 ⟨y,H2,J2,ry,e,i,ex,q2⟩=>pairTrees_nil_walk ?_))
 subst ex
 obtain ⟨tk',rfl⟩:=rx
 obtain ⟨_,_,vs0,r0,dd⟩:=J2.hok _ _ e
 cases r0
 refine ⟨[(Sum.inl i,w2)],⟨fR X.prog X.w i tk',rfl,True.intro⟩,dd,fun h' dd' hs=>⟨.ref s.heap.objs.size,_,?_,rfl,q2⟩⟩
 have he:∃q,h'.get? s.heap.objs.size=some q:=let ⟨q,_,_,hq,_⟩:=dd'; ⟨q,hq⟩
 refine J2.write (x:=s.heap.objs.size) (e:=s.heap.objs.size) (by rw [e]; exact True.intro) (.inl rfl) (fun b q hb z=>(hs.2 b hb).trans z) he ?_
 exact ⟨by show 1≤sizeLine; decide,hd,[(Sum.inl i,w2)],.cons ⟨rfl,ry⟩ .nil,dd'⟩
end
end L2
namespace Pc
open PySem L2
end Pc
namespace Pc
open PySem L2
end Pc
set_option Elab.async false
set_option linter.all false
set_option maxRecDepth 100000
namespace Pc
open PySem L2
def EB (S:Addr→Prop) (x:V):Prop:=∀r,S r→x≠.ref r
def TyS (K:PySem.W.Frag) (S:Addr→Prop) (H:Hp) (x:V):Prop:=EB S x∧∃T,Ty K H x T
theorem TyS.flat {K:PySem.W.Frag} {S:Addr→Prop} {H:Hp} {x:V} (h:dX x=true):TyS K S H x:=by
 cases x with
 | non=>exact ⟨(fun _ _ z=>nomatch z),_,.non⟩
 | bl b=>exact ⟨(fun _ _ z=>nomatch z),_,.bl⟩
 | int b=>exact ⟨(fun _ _ z=>nomatch z),_,.int⟩
 | str b=>exact ⟨(fun _ _ z=>nomatch z),_,.str⟩
 | _=>cases h
section
variable {K:PySem.W.Frag} {S:Addr→Prop} {H:Hp} {a:Addr} {xs:List V}
end
structure Cur (S:Addr→Prop) (p:Addr) (H0 H:Hp):Prop where
 pt:zu H p
 b:But p H0 H
 th:∀r,S r→H r≠none
 sp:S p
 s0:∀r,H0 r≠none→S r
end Pc
set_option Elab.async false
set_option linter.all false
set_option maxRecDepth 100000
namespace L2
open PySem PySem.Spec PyProof.Rows
section
variable {X:Cx}
abbrev TJ:=St→Hp→Str→(Str→Hp→Prop)→Prop
def PJ (X:Cx) (es:List Expr) (t:TJ):Prop:=∀ (pins:List (Addr×Obj)) (s:Shared) (σ:St) (H:Hp) (out:Str) (Q:Str→Hp→Prop),Inv X pins σ H s→t σ H out Q →
 wpAny (model X.prog X.w) X.A (joinParts out (evalEach es X.env)) (EP X pins σ fun v H'=>∃z,v=.str z∧Q z H') X.xe s
theorem uG:PJ X [] (fun _ H out Q=>out.length≤sizeLine∧Q out H):=fun pins s σ H out Q I h =>
 joinParts_nil ⟨.str out,H,I.tok _,⟨_,rfl⟩,out,rfl,h.2⟩ h.1
def tJC (z:Str) (t:TJ):TJ:=fun σ H out Q=>(out ++ z).length≤sizeLine∧t σ H (out ++ z) Q
theorem uH {z:Str} {j:Nat} {pos:Pos} {es:List Expr} {t:TJ} (hr:PJ X es t):PJ X (.Constant (.str z) j pos :: es) (tJC z t):=fun pins s σ H out Q I h=>by
 show wpAny _ _ (joinParts out (eval (.Constant (.str z) j pos) X.env :: evalEach es X.env)) _ _ s
 exact joinParts_cons (Calls.Constant_str ⟨h.1,hr pins _ σ H _ Q (I.tok _) h.2⟩)
def tJF (te:TE) (t:TJ):TJ:=fun σ H out Q=>te σ H fun v H1=>∃z,((∃i:Int,v=.int i∧i.natAbs.log2 < 1920∧z=Str.ofString (toString i))∨(v=.str z∧z.length≤sizeLine))∧(out ++ z).length≤sizeLine∧t σ H1 (out ++ z) Q
theorem uI {e:Expr} {pos:Pos} {es:List Expr} {te:TE} {t:TJ} (he:PE X e te) (hr:PJ X es t):PJ X (.FormattedValue e (-1) none pos :: es) (tJF te t):=fun pins s σ H out Q I h=>by
 show wpAny _ _ (joinParts out (eval (.FormattedValue e (-1) none pos) X.env :: evalEach es X.env)) _ _ s
 refine joinParts_cons (FormattedValue_plain (thn (he pins s σ H _ I h) fun u s1 ⟨v,H1,I1,r,z,hz,hl,q⟩=>?_))
 rcases hz with ⟨i,rfl,hi,rfl⟩ | ⟨rfl,hz⟩
 ·obtain ⟨tk,rfl⟩:=r
  exact formatField_int_small hi ⟨hl,hr pins _ σ H1 _ Q (I1.tok _) q⟩
 ·obtain ⟨tk,rfl⟩:=r
  exact formatField_str (fun t' k=>⟨hl,hr pins _ σ H1 _ Q (I1.tok _) q⟩) hz
theorem nG {v₁ v₂:Expr} {es:List Expr} {pos:Pos} {t:TJ} (h:PJ X (v₁ :: v₂ :: es) t):PE X (.JoinedStr (v₁ :: v₂ :: es) pos) (fun σ H Q=>t σ H Str.empty fun z H'=>Q (.str z) H'):=fun pins s σ H Q I hq=>by
 refine JoinedStr_many ?_
 show wpAny _ _ (joinParts Str.empty (evalEach (v₁ :: v₂ :: es) X.env)) _ _ s
 exact thn (h pins s σ H Str.empty _ I hq) fun u s1 ⟨v,H1,I1,r,z,e,q⟩=>⟨v,H1,I1,r,by rw [e]; exact q⟩
end
end L2
set_option Elab.async false
set_option linter.all false
set_option maxRecDepth 100000
namespace L2
open PySem PySem.Spec PyProof.Rows
section
variable {X:Cx}
end
theorem bh {α:Type} {xs:List α} {i:Int} {v:α} (h0:0≤i) (h:xs[i.toNat]? = some v):atI xs i=some v:=by
 have e:i=((i.toNat:Nat):Int):=by omega
 have z:atI xs ((i.toNat:Nat):Int)=some v:=rM h
 rw [← e] at z; exact z
end L2
namespace Pc
open PySem L2
def PotB (H:Hp) (p:Addr):Prop:=∃a b:Int,0≤a∧0≤b∧b < 2147483648∧H p=some (.lst [.int a,.int b])
theorem PotB.new {H:Hp} {p q:Addr} {o:HO} (x:PotB H p) (h:H q=none):PotB (upd H q o) p:=by
 obtain ⟨a,b,h1,h2,h3,e⟩:=x
 exact ⟨a,b,h1,h2,h3,by rw [am (ah e h)]; exact e⟩
theorem PotB.same {H H':Hp} {p:Addr} (x:PotB H p) (s:Same H H'):PotB H' p:=by
 obtain ⟨a,b,h1,h2,h3,e⟩:=x
 exact ⟨a,b,h1,h2,h3,s _ _ e⟩
theorem PotB.some {H:Hp} {p:Addr} (x:PotB H p):H p≠none:=by
 obtain ⟨a,b,h1,h2,h3,e⟩:=x
 rw [e]; exact fun z=>by cases z
theorem PotB.ne {H:Hp} {p q:Addr} (x:PotB H p) (h:H q=none):p≠q:=fun z=>x.some (z ▸ h)
def kM:Sp:=fun vs H Q _=>∃ (c:Int),vs=[.int c]∧∀ (p:Addr) (H':Hp),H p=none→PotB H' p→Same H H'→Q (.ref p) H'
def dh:Sp:=fun vs H Q _=>∃ (p:Addr) (m:Int),vs=[.ref p,.int m]∧PotB H p∧0 < m∧m≤10 ^ 60∧∀ (r:Int) (H':Hp),0≤r→r < m→PotB H' p→But p H H'→Q (.int r) H'
end Pc
set_option Elab.async false
set_option linter.all false
set_option maxRecDepth 100000
namespace L2
open PySem PySem.Spec PyProof.Rows
section
variable {X:Cx} {k:Nat} {ps:List Str} {sp:Sp} {x:Str} {p pos:Pos} {e:Expr} {es:List Expr} {t:TA}
def DnX (P:Program) (w:World) (K:PySem.W.Frag) (mg:Str→Option Value) (base:Heap) (x:Str) (ps:List Str) (k:Nat) (sp:Sp):Prop :=
 ∃ (f:Addr) (fd:FuncData),FnOk P w K mg base (CXx P w) k f fd ps sp∧Binds K fd ps []∧PySem.W.keepIn K (.ref f)=true∧mg x=some (.ref f)
def uJ (sp:Sp) (t:TA):TX:=fun σ H Q E=>t σ H fun vs H1=>sp vs H1 Q E
theorem dI (D:DnX X.prog X.w X.K X.mg X.base x ps k sp) (hr:Room k X.A) (hg:Gl X x) (ha:PA X.nox (e :: es) t)
  (hdb:(x == ("__debug__" : Str))=false:=by decide) (he:starEach (e :: es) X.env=(false,eval e X.env) :: starEach es X.env:=by rfl) (hpl:(backTo pos (starEach es X.env)).any (·.1)=false:=by rfl) :
  PEx X (.Call (.Name x p) (e :: es) [] pos) (uJ sp t):=by
 obtain ⟨f,fd,F,hb,hk,hm⟩:=D
 intro pins s σ H Q E I h
 refine wpAny_Call_Name_kw (dQ I hg hm ?_ hdb)
 refine PySem.W.callWith_K (h₀:=X.base) I.ok.mod.kin hk (wpAny_mono (ha pos pins s σ H _ (I.wish _) h) (fun us s1 ⟨vs,H1,I1,r,q⟩=>⟨I1.kIn,?_⟩) fun _ _ z=>False.elim z) he hpl
 exact rV F hr hb I1.unwish r q
end
section
variable {X:Cx} {e:Expr} {tx:TX} {ts:TS} {i j:Nat} {n m y:Str} {CE:Addr} {b₀:Stmt} {suite:List Stmt} {np mp hpos epos pos:Pos}
end
end L2
set_option Elab.async false
set_option linter.all false
set_option maxRecDepth 100000
namespace L2
open PySem PySem.Spec PyProof.Rows
section
variable {κ:Type} [DecidableEq κ]
def cx (kvs:List (κ×V)) (k:κ):Option V:=(kvs.find? fun kv=>decide (kv.1=k)).map (·.2)
def hU (kvs:List (κ×V)) (k:κ) (v:V):List (κ×V) :=
 if (kvs.any fun kv=>decide (kv.1=k))=true then kvs.map (fun kv=>if kv.1=k then (kv.1,v) else kv) else kvs ++ [(k,v)]
theorem bJ {p:κ×V} {r:List (κ×V)} {k:κ} (e:p.1=k):cx (p :: r) k=some p.2:=by simp [cx,List.find?_cons,e]
theorem bK {p:κ×V} {r:List (κ×V)} {k:κ} (e:¬ p.1=k):cx (p :: r) k=cx r k:=by simp [cx,List.find?_cons,e]
theorem eM (k:κ):∀kvs:List (κ×V),(kvs.any fun kv=>decide (kv.1=k))=(cx kvs k).isSome
 | []=>rfl
 | p :: r=>by
  rw [List.any_cons]
  by_cases e:p.1=k
  ·simp only [bJ e,decide_eq_true e,Bool.true_or,Option.isSome_some]
  ·rw [bK e,decide_eq_false e,Bool.false_or]; exact eM k r
theorem jz (k j:κ) (y:V):∀kvs:List (κ×V),cx (kvs.map fun kv=>if kv.1=k then (kv.1,y) else kv) j=(cx kvs j).map fun x=>if j=k then y else x
 | []=>rfl
 | p :: r=>by
  have ih:=jz k j y r
  rw [List.map_cons]
  by_cases h:p.1=k
  ·rw [if_pos h]
   by_cases e:p.1=j
   ·rw [bJ (p:=(p.1,y)) e,bJ e,Option.map_some,if_pos (e.symm.trans h)]
   ·rw [bK (p:=(p.1,y)) e,bK e,ih]
  ·rw [if_neg h]
   by_cases e:p.1=j
   ·rw [bJ (p:=p) e,bJ e,Option.map_some,if_neg (fun z=>h (e.trans z))]
   ·rw [bK (p:=p) e,bK e,ih]
theorem ix (k j:κ) (y:V):∀kvs:List (κ×V),cx kvs k=none→cx (kvs ++ [(k,y)]) j=if j=k then some y else cx kvs j
 | [],_=>by
  by_cases e:k=j
  ·rw [if_pos e.symm]; exact bJ (p:=(k,y)) e
  ·rw [if_neg (fun z=>e z.symm)]; exact bK (p:=(k,y)) e
 | p :: r,hn=>by
  rw [List.cons_append]
  have hk:¬ p.1=k:=fun z=>by rw [bJ z] at hn; cases hn
  rw [bK hk] at hn
  have ih:=ix k j y r hn
  by_cases e:p.1=j
  ·rw [bJ e,bJ e,if_neg (fun z=>hk (e.trans z))]
  ·rw [bK e,bK e,ih]
theorem jA (kvs:List (κ×V)) (k j:κ) (y:V):cx (hU kvs k y) j=if j=k then some y else cx kvs j:=by
 unfold hU
 by_cases a:(kvs.any fun kv=>decide (kv.1=k))=true
 ·rw [if_pos a,jz]
  rw [eM] at a
  by_cases e:j=k
  ·obtain ⟨x,hx⟩:=Option.isSome_iff_exists.mp a
   rw [if_pos e,e,hx,Option.map_some,if_pos rfl]
  ·rw [if_neg e]
   cases cx kvs j with
   | none=>rfl
   | some x=>rw [Option.map_some,if_neg e]
 ·rw [if_neg a]
  refine ix k j y kvs ?_
  rw [eM] at a
  cases q:cx kvs k with
  | none=>rfl
  | some x=>rw [q] at a; exact (a rfl).elim
theorem fU (kvs:List (κ×V)) (k:κ) (v:V):(hU kvs k v).length≤kvs.length + 1:=by
 unfold hU
 split
 ·rw [List.length_map]; omega
 ·rw [List.length_append,List.length_cons,List.length_nil]; omega
theorem RelO.isSome_eq {o:Option V} {u:Option Value} (r:RelO o u):o.isSome=u.isSome:=by
 cases o with
 | none=>cases u with
  | none=>rfl
  | some _=>exact (show False from r).elim
 | some _=>cases u with
  | none=>exact (show False from r).elim
  | some _=>rfl
end
theorem zC {P:Program} {w:World} {k:Key} {u:Value} (r:RelV (kV k) u):(bH P w).is k u=true:=by
 cases k with
 | inl i=>obtain ⟨t,e⟩:=(show ∃t,u=Value.int i t from r); subst e; exact fR P w i t
 | inr x=>obtain ⟨t,e⟩:=(show ∃t,u=Value.str x t from r); subst e; exact jl P w x t
theorem fI {P:Program} {w:World}:∀ {ks:List Key} {us:List Value},Vals (ks.map kV) us→ItemsAre (bH P w) ks us
 | [],_,r=>by rw [List.map_nil] at r; cases r; exact .nil
 | k :: ks,_,r=>by
  rw [List.map_cons] at r
  cases r with
  | cons h t=>exact .cons (zC h) (fI t)
section
variable {P:Program} {w:World} {H:Hp} {h:Heap} {a:Addr}
theorem uK {ks:List Key} (ok:HOk P w H h) (e:H a=some (.tup (ks.map kV))):(tupleKind (bH P w)).is h ks a:=by
 obtain ⟨_,its,r,o,h1,h2,n,h3⟩:=(show ObjOk P w H h a (.tup (ks.map kV)) from ok a _ e)
 exact ⟨o,its.toArray,n,h1,h2,h3,by simpa using fI r⟩
end
section
variable {X:Cx} {pins:List (Addr×Obj)} {σ:St} {H:Hp} {s:Shared} {a:Addr} {y v:V} {u r:Value} {o:Option V} {A:Around} {E:Value→Shared→Prop}
theorem Inv.big (I:Inv X pins σ H s):sysModules < s.heap.objs.size:=by
 have h:mainGlobals < s.heap.objs.size:=(I.mod.glob.keeps I.bk).lt
 exact Nat.lt_trans (by decide) h
theorem rY {h':Heap} {t':Nat} {ob:HO} (I:Inv X pins σ H s) (mu:Mut (H a)) (hs:Heap.SameBut a s.heap h') (he:∃q,h'.get? a=some q) (new:ObjOk X.prog X.w (upd H a ob) h' a ob) :
  Inv X pins σ (upd H a ob) { s with heap:=h',toks:=t' } :=
 I.write (x:=a) (e:=a) mu (.inl rfl) (fun b q hb z=>(hs.2 b hb).trans z) he new
end
section
variable {X:Cx} {pins:List (Addr×Obj)} {σ:St} {H:Hp} {s:Shared} {a:Addr} {kvs:List (Key×V)} {k:Key} {u:Value} {A:Around} {E:Value→Shared→Prop}
end
def zD (i:Expr):Prop:=∀ov iv,subscripted i false ov iv=operate [ov,iv] (getItem ov iv)
theorem rZ {prog:Program} {w:World} {A:Around} {E:Value→Shared→Prop} {s:Shared} {env:Env} {value slice:Expr} {pos:Pos} {T id:String} {Q:Value→Shared→Prop}
  (hl:typeLookup (.type T) "__getitem__" = pure (some (.builtin id))) (hs:zD slice)
  (h:wpAny (model prog w) A (eval value env) (fun o s₁=>wpAny (model prog w) A (eval slice env) (fun i s₂=>s₂.TypeIs o T∧wpAny (model prog w) A (getItem o i) Q E s₂) E s₁) E s) :
  wpAny (model prog w) A (eval (.Subscript value slice pos) env) Q E s:=by
 refine Subscript_ (wpAny_mono h (fun o s₁ h₁=>wpAny_mono h₁ (fun i s₂ h₂=>?_) fun _ _ x=>x) fun _ _ x=>x)
 obtain ⟨hT,h₂⟩:=h₂
 unfold subscriptTail
 refine wpAny_bind ?_
 rw [getitemInPython_of_ne hT.not_modules]
 refine wpAny_bind (wpAny_specialOf hT hl ?_)
 have fin:wpAny (model prog w) A (subscripted slice false o i) (fun r s₃=>wpAny (model prog w) A (letTemporaryGo value o r >>= fun _=>pure r) Q E s₃) E s₂:=by
  rw [hs o i]
  exact wpAny_operating (wpAny_mono h₂ (fun r s₃ h₃=>wpAny_bind (wpAny_letTemporaryGo (wpAny_pure h₃))) fun _ _ x=>x)
 first
  | exact wpAny_pure (wpAny_bind fin)
  | exact wpAny_bind (wpAny_pure (wpAny_bind fin))
  | exact wpAny_bind fin
section
variable {X:Cx} {o i e value:Expr} {pos pos' tpos:Pos} {td ty tv:TE}
end
section
variable {X:Cx} {pos:Pos}
end
structure M1 (X:Cx) (o:Expr) (m:Str) (apos:Pos) (e:Expr) (cpos:Pos):Prop where
 base:attributeBase o m X.env (eval o X.env)=eval o X.env
 few:((backTo cpos (starEach [e] X.env)).all (fun x=>!x.1) && (backToKw cpos (keywordEach [] X.env)).all (fun x=>x.1.isSome)
  && decide (([e]:List Expr).length + ([]:List Keyword).length + (if ([]:List Keyword).isEmpty then 0 else 1) < 30))=true
 line:(apos.endLine == cpos.line)=true
 trees:backTo cpos (starEach [e] X.env)=[(false,eval e X.env)]
structure M2 (X:Cx) (o:Expr) (m:Str) (apos:Pos) (e f:Expr) (cpos:Pos):Prop where
 base:attributeBase o m X.env (eval o X.env)=eval o X.env
 few:((backTo cpos (starEach [e,f] X.env)).all (fun x=>!x.1) && (backToKw cpos (keywordEach [] X.env)).all (fun x=>x.1.isSome)
  && decide (([e,f]:List Expr).length + ([]:List Keyword).length + (if ([]:List Keyword).isEmpty then 0 else 1) < 30))=true
 line:(apos.endLine == cpos.line)=true
 trees:backTo cpos (starEach [e,f] X.env)=[(false,eval e X.env),(false,eval f X.env)]
section
variable {X:Cx} {pins:List (Addr×Obj)} {σ:St} {H:Hp} {s:Shared} {a:Addr} {y d:V} {u r:Value} {o:Option V} {A:Around} {E:Value→Shared→Prop}
end
section
variable {X:Cx} {o e f:Expr} {apos cpos:Pos} {td ty tx:TE}
end
section
variable {X:Cx} {pins:List (Addr×Obj)} {σ:St} {H:Hp} {s:Shared} {a:Addr} {kvs:List (Key×V)} {A:Around} {E:Value→Shared→Prop}
end
section
variable {X:Cx} {pins:List (Addr×Obj)} {σ:St} {H:Hp} {s:Shared} {a:Addr} {y:V} {u:Value} {A:Around} {E:Value→Shared→Prop}
end
end L2
namespace Att
open PySem PySem.W PySem.Calls PyProof.Rows
section
variable {prog:Program} {w:World} {A:Around} {E:Value→Shared→Prop} {s:Shared} {K:Frag}
end
end Att
namespace L2
open PySem PySem.Spec PyProof.Rows
end L2
namespace L2
open PySem PySem.Spec PyProof.Rows
end L2
/- THE LAST THEOREM (shape; LID,My.* are yours):
   My.Adr: a structure of the addresses that your layer names (classes,functions); My.Txt K t: a structure (Prop) of the equations over K;
   My.txt_mk : {K} {implicit addresses ..} (e1 : nsIn K mainGlobals "law" = some (some (.ref f))) (e2 : K.lookup f = some ⟨oc,od,.func (fnOf "law" "law" params body scope dV kV doc pm an cdv ct),sl⟩) (e3 : codeIn K cdv "law" = true) .. : ∃ t,My.Txt K t
(the tactic k_is has no namespace: write k_is) -/
namespace L2
open PySem PySem.Spec PyProof.Rows
section
variable {P:Program} {w:World} {K:PySem.W.Frag} {mg:Str→Option Value} {base:Heap}
end
section
variable {X:Cx}
end
section
variable {κ:Type} [DecidableEq κ]
end
end L2
set_option Elab.async false
set_option linter.all false
set_option maxRecDepth 100000
namespace L2
open PySem PySem.Spec PyProof.Rows
theorem qj {X:Cx} (K:PySem.W.Frag) {x y:Str} {px py pos:Pos} {k:Nat} (hK:X.K=K) (hc:X.calm=true) (hN:X.N.Nodup) (h0:X.N[0]? = some x) (h1:X.N[1]? = some y) (l0:X.env.scope.names.lookup x=some .local) (l1:X.env.scope.names.lookup y=some .local) :
  PG X (.Tuple [.Name x px,.Name y py] k pos) (za K 2 (oY (jm 0) (oY (jm 1) yZ))) :=
 hK ▸ aZ hc (aj (ak hN h0 (.inl l0) (.inr l0)) (aj (ak hN h1 (.inl l1) (.inr l1)) aQ))
end L2
namespace L2
open PySem PySem.Spec PyProof.Rows
section
variable {X:Cx}
end
end L2
set_option Elab.async false
set_option linter.all false
set_option maxRecDepth 100000
namespace L2
open PySem PySem.Spec PyProof.Rows
abbrev TXS:=St→Hp→(Hp→Prop)→XK→Prop
def PSx (X:Cx) (b:List Stmt) (t:TXS):Prop :=
 ∀ (pins:List (Addr×Obj)) (s:Shared) (σ:St) (H:Hp) (N:Hp→Prop) (E:XK),Inv X pins σ H s→t σ H N E→wpAny (model X.prog X.w) X.A (execs b X.env) (fun fl s'=>fl=Flow.next∧∃H',Inv X pins σ H' s'∧N H') (XP X pins σ E) s
section
variable {X:Cx} {e c:Expr} {a b:List Stmt} {tx:TX} {ta tb:TXS} {tt:TT} {pos:Pos}
theorem jB (he:PEx X e tx) (hs:swapsWith e none pos.line X.env=pure false:=by rfl):PSx X [.Expr e pos] (fun σ H N E=>tx σ H (fun _ H1=>N H1) E):=by
 intro pins s σ H N E I h
 exact wpAny_execs_cons (wpAny_Expr_any (wpAny_mono (he pins s σ H _ _ I h) (fun v s1 ⟨x,H1,I1,r1,q1⟩=>wpAny_execs_nil ⟨rfl,H1,I1,q1⟩) fun v s1 hx=>hx) I.quiet hs)
theorem uL (hc:PT X.nox c tt) (ha:PSx X a ta) (hb:PSx X b tb):PSx X [.If c a b pos] (fun σ H N E=>tt σ H fun d H1=>if d=true then ta σ H1 N E else tb σ H1 N E):=by
 intro pins s σ H N E I h
 refine wpAny_execs_cons (wpAny_If (wpAny_mono (hc pins s σ H _ (I.wish _) h) (fun d s1 ⟨H1,I1,q1⟩=>?_) fun _ _ z=>False.elim z))
 cases d with
 | true=>exact wpAny_mono (ha pins s1 σ H1 N E I1.unwish q1) (fun fl s2 ⟨e,r⟩=>by subst e; exact wpAny_execs_nil ⟨rfl,r⟩) fun _ _ z=>z
 | false=>exact wpAny_mono (hb pins s1 σ H1 N E I1.unwish q1) (fun fl s2 ⟨e,r⟩=>by subst e; exact wpAny_execs_nil ⟨rfl,r⟩) fun _ _ z=>z
end
def zE (K:PySem.W.Frag) (i:Nat) (CE:Addr) (tx:TXS) (ts:Addr→TS):TS:=fun D σ H=>tx σ H (fun H1=>D.nx σ H1) (fun c _ H1=>PySem.W.exmOne K c (.ref CE)=some true∧∀ea,H1 ea=none →
 ts ea { nx:=fun σ2 H2=>D.nx (σ2.set i none) H2,rt:=D.rt,bk:=fun σ2 H2=>D.bk (σ2.set i none) H2,ct:=fun σ2 H2=>D.ct (σ2.set i none) H2 } (σ.set i (some (.ref ea))) (upd H1 ea (.ext (IsA ea c))))
section
variable {X:Cx} {body:List Stmt} {tx:TXS} {ts:Addr→TS} {i:Nat} {n y:Str} {CE:Addr} {b₀:Stmt} {suite:List Stmt} {np hpos epos pos:Pos}
theorem si (hst:X.stack=X.env :: X.outer) (hfr:X.env.frame=some X.env.locals) (hex:X.ex=[]) (he:PSx X body tx) (hN:X.N.Nodup) (hi:X.N[i]? = some n) (hk:X.env.scope.names.lookup n=some .local) (hg:Gl X y) (hm:X.mg y=some (.ref CE))
  (hsu:∀ea,PSs (X.marked ea) (b₀ :: suite) (ts ea)) (hd:(y == ("__debug__" : Str))=false:=by decide) :
  PS X (.Try body [.ExceptHandler (some (.Name y np)) (some n) (b₀ :: suite) hpos] [] [] pos) (zE X.K i CE tx ts):=by
 intro pins s σ H D I h
 refine wpAny_Try_except (wpAny_mono (he pins s σ H _ _ I h) (fun fl s1 ⟨e1,H1,I1,q1⟩=>?_) fun v s1 hx=>?_)
 ·subst e1
  exact wpAny_execs_nil ⟨σ,H1,I1,q1⟩
 obtain ⟨ea,c,H0,H',B,s0,rfl,I0,f,hm1,q⟩:=hx
 obtain ⟨a0,fl⟩:=f.fly
 rw [hst] at fl
 refine ir (by rw [← hst]; exact I.ok.frames) hfr fl f.ctx fun h4 held4 sm4 q4=>?_
 refine uD held4 q4 fun h5 fl5 sm5 q5=>?_
 have I5:Inv X pins σ H' { s1 with heap:=h5 }:=f.inv (t:=s1.toks) I0 fl5.1 (sm4.trans sm5)
 obtain ⟨ob,hob,hobc⟩:=fl5.there
 refine wpAny_handleBy_cons (codeAny_handlers_test (dQ (X:=X.marked ea) (I5.mark ea) hg hm ?_ hd)) (by intro q; cases q)
 have LT:PySem.W.Looks (model X.prog X.w) h5 (typeOf (.ref ea)) c:=hobc ▸ (PySem.W.Looks.ld hob).andThen .now
 refine (PySem.W.exm_one (M:=model X.prog X.w) I5.kIn LT hm1).here ?_
 show codeAny _ _ _ _ _
 refine codeAny_handlers_suite_as ?_
 refine iR fl5 q5 fun h6 fl6 sm6 q6=>?_
 have I6:Inv X pins σ H' { s1 with heap:=h6 }:=f.inv (t:=s1.toks) I0 fl6.1 ((sm4.trans sm5).trans sm6)
 have I7:Inv X pins σ (upd H' ea (.ext (IsA ea c))) { s1 with heap:=h6 }:=by
  refine I6.track2 f.new.2 (fun z=>?_) ?_ (fun x c' e z=>?_) (fun p hp z=>?_) (IsA.obj (IsA.of fl6.there q6))
  ·obtain ⟨m,⟨o,_,_,ho,_⟩,_⟩:=I0.loc
   have:=f.new.1
   rw [z,ho] at this; cases this
  ·cases q':X.s₀.heap.get? ea with
   | none=>rfl
   | some o =>
    obtain ⟨o',e1⟩:=I0.base.there ea o q' (by rw [hex]; simp)
    have:=f.new.1
    rw [e1] at this; cases this
  ·obtain ⟨v,o,ho,_⟩:=I0.cell x c' e
   have:=f.new.1
   rw [← z,ho] at this; cases this
  ·have:=(I0.pin p hp).1
   rw [z,f.new.1] at this; cases this
 refine cO (X:=X.marked ea) (I7.mark ea) hN hi (.inl hk) (v:=.ref ea) rfl (fun s7 I8=>?_) (.inr hk)
 refine wpAny_mono (hsu ea pins s7 _ _ _ I8 (q ea f.new.2)) (fun fl s8 hq=>?_) fun _ _ z=>False.elim z
 cases fl with
 | next =>
  obtain ⟨σ',H'',J,q'⟩:=hq
  exact dR (J.unmark I.ok) hN hi hk fun s9 J9=>⟨_,_,J9,q'⟩
 | brk =>
  obtain ⟨σ',H'',J,q'⟩:=hq
  exact dR (J.unmark I.ok) hN hi hk fun s9 J9=>⟨_,_,J9,q'⟩
 | cont =>
  obtain ⟨σ',H'',J,q'⟩:=hq
  exact dR (J.unmark I.ok) hN hi hk fun s9 J9=>⟨_,_,J9,q'⟩
 | ret u =>
  obtain ⟨v,σ',H'',J,r,q'⟩:=hq
  exact dR (J.unmark I.ok) hN hi hk fun s9 J9=>⟨_,_,_,J9,r,q'⟩
end
end L2
set_option Elab.async false
set_option linter.all false
set_option maxRecDepth 100000
namespace L2
open PySem PySem.Spec PyProof.Rows
section
variable {M:Model} {A:Around} {E:Value→Shared→Prop} {s:Shared} {base:Heap} {env:Env} {outer:List Env} {L e:Addr} {cls a0:Value} {Q:Unit→Shared→Prop}
theorem uM (hfr:A.frames=some (env :: outer)) (hf:env.frame=some L) (f:Heap.FlyingW base (env :: outer) e cls a0 s.heap) (q:Q2 e s.heap):wpAny M A (leaving env (.ref e)) (fun _ s'=>Q2 e s'.heap) E s:=by
 unfold leaving
 exact wpAny_bind (ir hfr hf f q fun h4 held4 sm4 q4=>iP held4.2.2.2 q4)
theorem kN (hfr:A.frames=some (env :: outer)) (hf:env.frame=some L) (f:Heap.FlyingW base (env :: outer) e cls a0 s.heap) (q:Q2 e s.heap)
  (hQ:∀h',Heap.FlyingW base outer e cls a0 h'→s.heap.UpToSlots h'→Q2 e h'→Q () { s with heap:=h' }):wpAny M A (leaving env (.ref e)) Q E s :=
 wpAny_mono (cD (uM (E:=E) hfr hf f q) (wpAny_leaves_onW (Q:=fun _ s'=>Q2 e s'.heap→Q () s') (E:=E) hfr hf f fun h' a b q=>hQ h' a b q)) (fun _ _ z=>z.2 z.1) fun _ _ z=>z.1
end
section
variable {P:Program} {w:World} {K:PySem.W.Frag} {mg:Str→Option Value} {base:Heap} {N:List Str} {qual:Str} {scope:Scope} {f:Addr} {cd:Value} {A:Around} {outer:List Env} {s₀:Shared} {H₀:Hp} {E:XK}
theorem mJ {pins:List (Addr×Obj)} {σ:St} {v:Value} {s1:Shared} (hx:XP (dE (CXx P w) P w K mg base N qual scope f cd A outer s₀ H₀ E) pins σ E v s1):(dE (CXx P w) P w K mg base N qual scope f cd A outer s₀ H₀ E).xe v s1:=by
 obtain ⟨ea,C,H0,H',B,s0,rfl,I0,fl,q⟩:=hx
 obtain ⟨a0,fw⟩:=fl.fly
 have I0':=I0
 show wpAny (model P w) (A.deeper (envOfC qual scope s₀.heap.objs.size f cd)) (leaving (envOfC qual scope s₀.heap.objs.size f cd) (.ref ea)) _ _ s1
 refine kN I0.ok.frames rfl fw fl.ctx fun h' fw' sm q2=>⟨ea,C,H',B,rfl,?_,q⟩
 have J:Inv (dE (CXx P w) P w K mg base N qual scope f cd A outer s₀ H₀ E) pins σ H' { s1 with heap:=h' }:=fl.inv (t:=s1.toks) I0 fw'.1 sm
 have newE:s₀.heap.get? ea=none:=by
  cases z:s₀.heap.get? ea with
  | none=>rfl
  | some o =>
   obtain ⟨o',e1⟩:=I0.base.there ea o z (by show ea∉([]:List Addr); simp)
   have:=fl.new.1
   rw [e1] at this; cases this
 refine ⟨J.os,J.bare,J.base,J.hok,⟨a0,fw'⟩,q2,fun b o nb hh e=>?_,⟨newE,fl.new.2⟩⟩
 have nbs:b∉frs (envOfC qual scope s₀.heap.objs.size f cd :: outer):=fun z=>by
  have z':b=s₀.heap.objs.size∨b∈frs outer:=by
   unfold frs at z ⊢
   rw [List.filterMap_cons] at z
   exact List.mem_cons.mp z
  rcases z' with z | z
  ·subst z
   rcases hh with hh | ⟨o',hh⟩
   ·exact hh J.free
   ·exact absurd (Heap.lt_size hh) (Nat.lt_irrefl _)
  ·exact nb z
 have key:∃o1,s1.heap.get? b=some o1∧(H' b≠none∨∃o',s0.heap.get? b=some o'):=by
  rcases hh with hh | ⟨o',hh⟩
  ·cases z:H' b with
   | none=>exact absurd z hh
   | some u =>
    obtain ⟨ob,eb⟩:=(fl.hok b u z).ex
    exact ⟨ob,eb,.inl (by rw [← z] at *; exact hh)⟩
  ·obtain ⟨o1,e1⟩:=I0.base.there b o' hh (by show b∉([]:List Addr); simp)
   obtain ⟨o2,e2⟩:=fl.un.there b o1 e1 (by simp)
   exact ⟨o2,e2,.inr ⟨o1,e1⟩⟩
 obtain ⟨o1,e1,hh'⟩:=key
 have eB:=fl.cov b o1 nbs hh' e1
 have:=fw'.1 b o1 eB
 rw [e] at this
 cases this
 exact eB
theorem qk {e:Expr} {tx:TX} {pos:Pos} (he:PEx (dE (CXx P w) P w K mg base N qual scope f cd A outer s₀ H₀ E) e tx) (hs:swapsWith e none pos.line (dE (CXx P w) P w K mg base N qual scope f cd A outer s₀ H₀ E).env=pure false:=by rfl) :
  PS (dE (CXx P w) P w K mg base N qual scope f cd A outer s₀ H₀ E) (.Expr e pos) (fun D σ H=>tx σ H (fun _ H1=>D.nx σ H1) E):=by
 intro pins s σ H D I h
 exact wpAny_Expr_any (wpAny_mono (he pins s σ H _ _ I h) (fun v s1 ⟨x,H1,I1,r1,q1⟩=>⟨σ,H1,I1,q1⟩) fun v s1 hx=>mJ hx) I.quiet hs
end
end L2
set_option Elab.async false
set_option linter.all false
set_option maxRecDepth 100000
namespace PySem
open Spec
section
variable {prog:Program} {w:World} {A:Around} {E:Value→Shared→Prop} {s:Shared} {l:Addr} {xs:Array (Int×Tok)}
end
end PySem
namespace L2
open PySem PySem.Spec PyProof.Rows
section
variable {X:Cx}
theorem gG {lo:Int} {n:Nat} {σ:St} {cap:List Nat} {k:Nat} {g:TG} {tt:TT} {te:TE} {Q:List V→Hp→Prop} {H:Hp} (Pv:Nat→List V→Hp→Prop) (h0:Pv 0 [] H)
  (ht:∀i ys H',i < n→Pv i ys H'→ys.length < sizeLine∧g (.int (lo + i)) (bi σ cap k) H' fun σ2 H2=>leS (bi σ cap k) σ2∧tt σ2 H2 fun ok H3=>if ok=true then te σ2 H3 (fun v H4=>Nx n Pv i (ys ++ [v]) H4) else Nx n Pv i ys H3)
  (hd:∀ys H',Pv n ys H'→ys.length≤sizeLine∧Q ys H'):∃W,(∃m,W 0 m [] H)∧gz σ cap k (Itr lo n) g tt te Q W:=by
 refine ⟨fun i m ys H'=>m=n - i∧i≤n∧Pv i ys H',⟨_,rfl,Nat.zero_le _,h0⟩,?_⟩
 rintro i m ys H' ⟨rfl,hi,p⟩
 by_cases hin:i < n
 ·obtain ⟨e,hg⟩:=ht i ys H' hin p
  refine .inr ⟨hin,e,fun x H2 yl=>?_⟩
  obtain ⟨e1,e2⟩:=yl
  subst e1 e2
  exact hg
 ·have e:i=n:=by omega
  subst e
  obtain ⟨a1,a2⟩:=hd ys H' p
  exact .inl ⟨Nat.le_refl _,a1,a2⟩
end
end L2
namespace PySem
theorem Paired.getL {α β:Type} {F:α→β→Prop}:∀ {l₁:List α} {l₂:List β} {i:Nat} {y:β},Paired F l₁ l₂→l₂[i]? = some y→∃x,l₁[i]? = some x∧F x y
 | _,_,_,_,.nil,e=>by simp at e
 | _,_,0,_,.cons h _,e=>by simp at e; subst e; exact ⟨_,rfl,h⟩
 | _,_,i + 1,y,.cons _ t,e=>by
  obtain ⟨x,h1,h2⟩:=Paired.getL (i:=i) t (by simpa using e)
  exact ⟨x,by simpa using h1,h2⟩
end PySem
set_option Elab.async false
set_option linter.all false
set_option maxRecDepth 100000
namespace L2
open PySem PySem.Spec PyProof.Rows
section
variable {X:Cx}
def zF (K:PySem.W.Frag):R2:=fun x y H Q=>∃l b xs zs,x=.ref l∧y=.ref b∧SqL K H l xs∧SqL K H b zs∧xs.length + zs.length≤sizeLine∧∀p,H p=none→Q (.ref p) (upd H p (.lst (xs ++ zs)))
theorem sj:OpR X (binaryOp .Add) (zF X.K):=by
 intro pins s σ H x y v u Q I rx ry h
 obtain ⟨l,b,xs,zs,rfl,rfl,hl,hb,hz,q⟩:=h
 cases rx
 cases ry
 obtain ⟨its,r,pl,z⟩:=I.list hl
 obtain ⟨its2,r2,pl2,z2⟩:=I.list hb
 have hl1:=r.length
 have hl2:=r2.length
 obtain ⟨⟨cls,dd,data,sl⟩,n,ho,hc,_,hd⟩:=pl
 obtain ⟨⟨cls2,dd2,data2,sl2⟩,n2,ho2,hc2,_,hd2⟩:=pl2
 simp only at hc hd hc2 hd2
 subst hc hd hc2 hd2
 have e:its.toArray ++ its2.toArray=(its ++ its2).toArray:=by simp
 refine concat_meets ⟨_,ho,rfl⟩ ⟨_,ho2,rfl⟩ noFill_list_add seq_list_add PySem.F.slot_list_add PySem.F.entry_list_add (PySem.F.args_list_add_2 _ _) (list_addW l b its.toArray its2.toArray n n2 dd dd2 sl sl2 (by rw [List.size_toArray,List.size_toArray]; omega)) ⟨ho,ho2,?_⟩
 rw [e]
 exact ⟨.ref _,_,I.lnew (t':=s.toks) (r.append r2) (by rw [List.length_append]; omega),rfl,q _ I.fresh⟩
end
end L2
set_option Elab.async false
set_option linter.all false
set_option maxRecDepth 100000
namespace L2
open PySem PySem.Spec PyProof.Rows
theorem iX (elt tg iter:Expr) (ifs:List Expr) (tg2 iter2:Expr) (ifs2:List Expr) (scope:Scope) (pos:Pos) (it acc:Value) (env:Env) :
  compTurn (.ListComp elt [⟨tg,iter,ifs,0⟩,⟨tg2,iter2,ifs2,0⟩] scope pos) 0 it acc env=(do
   standAt iter.pos
   match←pyNext it with
   | none=>pure (.done .next)
   | some v =>
    letOwnedTupleGo tg it v
    assign tg env v
    let mut ok:=true
    for c in ifs do
     if ok then ok←isTrue c env (eval c env)
    if ok then
     let x←eval iter2 env
     standAt iter2.pos
     let x←foldedSetIterable iter2 env x
     let i2←holding [x] (pyIter x)
     let _←runOwn (.compStart (.ListComp elt [⟨tg,iter,ifs,0⟩,⟨tg2,iter2,ifs2,0⟩] scope pos) 1 i2 acc env) env
    again (.compLoop (.ListComp elt [⟨tg,iter,ifs,0⟩,⟨tg2,iter2,ifs2,0⟩] scope pos) 0 it acc env)):=by rfl
theorem jC (elt tg iter:Expr) (ifs:List Expr) (tg2 iter2:Expr) (ifs2:List Expr) (scope:Scope) (pos:Pos) (it acc:Value) (env:Env) :
  compTurn (.ListComp elt [⟨tg,iter,ifs,0⟩,⟨tg2,iter2,ifs2,0⟩] scope pos) 1 it acc env=(do
   standAt iter2.pos
   match←pyNext it with
   | none=>pure (.done .next)
   | some v =>
    letOwnedTupleGo tg2 it v
    assign tg2 env v
    let mut ok:=true
    for c in ifs2 do
     if ok then ok←isTrue c env (eval c env)
    if ok then
     (do let _←call (.builtin "list.append") [acc,← eval elt env])
    again (.compLoop (.ListComp elt [⟨tg,iter,ifs,0⟩,⟨tg2,iter2,ifs2,0⟩] scope pos) 1 it acc env)):=by rfl
theorem dv {prog:Program} {w:World} {A:Around} {R:Result→Shared→Prop} {s:Shared} {elt tg iter tg2 iter2:Expr} {ifs ifs2:List Expr} {scope:Scope} {pos:Pos} {it acc:Value} {env:Env}
  (h0:codeAny (model prog w) A (.compLoop (.ListComp elt [⟨tg,iter,ifs,0⟩,⟨tg2,iter2,ifs2,0⟩] scope pos) 1 it acc env) R s)
  (h:wpAny (model prog w) A (pyIter it) (fun it' s'=>codeAny (model prog w) A (.compLoop (.ListComp elt [⟨tg,iter,ifs,0⟩,⟨tg2,iter2,ifs2,0⟩] scope pos) 1 it' acc env) R s')
   (notedBy (model prog w) A env fun x s'=>R (.error x) s') s) :
  codeAny (model prog w) A (.compStart (.ListComp elt [⟨tg,iter,ifs,0⟩,⟨tg2,iter2,ifs2,0⟩] scope pos) 1 it acc env) R s:=by
 refine codeAny_of_tree ?_
 show wpAny _ _ ((compStart (.ListComp elt [⟨tg,iter,ifs,0⟩,⟨tg2,iter2,ifs2,0⟩] scope pos) 1 it acc env).onRaise (fun x=>do noteFrame x env; standAt theWindowsPlace)) _ _ s
 refine wpAny_notedAt ?_
 unfold compStart
 show wpAny _ _ (ask >>= _) _ _ s
 refine wpAny_bind (wpAny_askSetting (wpAny_ite ?_))
 split
 ·first
   | exact wpAny_bind (wpAny_pure (wpAny_pure (And.intro rfl h0)))
   | exact wpAny_pure (And.intro rfl h0)
 ·first
   | exact wpAny_bind (wpAny_rule (wpAny_bind (wpAny_standAt (wpAny_bind (wpAny_mono h (fun it' s' h'=>wpAny_pure (And.intro rfl h')) fun _ _ x=>x)))))
   | (refine wpAny_bind (wpAny_rule ?_); show wpAny _ _ (standAt iter2.pos >>= _) _ _ s; exact wpAny_bind (wpAny_standAt (wpAny_bind (wpAny_mono h (fun it' s' h'=>wpAny_pure (And.intro rfl h')) fun _ _ x=>x))))
def iY (σ2:St) (J:It) (g:TG) (tt:TT) (te:TE) (N:List V→Hp→Prop) (W:Nat→Nat→List V→Hp→Prop):Prop :=
 ∀i m ys H,W i m ys H→(J.stop i H∧N ys H) ∨
  (J.go i H∧ys.length < sizeLine∧∀x H',J.yld i H x H'→g x σ2 H' fun σ3 H2=>leS σ2 σ3∧tt σ3 H2 fun ok H3 =>
   if ok=true then te σ3 H3 (fun v H4=>∃m',m' < m∧W (i + 1) m' (ys ++ [v]) H4) else ∃m',m' < m∧W (i + 1) m' ys H3)
def iZ (σ:St) (cap:List Nat) (k:Nat) (J:It) (g:TG) (tt:TT) (wi2:TI) (g2:TG) (tt2:TT) (te:TE) (Q:List V→Hp→Prop) (W:Nat→Nat→List V→Hp→Prop):Prop :=
 ∀i m ys H,W i m ys H→(J.stop i H∧ys.length≤sizeLine∧Q ys H) ∨
  (J.go i H∧∀x H',J.yld i H x H'→g x (bi σ cap k) H' fun σ2 H2=>leS (bi σ cap k) σ2∧tt σ2 H2 fun ok H3 =>
   if ok=true then wi2 σ2 H3 (fun J2 H4=>∃W2:Nat→Nat→List V→Hp→Prop,(∃m2,W2 0 m2 ys H4)∧iY σ2 J2 g2 tt2 te (fun zs H5=>∃m',m' < m∧W (i + 1) m' zs H5) W2) else ∃m',m' < m∧W (i + 1) m' ys H3)
section
variable {X:Cx} {pins:List (Addr×Obj)} {σ:St} {H2:Hp} {s2:Shared} {scope:Scope} {own cs:List Str} {cap:List Nat} {fp:List Addr} {it:Addr} {tn:Nat→Heap→Prop}
 {elt tg iter tg2 iter2:Expr} {ifs ifs2:List Expr} {pos:Pos} {J:It} {g g2:TG} {tt tt2:TT} {te:TE} {wi2:TI} {E:Value→Shared→Prop} {W:Nat→Nat→List V→Hp→Prop} {Qf:List V→Hp→Prop}
theorem nH {RR:Value→Addr→Result→Shared→Prop} (I:Inv X pins σ H2 s2) (ok:CompOk X scope own cs cap) (hc:X.calm=true) (T:Turn X.prog X.w X.K tg J fp it tn) (st:tn 0 s2.heap) (hf:∀b∈fp,dW X pins H2 b)
  (hg:∀C,PG (aG X pins s2 H2 scope C (own ++ cs) fp) tg g) (hi:∀C,iL (aG X pins s2 H2 scope C (own ++ cs) fp) ifs tt) (hit2:∀C,PI (aG X pins s2 H2 scope C (own ++ cs) fp) tg2 iter2 wi2) (hs2:∀C x,foldedSetIterable iter2 (compEnvC scope (aY X.env scope.names []) C X.env) x=pure x) (hg2:∀C,PG (aG X pins s2 H2 scope C (own ++ cs) fp) tg2 g2) (hi2:∀C,iL (aG X pins s2 H2 scope C (own ++ cs) fp) ifs2 tt2) (he:∀C,PE (aG X pins s2 H2 scope C (own ++ cs) fp) elt te)
  (w0:∃m,W 0 m [] H2) (turn:iZ σ cap own.length J g tt wi2 g2 tt2 te Qf W)
  (hRR:∀D C s',BlkEnd X pins σ Qf D C s'→RR (.ref D) C (.ok .next) s') :
  wpAny (model X.prog X.w) X.A (newList []) (fun acc s₃=>wpAny (model X.prog X.w) X.A (newFunctionEnv scope X.env.globals (aY X.env scope.names []) [] X.env.qual none .none (some X.env)) (fun cenv s₄ =>
   codeAny (model X.prog X.w) X.A (.compStart (.ListComp elt [⟨tg,iter,ifs,0⟩,⟨tg2,iter2,ifs2,0⟩] scope pos) 0 (.ref it) acc { cenv with scope:=relabel scope X.env }) (RR acc cenv.locals) s₄) E s₃) E s2:=by
 refine wpAny_newObj_type (wpAny_newFunctionEnv ok.cell (by intro y hy; simp at hy) (fun h₁ hns₁ hsb₁=>?_) ok.kind)
 dsimp only at hns₁ hsb₁ ⊢
 generalize hHH:s2.heap.push { cls:=.type "list",dict:=none,data:=.seq ([]:List Value).toArray }=HH at hns₁ hsb₁ ⊢
 have hCs:HH.objs.size=s2.heap.objs.size + 1:=by rw [← hHH,Heap.size_push]
 have hDC:s2.heap.objs.size≠HH.objs.size:=by rw [hCs]; exact Nat.ne_of_lt (Nat.lt_succ_self _)
 have hCle:s2.heap.objs.size≤HH.objs.size:=by rw [hCs]; exact Nat.le_succ _
 have hfl:∀b∈fp,b < s2.heap.objs.size:=fun b hb=>by
  obtain ⟨o,e,_⟩:=T.obj 0 _ st b hb
  exact Heap.lt_size e
 have old:∀b o,s2.heap.get? b=some o→h₁.get? b=some o:=fun b o e=>hsb₁.extBut b o (by rw [hCs]; exact Nat.ne_of_lt (Nat.lt_succ_of_lt (Heap.lt_size e))) (Heap.get?_push_of_some _ (hHH ▸ Heap.get?_push_of_some _ e))
 have hacc:h₁.PlainList s2.heap.objs.size #[]:=⟨_,hsb₁.extBut _ _ hDC (Heap.get?_push_of_some _ (hHH ▸ Heap.get?_push_size _ rfl))⟩
 generalize hD:s2.heap.objs.size=D at *
 generalize hCC:HH.objs.size=C at *
 have hns₁':h₁.Ns C (fun _=>none):=hns₁
 have I0:Inv (aG X pins s2 H2 scope C (own ++ cs) fp) [] (bi σ cap own.length) H2 { s2 with heap:=h₁,toks:=s2.toks + ([]:List (Str×Value)).length } :=
  ip I ok hf (fun b hb=>by rw [hD]; exact hfl b hb) (by rw [hD]; exact hCle) hns₁' old
 have Dfs:D∉frs X.stack:=fun hb=>by
  obtain ⟨_,o,ho,_⟩:=I.stack.mem hb
  exact absurd (Heap.lt_size ho) (by rw [hD]; exact Nat.lt_irrefl _)
 have Dfp:∀b∈fp,D≠b:=fun b hb z=>absurd (hfl b hb) (by rw [← z]; exact Nat.lt_irrefl _)
 have clt:∀x c,(aY X.env scope.names []).lookup x=some c→c < D:=fun x c e=>by
  have e':=cu X.env scope.names [] x c (fun y hy e=>I.ok.has y.1 (ok.free y hy e)) (fun _ _ z=>by simp at z) e
  obtain ⟨v,o,ho,_⟩:=I.cell x c e'
  have:=Heap.lt_size ho
  rw [hD] at this; exact this
 have plt:∀p∈X.pn ++ pins,p.1 < D:=fun p hp=>by
  have:=Heap.lt_size (I.pin p hp).1
  rw [hD] at this; exact this
 have stat:∀ {H':Hp} {ob:Obj},(∀b∈fp,H' b=none)→∀b∈fp,dW (aG X pins s2 H2 scope C (own ++ cs) fp) [(D,ob)] H' b:=fun {H' ob} hn b hb=>by
  have q:=I0.ok.exf b hb
  refine ⟨hn b hb,q.1,I0.ok.exfs b hb,.inl hb,q.2,fun p hp=>?_⟩
  rcases List.mem_append.mp hp with z | z
  ·exact (hf b hb).2.2.2.2.2 p z
  ·have:p=(D,ob):=by simpa using z
   subst this
   exact Dfp b hb
 have loop:codeAny (model X.prog X.w) X.A (.compLoop (.ListComp elt [⟨tg,iter,ifs,0⟩,⟨tg2,iter2,ifs2,0⟩] scope pos) 0 (.ref it) (.ref D) (compEnvC scope (aY X.env scope.names []) C X.env)) (RR (.ref D) C)
   { s2 with heap:=h₁,toks:=s2.toks + ([]:List (Str×Value)).length }:=by
  obtain ⟨m0,w0⟩:=w0
  refine codeAny_loop rfl (fun n s'=>∃i H' its ys,Inv (aG X pins s2 H2 scope C (own ++ cs) fp) [] (bi σ cap own.length) H' s'∧tn i s'.heap∧(∀b∈fp,H' b=none)∧s'.heap.PlainList D its.toArray∧Vals ys its∧H' D=none∧W i n ys H') ?_ m0
   ⟨0,H2,[],[],I0,T.keep 0 _ _ st fun b _ o e=>old b o e,fun b hb=>(hf b hb).1,hacc,.nil,I.hok.fresh (by rw [hD]; exact Nat.le_refl _),w0⟩
  rintro n s3 ⟨i,H3,its,ys,I3,st3,fr3,⟨nn,pl3⟩,rv3,hD3,w3⟩
  show wpAny _ X.A ((compTurn (.ListComp elt [⟨tg,iter,ifs,0⟩,⟨tg2,iter2,ifs2,0⟩] scope pos) 0 (.ref it) (.ref D) (compEnvC scope (aY X.env scope.names []) C X.env)).onRaise (fun x=>do noteFrame x (compEnvC scope (aY X.env scope.names []) C X.env); theTreesLotGoes x)) _ _ s3
  refine wpAny_noted ?_
  rw [iX]
  refine wpAny_bind (wpAny_standAt (wpAny_bind ?_))
  have I3':Inv (aG X pins s2 H2 scope C (own ++ cs) fp) [(D, { cls:=.type "list", data:=.seq its.toArray nn })] (bi σ cap own.length) H3 s3 :=
   I3.pins_of fun p hp=>by
    have:p=(D,{ cls:=.type "list",data:=.seq its.toArray nn }):=by simpa using hp
    subst this
    exact ⟨pl3,hD3,hDC,Dfs,fun v z=>by cases z⟩
  rcases turn i n ys H3 w3 with ⟨stop,hz,qf⟩ | ⟨go,step⟩
  ·refine thn (T.done (aG X pins s2 H2 scope C (own ++ cs) fp) rfl rfl rfl hc i _ s3 _ H3 _ I3' (stat fr3) st3 stop) fun r s4 ⟨hr,I4⟩=>?_
   subst hr
   refine wpAny_pure (hRR D C s4 ⟨⟨ys,H3,hD3,qf,?_,?_⟩,?_⟩)
   ·have pl4:=(I4.pin (D,_) (List.mem_append_right _ (List.mem_singleton.mpr rfl))).1
    have u4:=I4.base
    have Ds2:s2.heap.get? D=none:=Heap.get?_none_of_le (by rw [hD]; exact Nat.le_refl _)
    refine I.call' (s':=s4) (ch:=fp) I4.os ⟨u4.keep,u4.slot,fun b o e n hx=>?_,u4.there,fun b xs e=>?_,fun b o u e=>?_,fun b ps e=>?_⟩ ?_ I4.bare fun b hb=>⟨(hf b hb).2.2.2.1,(hf b hb).2.1,(hf b hb).2.2.2.2.1,(hf b hb).2.2.2.2.2⟩
    ·rw [am (fun z=>by rw [z,Ds2] at e; cases e)]
     exact u4.free b o e n hx
    ·have:=u4.tups b xs e
     rw [am (ah this hD3)]; exact this
    ·have:=u4.frzs b o u e
     rw [am (ah this hD3)]; exact this
    ·obtain ⟨more,e'⟩:=u4.tbls b ps e
     exact ⟨more,by rw [am (ah e' hD3)]; exact e'⟩
    ·exact I4.hok.add hD3 ⟨hz,its,nn,rv3,pl4⟩
   ·have CH:(upd H3 D (.lst ys)) C=none:=by rw [am (Ne.symm hDC)]; exact I4.free
    exact I.fpOk (H':=upd H3 D (.lst ys)) (by rw [hD]; exact hCle) CH
   ·obtain ⟨m,hn,_⟩:=I4.loc
    exact ⟨m,hn⟩
  ·refine thn (T.item (aG X pins s2 H2 scope C (own ++ cs) fp) rfl rfl rfl hc i _ s3 _ H3 _ I3' (stat fr3) st3 go) fun r s4 ⟨u,hr,h4⟩=>?_
   subst hr
   refine wpAny_bind (thn h4 fun _ s5 ⟨x,H5,I5,r5,y5,st5,fr5⟩=>?_)
   have I5':=I5.pinned (stat fr5) (T.obj _ _ st5)
   refine wpAny_bind (wpAny_mono (hg C _ s5 _ H5 x u _ I5' r5 (step x H5 y5)) (fun _ s6 ⟨σ6,H6,I6,le6,q6⟩=>?_) fun _ _ z=>False.elim z)
   refine wpAny_bind (wpAny_mono (hi C _ s6 σ6 H6 _ I6 q6) (fun b s7 ⟨H7,I7,q7⟩=>?_) fun _ _ z=>False.elim z)
   have back:∀ {pins':List (Addr×Obj)} {H8:Hp} {s8:Shared},Inv (aG X pins s2 H2 scope C (own ++ cs) fp) pins' σ6 H8 s8→Inv (aG X pins s2 H2 scope C (own ++ cs) fp) [] (bi σ cap own.length) H8 s8:=fun I8 =>
    I8.bareP.weak le6.1.symm fun i v e=>le6.2 i v e
   cases b with
   | false =>
    rw [if_neg Bool.false_ne_true] at q7
    obtain ⟨m',hm,w7⟩:=q7
    refine wpAny_pure ⟨rfl,m',hm,i + 1,H7,its,ys,back I7,T.keep _ _ _ st5 fun b hb o e=>?_,fun b hb=>?_,⟨nn,?_⟩,rv3,?_,w7⟩
    ·exact (I7.pin (b,o) (List.mem_append_right _ (List.mem_append_right _ (aR hb e)))).1
    ·obtain ⟨o,e,d⟩:=T.obj _ _ st5 b hb
     exact (I7.pin (b,o) (List.mem_append_right _ (List.mem_append_right _ (aR hb e)))).2.1
    ·exact (I7.pin (D,_) (List.mem_append_right _ (List.mem_append_left _ (List.mem_singleton.mpr rfl)))).1
    ·exact (I7.pin (D,_) (List.mem_append_right _ (List.mem_append_left _ (List.mem_singleton.mpr rfl)))).2.1
   | true =>
    rw [if_pos rfl] at q7
    obtain ⟨P5,hP5⟩:∃P5,gt fp s5.heap=P5:=⟨_,rfl⟩
    have P5f:∀p∈P5,p.1∈fp:=fun p hp=>by rw [← hP5] at hp; exact (ib hp).1
    refine wpAny_bind (wpAny_mono (hit2 C _ s7 σ6 H7 _ I7 q7) (fun xv s8 h8=>?_) fun _ _ z=>False.elim z)
    refine wpAny_bind (wpAny_standAt (wpAny_bind (wpAny_of_eq (hs2 C xv) ?_)))
    refine wpAny_bind (wpAny_holding (wpAny_mono h8 (fun itv s9 h9=>?_) fun _ _ z=>False.elim z))
    obtain ⟨it2,fp2,tn2,J2,H9,e9,I9,T2,st9,f9,W2,⟨m2,w20⟩,turn2⟩:=h9
    subst e9
    have D2:∀b∈fp2,D≠b:=fun b hb=>(f9 b hb).2.2.2.2.2 (D,{ cls:=.type "list",data:=.seq its.toArray nn }) (List.mem_append_right _ (List.mem_append_left _ (List.mem_singleton.mpr rfl)))
    have p2:∀b∈fp2,∀p∈P5,p.1≠b:=fun b hb p hp=>(f9 b hb).2.2.2.2.2 p (List.mem_append_right _ (List.mem_append_right _ (by rw [hP5]; exact hp)))
    have stat2:∀ {H':Hp} {ob:Obj},(∀b∈fp2,H' b=none)→∀b∈fp2,dW (aG X pins s2 H2 scope C (own ++ cs) fp) (P5 ++ [(D,ob)]) H' b:=fun {H' ob} hn b hb=>by
     have q:=f9 b hb
     refine ⟨hn b hb,q.2.1,q.2.2.1,q.2.2.2.1,q.2.2.2.2.1,fun p hp=>?_⟩
     rcases List.mem_append.mp hp with z | z
     ·exact q.2.2.2.2.2 p (List.mem_append_left _ z)
     ·rcases List.mem_append.mp z with z | z
      ·exact p2 b hb p z
      ·have:p=(D,ob):=by simpa using z
       subst this
       exact D2 b hb
    have pD9:=I9.pin (D,{ cls:=.type "list",data:=.seq its.toArray nn }) (List.mem_append_right _ (List.mem_append_left _ (List.mem_singleton.mpr rfl)))
    have I9':Inv (aG X pins s2 H2 scope C (own ++ cs) fp) P5 σ6 H9 s9:=I9.pins_of fun p hp=>I9.pin p (List.mem_append_right _ (List.mem_append_right _ (by rw [hP5]; exact hp)))
    have inner:∀ (R2:Result→Shared→Prop),(∀s',(∃m' G its ys,m' < n∧Inv (aG X pins s2 H2 scope C (own ++ cs) fp) [] (bi σ cap own.length) G s'∧tn (i + 1) s'.heap∧(∀b∈fp,G b=none)∧s'.heap.PlainList D its.toArray∧Vals ys its∧G D=none∧W (i + 1) m' ys G)→R2 (.ok .next) s')→∀ (s':Shared),(∃i H' its ys,Inv (aG X pins s2 H2 scope C (own ++ cs) fp) P5 σ6 H' s'∧tn2 i s'.heap∧(∀b∈fp2,H' b=none)∧s'.heap.PlainList D its.toArray∧Vals ys its∧H' D=none∧∃m,W2 i m ys H')→codeAny (model X.prog X.w) X.A (.compLoop (.ListComp elt [⟨tg,iter,ifs,0⟩,⟨tg2,iter2,ifs2,0⟩] scope pos) 1 (.ref it2) (.ref D) (compEnvC scope (aY X.env scope.names []) C X.env)) R2 s':=by
     rintro R2 hR2 s' ⟨i',H',its',ys',J1,J2',J3,J4,J5,J6,m',J7⟩
     refine codeAny_loop rfl (fun n s'=>∃i H' its ys,Inv (aG X pins s2 H2 scope C (own ++ cs) fp) P5 σ6 H' s'∧tn2 i s'.heap∧(∀b∈fp2,H' b=none)∧s'.heap.PlainList D its.toArray∧Vals ys its∧H' D=none∧W2 i n ys H') ?_ m' ⟨i',H',its',ys',J1,J2',J3,J4,J5,J6,J7⟩
     clear J1 J2' J3 J4 J5 J6 J7
     clear i' H' its' ys' m' s'
     rintro n2 t3 ⟨j,G3,jts,zs,J3,tt3,fr3',⟨mm,pl3'⟩,rv3',hD3',w3'⟩
     show wpAny _ X.A ((compTurn (.ListComp elt [⟨tg,iter,ifs,0⟩,⟨tg2,iter2,ifs2,0⟩] scope pos) 1 (.ref it2) (.ref D) (compEnvC scope (aY X.env scope.names []) C X.env)).onRaise (fun x=>do noteFrame x (compEnvC scope (aY X.env scope.names []) C X.env); theTreesLotGoes x)) _ _ t3
     refine wpAny_noted ?_
     rw [jC]
     refine wpAny_bind (wpAny_standAt (wpAny_bind ?_))
     have J3':Inv (aG X pins s2 H2 scope C (own ++ cs) fp) (P5 ++ [(D, { cls:=.type "list", data:=.seq jts.toArray mm })]) σ6 G3 t3 :=
      J3.pins_of fun p hp=>by
       rcases List.mem_append.mp hp with z | z
       ·exact J3.pin p (List.mem_append_right _ z)
       ·have:p=(D,{ cls:=.type "list",data:=.seq jts.toArray mm }):=by simpa using z
        subst this
        exact ⟨pl3',hD3',hDC,Dfs,fun v z=>by cases z⟩
     rcases turn2 j n2 zs G3 w3' with ⟨stop2,qf2⟩ | ⟨go2,hz2,step2⟩
     ·refine thn (T2.done (aG X pins s2 H2 scope C (own ++ cs) fp) rfl rfl rfl hc j _ t3 _ G3 _ J3' (stat2 fr3') tt3 stop2) fun r t4 ⟨hr,J4⟩=>?_
      subst hr
      obtain ⟨mo,hmo,wo⟩:=qf2
      have pD4:=J4.pin (D,{ cls:=.type "list",data:=.seq jts.toArray mm }) (List.mem_append_right _ (List.mem_append_right _ (List.mem_singleton.mpr rfl)))
      refine wpAny_pure (hR2 _ ⟨mo,G3,jts,zs,hmo,back J4,T.keep _ _ _ st5 fun b hb o e=>?_,fun b hb=>?_,⟨mm,pD4.1⟩,rv3',pD4.2.1,wo⟩)
      ·exact (J4.pin (b,o) (List.mem_append_right _ (List.mem_append_left _ (by rw [← hP5]; exact aR hb e)))).1
      ·obtain ⟨o,e,d⟩:=T.obj _ _ st5 b hb
       exact (J4.pin (b,o) (List.mem_append_right _ (List.mem_append_left _ (by rw [← hP5]; exact aR hb e)))).2.1
     ·refine thn (T2.item (aG X pins s2 H2 scope C (own ++ cs) fp) rfl rfl rfl hc j _ t3 _ G3 _ J3' (stat2 fr3') tt3 go2) fun r t4 ⟨u2,hr,h4'⟩=>?_
      subst hr
      refine wpAny_bind (thn h4' fun _ t5 ⟨x2,G5,J5,r5',y5',st5',fr5'⟩=>?_)
      have J5':=J5.pinned (stat2 fr5') (T2.obj _ _ st5')
      refine wpAny_bind (wpAny_mono (hg2 C _ t5 _ G5 x2 u2 _ J5' r5' (step2 x2 G5 y5')) (fun _ t6 ⟨σ7,G6,J6,le7,q7'⟩=>?_) fun _ _ z=>False.elim z)
      refine wpAny_bind (wpAny_mono (hi2 C _ t6 σ7 G6 _ J6 q7') (fun b2 t7 ⟨G7,J7,q8'⟩=>?_) fun _ _ z=>False.elim z)
      have back2:∀ {pins':List (Addr×Obj)} {G8:Hp} {t8:Shared},Inv (aG X pins s2 H2 scope C (own ++ cs) fp) (P5 ++ pins') σ7 G8 t8→Inv (aG X pins s2 H2 scope C (own ++ cs) fp) P5 σ6 G8 t8:=fun J8 =>
       (J8.pins_of fun p hp=>J8.pin p (List.mem_append_right _ (List.mem_append_left _ hp))).weak le7.1.symm fun i v e=>le7.2 i v e
      cases b2 with
      | false =>
       rw [if_neg Bool.false_ne_true] at q8'
       obtain ⟨m',hm,w7⟩:=q8'
       rw [List.append_assoc] at J7
       refine wpAny_pure ⟨rfl,m',hm,j + 1,G7,jts,zs,back2 J7,T2.keep _ _ _ st5' fun b hb o e=>?_,fun b hb=>?_,⟨mm,?_⟩,rv3',?_,w7⟩
       ·exact (J7.pin (b,o) (List.mem_append_right _ (List.mem_append_right _ (List.mem_append_right _ (aR hb e))))).1
       ·obtain ⟨o,e,d⟩:=T2.obj _ _ st5' b hb
        exact (J7.pin (b,o) (List.mem_append_right _ (List.mem_append_right _ (List.mem_append_right _ (aR hb e))))).2.1
       ·exact (J7.pin (D,_) (List.mem_append_right _ (List.mem_append_right _ (List.mem_append_left _ (List.mem_singleton.mpr rfl))))).1
       ·exact (J7.pin (D,_) (List.mem_append_right _ (List.mem_append_right _ (List.mem_append_left _ (List.mem_singleton.mpr rfl))))).2.1
      | true =>
       rw [if_pos rfl] at q8'
       refine wpAny_bind (wpAny_bind (wpAny_mono (he C _ t7 σ7 G7 _ J7 q8') (fun y2 t8 ⟨v2,G8,J8,r8',m',hm,w8⟩=>?_) fun _ _ z=>False.elim z))
       rw [List.append_assoc] at J8
       have pD:=J8.pin (D,{ cls:=.type "list",data:=.seq jts.toArray mm }) (List.mem_append_right _ (List.mem_append_right _ (List.mem_append_left _ (List.mem_singleton.mpr rfl))))
       have hlen:=rv3'.length
       refine wpAny_bind (wpAny_list_append_plain (hsz:=by rw [List.size_toArray]; omega) ⟨mm,pD.1⟩ fun h9 pl9 sb9=>wpAny_pure (wpAny_pure ?_))
       have J8':=back2 J8
       refine ⟨rfl,m',hm,j + 1,G8,jts ++ [y2],zs ++ [v2],?_,T2.keep _ _ _ st5' fun b hb o e=>?_,fun b hb=>?_,?_,rv3'.append (.cons r8' .nil),pD.2.1,w8⟩
       ·exact J8'.turned (t':=t8.toks) (fun b o hb e=>sb9.extBut b o hb e) pD.2.1 hDC (.inr (by show s2.heap.objs.size≤D; rw [hD]; exact Nat.le_refl _)) (fun x c e=>Nat.ne_of_lt (clt x c e)) fun p hp=>by
         have hp':p∈(X.pn ++ pins) ++ P5:=hp
         rcases List.mem_append.mp hp' with z | z
         ·exact Nat.ne_of_lt (plt p z)
         ·exact Ne.symm (Dfp p.1 (P5f p z))
       ·exact sb9.extBut b o (Ne.symm (D2 b hb)) (J8.pin (b,o) (List.mem_append_right _ (List.mem_append_right _ (List.mem_append_right _ (aR hb e))))).1
       ·obtain ⟨o,e,d⟩:=T2.obj _ _ st5' b hb
        exact (J8.pin (b,o) (List.mem_append_right _ (List.mem_append_right _ (List.mem_append_right _ (aR hb e))))).2.1
       ·have e:jts.toArray.push y2=(jts ++ [y2]).toArray:=by simp
        rw [← e]; exact pl9
    have stt:∃i H' its ys,Inv (aG X pins s2 H2 scope C (own ++ cs) fp) P5 σ6 H' s9∧tn2 i s9.heap∧(∀b∈fp2,H' b=none)∧s9.heap.PlainList D its.toArray∧Vals ys its∧H' D=none∧∃m,W2 i m ys H':=⟨0,H9,its,ys,I9',st9,fun b hb=>(f9 b hb).1,⟨nn,pD9.1⟩,rv3,pD9.2.1,m2,w20⟩
    have dD:∀ (R2:Result→Shared→Prop),(∀s',(∃m' G its ys,m' < n∧Inv (aG X pins s2 H2 scope C (own ++ cs) fp) [] (bi σ cap own.length) G s'∧tn (i + 1) s'.heap∧(∀b∈fp,G b=none)∧s'.heap.PlainList D its.toArray∧Vals ys its∧G D=none∧W (i + 1) m' ys G)→R2 (.ok .next) s')→codeAny (model X.prog X.w) X.A (.compStart (.ListComp elt [⟨tg,iter,ifs,0⟩,⟨tg2,iter2,ifs2,0⟩] scope pos) 1 (.ref it2) (.ref D) (compEnvC scope (aY X.env scope.names []) C X.env)) R2 s9:=fun R2 hR2 =>
     dv (inner R2 hR2 s9 stt) (T2.self _ 0 _ _ _ st9 (inner R2 hR2 s9 stt))
    refine wpAny_bind (wpAny_runOwn (dD _ ?_))
    rintro s' ⟨m',G,its,ys,hm,c1,c2,c3,c4,c5,c6,c7⟩
    exact wpAny_pure ⟨rfl,m',hm,i + 1,G,its,ys,c1,c2,c3,c4,c5,c6,c7⟩
 exact codeAny_compStart_list loop (T.self _ 0 _ _ _ (T.keep 0 _ _ st fun b _ o e=>old b o e) loop)
def uN (wi:TI) (cap:List Nat) (k:Nat) (g:TG) (tt:TT) (wi2:TI) (g2:TG) (tt2:TT) (te:TE):TE:=fun σ H Q=>wi σ H fun J H1 =>
 ∃W:Nat→Nat→List V→Hp→Prop,(∃m,W 0 m [] H1)∧iZ σ cap k J g tt wi2 g2 tt2 te (fun ys H'=>∀p,H' p=none→Q (.ref p) (upd H' p (.lst ys))) W
theorem ql {wi:TI} (hc:X.calm=true) (hit:PI X tg iter wi) (ok:CompOk X scope own cs cap)
  (hg:∀pins s2 H2 C fp,PG (aG X pins s2 H2 scope C (own ++ cs) fp) tg g) (hi:∀pins s2 H2 C fp,iL (aG X pins s2 H2 scope C (own ++ cs) fp) ifs tt)
  (hit2:∀pins s2 H2 C fp,PI (aG X pins s2 H2 scope C (own ++ cs) fp) tg2 iter2 wi2) (hg2:∀pins s2 H2 C fp,PG (aG X pins s2 H2 scope C (own ++ cs) fp) tg2 g2) (hi2:∀pins s2 H2 C fp,iL (aG X pins s2 H2 scope C (own ++ cs) fp) ifs2 tt2)
  (he:∀pins s2 H2 C fp,PE (aG X pins s2 H2 scope C (own ++ cs) fp) elt te)
  (hs:∀x,foldedSetIterable iter X.env x=pure x:=by intro _; rfl) (hs2:∀C x,foldedSetIterable iter2 (compEnvC scope (aY X.env scope.names []) C X.env) x=pure x:=by intro _ _; rfl):PE X (.ListComp elt [⟨tg,iter,ifs,0⟩,⟨tg2,iter2,ifs2,0⟩] scope pos) (uN wi cap own.length g tt wi2 g2 tt2 te):=by
 intro pins s σ H Q I h
 rw [eval_ListComp]
 refine wpAny_comprehension_free (use:=none) rfl hs (el fun y hy e=>I.ok.has y.1 (ok.free y hy e)) ok.kind ok.names (thn (hit pins s σ H _ I h) fun v s1 h1=>thn h1 fun itv s2 h2=>?_)
 obtain ⟨it,fp,tn,J,H2,e,I2,T,st2,f2,W,w0,turn⟩:=h2
 subst e
 refine nH (RR:=fun acc C=>compPost (model X.prog X.w) X.A X.xe none (EP X pins σ Q) acc C) I2 ok hc T st2 f2 (fun C=>hg _ _ _ _ _) (fun C=>hi _ _ _ _ _) (fun C=>hit2 _ _ _ _ _) hs2 (fun C=>hg2 _ _ _ _ _) (fun C=>hi2 _ _ _ _ _) (fun C=>he _ _ _ _ _) w0 turn fun D C s' B=>?_
 obtain ⟨⟨ys,H',hD,q,I',fp'⟩,m,hn⟩:=B
 obtain ⟨f0,f1,f2',f3,f4,f5⟩:=fp'
 exact ⟨m,hn,fun h' sb=>⟨.ref D,_,I'.turned (t':=s'.toks) (fun b o hb e=>sb.extBut b o hb e) f0 f1 f3 f4 f5,rfl,q D hD⟩⟩
end
end L2
set_option Elab.async false
set_option linter.all false
set_option maxRecDepth 100000
namespace PySem
open Sem (wp)
section
variable {prog:Program} {w:World} {A:Around} {E:Value→Shared→Prop} {s:Shared}
end
end PySem
namespace L2
open PySem PySem.Spec PyProof.Rows
theorem ub {α β:Type} {F:α→β→Prop}:∀ {l₁:List α} {l₂:List β} {i:Nat} {x:α},Paired F l₁ l₂→l₁[i]? = some x→∃y,l₂[i]? = some y∧F x y
 | _,_,0,_,.cons h _,e=>⟨_,rfl,by cases e; exact h⟩
 | _,_,i + 1,_,.cons _ r,e=>ub (i:=i) r (by simpa using e)
 | _,_,_,_,.nil,e=>by simp at e
theorem qm {α β:Type} {F:α→β→Prop}:∀ {l₁:List α} {l₂:List β},Paired F l₁ l₂→l₁.length=l₂.length
 | _,_,.nil=>rfl
 | _,_,.cons _ r=>by rw [List.length_cons,List.length_cons,qm r]
section
variable {X:Cx} {tg:Expr}
end
end L2
set_option Elab.async false
set_option linter.all false
set_option maxRecDepth 100000
namespace L2
open PySem PySem.Spec PyProof.Rows
theorem nI {lo:Int} {n:Nat} {σ:St} {cap:List Nat} {k:Nat} {g g2:TG} {tt tt2:TT} {te:TE} {wi2:TI} {Q:List V→Hp→Prop} {H:Hp} (Pv:Nat→List V→Hp→Prop) (h0:Pv 0 [] H)
  (ht:∀i ys H',i < n→Pv i ys H'→g (.int (lo + i)) (bi σ cap k) H' fun σ2 H2=>leS (bi σ cap k) σ2∧tt σ2 H2 fun ok H3=>if ok=true then wi2 σ2 H3 (fun J2 H4=>∃W2:Nat→Nat→List V→Hp→Prop,(∃m2,W2 0 m2 ys H4)∧iY σ2 J2 g2 tt2 te (fun zs H5=>Nx n Pv i zs H5) W2) else Nx n Pv i ys H3)
  (hd:∀ys H',Pv n ys H'→ys.length≤sizeLine∧Q ys H'):∃W,(∃m,W 0 m [] H)∧iZ σ cap k (Itr lo n) g tt wi2 g2 tt2 te Q W:=by
 refine ⟨fun i m ys H'=>m=n - i∧i≤n∧Pv i ys H',⟨_,rfl,Nat.zero_le _,h0⟩,?_⟩
 rintro i m ys H' ⟨rfl,hi,p⟩
 by_cases hin:i < n
 ·refine .inr ⟨hin,fun x H2 yl=>?_⟩
  obtain ⟨e1,e2⟩:=yl
  subst e1 e2
  exact ht i ys _ hin p
 ·have e:i=n:=by omega
  subst e
  obtain ⟨a1,a2⟩:=hd ys H' p
  exact .inl ⟨Nat.le_refl _,a1,a2⟩
theorem uO {lo:Int} {n:Nat} {σ2:St} {g2:TG} {tt2:TT} {te:TE} {N:List V→Hp→Prop} {H:Hp} {ys:List V} (Pv:Nat→List V→Hp→Prop) (h0:Pv 0 ys H)
  (ht:∀i zs H',i < n→Pv i zs H'→zs.length < sizeLine∧g2 (.int (lo + i)) σ2 H' fun σ3 H2=>leS σ2 σ3∧tt2 σ3 H2 fun ok H3=>if ok=true then te σ3 H3 (fun v H4=>Nx n Pv i (zs ++ [v]) H4) else Nx n Pv i zs H3)
  (hd:∀zs H',Pv n zs H'→N zs H'):∃W2:Nat→Nat→List V→Hp→Prop,(∃m2,W2 0 m2 ys H)∧iY σ2 (Itr lo n) g2 tt2 te N W2:=by
 refine ⟨fun i m zs H'=>m=n - i∧i≤n∧Pv i zs H',⟨_,rfl,Nat.zero_le _,h0⟩,?_⟩
 rintro i m zs H' ⟨rfl,hi,p⟩
 by_cases hin:i < n
 ·obtain ⟨e,hg⟩:=ht i zs H' hin p
  refine .inr ⟨hin,e,fun x H2 yl=>?_⟩
  obtain ⟨e1,e2⟩:=yl
  subst e1 e2
  exact hg
 ·have e:i=n:=by omega
  subst e
  exact .inl ⟨Nat.le_refl _,hd zs H' p⟩
theorem kO {P:Program} {w:World} {K:PySem.W.Frag} {tg:Expr} (it:Addr) (lo left:Int) (h0:left≤0):Turn P w K tg (Itr lo 0) [it] it (fun i h=>IsLongIter h it lo left 1) where
 mem:=by simp
 obj:=fun i h st b hb=>by
  have e:b=it:=by simpa using hb
  subst e
  exact ⟨_,st,fun v z=>by
   have z':Data.fields _=Data.cell v:=z
   cases z'⟩
 keep:=fun i h h' st k=>k it (by simp) _ st
 item:=by
  intro X hP hw hK hc i pins s σ H E I hf st hg
  exact absurd hg (Nat.not_lt_zero _)
 done:=by
  intro X hP hw hK hc i pins s σ H E I hf st hg
  subst hP hw hK
  obtain ⟨f0,f1,f2,f3,f4,f5⟩:=hf it (by simp)
  exact wpAny_pyNext_long_end (I.ok.hd hc) st h0 fun h' eb=>⟨rfl,I.turned (t':=s.toks) (fun b o hb e=>eb b o hb e) f0 f1 f3 f4 f5⟩
 self:=fun _ _ _ _ _ st h=>wpAny_pyIter_longiter st h
section
variable {X:Cx} {tg:Expr}
def uP (ta:TA):TI:=fun σ H R=>ta σ H fun vs H1=>∃i j:Int,vs=[.int i,.int j]∧(-(2 ^ 62)≤i∧i < 2 ^ 62∧j < 2 ^ 62)∧R (Itr i (j - i).toNat) H1
theorem gH {a b:Expr} {ta:TA} {p pos:Pos} (hg:Gl X "range") (hm:X.mg "range" = none) (ha:PA X [a,b] ta) (hs:starEach [a,b] X.env=[(false,eval a X.env),(false,eval b X.env)]:=by rfl) (hs2:starEach [b] X.env=[(false,eval b X.env)]:=by rfl) :
  PI X tg (.Call (.Name "range" p) [a,b] [] pos) (uP ta):=by
 intro pins s σ H R I h
 refine Call_ (eh I hg hm boot_range (PyProof.Rows.callWith_type1 (thn (ha pos pins s σ H _ I h) fun us s1 ⟨vs,H1,I1,r1,q1⟩=>?_) (by rw [hs,hs2]) (by rw [hs2]; rfl)))
 obtain ⟨i,j,e,⟨q1,q2,q4⟩,q⟩:=q1
 subst e
 cases r1 with
 | cons r rr =>
  cases rr with
  | cons r' rr =>
   cases rr
   obtain ⟨t,rfl⟩:=r
   obtain ⟨t',rfl⟩:=r'
   by_cases q3:-(2 ^ 62)≤j
   ·exact call_range_2 (gs I1 q1 q2 q3 q4 q)
   refine call_range_2 ?_
   have z0:(j - i).toNat=0:=by omega
   rw [z0] at q
   have I2:Inv X pins σ H1 { s1 with heap:=s1.heap.push { cls:=.type "range", data:=.fields #[.int i t, .int j t', .int 1 s1.toks] }, toks:=s1.toks + 1 }:=I1.kept fun b o e=>Heap.get?_push_of_some _ e
   have rs0:Builtin.Range.rangeSize i j 1=0:=by rw [rangeSize_one,if_neg (by omega)]
   cases hsm:Builtin.Range.small i j 1 with
   | false =>
    refine wpAny_pyIter_longrange (IsRange.new ..) hsm ?_
    refine ⟨_, [(s1.heap.push { cls:=.type "range", data:=.fields #[.int i t, .int j t', .int 1 s1.toks] }).objs.size], _, _, H1, rfl, I2.kept (t':=s1.toks + 1) fun b o e=>Heap.get?_push_of_some _ e, kO _ i 0 (Int.le_refl _), ?_, fun b hb=>?_, q⟩
    ·rw [rs0]
     exact Heap.get?_push_size _ rfl
    ·have e:b=(s1.heap.push { cls:=.type "range", data:=.fields #[.int i t, .int j t', .int 1 s1.toks] }).objs.size:=by simpa using hb
     subst e
     exact I2.fpOk (Nat.le_refl _) (I2.hok.fresh (Nat.le_refl _))
   | true =>
    refine wpAny_pyIter_range (IsRange.new ..) hsm ?_
    refine ⟨_, [(s1.heap.push { cls:=.type "range", data:=.fields #[.int i t, .int j t', .int 1 s1.toks] }).objs.size], _, _, H1, rfl, I2.kept (t':=s1.toks + 1) fun b o e=>Heap.get?_push_of_some _ e, gq _ i 0, ?_, fun b hb=>?_, q⟩
    ·rw [rs0]
     show IsRangeIter _ _ (i + ((0:Nat):Int) * 1) (((0:Nat):Int) - ((0:Nat):Int)) 1
     have e1:i + ((0:Nat):Int) * 1=i:=by simp
     have e2:((0:Nat):Int) - ((0:Nat):Int)=0:=rfl
     rw [e1,e2]
     exact Heap.get?_push_size _ rfl
    ·have e:b=(s1.heap.push { cls:=.type "range", data:=.fields #[.int i t, .int j t', .int 1 s1.toks] }).objs.size:=by simpa using hb
     subst e
     exact I2.fpOk (Nat.le_refl _) (I2.hok.fresh (Nat.le_refl _))
end
end L2
set_option Elab.async false
set_option linter.all false
set_option maxRecDepth 100000
namespace PySem
open Sem (wp)
section
variable {prog:Program} {w:World} {K:Type} [DecidableEq K] (knd:KeyKind prog w K)
def IsNestKey (h:Heap) (ks:List K×List K) (a:Addr):Prop:=∃o items n q vs,h.get? a=some o∧o.cls=.type "tuple" ∧ o.data=.seq items n∧items.toList=.ref q :: vs∧IsTupleKey knd h ks.1 q∧ItemsAre knd ks.2 vs
def dJ (ks:List K×List K):Int:=reduceHash (Builtin.Tuple.tupleHashOf (tupleKeyHash knd ks.1 :: ks.2.map knd.hash))
variable {knd}
theorem IsNestKey.typeIs {s:Shared} {ks:List K×List K} {a:Addr} (x:IsNestKey knd s.heap ks a):s.TypeIs (.ref a) "tuple" := let ⟨o,_,_,_,_,ho,hc,_⟩:=x; ⟨o,ho,hc⟩
theorem IsNestKey.inj {h:Heap} {a:Addr} {x y:List K×List K} (hx:IsNestKey knd h x a) (hy:IsNestKey knd h y a):x=y:=by
 obtain ⟨o,items,n,q,vs,ho,_,hd,hi,h1,h2⟩:=hx
 obtain ⟨o',items',n',q',vs',ho',_,hd',hi',h1',h2'⟩:=hy
 obtain rfl:o=o':=Option.some.inj (ho.symm.trans ho')
 rw [hd] at hd'
 injection hd' with e1 _
 subst e1
 rw [hi] at hi'
 injection hi' with e2 e3
 injection e2 with e2
 subst e2 e3
 exact Prod.ext (h1.inj h1') (h2.inj h2')
theorem IsNestKey.keeps {h h':Heap} {ks:List K×List K} {a d:Addr} {o:Obj} {es ep} (x:IsNestKey knd h ks a) (ho:h.get? d=some o) (hd:o.data=.dict es ep) (hs:Heap.SameBut d h h') :
  IsNestKey knd h' ks a:=by
 obtain ⟨o',items,n,q,vs,ho',hc,hd',hi,h1,h2⟩:=x
 have hne:a≠d:=by
  rintro rfl
  obtain rfl:o'=o:=Option.some.inj (ho'.symm.trans ho)
  rw [hd] at hd'; exact nomatch hd'
 exact ⟨o',items,n,q,vs,(hs.2 a hne).trans ho',hc,hd',hi,h1.keeps ho hd hs,h2⟩
variable {A:Around} {E:Value→Shared→Prop} {s:Shared}
theorem eO {ks:List K×List K} {a:Addr} {Q:Int→Shared→Prop} (hu:A.units + 1 < cLine) (hk:IsNestKey knd s.heap ks a) (h:Q (dJ knd ks) { s with toks:=s.toks + (ks.1.length + 1 + ks.2.length + 1) }) :
  wpAny (model prog w) A (pyHash (.ref a)) Q E s:=by
 have hT:=hk.typeIs
 obtain ⟨ks1,ks⟩:=ks
 obtain ⟨o,items,n,q,vs,ho,_,hd,hi,hq,hi2⟩:=hk
 have hq:IsTupleKey knd s.heap ks1 q:=hq
 have hi2:ItemsAre knd ks vs:=hi2
 unfold pyHash
 first | unfold pyHashByItsType | skip
 first | refine wpAny_bind (wpAny_cRoomFor_or (.inr (by omega)) ?_) | skip
 refine wpAny_bind (wpAny_specialOf hT F.slot_tuple_hash.lookup ?_)
 show wpAny _ _ (if (some (Value.builtin "tuple.__hash__") == some Value.none)=true then _ else _) Q E s
 rw [if_neg (by rw [beq_builtin_none]; exact Bool.false_ne_true)]
 refine wpAny_bind (wpAny_specialOf hT F.slot_tuple_hash.lookup ?_)
 show wpAny _ _ (callSpecialIfBoundUnlessNone? (.ref a) "__hash__" _ >>= _) Q E s
 refine wpAny_bind (wpAny_callSpecialIfBoundUnlessNone?_slot hT F.slot_tuple_hash (wpAny_call_entry F.slot_tuple_hash hT F.entry_tuple_hash ?_ (F.args_tuple_hash_1 _)))
 show wpAny _ _ (Builtin.Tuple.tupleItemsOf (.ref a) >>= _) _ _ s
 refine wpAny_bind (wpAny_tupleItemsOf ho hd ?_)
 refine wpAny_bind ?_
 rw [← Array.forIn_toList,hi,List.forIn_cons]
 refine wpAny_bind (wpAny_bind (wpAny_pyHash_tuple (by show A.units + 1 < cLine; exact hu) hq ?_))
 refine wpAny_pure ?_
 show wpAny _ _ (forIn vs _ _) _ _ _
 refine wpAny_forIn_list _
  (fun rest (b:Array Int) s'=>∃done left,ks=done ++ left∧ItemsAre knd left rest∧b.toList=tupleKeyHash knd ks1 :: done.map knd.hash∧s'={ s with toks:=s.toks + (ks1.length + 1) + done.length })
  _ ?_ ?_ _ _ ⟨[],ks,rfl,hi2,rfl,rfl⟩
 ·rintro x rest b s' ⟨done,left,rfl,hl,hb,rfl⟩
  cases hl with
  | @cons k _ ks' _ h1 hl' =>
   refine wpAny_bind (knd.pyHash h1 ?_)
   first
    | exact wpAny_pure ⟨done ++ [k],ks',by simp,hl',by simp [hb],by simp [Nat.add_assoc]⟩
    | exact wpAny_bind (wpAny_pure (wpAny_pure ⟨done ++ [k],ks',by simp,hl',by simp [hb],by simp [Nat.add_assoc]⟩))
 ·rintro b s' ⟨done,left,rfl,hl,hb,rfl⟩
  cases hl
  rw [List.append_nil] at h
  show wpAny _ _ (retInt (Builtin.Tuple.tupleHashOf b.toList)) _ _ _
  rw [hb]
  refine wpAny_ret_mkInt ?_
  show wpAny _ _ (if (decide (-(2:Int) ^ 63≤Builtin.Tuple.tupleHashOf (tupleKeyHash knd ks1 :: done.map knd.hash)) && decide (Builtin.Tuple.tupleHashOf (tupleKeyHash knd ks1 :: done.map knd.hash) < 2 ^ 63))=true then _ else _) Q E _
  unfold dJ at h
  rw [show reduceHash (Builtin.Tuple.tupleHashOf (tupleKeyHash knd (ks1,done).1 :: ((ks1,done):List K×List K).2.map knd.hash))=(if (decide (-(2:Int) ^ 63≤Builtin.Tuple.tupleHashOf (tupleKeyHash knd ks1 :: done.map knd.hash)) && decide (Builtin.Tuple.tupleHashOf (tupleKeyHash knd ks1 :: done.map knd.hash) < 2 ^ 63))=true then _ else _) from rfl] at h
  by_cases hr:(decide (-(2:Int) ^ 63≤Builtin.Tuple.tupleHashOf (tupleKeyHash knd ks1 :: done.map knd.hash)) && decide (Builtin.Tuple.tupleHashOf (tupleKeyHash knd ks1 :: done.map knd.hash) < 2 ^ 63))=true
  ·rw [if_pos hr]
   rw [if_pos hr] at h
   exact wpAny_pure (by simpa [Nat.add_assoc] using h)
  ·rw [if_neg hr]
   rw [if_neg hr] at h
   exact wpAny_bind (wpAny_rule (wpAny_pure (by simpa [Nat.add_assoc] using h)))
theorem ja {x y:List K×List K} {a b:Addr} (hu:A.units < cLine) {P:Fin→Shared→Prop} (hx:IsNestKey knd s.heap x a) (hy:IsNestKey knd s.heap y b) (h:P (.done (.ret (.bool (decide (x=y))))) s) :
  wpAny (model prog w) A (Builtin.«tuple.__eq__» ⟨[.ref a,.ref b],[]⟩) P E s:=by
 have hTb:=hy.typeIs
 obtain ⟨x1,x⟩:=x
 obtain ⟨y1,y⟩:=y
 obtain ⟨oa,xs,na,qa,xv,hoa,_,hda,hia,hqa,hxa⟩:=hx
 obtain ⟨ob,ys,nb,qb,yv,hob,_,hdb,hib,hqb,hyb⟩:=hy
 have hqa:IsTupleKey knd s.heap x1 qa:=hqa
 have hqb:IsTupleKey knd s.heap y1 qb:=hqb
 have hxa:ItemsAre knd x xv:=hxa
 have hyb:ItemsAre knd y yv:=hyb
 have szx:xs.size=xv.length + 1:=by rw [← Array.length_toList,hia]; rfl
 have szy:ys.size=yv.length + 1:=by rw [← Array.length_toList,hib]; rfl
 show wpAny _ _ (isInstance (.ref b) (.type "tuple") >>= _) _ _ s
 refine wpAny_bind (wpAny_isInstance hTb isSubtype_tuple_tuple ?_)
 simp only [Bool.not_true,Bool.false_eq_true,if_false]
 refine wpAny_bind (wpAny_tupleItemsOf hoa hda ?_)
 refine wpAny_bind (wpAny_tupleItemsOf hob hdb ?_)
 refine wpAny_bind ?_
 rw [hia,hib,List.zip_cons_cons,List.forIn_cons]
 refine wpAny_bind (wpAny_bind (wpAny_eqBool_tuple hu hqa hqb ?_))
 by_cases h1:x1=y1
 case neg =>
  rw [decide_eq_false h1]
  simp only [Bool.not_false,if_true]
  have hf:decide ((x1,x)=(y1,y))=false:=by simp [h1]
  rw [hf] at h
  exact wpAny_bind (wpAny_pure (wpAny_pure (wpAny_pure (wpAny_pure h))))
 subst h1
 rw [decide_eq_true rfl]
 simp only [Bool.not_true,Bool.false_eq_true,if_false]
 have h:P (.done (.ret (.bool (decide (x=y))))) s:=by
  have e:decide ((x1,x)=(x1,y))=decide (x=y):=by simp
  rw [← e]; exact h
 refine wpAny_pure ?_
 show wpAny _ _ (forIn (List.zip xv yv) _ _) _ _ _
 refine wpAny_forIn_list _
  (fun rest r s'=>r.1=none∧s'=s∧∃x' y' xs' ys',rest=List.zip xs' ys'∧ItemsAre knd x' xs'∧ItemsAre knd y' ys'∧decide (x'=y')=decide (x=y)∧(xs'.length == ys'.length)=(xs.size == ys.size))
  _ ?_ ?_ _ _ ⟨rfl,rfl,x,y,xv,yv,rfl,hxa,hyb,rfl,by rw [szx,szy]; simp⟩
 ·rintro ⟨u,v⟩ rest r s' ⟨hr,rfl,x',y',xs',ys',hz,hx',hy',hdec,hlen⟩
  cases hx' with
  | nil=>simp at hz
  | @cons k1 u' x'' xs'' h1 hx'' =>
   cases hy' with
   | nil=>simp at hz
   | @cons k2 v' y'' ys'' h2 hy'' =>
    simp only [List.zip_cons_cons,List.cons.injEq,Prod.mk.injEq] at hz
    obtain ⟨⟨rfl,rfl⟩,rfl⟩:=hz
    refine wpAny_bind (knd.eqBool (a:=k1) (b:=k2) h1 h2 ?_)
    by_cases hk:k1=k2
    ·subst hk
     rw [decide_eq_true rfl]
     simp only [Bool.not_true,Bool.false_eq_true,if_false]
     refine wpAny_pure ⟨rfl,rfl,x'',y'',xs'',ys'',rfl,hx'',hy'',?_,by simpa using hlen⟩
     rw [← hdec]
     by_cases hxy:x''=y''
     ·simp [hxy]
     ·simp [hxy]
    ·rw [decide_eq_false hk]
     simp only [Bool.not_false,if_true]
     have hf:decide (x=y)=false:=by rw [← hdec]; simp [hk]
     rw [hf] at h
     exact wpAny_bind (wpAny_pure (wpAny_pure (wpAny_pure h)))
 ·rintro ⟨r1,r2⟩ s' ⟨hr,rfl,x',y',xs',ys',hz,hx',hy',hdec,hlen⟩
  simp only at hr
  subst hr
  refine wpAny_pure ?_
  have hfin:(xs.size == ys.size)=decide (x=y):=by
   rw [← hdec,← hlen]
   cases hx' with
   | nil =>
    cases hy' with
    | nil=>simp
    | cons _ _=>simp
   | cons _ _ =>
    cases hy' with
    | nil=>simp
    | cons _ _=>simp at hz
  show P (.done (.ret (.bool (xs.size == ys.size)))) s'
  rw [hfin]; exact h
theorem eQ {x y:List K×List K} {a b:Addr} {Q:Bool→Shared→Prop} (hu:A.units + 1 < cLine) (hx:IsNestKey knd s.heap x a) (hy:IsNestKey knd s.heap y b) (h:Q (decide (x=y)) s) :
  wpAny (model prog w) A (eqBool (.ref a) (.ref b)) Q E s:=by
 unfold eqBool
 try with_reducible refine wpAny_holding ?_
 show wpAny _ _ (if (Value.ref a == Value.ref b)=true then _ else _) Q E s
 by_cases hab:(Value.ref a == Value.ref b)=true
 ·rw [if_pos hab]
  have e:a=b:=by have:=eq_of_beq hab; injection this
  subst e
  obtain rfl:=hx.inj hy
  exact wpAny_bind (wpAny_rule (wpAny_pure (by simpa using h)))
 ·rw [if_neg hab]
  exact wpAny_bind (wpAny_richCompare_same_room (op:=.Eq) hx.typeIs hy.typeIs F.slot_tuple_eq
   (wpAny_call_entry F.slot_tuple_eq hx.typeIs F.entry_tuple_eq (ja (by show A.units + 1 < cLine; exact hu) hx hy ⟨_,rfl,(fun e=>nomatch e),wpAny_truthy_bool h⟩) (F.args_tuple_eq_2 _ _)) (by omega))
theorem uQ {ks:List K} {a:Addr} {Q:Bool→Shared→Prop} (hk:IsTupleKey knd s.heap ks a) (h:Q true s):wpAny (model prog w) A (eqIsQuiet 7 (.ref a)) Q E s:=by
 have hT:=hk.typeIs
 obtain ⟨o,items,n,ho,_,hd,hi⟩:=hk
 unfold eqIsQuiet
 refine wpAny_bind (wpAny_specialOf hT F.slot_tuple_eq.lookup ?_)
 show wpAny _ _ (isInstance (.ref a) (.type "tuple") >>= _) _ _ s
 refine wpAny_bind (wpAny_isInstance hT isSubtype_tuple_tuple ?_)
 simp only [Bool.not_true,Bool.false_eq_true,if_false]
 refine wpAny_bind (wpAny_seqItems ho hd ?_)
 refine wpAny_bind ?_
 show wpAny _ _ (forIn items _ _) _ _ s
 rw [← Array.forIn_toList]
 refine wpAny_forIn_list _ (fun rest r s'=>r.1=none∧s'=s∧∀v∈rest,carriedByValue v=true) _ ?_ ?_ _ _ ⟨rfl,rfl,hi.byValue⟩
 ·rintro v rest r s' ⟨hr,rfl,hall⟩
  rw [eqIsQuiet_byValue _ (hall v List.mem_cons_self)]
  refine wpAny_bind (wpAny_pure ?_)
  simp only [Bool.not_true,Bool.false_eq_true,if_false]
  exact wpAny_pure ⟨rfl,rfl,fun u hu'=>hall u (List.mem_cons_of_mem _ hu')⟩
 ·rintro ⟨r1,r2⟩ s' ⟨hr,rfl,_⟩
  simp only at hr
  subst hr
  exact wpAny_pure h
theorem dL {ks:List K×List K} {a:Addr} {Q:Bool→Shared→Prop} (hk:IsNestKey knd s.heap ks a) (h:Q true s):wpAny (model prog w) A (eqIsQuiet 8 (.ref a)) Q E s:=by
 have hT:=hk.typeIs
 obtain ⟨ks1,ks⟩:=ks
 obtain ⟨o,items,n,q,vs,ho,_,hd,hi,hq,hi2⟩:=hk
 have hq:IsTupleKey knd s.heap ks1 q:=hq
 have hi2:ItemsAre knd ks vs:=hi2
 unfold eqIsQuiet
 refine wpAny_bind (wpAny_specialOf hT F.slot_tuple_eq.lookup ?_)
 show wpAny _ _ (isInstance (.ref a) (.type "tuple") >>= _) _ _ s
 refine wpAny_bind (wpAny_isInstance hT isSubtype_tuple_tuple ?_)
 simp only [Bool.not_true,Bool.false_eq_true,if_false]
 refine wpAny_bind (wpAny_seqItems ho hd ?_)
 refine wpAny_bind ?_
 show wpAny _ _ (forIn items _ _) _ _ s
 rw [← Array.forIn_toList,hi,List.forIn_cons]
 refine wpAny_bind (wpAny_bind (uQ hq ?_))
 simp only [Bool.not_true,Bool.false_eq_true,if_false]
 refine wpAny_pure ?_
 show wpAny _ _ (forIn vs _ _) _ _ _
 refine wpAny_forIn_list _ (fun rest r s'=>r.1=none∧s'=s∧∀v∈rest,carriedByValue v=true) _ ?_ ?_ _ _ ⟨rfl,rfl,hi2.byValue⟩
 ·rintro v rest r s' ⟨hr,rfl,hall⟩
  rw [eqIsQuiet_byValue _ (hall v List.mem_cons_self)]
  refine wpAny_bind (wpAny_pure ?_)
  simp only [Bool.not_true,Bool.false_eq_true,if_false]
  exact wpAny_pure ⟨rfl,rfl,fun u hu'=>hall u (List.mem_cons_of_mem _ hu')⟩
 ·rintro ⟨r1,r2⟩ s' ⟨hr,rfl,_⟩
  simp only at hr
  subst hr
  exact wpAny_pure h
end
def eS {prog:Program} {w:World} {K:Type} [DecidableEq K] (knd:KeyKind prog w K):HeapKind prog w (List K×List K) where
 is:=IsNestKey knd
 hash:=dJ knd
 draws:=fun ks=>ks.1.length + 1 + ks.2.length + 1
 room:=fun A=>A.units + 1 < cLine
 inj:=fun hx hy=>hx.inj hy
 keeps:=fun x ho hd hs=>x.keeps ho hd hs
 pyHash:=fun hu hk h=>eO hu hk h
 eqBool:=fun hu hx hy h=>eQ hu hx hy h
 quiet:=fun hk h=>dL hk h
end PySem
set_option Elab.async false
set_option linter.all false
set_option maxRecDepth 100000
namespace L2
open PySem PySem.Spec PyProof.Rows
abbrev NK:=List Key×List Key
abbrev KN:List (NK×Addr×V)→List (NK×Addr×Value)→Prop:=Paired fun p q=>p.1=q.1∧p.2.1=q.2.1∧RelV p.2.2 q.2.2
def Nph (P:Program) (w:World) (a:Addr) (ks:List (NK×Addr×V)) (h:Heap):Prop:=∃xs:List (NK×Addr×Value),KN ks xs∧∃o es ep,h.get? a=some o∧o.ExactDict∧o.data=.dict es ep∧es.toList=xs.map (entryOfKey (eS (bH P w)))∧(xs.map (·.1)).Nodup
abbrev NdO (P:Program) (w:World) (a:Addr) (ks:List (NK×Addr×V)):HO:=.ext (Nph P w a ks)
def NkAt (H:Hp) (p:Addr) (k:NK):Prop:=∃q,H p=some (.tup (.ref q :: k.2.map kV))∧H q=some (.tup (k.1.map kV))
theorem NkAt.keep {H H':Hp} (t:∀c xs,H c=some (.tup xs)→H' c=some (.tup xs)) {p:Addr} {k:NK} (h:NkAt H p k):NkAt H' p k:=by
 obtain ⟨q,h1,h2⟩:=h
 exact ⟨q,t _ _ h1,t _ _ h2⟩
def NDict (P:Program) (w:World) (H:Hp) (a:Addr) (kvs:List (NK×V)):Prop:=∃ks:List (NK×Addr×V),H a=some (NdO P w a ks)∧(a == sysModules)=false∧ks.length≤sizeLine∧kvs=ks.map (fun x=>(x.1,x.2.2))∧∀x∈ks,NkAt H x.2.1 x.1
theorem NDict.keep {P:Program} {w:World} {H H':Hp} {a:Addr} {kvs:List (NK×V)} (h:NDict P w H a kvs) (ha:∀o,H a=some o→H' a=some o) (t:∀c xs,H c=some (.tup xs)→H' c=some (.tup xs)):NDict P w H' a kvs:=by
 obtain ⟨ks,h1,h2,h3,h4,h5⟩:=h
 exact ⟨ks,ha _ h1,h2,h3,h4,fun x hx=>(h5 x hx).keep t⟩
theorem NDict.same {P:Program} {w:World} {H H':Hp} {a:Addr} {kvs:List (NK×V)} (h:NDict P w H a kvs) (s:∀c o,H c=some o→H' c=some o):NDict P w H' a kvs:=h.keep (s a) fun c xs=>s c _
theorem NDict.tup {P:Program} {w:World} {H:Hp} {a c:Addr} {kvs:List (NK×V)} {xs:List V} (h:NDict P w H a kvs) (e:H c=some (.tup xs)):c≠a:=fun z=>by
 obtain ⟨ks,h1,_⟩:=h
 rw [z,h1] at e; cases e
theorem NDict.some {P:Program} {w:World} {H:Hp} {a:Addr} {kvs:List (NK×V)} (h:NDict P w H a kvs):H a≠none:=fun z=>by
 obtain ⟨ks,h1,_⟩:=h
 rw [z] at h1; cases h1
theorem KN.val {ks:List (NK×Addr×V)} {xs:List (NK×Addr×Value)} (r:KN ks xs) (k:NK):RelO (cx (ks.map fun x=>(x.1,x.2.2)) k) ((atKey xs k).map (·.2)):=by
 induction r with
 | nil=>exact True.intro
 | @cons p q ps qs h t ih =>
  obtain ⟨h1,_,h2⟩:=h
  rw [List.map_cons]
  by_cases e:p.1=k
  ·have e':q.1=k:=h1.symm.trans e
   have b:atKey (q :: qs) k=some q.2:=by simp [atKey,List.find?_cons,e']
   rw [bJ (by exact e),b]; exact h2
  ·have e':¬ q.1=k:=fun z=>e (h1.trans z)
   have b:atKey (q :: qs) k=atKey qs k:=by simp [atKey,List.find?_cons,e']
   rw [bK (by exact e),b]; exact ih
def hV (ks:List (NK×Addr×V)) (k:NK) (p:Addr) (v:V):List (NK×Addr×V):=if (ks.any fun x=>decide (x.1=k))=true then ks.map (fun x=>if x.1=k then (x.1,x.2.1,v) else x) else ks ++ [(k,p,v)]
theorem qo (ks:List (NK×Addr×V)) (k:NK) (p:Addr) (v:V):(hV ks k p v).map (fun x=>(x.1,x.2.2))=hU (ks.map fun x=>(x.1,x.2.2)) k v:=by
 unfold hV hU
 have e:((ks.map fun x=>(x.1,x.2.2)).any fun kv=>decide (kv.1=k))=(ks.any fun x=>decide (x.1=k)):=by rw [List.any_map]; rfl
 rw [e]
 split
 ·rw [List.map_map,List.map_map]
  refine List.map_congr_left fun x _=>?_
  show (fun x:NK×Addr×V=>(x.1,x.2.2)) (if x.1=k then (x.1,x.2.1,v) else x)=if x.1=k then (x.1,v) else (x.1,x.2.2)
  split <;> rfl
 ·rw [List.map_append]; rfl
theorem KN.put {ks:List (NK×Addr×V)} {xs:List (NK×Addr×Value)} (r:KN ks xs) (k:NK) {b:Addr} {y:V} {u:Value} (ry:RelV y u):KN (hV ks k b y) (storedH xs k b u):=by
 have e:(ks.any fun x=>decide (x.1=k))=(atKey xs k).isSome:=by
  have h:=(r.val k).isSome_eq
  rw [Option.isSome_map] at h
  rw [← h,← eM,List.any_map]; rfl
 unfold hV storedH
 rw [e]
 by_cases q:(atKey xs k).isSome=true
 ·rw [if_pos q,if_pos q]
  clear e q
  induction r with
  | nil=>exact .nil
  | @cons p q ps qs h t ih =>
   rw [List.map_cons,List.map_cons]
   refine .cons ?_ ih
   obtain ⟨h1,h2,h3⟩:=h
   unfold putAt
   by_cases e:p.1=k
   ·rw [if_pos e,if_pos (h1.symm.trans e)]; exact ⟨h1,h2,ry⟩
   ·rw [if_neg e,if_neg (fun z=>e (h1.trans z))]; exact ⟨h1,h2,h3⟩
 ·rw [if_neg q,if_neg q]; exact Paired.snoc r ⟨rfl,rfl,ry⟩
theorem qp {ks:List (NK×Addr×V)} {k:NK} {p:Addr} {v:V} {x:NK×Addr×V} (h:x∈hV ks k p v):(∃y∈ks,y.1=x.1∧y.2.1=x.2.1)∨(x.1=k∧x.2.1=p):=by
 unfold hV at h
 split at h
 ·obtain ⟨y,hy,e⟩:=List.mem_map.mp h
  refine .inl ⟨y,hy,?_⟩
  split at e <;> subst e <;> exact ⟨rfl,rfl⟩
 ·rcases List.mem_append.mp h with h | h
  ·exact .inl ⟨x,h,rfl,rfl⟩
  ·rw [List.mem_singleton.mp h]; exact .inr ⟨rfl,rfl⟩
theorem qr (ks:List (NK×Addr×V)) (k:NK) (p:Addr) (v:V):(hV ks k p v).length≤ks.length + 1:=by
 unfold hV
 split
 ·rw [List.length_map]; omega
 ·rw [List.length_append]; exact Nat.le_refl _
section
variable {X:Cx} {pins:List (Addr×Obj)} {σ:St} {H:Hp} {s:Shared} {a p:Addr} {k:NK} {kvs:List (NK×V)} {A:Around} {E:Value→Shared→Prop}
theorem jb {P:Program} {w:World} {h:Heap} (ok:HOk P w H h) (e:NkAt H p k):(eS (bH P w)).is h k p:=by
 obtain ⟨q,h1,h2⟩:=e
 obtain ⟨_,its,r,o,g1,g2,n,g3⟩:=(show ObjOk P w H h p (.tup (.ref q :: k.2.map kV)) from ok p _ h1)
 cases r with
 | cons hq t =>
  cases hq
  exact ⟨o,_,n,q,_,g1,g2,g3,rfl,uK ok h2,fI t⟩
theorem qt (ok:HOk X.prog X.w H s.heap) (e:NDict X.prog X.w H a kvs):∃ks xs,H a=some (NdO X.prog X.w a ks)∧kvs=ks.map (fun x=>(x.1,x.2.2))∧KN ks xs∧ks.length≤sizeLine∧(a == sysModules)=false∧(∀x∈ks,NkAt H x.2.1 x.1)∧s.heap.DictOfH (eS (bH X.prog X.w)) a xs:=by
 obtain ⟨ks,h1,h2,h3,h4,h5⟩:=e
 obtain ⟨⟨xs,r,o,es,ep,g1,g2,g3,g4,g5⟩,_⟩:=(show ObjOk X.prog X.w H s.heap a (NdO X.prog X.w a ks) from ok a _ h1)
 refine ⟨ks,xs,h1,h4,r,h3,h2,h5,o,es,ep,g1,g2,g3,g4,fun x hx=>?_,g5⟩
 obtain ⟨i,hi⟩:=List.mem_iff_getElem?.mp hx
 have il:i < xs.length:=(List.getElem?_eq_some_iff.mp hi).1
 have lx:ks.length=xs.length:=qm r
 have hk:ks[i]? = some ks[i]:=List.getElem?_eq_getElem (by omega)
 obtain ⟨y,hy,e1,e2,_⟩:=ub r hk
 rw [hi] at hy
 cases hy
 rw [← e1,← e2]
 exact jb ok (h5 _ (List.mem_of_getElem? hk))
theorem nJ {v:V} {Q:Value→Shared→Prop} (hu:A.units + 2 < cLine) (I:Inv X pins σ H s) (g:NDict X.prog X.w H a kvs) (nk:NkAt H p k) (l:cx kvs k=some v) (h:∀w' s',Inv X pins σ H s'→RelV v w'→Q w' s') :
  wpAny (model X.prog X.w) A (getItem (.ref a) (.ref p)) Q E s:=by
 obtain ⟨ks,xs,h1,rfl,r,_,_,_,dd⟩:=qt I.hok g
 obtain ⟨w',hw,rw'⟩:=RelO.some_of (v:=v) (o:=(atKey xs k).map (·.2)) (by rw [← l]; exact r.val k)
 obtain ⟨pp,hp,hp2⟩:=Option.map_eq_some_iff.mp hw
 refine wpAny_getItem_heap (by show A.units + 1 + 1 < cLine; omega) (jb I.hok nk) dd hp ?_
 rw [hp2]
 exact h w' _ (I.tok _) rw'
theorem jD {P:Program} {w:World} {ks:List (NK×Addr×V)}:∀h1 h2:Heap,Nph P w a ks h1→(∀o,h1.get? a=some o→h2.get? a=some o)→Nph P w a ks h2:=fun h1 h2 ⟨xs,r,o,es,ep,g1,g⟩ k=>⟨xs,r,o,es,ep,k _ g1,g⟩
theorem nL {v:V} {u:Value} {Q:Unit→Shared→Prop} (hu:A.units + 2 < cLine) (I:Inv X pins σ H s) (g:NDict X.prog X.w H a kvs) (nk:NkAt H p k) (hl:kvs.length < sizeLine) (rv:RelV v u) (h:∀H' s',Inv X pins σ H' s'→NDict X.prog X.w H' a (hU kvs k v)→(∀c o,c≠a→H c=some o→H' c=some o)→(∀c,H c=none→H' c=none)→Q () s') :
  wpAny (model X.prog X.w) A (setItem (.ref a) (.ref p) u) Q E s:=by
 obtain ⟨ks,xs,h1,rfl,r,z,hd,nks,dd⟩:=qt I.hok g
 rw [List.length_map] at hl
 have lx:ks.length=xs.length:=qm r
 refine wpAny_setItem_heap (hsz:=by omega) (by show A.units + 1 + 1 < cLine; omega) (jb I.hok nk) dd fun h' dd' hs=>?_
 obtain ⟨q,es,ep,hq,h2,h3,h4,_,h5⟩:=dd'
 have I2:Inv X pins σ (upd H a (NdO X.prog X.w a (hV ks k p v))) { s with heap:=h',toks:=s.toks + (eS (bH X.prog X.w)).draws k } :=
  rY I (by rw [h1]; exact True.intro) hs ⟨q,hq⟩ ⟨⟨_,r.put k rv,q,es,ep,hq,h2,h3,h4,h5⟩,⟨q,hq⟩,jD⟩
 have tk:∀c xs,H c=some (.tup xs)→(upd H a (NdO X.prog X.w a (hV ks k p v))) c=some (.tup xs):=fun c xs e=>by
  rw [am (fun z=>by rw [z,h1] at e; cases e)]; exact e
 refine h _ _ I2 ⟨_,ae,hd,by have:=qr ks k p v; omega,(qo ks k p v).symm,fun x hx=>?_⟩ (fun c o n e=>by rw [am n]; exact e) (fun c e=>by rw [am (fun z=>by rw [z,h1] at e; cases e)]; exact e)
 rcases qp hx with ⟨y,hy,e1,e2⟩ | ⟨e1,e2⟩
 ·rw [← e1,← e2]; exact (nks y hy).keep tk
 ·rw [e1,e2]; exact nk.keep tk
end
def zG (P:Program) (w:World):TE:=fun _ H Q=>∀p,H p=none→(∀H',NDict P w H' p []→(∀c o,H c=some o→H' c=some o)→Q (.ref p) H')
def zH (P:Program) (w:World) (td ty:TE):TE:=fun σ H Q=>td σ H fun x H1=>ty σ H1 fun y H2=>∃a v kvs k p,x=.ref a∧y=.ref p∧NDict P w H2 a kvs∧NkAt H2 p k∧cx kvs k=some v∧Q v H2
def zI (P:Program) (w:World) (td ty tv:TE):TS:=fun D σ H=>tv σ H fun v H1=>td σ H1 fun x H2=>ty σ H2 fun y H3=>∃a kvs k p,x=.ref a∧y=.ref p∧NDict P w H3 a kvs∧NkAt H3 p k∧kvs.length < sizeLine∧∀H',NDict P w H' a (hU kvs k v)→(∀c o,c≠a→H3 c=some o→H' c=some o)→(∀c,H3 c=none→H' c=none)→D.nx σ H'
section
variable {X:Cx} {o i value:Expr} {pos pos':Pos} {td ty tv:TE}
theorem mK:PE X (.Dict [] [] pos) (zG X.prog X.w):=fun pins s σ H Q I h=>by
 have hf:=I.hok.fresh (Nat.le_refl s.heap.objs.size)
 have hb:(s.heap.objs.size == sysModules)=false:=beq_eq_false_iff_ne.mpr (Ne.symm (Nat.ne_of_lt I.big))
 refine wpAny_Dict_empty ⟨.ref s.heap.objs.size,_,I.laid (a:=s.heap.objs.size) (o:=NdO X.prog X.w s.heap.objs.size []) (t':=s.toks) (fun _ _ q=>Heap.get?_push_of_some _ q) (Nat.le_refl _) ⟨⟨[],.nil,_,#[],0,Heap.get?_push_size _ rfl,⟨rfl,rfl,rfl⟩,rfl,rfl,List.nodup_nil⟩,⟨_,Heap.get?_push_size _ rfl⟩,jD⟩,rfl,h _ hf _ ⟨[],ae,hb,Nat.zero_le _,rfl,fun x hx=>by simp at hx⟩ fun c o e=>by rw [am (ah e hf)]; exact e⟩
theorem dS (hu:X.A.units + 2 < cLine) (ho:PE X o td) (hi:PE X i ty) (hs:zD i):PE X (.Subscript o i pos) (zH X.prog X.w td ty):=by
 intro pins s σ H Q I h
 refine rZ PySem.F.slot_dict_getitem.lookup hs (thn (ho pins s σ H _ I h) fun u s1 ⟨x,H1,I1,rx,q1⟩=>thn (hi pins s1 σ H1 _ I1 q1) fun iv s2 ⟨y,H2,I2,ry,a,v,kvs,k,p,ex,ey,g,nk,l,q2⟩=>?_)
 subst ex ey
 obtain rfl:u=Value.ref a:=rx
 obtain rfl:iv=Value.ref p:=ry
 obtain ⟨_,_,_,_,_,_,_,_,dd⟩:=qt I2.hok g
 exact ⟨dd.typeIs,nJ hu I2 g nk l fun w' s3 I3 rw'=>⟨v,H2,I3,rw',q2⟩⟩
theorem mL (hu:X.A.units + 2 < cLine) (ho:PE X o td) (hi:PE X i ty) (hv:PE X value tv) (hs:swapsWith value (some (.Subscript o i pos')) pos.line X.env=pure false) :
  PS X (.Assign [.Subscript o i pos'] value pos) (zI X.prog X.w td ty tv):=by
 intro pins s σ H D I h
 refine wpAny_Assign_Subscript (thn (hv pins s σ H _ I h) fun r s1 ⟨v,H1,I1,rv,q1⟩=>thn (ho pins s1 σ H1 _ I1 q1) fun u s2 ⟨x,H2,I2,rx,q2⟩=>thn (hi pins s2 σ H2 _ I2 q2) fun iv s3 ⟨y,H3,I3,ry,a,kvs,k,p,ex,ey,g,nk,l,q3⟩=>?_) hs
 subst ex ey
 obtain rfl:u=Value.ref a:=rx
 obtain rfl:iv=Value.ref p:=ry
 exact nL hu I3 g nk l rv fun H' s4 I4 g' b f=>⟨σ,H',I4,q3 H' g' b f⟩
end
end L2
set_option Elab.async false
set_option linter.all false
set_option maxRecDepth 100000
namespace L2
open PySem PySem.Spec PyProof.Rows
section
variable {P:Program} {w:World} {K:PySem.W.Frag} {mg:Str→Option Value} {base:Heap}
theorem FnOk.weak {k:Nat} {f:Addr} {fd:FuncData} {ps:List Str} {sp:Sp} (F:FnOk P w K mg base CX0 k f fd ps sp):FnOk P w K mg base (CXx P w) k f fd ps sp :=
 ⟨F.len,fun A outer s H args us vs Q E hr he hb hv hs=>codeAny_mono (F.run A outer s H args us vs Q E hr he hb hv hs) fun r s' h=>by
  cases r with
  | ok r=>cases r <;> exact h
  | error e=>exact False.elim h⟩
theorem FnOk.or {CX:CXT} {k:Nat} {f:Addr} {fd:FuncData} {ps:List Str} {sp sp':Sp} (F:FnOk P w K mg base CX k f fd ps sp) (G:FnOk P w K mg base CX k f fd ps sp'):FnOk P w K mg base CX k f fd ps (fun vs H Q E=>sp vs H Q E∨sp' vs H Q E) :=
 ⟨fun vs H Q E h=>h.elim (F.len vs H Q E) (G.len vs H Q E),fun A outer s H args us vs Q E hr he hb hv hs=>hs.elim (F.run A outer s H args us vs Q E hr he hb hv) (G.run A outer s H args us vs Q E hr he hb hv)⟩
variable {N:List Str} {qual:Str} {scope:Scope} {f:Addr} {cd:Value} {A:Around} {outer:List Env} {s₀:Shared} {H₀:Hp} {E:XK}
theorem eU {e:Expr} {tx:TX} (he:PEx (dE (CXx P w) P w K mg base N qual scope f cd A outer s₀ H₀ E) e tx):PE (dE (CXx P w) P w K mg base N qual scope f cd A outer s₀ H₀ E) e (fun σ H Q=>tx σ H Q E) :=
 fun pins s σ H Q I h=>wpAny_mono (he pins s σ H Q E I h) (fun _ _ z=>z) fun v s1 hx=>mJ hx
end
end L2
set_option Elab.async false
set_option linter.all false
set_option maxRecDepth 100000
namespace L2
open PySem PySem.Spec PyProof.Rows
section
variable {X:Cx}
theorem bU:cP X (.builtin "isinstance") (fun xs H Q=>∃a C cv c b,ExK X.K C∧xs=[.ref a,cv]∧H a=some (.ext (IsA a (.ref C)))∧clV cv=some c∧PySem.W.kitOne X.K (.ref C) c=some b∧Q (.bl b) H) :=
 fun pins s σ H xs us Q I rv ⟨a,C,cv,c,b,F0,e1,e2,e3,e4,q⟩=>iT F0 pins s σ H xs us Q I rv ⟨a,cv,c,b,e1,e2,e3,e4,q⟩
theorem dZ:cP X (.builtin "isinstance") (fun xs H Q=>∃a C p cvs cs b,ExK X.K C∧xs=[.ref a,.ref p]∧H a=some (.ext (IsA a (.ref C)))∧H p=some (.tup cvs)∧clVs cvs=some cs∧PySem.W.kitAny X.K (.ref C) cs=some b∧Q (.bl b) H) :=
 fun pins s σ H xs us Q I rv ⟨a,C,p,cvs,cs,b,F0,e1,e2,e3,e4,e5,q⟩=>hJ F0 pins s σ H xs us Q I rv ⟨a,p,cvs,cs,b,e1,e2,e3,e4,e5,q⟩
end
end L2
set_option Elab.async false
set_option linter.all false
set_option maxRecDepth 100000
namespace Pc
open PySem L2
def top (i:Nat):Stmt:=PySem.Challenge.pw_platecuts_k55_refused_turns.main.body.getD i (.Pass ⟨0,0,0,0⟩)
abbrev gI:Stmt:=top 16
abbrev gJ:Stmt:=top 17
abbrev qu:Stmt:=top 18
abbrev bE:Stmt:=top 19
abbrev bG:Stmt:=top 20
abbrev di:Stmt:=top 25
abbrev cz:Stmt:=top 26
abbrev cU:Stmt:=top 27
abbrev cL:Stmt:=top 28
abbrev cg:Stmt:=top 29
abbrev cn:Stmt:=top 36
abbrev gK:Stmt:=top 37
abbrev eV:Stmt:=top 38
abbrev bV:Stmt:=top 39
abbrev dj:Stmt:=top 40
abbrev bo:Stmt:=top 41
abbrev cV:Stmt:=top 44
abbrev cW:Stmt:=top 45
abbrev bp:Stmt:=top 46
abbrev bX:Stmt:=top 49
abbrev bY:Stmt:=top 50
abbrev bq:Stmt:=top 51
abbrev eW:Stmt:=top 55
abbrev eX:Stmt:=top 56
abbrev cA:Stmt:=inClass (top 57) 0
abbrev cG:Stmt:=inClass (top 57) 1
abbrev cH:Stmt:=inClass (top 57) 2
abbrev jE:Stmt:=inClass (top 57) 3
abbrev cq:Stmt:=inClass (top 57) 4
abbrev bZ:Stmt:=inClass (top 57) 5
abbrev cI:Stmt:=inClass (top 57) 6
abbrev qv:Stmt:=top 59
abbrev jF:Stmt:=top 60
abbrev gL:Stmt:=top 61
abbrev jG:Stmt:=top 62
abbrev nM:Stmt:=top 63
abbrev eY:Stmt:=top 64
abbrev dM:Stmt:=top 65
abbrev eZ:Stmt:=top 66
abbrev jH:Stmt:=top 67
section
variable {P:Program} {w:World} {K:PySem.W.Frag} {mg:Str→Option Value} {base:Heap}
structure Blt (mg:Str→Option Value):Prop where
 isi:mg "isinstance" = none
 int:mg "int" = none
 bool:mg "bool" = none
 list:mg "list" = none
 tuple:mg "tuple" = none
 len:mg "len" = none
 range:mg "range" = none
 max:mg "max" = none
 min:mg "min" = none
 abs:mg "abs" = none
 divmod:mg "divmod" = none
 sum:mg "sum" = none
 sorted:mg "sorted" = none
 all:mg "all" = none
 repr:mg "repr" = none
 zip:mg "zip" = none
 enumerate:mg "enumerate" = none
 mostk:∃t,mg "MOST_KINDS" = some (.int 8 t)
 fivek:∃t,mg "THINGS_OF_A_KIND" = some (.int 5 t)
end
theorem fJ {p c:Addr} {H0 H:Hp} {o:HO} (b:But p H0 H) (pt:PotB H p) (h:H c=none):∃H',upd H c o=H'∧H' c=some o∧c≠p∧Same H H'∧But p H0 H'∧PotB H' p :=
 ⟨_,rfl,ae,Ne.symm (pt.ne h),Same.new h,b.trans (But.new h),pt.new h⟩
theorem ao {t u:TS} {D:Ends} {σ:St} {H:Hp} (J:St→Hp→Prop) (h1:∀R:St→Hp→Prop,(∀σ' H',J σ' H'→R σ' H')→t { D with nx:=R } σ H) (h2:∀σ' H',J σ' H'→u D σ' H'):yW t u D σ H:=h1 _ h2
section
variable {P:Program} {w:World} {K:PySem.W.Frag} {mg:Str→Option Value} {base:Heap}
theorem sk:FnScope ["thing","least"] ["thing","least"] (defScope gI):=⟨rfl,rfl,rfl,by decide +kernel,rfl,by decide +kernel,by decide +kernel⟩
theorem qw {f:Addr} {fd:FuncData} (F:Fun K "is_whole" "is_whole" gI f fd) (B:Blt mg):FnOk P w K mg base CX0 1 f fd ["thing","least"] (bN K):=by
 refine F.ok sk (fun vs H Q E h=>?_) (fun cdv A outer s H vs Q E hr h=>?_)
 ·obtain ⟨x,T,l,rfl,_⟩:=h
  rfl
 obtain ⟨x,T,l,rfl,⟨tn,ty⟩,q⟩:=h
 refine ⟨_,ai (au (de (aJ cK rfl B.isi PyProof.Rows.boot_isinstance (aa (pv 0) (aa (cZ (v:=.ty "int") rfl B.int PyProof.Rows.boot_int rfl) ad)))
  (de (oW (aJ cK rfl B.isi PyProof.Rows.boot_isinstance (aa (pv 0) (aa (cZ (v:=.ty "bool") rfl B.bool PyProof.Rows.boot_bool rfl) ad))))
  (dy (bR pC (pv 0) (pv 1) (ay _)))))),?_⟩
 refine ⟨_,rfl,x,_,_,_,_,rfl,ty,rfl,rR T tn,_,rfl,?_⟩
 have tb:=mG ty
 refine cR (fun c=>?_) (fun c=>?_)
 ·refine ⟨_,rfl,x,_,_,_,_,rfl,ty,rfl,ju T tn,_,rfl,_,rfl,?_⟩
  refine cR (fun c2=>?_) (fun c2=>?_)
  ·have hT:(T == "int")=true:=by
    have:(T == "bool")=false:=by simpa using c2
    rw [this,Bool.or_false] at c; exact c
   obtain ⟨i,rfl⟩:=uB ty tn hT
   exact ⟨_,rfl,_,rfl,_,_,rfl,rfl,q⟩
  ·have hT:nA x=true:=by
    rw [← tb]
    cases e:(T == "bool") with
    | true=>rfl
    | false=>rw [e] at c2; exact absurd rfl c2
   cases x <;> first | exact q | (exact absurd hT Bool.false_ne_true)
 ·have hx:aE x l=false:=by
   cases x with
   | int i =>
    exfalso
    have ty':=ty
    generalize hv:Value.type T=tv at ty'
    cases ty' with
    | int=>cases hv; exact c rfl
   | _=>rfl
  rw [hx] at q
  exact q
theorem sr:FnScope ["thing"] ["thing"] (defScope gJ):=⟨rfl,rfl,rfl,by decide +kernel,rfl,by decide +kernel,by decide +kernel⟩
theorem qx {f:Addr} {fd:FuncData} (F:Fun K "is_truth" "is_truth" gJ f fd) (B:Blt mg):FnOk P w K mg base CX0 1 f fd ["thing"] (gf K):=by
 refine F.ok sr (fun vs H Q E h=>?_) (fun cdv A outer s H vs Q E hr h=>?_)
 ·obtain ⟨x,T,rfl,_⟩:=h
  rfl
 obtain ⟨x,T,rfl,⟨tn,ty⟩,q⟩:=h
 refine ⟨_,ai (au (aJ cK rfl B.isi PyProof.Rows.boot_isinstance (aa (pv 0) (aa (cZ (v:=.ty "bool") rfl B.bool PyProof.Rows.boot_bool rfl) ad)))),?_⟩
 refine ⟨_,rfl,x,_,_,_,_,rfl,ty,rfl,ju T tn,?_⟩
 rw [mG ty]
 exact q
theorem zJ:FnScope ["thing"] ["thing"] (defScope qu):=⟨rfl,rfl,rfl,by decide +kernel,rfl,by decide +kernel,by decide +kernel⟩
theorem uR {f:Addr} {fd:FuncData} (F:Fun K "is_row" "is_row" qu f fd) (B:Blt mg):FnOk P w K mg base CX0 1 f fd ["thing"] (jv K):=by
 refine F.ok zJ (fun vs H Q E h=>?_) (fun cdv A outer s H vs Q E hr h=>?_)
 ·obtain ⟨x,T,rfl,_⟩:=h
  rfl
 obtain ⟨x,T,rfl,ty,q⟩:=h
 refine ⟨_,ai (au (aJ iM rfl B.isi PyProof.Rows.boot_isinstance (aa (pv 0) (aa (aq (aa (cZ (v:=.ty "list") rfl B.list PyProof.Rows.boot_list rfl) (aa (cZ (v:=.ty "tuple") rfl B.tuple PyProof.Rows.boot_tuple rfl) ad))) ad)))),?_⟩
 refine ⟨_,rfl,(by show 2≤sizeLine; decide),fun p hp=>?_⟩
 have s1:Same H (upd H p (.tup [.ty "list",.ty "tuple"])):=fun b o e=>by rw [am (ah e hp)]; exact e
 have t2:=Ty.same s1 ty
 exact ⟨x,p,_,_,_,_,rfl,t2.2,ae,rfl,rS T ty.1,q _ s1⟩
theorem scIsKind:FnScope ["thing","wide","high","worth","wanted","turns"] ["thing"] (defScope eW):=⟨rfl,rfl,rfl,by decide +kernel,rfl,by decide +kernel,by decide +kernel⟩
theorem nN {f:Addr} {fd:FuncData} (F:Fun K "is_kind" "is_kind" eW f fd) (B:Blt mg) (DW:Dn P w K mg base "is_whole" ["thing","least"] 1 (bN K)) (DT:Dn P w K mg base "is_truth" ["thing"] 1 (gf K)) (DR:Dn P w K mg base "is_row" ["thing"] 1 (jv K)) :
  FnOk P w K mg base CX0 2 f fd ["thing"] (eI K):=by
 refine F.ok scIsKind (fun vs H Q E h=>?_) (fun cdv A outer s H vs Q E hr h=>?_)
 ·obtain ⟨x,T,rfl,_⟩:=h
  rfl
 obtain ⟨x,T,rfl,ty,q⟩:=h
 obtain ⟨tk,htk⟩:=B.fivek
 have nd:=scIsKind.nd
 refine ⟨_,af (aL (PW.pt (bP (aS (aN (ar DR hr rfl (aa (pv 0) ad)))) (bt (ax jn (aJ bn rfl B.len PySem.boot_len (aa (pv 0) ad)) (aB (v:=.int 5) rfl htk ⟨tk,rfl⟩) (ay _))))) (ai (au aX)) av)
  (af (br (pv 0) (kD rfl (aj (ak (i:=1) nd rfl (Or.inl rfl)) (aj (ak (i:=2) nd rfl (Or.inl rfl)) (aj (ak (i:=3) nd rfl (Or.inl rfl)) (aj (ak (i:=4) nd rfl (Or.inl rfl)) (aj (ak (i:=5) nd rfl (Or.inl rfl)) aQ)))))))
  (af (aL (PW.pt (bP (aS (aN (ar DW hr rfl (aa (pv 1) (aa ag ad))))) (bt (aS (aN (ar DW hr rfl (aa (pv 2) (aa ag ad)))))))) (ai (au aX)) av)
  (ai (au (de (ar DW hr rfl (aa (pv 3) (aa ag ad))) (de (ar DW hr rfl (aa (pv 4) (aa ag ad))) (dy (ar DT hr rfl (aa (pv 5) ad))))))))),?_⟩
 refine ⟨_,rfl,x,T,rfl,ty,fun H1 s1=>⟨_,rfl,?_⟩⟩
 rcases q with ⟨n1,n2,q⟩ | ⟨a,xs,rfl,hx,its,q⟩
 ·have e:(T == "list" || T == "tuple")=false:=by simp [n1,n2]
  rw [e]
  refine aT (aT ?_)
  exact q H1 s1
 ·have e:(T == "list" || T == "tuple")=true:=by
   have t2:=ty.2
   generalize hv:Value.type T=tv at t2
   generalize hr:V.ref a=rv at t2
   cases t2 with
   | lst _=>cases hv; rfl
   | frz _=>cases hv; rfl
   | tup _=>cases hv; rfl
   | dK e=>cases hr; rcases hx with z | z <;> (rw [z] at e; cases e)
   | dT e=>cases hr; rcases hx with z | z <;> (rw [z] at e; cases e)
   | ins=>cases hv
   | _=>cases hr
  rw [e]
  have sq:SqL K H1 a xs∨SqT K H1 a xs:=by
   rcases hx with z | z
   ·exact .inl (SqL.of (s1 _ _ z))
   ·exact .inr (SqT.of (s1 _ _ z))
  refine aI ⟨_,rfl,a,xs,rfl,sq,rfl,_,rfl,?_⟩
  refine cR (fun c=>?_) (fun c=>?_)
  ·have hl:xs.length≠5:=fun z=>by rw [z] at c; exact absurd c (by decide)
   have:iq xs=false:=by
    unfold iq
    split
    ·exact absurd rfl hl
    ·rfl
   rw [this] at q
   exact q H1 s1
  ·have hl:xs.length=5:=by
    by_cases z:xs.length=5
    ·exact z
    ·exfalso
     apply c
     have:¬ (V.int (xs.length:Int)=V.int 5):=fun h=>z (by have:=V.int.inj h; omega)
     rw [decide_eq_false this]; rfl
   obtain ⟨x1,x2,x3,x4,x5,rfl⟩:∃x1 x2 x3 x4 x5,xs=[x1,x2,x3,x4,x5]:=by
    match xs,hl with
    | [a,b,c,d,e],_=>exact ⟨a,b,c,d,e,rfl⟩
   obtain ⟨T1,t1⟩:=its x1 (by simp)
   obtain ⟨T2,t2⟩:=its x2 (by simp)
   obtain ⟨T3,t3⟩:=its x3 (by simp)
   obtain ⟨T4,t4⟩:=its x4 (by simp)
   obtain ⟨T5,t5⟩:=its x5 (by simp)
   refine ⟨_,rfl,a,_,rfl,sq,rfl,x1,_,rfl,x2,_,rfl,x3,_,rfl,x4,_,rfl,x5,_,rfl,rfl,?_⟩
   refine ⟨_,rfl,x1,T1,1,rfl,Ty.same s1 t1,_,rfl,?_⟩
   have q':∀b,iq [x1,x2,x3,x4,x5]=b→Q (.bl b) H1:=fun b e=>by rw [← e]; exact q H1 s1
   have k5:iq [x1,x2,x3,x4,x5]=(aE x1 1 && aE x2 1 && aE x3 0 && aE x4 0 && nA x5):=rfl
   cases w1:aE x1 1 with
   | false =>
    refine aT (aT ?_)
    exact q' false (by rw [k5,w1]; rfl)
   | true =>
    refine aI ⟨_,rfl,x2,T2,1,rfl,Ty.same s1 t2,_,rfl,?_⟩
    cases w2:aE x2 1 with
    | false =>
     refine aT ?_
     exact q' false (by rw [k5,w1,w2]; rfl)
    | true =>
     refine aI ⟨_,rfl,x3,T3,0,rfl,Ty.same s1 t3,_,rfl,?_⟩
     cases w3:aE x3 0 with
     | false =>
      refine aI ?_
      exact q' false (by rw [k5,w1,w2,w3]; rfl)
     | true =>
      refine aT ⟨_,rfl,x4,T4,0,rfl,Ty.same s1 t4,_,rfl,?_⟩
      cases w4:aE x4 0 with
      | false =>
       refine aI ?_
       exact q' false (by rw [k5,w1,w2,w3,w4]; rfl)
      | true =>
       refine aT ⟨_,rfl,x5,T5,rfl,Ty.same s1 t5,?_⟩
       exact q' _ (by rw [k5,w1,w2,w3,w4]; rfl)
end
section
variable {P:Program} {w:World} {K:PySem.W.Frag} {mg:Str→Option Value} {base:Heap}
theorem scInit:FnScope ["self","blade","kinds","kind"] ["self","blade","kinds"] (defScope cA):=⟨rfl,rfl,rfl,by decide +kernel,rfl,by decide +kernel,by decide +kernel⟩
theorem su {f C:Addr} {fd:FuncData} (F:Fun K "__init__" "Shop.__init__" cA f fd) (B:Blt mg) (T:ShopTxt K C) (DW:Dn P w K mg base "is_whole" ["thing","least"] 1 (bN K)) (DR:Dn P w K mg base "is_row" ["thing"] 1 (jv K))
  (DK:Dn P w K mg base "is_kind" ["thing"] 2 (eI K)):FnOk P w K mg base CX0 3 f fd ["self","blade","kinds"] (kH C):=by
 refine F.ok scInit (fun vs H Q E h=>?_) (fun cdv A outer s H vs Q E hr h=>?_)
 ·obtain ⟨x,dx,ks,b,rs,kds,rfl,_⟩:=h
  rfl
 obtain ⟨x,dx,ks,b,rs,kds,rfl,hx,b0,hks,hrs,hgd,n1,n8,q⟩:=h
 have hr1:=hr.mono (show 1≤2 by decide)
 obtain ⟨tk,htk⟩:=B.mostk
 have nd:=scInit.nd
 have n8':(8:Nat) < sizeLine:=by decide
 refine ⟨_,af (aL (aS (aN (ar DW hr1 rfl (aa (pv 1) (aa ag ad))))) ft av)
  (af (aL (PW.pt (bP (aS (aN (ar DR hr1 rfl (aa (pv 2) ad)))) (bt (aS (pE ie ie ag (aJ bn rfl B.len PySem.boot_len (aa (pv 2) ad)) (aB (v:=.int 8) rfl htk ⟨tk,rfl⟩)))))) ft av)
  (af (ce PassesOwn.never rfl (pT (pv 2)) (ak (i:=3) nd rfl (Or.inl rfl)) (ai (aL (aS (aN (ar DK hr rfl (aa (pv 3) ad)))) ft av)))
  (af (pI (pv 0) (pv 1) rfl)
  (ai (pI (pv 0) (fF dY rfl B.tuple PyProof.Rows.boot_tuple (aa (ge (own:=["kind"]) (cs:=[]) (cap:=[]) rfl (pT (pv 2))
   (cf (sc:=defScope cA) (N:=["self","blade","kinds","kind"]) rfl rfl (by decide +kernel))
   (fun _ _ _ _ _=>ak (i:=0) (by show List.Nodup (["kind"]:List Str); decide +kernel) rfl (Or.inl rfl) (Or.inr rfl)) (fun _ _ _ _ _=>cB)
   (fun _ _ _ _ _=>fF (r:=pV K) dY rfl B.tuple PyProof.Rows.boot_tuple (aa (pv 0) ad))) ad)) rfl))))),?_⟩
 refine ⟨_,rfl,.int b,_,0,rfl,.int,_,rfl,?_⟩
 have wb:aE (.int b) 0=true:=decide_eq_true b0
 rw [wb]
 refine aI ?_
 have tyk:∃T,Ty K H (.ref ks) T∧(T == "list" || T == "tuple")=true:=by
  rcases hks with e | e
  ·exact ⟨_,.lst e,rfl⟩
  ·exact ⟨_,.tup e,rfl⟩
 obtain ⟨T0,ty0,te0⟩:=tyk
 refine ⟨_,rfl,.ref ks,T0,rfl,ty0,fun H1 s1=>⟨_,rfl,?_⟩⟩
 rw [te0]
 have sq:∀ {H2:Hp},Same H H2→SqL K H2 ks rs∨SqT K H2 ks rs:=fun s2=>by
  rcases hks with z | z
  ·exact .inl (SqL.of (s2 _ _ z))
  ·exact .inr (SqT.of (s2 _ _ z))
 refine aI ⟨_,rfl,ks,rs,rfl,sq s1,_,_,rfl,rfl,_,rfl,?_⟩
 rw [decide_eq_true (show (1:Int)≤(rs.length:Int) by omega)]
 refine aT ⟨_,_,rfl,rfl,_,rfl,?_⟩
 rw [decide_eq_true (show (rs.length:Int)≤8 by omega)]
 refine aI ?_
 have fo:=Paired.length hrs
 refine pW (j:=2) (a:=ks) (xs:=rs) rfl (hks.imp (fun z=>s1 _ _ z) fun z=>s1 _ _ z) (fun i σ H2=>∃v,σ=[some (.ref x),some (.int b),some (.ref ks),v]∧Same H1 H2) ⟨none,rfl,Same.refl _⟩ (fun i σ H2 _ ⟨_,_,s2⟩ o e=>s2 _ _ e) ?_ ?_
 ·rintro i y σ H2 hi ⟨v,rfl,s2⟩
  obtain ⟨k,hk,rk⟩:=Paired.getR hrs hi
  refine ⟨_,rfl,?_⟩
  simp only [ko,List.append_nil]
  refine nD ((rk.same s1).same s2) (hgd k (List.mem_of_getElem? hk)) fun H3 s3=>⟨_,rfl,aI ?_⟩
  exact ⟨_,rfl,s2.trans s3⟩
 rintro σ H2 ⟨v,rfl,s12⟩
 have s2:Same H H2:=s1.trans s12
 refine ⟨_,rfl,_,rfl,x,C,dx,[],rfl,s2 _ _ hx,T.cl,T.nB,(by show 0 < 1000; decide),?_⟩
 have k3:∀c o,c≠x→H c=some o→(upd H2 x (.ins C dx (cJ "blade_width" (.int b) []))) c=some o:=fun c o n e=>by rw [am n]; exact s2 c o e
 have x3:(upd H2 x (.ins C dx (cJ "blade_width" (.int b) []))) x=some (.ins C dx (cJ "blade_width" (.int b) [])):=ae
 generalize upd H2 x (.ins C dx (cJ "blade_width" (.int b) []))=H3 at k3 x3 ⊢
 have rx:∀c xs,H c=some (.lst xs)∨H c=some (.tup xs)→c≠x:=fun c xs e z=>by
  subst z
  rcases e with e | e <;> (rw [hx] at e; cases e)
 dsimp only [zm,tCB,pJ]
 refine nC (j:=2) (a:=ks) (xs:=rs) rfl (hks.imp (fun z=>k3 _ _ (rx _ _ (.inl z)) z) fun z=>k3 _ _ (rx _ _ (.inr z)) z) (fun i ys H4=>ys.length=i∧Same H3 H4∧Tups H4 ys (kds.take i)) (fun i ys H4 _ ⟨_,s4,_⟩ o e=>s4 _ _ e) ⟨rfl,Same.refl _,.nil⟩ ?_ ?_
 ·rintro i y ys H4 hi ⟨hy,s4,ty4⟩
  have hin:i < rs.length:=(List.getElem?_eq_some_iff.mp hi).1
  obtain ⟨k,hk,rk⟩:=Paired.getR hrs hi
  have tk1:kds.take (i + 1)=kds.take i ++ [k]:=by rw [List.take_add_one,hk]; rfl
  refine ⟨by omega,leS.set rfl,cC ?_⟩
  rcases rk with ⟨a,rfl,h⟩ | ⟨a,rfl,h⟩
  ·have h4:=s4 _ _ (k3 _ _ (rx _ _ (.inr h)) h)
   exact ⟨_,rfl,a,_,rfl,.inr ⟨SqT.of h4,Nx.of hin ⟨by rw [List.length_append,hy]; rfl,s4,by rw [tk1]; exact Paired.snoc ty4 ⟨a,rfl,h4⟩⟩⟩⟩
  ·have h4:=s4 _ _ (k3 _ _ (rx _ _ (.inl h)) h)
   refine ⟨_,rfl,a,_,rfl,.inl ⟨SqL.of h4,fun l hl=>Nx.of hin ⟨by rw [List.length_append,hy]; rfl,fun c o e=>?_,?_⟩⟩⟩
   ·have e4:=s4 c o e
    rw [am (ah e4 hl)]; exact e4
   ·rw [tk1]
    exact Paired.snoc (Tups.keep (fun c xs e=>by rw [am (ah e hl)]; exact e) ty4) ⟨l,rfl,ae⟩
 rintro ys H4 ⟨hy,s4,ty4⟩
 refine ⟨by omega,fun p hp=>?_⟩
 refine ⟨p,ys,rfl,.inl ⟨SqL.of ae,fun r hr'=>?_⟩⟩
 have hpr:r≠p:=fun z=>by rw [z,ae] at hr'; cases hr'
 have hr4:H4 r=none:=by rw [am hpr] at hr'; exact hr'
 have x4:=s4 _ _ x3
 have xp:x≠p:=ah x4 hp
 have xr:x≠r:=ah x4 hr4
 refine ⟨_,rfl,x,C,dx,_,rfl,(by rw [am xr,am xp]; exact x4),T.cl,T.nK,(Nat.lt_of_le_of_lt (dB _ _ _) (by decide)),?_⟩
 rw [fo,List.take_length] at ty4
 refine q _ ⟨dx,r,ys,ae,by rw [am (Ne.symm xr),ae],?_⟩ fun c o n e=>?_
 ·refine Tups.keep (fun c xs e=>?_) ty4
  rw [am (fun z=>by rw [z,x4] at e; cases e),am (ah e hr4),am (ah e hp)]
  exact e
 ·have e4:=s4 _ _ (k3 c o n e)
  rw [am n,am (ah e4 hr4),am (ah e4 hp)]
  exact e4
theorem sw:FnScope ["self"] ["self"] (defScope cG):=⟨rfl,rfl,rfl,by decide +kernel,rfl,by decide +kernel,by decide +kernel⟩
theorem qy {f C:Addr} {fd:FuncData} (F:Fun K "blade" "Shop.blade" cG f fd) (T:ShopTxt K C):FnOk P w K mg base CX0 1 f fd ["self"] (gh C):=by
 refine F.ok sw (fun vs H Q E h=>?_) (fun cdv A outer s H vs Q E hr h=>?_)
 ·obtain ⟨x,b,ks,rfl,_⟩:=h
  rfl
 obtain ⟨x,b,ks,rfl,⟨dx,r,rs,h1,h2,h3⟩,q⟩:=h
 exact ⟨_,ai (au (fE (pv 0) rfl)),_,rfl,x,C,dx,_,_,rfl,h1,T.cl,T.nB,kG _ _,q⟩
theorem sC:FnScope ["self"] ["self"] (defScope cH):=⟨rfl,rfl,rfl,by decide +kernel,rfl,by decide +kernel,by decide +kernel⟩
theorem qz {f C:Addr} {fd:FuncData} (F:Fun K "kinds" "Shop.kinds" cH f fd) (T:ShopTxt K C) (ml:mg "list" = none):FnOk P w K mg base CX0 1 f fd ["self"] (iN C):=by
 refine F.ok sC (fun vs H Q E h=>?_) (fun cdv A outer s H vs Q E hr h=>?_)
 ·obtain ⟨x,b,ks,rfl,_⟩:=h
  rfl
 obtain ⟨x,b,ks,rfl,⟨dx,r,rs,h1,h2,h3⟩,q⟩:=h
 refine ⟨_,ai (au (fF iJ rfl ml PyProof.Rows.boot_list (aa (fE (pv 0) rfl) ad))),?_⟩
 exact ⟨_,rfl,x,C,dx,_,_,rfl,h1,T.cl,T.nK,cS _ _,r,rs,rfl,.inr (SqT.of h2),fun l hl=>q l rs hl h3⟩
end
section
variable {P:Program} {w:World} {K:PySem.W.Frag} {mg:Str→Option Value} {base:Heap}
theorem qA:FnScope ["kind"] ["kind"] (defScope eX):=⟨rfl,rfl,rfl,by decide +kernel,rfl,by decide +kernel,by decide +kernel⟩
theorem nO {f:Addr} {fd:FuncData} (F:Fun K "can_lie_turned" "can_lie_turned" eX f fd):FnOk P w K mg base CX0 1 f fd ["kind"] (eJ K):=by
 refine F.ok qA (fun vs H Q E h=>?_) (fun cdv A outer s H vs Q E hr h=>?_)
 ·obtain ⟨a,k,rfl,_⟩:=h
  rfl
 obtain ⟨a,k,rfl,ha,q⟩:=h
 refine ⟨_,ai (au (de (aD ix_tup (pv 0) ag (fun _ _=>rfl)) (dy (bR jn (aD ix_tup (pv 0) ag (fun _ _=>rfl)) (aD ix_tup (pv 0) ag (fun _ _=>rfl)) (ay _))))),?_⟩
 refine ⟨_,rfl,a,_,4,_,rfl,rfl,SqT.of ha,rfl,_,rfl,?_⟩
 unfold bB at q
 refine cR (fun c=>?_) (fun c=>?_)
 ·rw [c,Bool.true_and] at q
  refine ⟨_,rfl,a,_,0,_,rfl,rfl,SqT.of ha,rfl,_,rfl,a,_,1,_,rfl,rfl,SqT.of ha,rfl,rfl,?_⟩
  rw [iF]
  rw [show (decide (k.w=k.h))=(k.w == k.h) from rfl] at q
  exact q
 ·have c':k.tu=false:=by simpa using c
  rw [c',Bool.false_and] at q
  exact q
theorem scLyings:FnScope ["self","told","number","kind"] ["self"] (defScope cq):=⟨rfl,rfl,rfl,by decide +kernel,rfl,by decide +kernel,by decide +kernel⟩
theorem nP {f C:Addr} {fd:FuncData} (F:Fun K "lyings" "Shop.lyings" cq f fd) (T:ShopTxt K C) (me:mg "enumerate" = none) (DT:Dn P w K mg base "can_lie_turned" ["kind"] 1 (eJ K)) :
  FnOk P w K mg base CX0 2 f fd ["self"] (gF C):=by
 refine F.ok scLyings (fun vs H Q E h=>?_) (fun cdv A outer s H vs Q E hr h=>?_)
 ·obtain ⟨x,b,ks,rfl,_⟩:=h
  rfl
 obtain ⟨x,b,ks,rfl,⟨dx,r,rs,h1,h2,h3⟩,n8,q⟩:=h
 have nd:=scLyings.nd
 refine ⟨_,af (aw (i:=1) nd rfl (Or.inl rfl) (aH ad))
  (af (ce PassesOwn.never rfl (rW rfl me (aa (fE (pv 0) rfl) ad)) (aZ rfl (aj (ak (i:=2) nd rfl (Or.inl rfl)) (aj (ak (i:=3) nd rfl (Or.inl rfl)) aQ)))
   (af (aV (dq PySem.F.plainAttrs_list PySem.F.slot_list_append PySem.F.type_list_append bI (pv 1) (aa (aq (aa (pv 2) (aa aX ad))) ad)))
   (ai (aL (aN (ar DT hr rfl (aa (pv 3) ad)))
    (ai (aV (dq PySem.F.plainAttrs_list PySem.F.slot_list_append PySem.F.type_list_append bI (pv 1) (aa (aq (aa (pv 2) (aa aX ad))) ad)))) av))))
  (ai (au (pv 1)))),?_⟩
 refine ⟨by decide,fun l hl=>?_⟩
 have s1:Same H (upd H l (.lst [])):=Same.new hl
 have l1:(upd H l (.lst ([]:List V))) l=some (.lst []):=ae
 generalize upd H l (.lst ([]:List V))=H1 at s1 l1 ⊢
 have gY:=Paired.length h3
 have n8':(100:Nat) < sizeLine:=by decide
 refine ⟨_,rfl,x,C,dx,_,_,rfl,s1 _ _ h1,T.cl,T.nK,cS _ _,r,rs,rfl,.inr ⟨s1 _ _ h2,?_⟩⟩
 refine qc (f:=HO.tup) (fun _ _ e=>HO.tup.inj e) (xs:=rs) (fun i σ H2=>∃v2 v3 ys,σ=[some (.ref x),some (.ref l),v2,v3]∧Same H H2∧H2 l=some (.lst ys)∧Lys H2 ys (lyK (ks.take i) 0)) ⟨none,none,[],rfl,s1,l1,.nil⟩
  (fun i σ H2 ⟨_,_,_,_,s2,_⟩=>s2 _ _ h2) ?_ ?_
 ·rintro i y p σ H2 hi hp ⟨v2,v3,ys,rfl,s2,l2,y2⟩
  obtain ⟨k,hk,a,rfl,ha⟩:=Paired.getR h3 hi
  have s3:Same H (upd H2 p (.tup [.int i,.ref a])):=s2.trans (Same.new hp)
  have l3:(upd H2 p (.tup [.int (i:Int),.ref a])) l=some (.lst ys):=by rw [am (ah l2 hp)]; exact l2
  have y3:Lys (upd H2 p (.tup [.int (i:Int),.ref a])) ys (lyK (ks.take i) 0):=Lys.keep (fun c xs e=>by rw [am (ah e hp)]; exact e) y2
  have p3:(upd H2 p (.tup [.int (i:Int),.ref a])) p=some (.tup [.int (i:Int),.ref a]):=ae
  generalize upd H2 p (.tup [.int (i:Int),.ref a])=H3 at s3 l3 y3 p3 ⊢
  have hli:i < ks.length:=(List.getElem?_eq_some_iff.mp hk).1
  have ylen:ys.length≤16:=by
   have e1:=Paired.length y2
   have e2:=iU (ks.take i) 0
   rw [List.length_take] at e2
   omega
  have tk1:lyK (ks.take (i + 1)) 0=lyK (ks.take i) 0 ++ lyT i k:=by
   rw [List.take_add_one,hk]
   show lyK (ks.take i ++ [k]) 0=_
   rw [jy,List.length_take,Nat.zero_add,Nat.min_eq_left (Nat.le_of_lt hli)]
  refine ⟨p,_,rfl,SqT.of p3,rfl,_,_,rfl,_,_,rfl,rfl,?_⟩
  refine ⟨_,rfl,.inl ⟨rfl,_,SqL.of l3⟩,_,rfl,(by show 2≤sizeLine; decide),fun t ht=>?_⟩
  have lt:l≠t:=ah l3 ht
  refine ⟨l,ys,_,rfl,rfl,(by rw [am lt]; exact l3),(by omega),?_⟩
  obtain ⟨s4,l4,y4⟩:=qd (b:=false) hl s3 l3 y3 ht
  generalize upd (upd H3 t (.tup [.int (i:Int),.bl false])) l (.lst (ys ++ [.ref t]))=H4 at s4 l4 y4 ⊢
  refine ⟨_,rfl,a,k,rfl,s4 _ _ ha,_,rfl,?_⟩
  refine cR (fun c=>?_) (fun c=>?_)
  ·refine ⟨_,rfl,.inl ⟨rfl,_,SqL.of l4⟩,_,rfl,(by show 2≤sizeLine; decide),fun t' ht'=>?_⟩
   have lt':l≠t':=ah l4 ht'
   refine ⟨l,_,_,rfl,rfl,(by rw [am lt']; exact l4),(by rw [List.length_append]; show ys.length + 1 < sizeLine; omega),?_⟩
   obtain ⟨s5,l5,y5⟩:=qd (b:=true) hl s4 l4 y4 ht'
   refine ⟨_,_,_,rfl,s5,l5,?_⟩
   rw [tk1]
   unfold lyT
   rw [if_pos c]
   rw [show lyK (ks.take i) 0 ++ [(i,false),(i,true)]=lyK (ks.take i) 0 ++ [(i,false)] ++ [(i,true)] by simp]
   exact y5
  ·refine ⟨_,_,_,rfl,s4,l4,?_⟩
   rw [tk1]
   unfold lyT
   rw [if_neg c]
   exact y4
 ·rintro σ H2 ⟨v2,v3,ys,rfl,s2,l2,y2⟩
  rw [gY,List.take_length] at y2
  exact ⟨_,rfl,q l ys H2 hl l2 y2 s2⟩
theorem nQ:FnScope ["self","kind","turned"] ["self","kind","turned"] (defScope bZ):=⟨rfl,rfl,rfl,by decide +kernel,rfl,by decide +kernel,by decide +kernel⟩
theorem kP {f C:Addr} {fd:FuncData} (F:Fun K "is_lying" "Shop.is_lying" bZ f fd) (B:Blt mg) (T:ShopTxt K C) (DW:Dn P w K mg base "is_whole" ["thing","least"] 1 (bN K)) (DU:Dn P w K mg base "is_truth" ["thing"] 1 (gf K)) (DT:Dn P w K mg base "can_lie_turned" ["kind"] 1 (eJ K)) :
  FnOk P w K mg base CX0 2 f fd ["self","kind","turned"] (cT K C):=by
 refine F.ok nQ (fun vs H Q E h=>?_) (fun cdv A outer s H vs Q E hr h=>?_)
 ·obtain ⟨s,b,ks,x,t,T0,U,rfl,_⟩:=h
  rfl
 obtain ⟨s,b,ks,x,t,T0,U,rfl,⟨dx,r,rs,h1,h2,h3⟩,tx,tt,q⟩:=h
 have gY:=Paired.length h3
 refine ⟨_,af (aL (PW.pt (bP (aS (aN (ar DW hr rfl (aa (pv 1) (aa ag ad))))) (bP (ax pC (pv 1) (aJ bn rfl B.len PySem.boot_len (aa (fE (pv 0) rfl) ad)) (ay _))
   (bt (aS (aN (ar DU hr rfl (aa (pv 2) ad)))))))) (ai (au aX)) av)
  (ai (au (yU (oW (pv 2)) (dy (ar DT hr rfl (aa (aD ix_tup (fE (pv 0) rfl) (pv 1) (fun _ _=>rfl)) ad)))))),?_⟩
 refine ⟨_,rfl,x,_,0,rfl,tx,_,rfl,?_⟩
 cases hw:aE x 0 with
 | false =>
  have e:cN ks x t=false:=by
   cases x with
   | int i =>
    have h0:decide (0≤i)=false:=hw
    cases t <;> first | rfl | (show (decide (0≤i) && _)=false; rw [h0,Bool.false_and])
   | _=>rfl
  rw [e] at q
  exact aT (aT q)
 | true =>
  have ex:∃i,x=.int i∧0≤i:=by
   cases x with
   | int i=>exact ⟨i,rfl,of_decide_eq_true hw⟩
   | _=>cases hw
  obtain ⟨i,rfl,i0⟩:=ex
  refine aI ⟨_,rfl,_,rfl,s,C,dx,_,_,rfl,h1,T.cl,T.nK,cS _ _,r,rs,rfl,.inr (SqT.of h2),i,_,rfl,rfl,_,rfl,?_⟩
  by_cases hi:(rs.length:Int)≤i
  ·rw [decide_eq_true hi]
   have e:cN ks (.int i) t=false:=by
    have hn:ks[i.toNat]? = none:=List.getElem?_eq_none (by omega)
    cases t <;> first | rfl | (show (decide (0≤i) && match ks[i.toNat]? with | some k=>_ | none=>false)=false; rw [hn,Bool.and_false])
   rw [e] at q
   exact aT (aT q)
  ·rw [decide_eq_false hi]
   refine aI ⟨_,rfl,t,_,rfl,tt,_,rfl,?_⟩
   have hlt:i.toNat < ks.length:=by omega
   cases hb:nA t with
   | false =>
    have e:cN ks (.int i) t=false:=by cases t <;> first | rfl | cases hb
    rw [e] at q
    exact aT q
   | true =>
    have ex:∃c,t=.bl c:=by cases t <;> first | exact ⟨_,rfl⟩ | cases hb
    obtain ⟨c,rfl⟩:=ex
    obtain ⟨y,hy⟩:∃y,rs[i.toNat]? = some y:=⟨rs[i.toNat]'(by omega),by simp [show i.toNat < rs.length by omega]⟩
    obtain ⟨k,hk,a,rfl,ha⟩:=Paired.getR h3 hy
    have e:cN ks (.int i) (.bl c)=(!c || bB k):=by
     show (decide (0≤i) && match ks[i.toNat]? with | some k=>(!c || bB k) | none=>false)=_
     rw [hk,decide_eq_true i0,Bool.true_and]
    rw [e] at q
    refine aI ⟨_,rfl,c,rfl,_,rfl,?_⟩
    refine cR (fun d=>?_) (fun d=>?_)
    ·rw [d,Bool.true_or] at q
     exact q
    ·have d':(!c)=false:=by simpa using d
     rw [d',Bool.false_or] at q
     have at':atI rs i=some (.ref a):=by
      have en:ixN rs.length i=some i.toNat:=by
       unfold ixN
       rw [if_pos i0,if_pos (by omega)]
      unfold atI
      rw [en]
      exact hy
     exact ⟨_,rfl,s,C,dx,_,_,rfl,h1,T.cl,T.nK,cS _ _,_,rfl,r,rs,i,_,rfl,rfl,SqT.of h2,at',a,k,rfl,ha,q⟩
end
def qB (k:Kd) (c:Bool):List V:=if c=true then [.int k.h,.int k.w] else [.int k.w,.int k.h]
def gi (K:PySem.W.Frag) (C NL:Addr):Sp:=fun vs H Q E=>∃ (s:Addr) (b:Int) (ks:List Kd) (x t:V) (T U:String),vs=[.ref s,x,t]∧ShopAt C H s b ks∧Ty K H x T∧Ty K H t U ∧
 (cN ks x t=false→E (.ref NL) none H)∧∀ (i:Int) (c:Bool) (k:Kd) (p:Addr),x=.int i→t=.bl c→ks[i.toNat]? = some k→cN ks x t=true→H p=none→Q (.ref p) (upd H p (.tup (qB k c)))
theorem iy {ks:List Kd} {x t:V} (h:cN ks x t=true):∃ (i:Int) (c:Bool) (k:Kd),x=.int i∧t=.bl c∧0≤i∧ks[i.toNat]? = some k:=by
 unfold cN at h
 split at h
 ·rename_i i c
  rw [Bool.and_eq_true] at h
  obtain ⟨h1,h2⟩:=h
  split at h2
  ·rename_i k hk
   exact ⟨i,c,k,rfl,rfl,of_decide_eq_true h1,hk⟩
  ·cases h2
 ·cases h
theorem uS {rs:List V} {i:Int} {v:V} (i0:0≤i) (h:rs[i.toNat]? = some v):atI rs i=some v:=by
 have en:ixN rs.length i=some i.toNat:=by
  unfold ixN
  have:=(List.getElem?_eq_some_iff.mp h).1
  rw [if_pos i0,if_pos (by omega)]
 unfold atI
 rw [en]
 exact h
section
variable {P:Program} {w:World} {K:PySem.W.Frag} {mg:Str→Option Value} {base:Heap}
theorem scSides:FnScope ["self","kind","turned","row"] ["self","kind","turned"] (defScope cI):=⟨rfl,rfl,rfl,by decide +kernel,rfl,by decide +kernel,by decide +kernel⟩
theorem qD {f C NL:Addr} {fd:FuncData} (F:Fun K "sides" "Shop.sides" cI f fd) (T:ShopTxt K C) (ML:Mn P w K mg base C "is_lying" ["self","kind","turned"] 2 (cT K C)) (mn:mg "NoLying" = some (.ref NL)) (ec:ExcC K NL) :
  FnOk P w K mg base (CXx P w) 3 f fd ["self","kind","turned"] (gi K C NL):=by
 refine F.okX scSides (fun vs H Q E h=>?_) (fun cdv A outer s H vs Q E hr h=>?_)
 ·obtain ⟨s,b,ks,x,t,T0,U,rfl,_⟩:=h
  rfl
 obtain ⟨s,b,ks,x,t,T0,U,rfl,S,tx,tt,he,hq⟩:=h
 have nd:=scSides.nd
 refine ⟨_,af (aL (aS (aN (qg (pv 0) T.cl ML hr (aa (pv 1) (aa (pv 2) ad))))) (ai (dG (R:=fun c H=>E c none H) rfl rfl mn ec (aa aM ad) cF)) av)
  (af (aw (i:=3) nd rfl (Or.inl rfl) (aD ix_tup (fE (pv 0) rfl) (pv 1) (fun _ _=>rfl)))
  (af (aL (aN (pv 2)) (ai (au (aq (aa (aD ix_tup (pv 3) ag (fun _ _=>rfl)) (aa (aD ix_tup (pv 3) ag (fun _ _=>rfl)) ad))))) av)
  (ai (au (aq (aa (aD ix_tup (pv 3) ag (fun _ _=>rfl)) (aa (aD ix_tup (pv 3) ag (fun _ _=>rfl)) ad))))))),?_⟩
 obtain ⟨dx,r,rs,h1,h2,h3⟩:=id S
 refine ⟨_,rfl,s,dx,_,rfl,h1,cw _ _ (by decide +kernel) (by decide +kernel),_,rfl,_,rfl,s,b,ks,x,t,T0,U,rfl,S,tx,tt,_,rfl,?_⟩
 cases hl:cN ks x t with
 | false =>
  refine aT ?_
  exact ⟨(by show 1≤sizeLine; decide),he hl⟩
 | true =>
  obtain ⟨i,c,k,rfl,rfl,i0,hk⟩:=iy hl
  have gY:=Paired.length h3
  have hik:=(List.getElem?_eq_some_iff.mp hk).1
  obtain ⟨y,hy⟩:∃y,rs[i.toNat]? = some y:=⟨rs[i.toNat]'(by omega),by simp [show i.toNat < rs.length by omega]⟩
  obtain ⟨k',hk',a,rfl,ha⟩:=Paired.getR h3 hy
  rw [hk] at hk'
  obtain rfl:=Option.some.inj hk'
  refine aI ?_
  refine ⟨_,rfl,s,C,dx,_,_,rfl,h1,T.cl,T.nK,cS _ _,_,rfl,r,rs,i,_,rfl,rfl,SqT.of h2,uS i0 hy,?_⟩
  refine ⟨_,rfl,_,rfl,?_⟩
  cases c with
  | true =>
   refine aT ?_
   refine ⟨_,rfl,a,_,1,_,rfl,rfl,SqT.of ha,rfl,_,rfl,a,_,0,_,rfl,rfl,SqT.of ha,rfl,(by show 2≤sizeLine; decide),fun p hp=>?_⟩
   exact hq i true k p rfl rfl hk hl hp
  | false =>
   refine aI ?_
   refine ⟨_,rfl,a,_,0,_,rfl,rfl,SqT.of ha,rfl,_,rfl,a,_,1,_,rfl,rfl,SqT.of ha,rfl,(by show 2≤sizeLine; decide),fun p hp=>?_⟩
   exact hq i false k p rfl rfl hk hl hp
end
mutual
inductive Dt (p:Addr) (H:Hp):V→PyData→Prop
 | non:Dt p H .non .none
 | bl (b:Bool):Dt p H (.bl b) (.bool b)
 | int (i:Int):Dt p H (.int i) (.int i)
 | str (z:Str):Dt p H (.str z) (.str z)
 | lst {a:Addr} {xs:List V} {ds:List PyData}:a≠p→H a=some (.lst xs)→Dts p H xs ds→Dt p H (.ref a) (.list ds)
 | tup {a:Addr} {xs:List V} {ds:List PyData}:H a=some (.tup xs)→Dts p H xs ds→Dt p H (.ref a) (.tuple ds)
 | emp {a:Addr}:H a=some (.dK [])→Dt p H (.ref a) (.dict [])
inductive Dts (p:Addr) (H:Hp):List V→List PyData→Prop
 | nil:Dts p H [] []
 | cons {x:V} {d:PyData} {xs:List V} {ds:List PyData}:Dt p H x d→Dts p H xs ds→Dts p H (x :: xs) (d :: ds)
end
mutual
theorem Dt.same {p:Addr} {H H':Hp} (s:Same H H'):∀ {v:V} {d:PyData},Dt p H v d→Dt p H' v d
 | _,_,.non=>.non
 | _,_,.bl b=>.bl b
 | _,_,.int i=>.int i
 | _,_,.str z=>.str z
 | _,_,.lst n h r=>.lst n (s _ _ h) (r.same s)
 | _,_,.tup h r=>.tup (s _ _ h) (r.same s)
 | _,_,.emp h=>.emp (s _ _ h)
theorem Dts.same {p:Addr} {H H':Hp} (s:Same H H'):∀ {vs:List V} {ds:List PyData},Dts p H vs ds→Dts p H' vs ds
 | _,_,.nil=>.nil
 | _,_,.cons a r=>.cons (a.same s) (r.same s)
end
theorem Dts.length {p:Addr} {H:Hp}:∀ {vs:List V} {ds:List PyData},Dts p H vs ds→vs.length=ds.length
 | _,_,.nil=>rfl
 | _,_,.cons _ r=>by rw [List.length_cons,List.length_cons,r.length]
theorem Dt.ty {K:PySem.W.Frag} {p:Addr} {H:Hp} {v:V} {d:PyData} (h:Dt p H v d):∃T,Ty K H v T:=by
 cases h with
 | non=>exact ⟨_,Ty.non⟩
 | bl b=>exact ⟨_,Ty.bl⟩
 | int i=>exact ⟨_,Ty.int⟩
 | str z=>exact ⟨_,Ty.str⟩
 | lst _ h _=>exact ⟨_,Ty.lst h⟩
 | tup h _=>exact ⟨_,Ty.tup h⟩
 | emp h=>exact ⟨_,Ty.dK h⟩
mutual
theorem Dt.but {p:Addr} {H H':Hp} (hp:∃xs,H p=some (.lst xs)) (b:But p H H'):∀ {v:V} {d:PyData},Dt p H v d→Dt p H' v d
 | _,_,.non=>.non
 | _,_,.bl b=>.bl b
 | _,_,.int i=>.int i
 | _,_,.str z=>.str z
 | _,_,.lst n h r=>.lst n (b _ _ n h) (r.but hp b)
 | _,_,.tup h r=>.tup (b _ _ (fun z=>by obtain ⟨_,e⟩:=hp; rw [z,e] at h; cases h) h) (r.but hp b)
 | _,_,.emp h=>.emp (b _ _ (fun z=>by obtain ⟨_,e⟩:=hp; rw [z,e] at h; cases h) h)
theorem Dts.but {p:Addr} {H H':Hp} (hp:∃xs,H p=some (.lst xs)) (b:But p H H'):∀ {vs:List V} {ds:List PyData},Dts p H vs ds→Dts p H' vs ds
 | _,_,.nil=>.nil
 | _,_,.cons a r=>.cons (a.but hp b) (r.but hp b)
end
mutual
def wt:PyData→Nat
 | .str z=>z.length + 1
 | .list ds=>wts ds + 1
 | .tuple ds=>wts ds + 1
 | _=>1
def wts:List PyData→Nat
 | []=>0
 | d :: r=>wt d + wts r
end
theorem uc (d:PyData):1≤wt d:=by cases d <;> simp only [wt] <;> omega
def bj:PyData→Option (List PyData)
 | .list ds=>some ds
 | .tuple ds=>some ds
 | _=>none
theorem qE {d x:PyData} {ds:List PyData} (h:bj d=some ds) (hx:x∈ds):sizeOf x < sizeOf d:=by
 have:=List.sizeOf_lt_of_mem hx
 cases d <;> simp only [bj,Option.some.injEq,reduceCtorEq] at h
 ·subst h; simp; omega
 ·subst h; simp; omega
theorem Dt.row {K:PySem.W.Frag} {p:Addr} {H:Hp} {v:V} {d:PyData} (h:Dt p H v d):(bj d=none∧∃T,Ty K H v T∧(T == "list" || T == "tuple")=false)∨∃a xs ds T,bj d=some ds∧v=.ref a∧(H a=some (.lst xs)∨H a=some (.tup xs))∧Dts p H xs ds∧Ty K H v T∧(T == "list" || T == "tuple")=true:=by
 cases h with
 | non=>exact .inl ⟨rfl,_,Ty.non,rfl⟩
 | bl b=>exact .inl ⟨rfl,_,Ty.bl,rfl⟩
 | int i=>exact .inl ⟨rfl,_,Ty.int,rfl⟩
 | str z=>exact .inl ⟨rfl,_,Ty.str,rfl⟩
 | lst _ h r=>exact .inr ⟨_,_,_,_,rfl,rfl,.inl h,r,Ty.lst h,rfl⟩
 | tup h r=>exact .inr ⟨_,_,_,_,rfl,rfl,.inr h,r,Ty.tup h,rfl⟩
 | emp h=>exact .inl ⟨rfl,_,Ty.dK h,rfl⟩
def bw (d:PyData) (z:Str) (n:Nat):Bool:=match bj d with
 | some (.str y :: r)=>decide (r.length + 1=n) && decide (y=z)
 | _=>false
section
variable {P:Program} {w:World} {K:PySem.W.Frag} {mg:Str→Option Value} {base:Heap}
def fb:Sp:=fun vs H Q _=>∃ (pp:Addr) (v:V) (d:PyData) (z:Str) (n:Nat),vs=[v,.str z,.int n]∧1≤n∧Dt pp H v d∧∀H',Same H H'→Q (.bl (bw d z n)) H'
theorem scbegins:FnScope ["thing","word","many"] ["thing","word","many"] (defScope cn):=⟨rfl,rfl,rfl,by decide +kernel,rfl,by decide +kernel,by decide +kernel⟩
theorem nR {f:Addr} {fd:FuncData} (F:Fun K "begins_with" "begins_with" cn f fd) (B:Blt mg) (bs:mg "str" = none) (DR:Dn P w K mg base "is_row" ["thing"] 1 (jv K)):FnOk P w K mg base CX0 2 f fd ["thing","word","many"] (fb):=by
 refine F.ok scbegins (fun vs H Q E h=>?_) (fun cdv A outer s H vs Q E hr h=>?_)
 ·obtain ⟨pp,v,d,z,n,rfl,_⟩:=h
  rfl
 obtain ⟨pp,v,d,z,n,rfl,n1,hd,q⟩:=h
 have nd:=scbegins.nd
 refine ⟨_,(@af _ _ _ _ _ (@aL _ _ _ _ _ _ _ _ (PW.pt (bP (@aS _ _ _ _ (@aN _ _ _ (@ar _ _ _ _ _ _ _ _ _ _ DR hr rfl (@aa _ _ _ _ _ (pv 0) ad rfl) (by decide) rfl rfl) (by intro _; rfl))) (bt (@ax _ _ _ _ _ _ _ _ jn (@aJ _ _ _ _ _ _ _ _ _ bn rfl B.len PySem.boot_len (@aa _ _ _ _ _ (pv 0) ad rfl) (by decide) (by decide) rfl rfl) (pv 2) (ay _))))) (@ai _ _ _ (@au _ _ _ _ aX)) av) (@ai _ _ _ (@au _ _ _ _ (de (@aJ _ _ _ _ _ _ _ _ _ cK rfl B.isi PyProof.Rows.boot_isinstance (@aa _ _ _ _ _ (@aD _ _ _ _ _ _ _ bS (pv 0) ag (fun _ _=>rfl)) (@aa _ _ _ _ _ (cZ (v:=.ty "str") rfl bs PyProof.Rows.boot_str rfl) ad rfl) rfl) (by decide) (by decide) rfl rfl) (dy (@bR _ _ _ _ _ _ _ _ dA (@aD _ _ _ _ _ _ _ bS (pv 0) ag (fun _ _=>rfl)) (pv 1) (ay _))))))),?_⟩
 rcases hd.row (K:=K) with ⟨e,T,ty,hT⟩ | ⟨a,xs,ds,T,e,rfl,hx,dx,ty,hT⟩
 ·refine ⟨_,rfl,v,T,rfl,ty,fun H1 s1=>⟨_,rfl,?_⟩⟩
  rw [hT]
  have q1:=q H1 s1
  unfold bw at q1
  rw [e] at q1
  exact aT (aT q1)
 refine ⟨_,rfl,_,T,rfl,ty,fun H1 s1=>⟨_,rfl,?_⟩⟩
 rw [hT]
 have sq:SqL K H1 a xs∨SqT K H1 a xs:=hx.imp (fun z=>SqL.of (s1 _ _ z)) fun z=>SqT.of (s1 _ _ z)
 refine aI ⟨_,rfl,a,_,rfl,sq,_,rfl,rfl,_,rfl,?_⟩
 have q1:=q H1 s1
 have len:=dx.length
 cases dx with
 | nil =>
  rw [show decide (V.int (([]:List V).length:Int)=V.int (n:Int))=false from decide_eq_false (fun z=>by have:=V.int.inj z; simp at this; omega)]
  unfold bw at q1
  rw [e] at q1
  exact aT q1
 | @cons x d1 xs ds hd1 dr =>
  have a0:atI (x :: xs) 0=some x:=bh (Int.le_refl _) rfl
  have ixs:∀Q':VK,Q' x H1→rIx K (.ref a) (.int 0) H1 Q':=fun Q' h=>sq.elim (fun z=>.inl ⟨a,_,0,x,rfl,rfl,z,a0,h⟩) (fun z=>.inr (.inl ⟨a,_,0,x,rfl,rfl,z,a0,h⟩))
  rw [List.length_cons,List.length_cons] at len
  by_cases hn:ds.length + 1=n
  ·rw [show decide (V.int ((x :: xs).length:Int)=V.int (n:Int))=true from decide_eq_true (by rw [List.length_cons,len,hn])]
   refine aI ⟨_,rfl,ixs _ ?_⟩
   cases hd1 with
   | str y =>
    refine ⟨_,_,_,_,_,rfl,(Ty.str (K:=K)).2,rfl,dg "str" (by simp [aK]),_,rfl,aT ?_⟩
    refine ⟨_,rfl,ixs _ ⟨_,rfl,rfl,?_⟩⟩
    unfold bw at q1
    rw [e] at q1
    simp only [hn,decide_true,Bool.true_and] at q1
    rw [show decide (V.str y=V.str z)=decide (y=z) from decide_eq_decide.mpr ⟨V.str.inj,congrArg _⟩]
    exact q1
   | non=>exact ⟨_,_,_,_,_,rfl,(Ty.non (K:=K)).2,rfl,dg "NoneType" (by simp [aK]),_,rfl,aI (by unfold bw at q1; rw [e] at q1; exact q1)⟩
   | bl b=>exact ⟨_,_,_,_,_,rfl,(Ty.bl (K:=K)).2,rfl,dg "bool" (by simp [aK]),_,rfl,aI (by unfold bw at q1; rw [e] at q1; exact q1)⟩
   | int i=>exact ⟨_,_,_,_,_,rfl,(Ty.int (K:=K)).2,rfl,dg "int" (by simp [aK]),_,rfl,aI (by unfold bw at q1; rw [e] at q1; exact q1)⟩
   | lst _ h r=>exact ⟨_,_,_,_,_,rfl,(Ty.lst (s1 _ _ h) (K:=K)).2,rfl,dg "list" (by simp [aK]),_,rfl,aI (by unfold bw at q1; rw [e] at q1; exact q1)⟩
   | tup h r=>exact ⟨_,_,_,_,_,rfl,(Ty.tup (s1 _ _ h) (K:=K)).2,rfl,dg "tuple" (by simp [aK]),_,rfl,aI (by unfold bw at q1; rw [e] at q1; exact q1)⟩
   | emp h=>exact ⟨_,_,_,_,_,rfl,(Ty.dK (s1 _ _ h) (K:=K)).2,rfl,dg "dict" (by simp [aK]),_,rfl,aI (by unfold bw at q1; rw [e] at q1; exact q1)⟩
  ·rw [show decide (V.int ((x :: xs).length:Int)=V.int (n:Int))=false from decide_eq_false (fun z=>hn (by have:=V.int.inj z; rw [List.length_cons,len] at this; omega))]
   refine aT ?_
   have z:bw d z n=false:=by
    unfold bw
    rw [e]
    cases d1 <;> simp [hn]
   rw [z] at q1
   exact q1
def sd1 (k:Kd) (c:Bool):Int:=if c=true then k.h else k.w
def sd2 (k:Kd) (c:Bool):Int:=if c=true then k.w else k.h
theorem jI (k:Kd) (c:Bool):qB k c=[.int (sd1 k c),.int (sd2 k c)]:=by cases c <;> rfl
def eC (ks:List Kd) (w h:Int) (kv tv xv yv:V):Bool:=cN ks kv tv && aE xv 0 && aE yv 0 && (match kv,tv,xv,yv with
 | .int i,.bl c,.int x,.int y=>(match ks[i.toNat]? with
  | some k=>decide (x + sd1 k c≤w) && decide (y + sd2 k c≤h)
  | none=>false)
 | _,_,_,_=>false)
def jc (K:PySem.W.Frag) (C:Addr):Sp:=fun vs H Q _=>∃ (s:Addr) (b:Int) (ks:List Kd) (w h:Int) (kv tv xv yv:V) (T1 T2 T3 T4:String),vs=[.ref s,.int w,.int h,kv,tv,xv,yv]∧ShopAt C H s b ks∧Ty K H kv T1∧Ty K H tv T2∧Ty K H xv T3∧Ty K H yv T4∧∀H',Same H H'→Q (.bl (eC ks w h kv tv xv yv)) H'
theorem scliesG:FnScope ["shop","wide","high","kind","turned","x","y","piece_wide","piece_high"] ["shop","wide","high","kind","turned","x","y"] (defScope di):=⟨rfl,rfl,rfl,by decide +kernel,rfl,by decide +kernel,by decide +kernel⟩
theorem qF {f C NL:Addr} {fd:FuncData} (F:Fun K "lies_in" "lies_in" di f fd) (T:ShopTxt K C) (DW:Dn P w K mg base "is_whole" ["thing","least"] 1 (bN K)) (MI:Mn P w K mg base C "is_lying" ["self","kind","turned"] 2 (cT K C)) (MS:MnX P w K mg base C "sides" ["self","kind","turned"] 3 (gi K C NL)):FnOk P w K mg base CX0 4 f fd ["shop","wide","high","kind","turned","x","y"] (jc K C):=by
 refine F.ok scliesG (fun vs H Q E h=>?_) (fun cdv A outer s H vs Q E hr h=>?_)
 ·obtain ⟨s,b,ks,w1,h1,kv,tv,xv,yv,T1,T2,T3,T4,rfl,_⟩:=h
  rfl
 obtain ⟨s,b,ks,w1,h1',kv,tv,xv,yv,T1,T2,T3,T4,rfl,S,t1,t2,t3,t4,q⟩:=h
 have nd:=scliesG.nd
 have hr1:=hr.mono (show 1≤3 by decide)
 have hr2:=hr.mono (show 2≤3 by decide)
 refine ⟨_,(@af _ _ _ _ _ (@aL _ _ _ _ _ _ _ _ (PW.pt (bP (@aS _ _ _ _ (@aN _ _ _ (qg (pv 0) T.cl MI hr2 (@aa _ _ _ _ _ (pv 3) (@aa _ _ _ _ _ (pv 4) ad rfl) rfl)) (by intro _; rfl))) (bP (@aS _ _ _ _ (@aN _ _ _ (@ar _ _ _ _ _ _ _ _ _ _ DW hr1 rfl (@aa _ _ _ _ _ (pv 5) (@aa _ _ _ _ _ ag ad rfl) rfl) (by decide) rfl rfl) (by intro _; rfl))) (bt (@aS _ _ _ _ (@aN _ _ _ (@ar _ _ _ _ _ _ _ _ _ _ DW hr1 rfl (@aa _ _ _ _ _ (pv 6) (@aa _ _ _ _ _ ag ad rfl) rfl) (by decide) rfl rfl) (by intro _; rfl))))))) (@ai _ _ _ (@au _ _ _ _ aX)) av) (@af _ _ _ _ _ (@br _ _ _ _ _ _ (qh (pv 0) T.cl MS hr (@aa _ _ _ _ _ (pv 3) (@aa _ _ _ _ _ (pv 4) ad rfl) rfl)) (aZ rfl (aj (ak (i:=7) nd rfl (Or.inl rfl)) (aj (ak (i:=8) nd rfl (Or.inl rfl)) aQ))) rfl rfl rfl) (@ai _ _ _ (@au _ _ _ _ (de (@bR _ _ _ _ _ _ _ _ ie (@az _ _ _ _ _ _ _ _ aW (pv 5) (pv 7)) (pv 1) (ay _)) (dy (@bR _ _ _ _ _ _ _ _ ie (@az _ _ _ _ _ _ _ _ aW (pv 6) (pv 8)) (pv 2) (ay _)))))))),?_⟩
 obtain ⟨dx,r,rs,h1,h2,h3⟩:=id S
 refine ⟨_,rfl,s,dx,_,rfl,h1,(cw _ _ (by decide +kernel) (by decide +kernel)),_,rfl,_,rfl,s,b,ks,kv,tv,T1,T2,rfl,S,t1,t2,_,rfl,?_⟩
 cases ly:cN ks kv tv with
 | false =>
  have q1:=q H (Same.refl _)
  unfold eC at q1
  rw [ly] at q1
  exact aT (aT q1)
 | true =>
 refine aI ⟨_,rfl,xv,T3,0,rfl,t3,_,rfl,?_⟩
 cases hx:aE xv 0 with
 | false =>
  have q1:=q H (Same.refl _)
  unfold eC at q1
  rw [ly,hx] at q1
  exact aT (aT q1)
 | true =>
 refine aI ⟨_,rfl,yv,T4,0,rfl,t4,_,rfl,?_⟩
 cases hy:aE yv 0 with
 | false =>
  have q1:=q H (Same.refl _)
  unfold eC at q1
  rw [ly,hx,hy] at q1
  exact aT q1
 | true =>
 refine aI ?_
 obtain ⟨i,c,k,rfl,rfl,i0,hk⟩:=iy ly
 obtain ⟨x1,rfl⟩:∃i,xv=.int i:=by cases xv <;> first | exact ⟨_,rfl⟩ | cases hx
 obtain ⟨y1,rfl⟩:∃i,yv=.int i:=by cases yv <;> first | exact ⟨_,rfl⟩ | cases hy
 refine ⟨_,rfl,s,dx,_,rfl,h1,(cw _ _ (by decide +kernel) (by decide +kernel)),_,rfl,_,rfl,s,b,ks,.int i,.bl c,T1,T2,rfl,S,t1,t2,fun z=>absurd z (by rw [ly]; decide),fun i' c' k' p e1 e2 hk' _ hp=>?_⟩
 cases e1
 cases e2
 rw [hk] at hk'
 cases hk'
 rw [jI]
 have q1:=q _ (Same.new hp (o:=.tup [.int (sd1 k c),.int (sd2 k c)]))
 refine ⟨p,_,rfl,SqT.of ae,rfl,_,_,rfl,_,_,rfl,rfl,?_⟩
 refine ⟨_,rfl,_,rfl,_,_,rfl,rfl,_,rfl,_,_,rfl,rfl,_,rfl,?_⟩
 unfold eC at q1
 rw [ly,hx,hy] at q1
 simp only [hk,Bool.true_and] at q1
 refine cR (fun cc=>?_) (fun cc=>?_)
 ·refine ⟨_,rfl,_,rfl,_,_,rfl,rfl,_,rfl,_,_,rfl,rfl,?_⟩
  rw [cc,Bool.true_and] at q1
  exact q1
 ·rw [show decide (x1 + sd1 k c≤w1)=false by simpa using cc,Bool.false_and] at q1
  exact q1
end
section
variable {P:Program} {w:World} {K:PySem.W.Frag} {mg:Str→Option Value} {base:Heap}
structure TrC (K:PySem.W.Frag) (mg:Str→Option Value) (wa:Addr):Prop where
 dn:∃t,mg "DOWN" = some (.str "down" t)
 rs:∃t,mg "REST" = some (.str "rest" t)
 pc:∃t,mg "PIECE" = some (.str "piece" t)
 n1:∃t,mg "THINGS_OF_A_REST" = some (.int 1 t)
 n5:∃t,mg "THINGS_OF_A_PIECE" = some (.int 5 t)
 n4:∃t,mg "THINGS_OF_A_CUT" = some (.int 4 t)
 wy:mg "WAYS" = some (.ref wa)
 wq:∀H,SqT K H wa [.str "down",.str "across"]
def sD (b side:Int):PyData→Bool
 | .int p=>decide (1≤p) && decide (p + b < side)
 | _=>false
def ee (b side:Int) (d:PyData):Bool:=match bj d with
 | some [_,p,_,_]=>sD b side p
 | _=>false
def isC (b w h:Int) (d:PyData):Bool:=if bw d "down" 4=true then ee b w d else if bw d "across" 4=true then ee b h d else false
def jd (ks:List Kd) (w h:Int):PyData→PyData→PyData→PyData→Bool
 | .int i,.bool c,.int x,.int y=>eC ks w h (.int i) (.bl c) (.int x) (.int y)
 | _,_,_,_=>false
def isL (ks:List Kd) (w h:Int) (d:PyData):Bool:=if bw d "piece" 5=true then (match bj d with
 | some [_,k,t,x,y]=>jd ks w h k t x y
 | _=>false) else bw d "rest" 1
def fc:Sp:=fun vs H Q _=>∃ (b w h p:Int) (t:Addr) (dn:Bool),vs=[.int b,.ref t,.str (if dn=true then "down" else "across"),.int p]∧H t=some (.tup [.int w,.int h]) ∧
 ∀ (u t1 t2:Addr) (H':Hp),H' u=some (.tup [.ref t1,.ref t2])→H' t1=some (.tup (if dn=true then [.int p,.int h] else [.int w,.int p]))→H' t2=some (.tup (if dn=true then [.int (w - p - b),.int h] else [.int w,.int (h - p - b)]))→Same H H'→Q (.ref u) H'
def qG:Sp:=fun vs H Q _=>∃ (pp:Addr) (b x y w h:Int) (sp:Addr) (v:V) (d:PyData),vs=[.int b,.ref sp]∧H sp=some (.tup [.int x,.int y,.int w,.int h,v])∧Dt pp H v d∧∀H',Same H H'→Q (.bl (isC b w h d)) H'
def kQ (C:Addr):Sp:=fun vs H Q _=>∃ (pp:Addr) (b' x y w h:Int) (s sp:Addr) (ks:List Kd) (v:V) (d:PyData),vs=[.ref s,.ref sp]∧ShopAt C H s b' ks∧H sp=some (.tup [.int x,.int y,.int w,.int h,v])∧Dt pp H v d∧∀H',Same H H'→Q (.bl (isL ks w h d)) H'
def gM:Sp:=fun vs H Q _=>∃ (b x y w h p:Int) (sp a:Addr) (dn:Bool) (l r:V),vs=[.int b,.ref sp]∧H sp=some (.tup [.int x,.int y,.int w,.int h,.ref a])∧(H a=some (.lst [.str (if dn=true then "down" else "across"),.int p,l,r])∨H a=some (.tup [.str (if dn=true then "down" else "across"),.int p,l,r])) ∧
 ∀ (u t1 t2:Addr) (H':Hp),H u=none→H' u=some (.lst [.ref t1,.ref t2])→H' t1=some (.tup (if dn=true then [.int x,.int y,.int p,.int h,l] else [.int x,.int y,.int w,.int p,l])) →
  H' t2=some (.tup (if dn=true then [.int (x + (p + b)),.int y,.int (w - p - b),.int h,r] else [.int x,.int (y + (p + b)),.int w,.int (h - p - b),r]))→Same H H'→Q (.ref u) H'
theorem scparts2:FnScope ["blade","part","way","p","wide","high"] ["blade","part","way","p"] (defScope cU):=⟨rfl,rfl,rfl,by decide +kernel,rfl,by decide +kernel,by decide +kernel⟩
theorem nS {f wa:Addr} {fd:FuncData} (F:Fun K "cut_parts" "cut_parts" cU f fd) (Z:TrC K mg wa):FnOk P w K mg base CX0 1 f fd ["blade","part","way","p"] (fc):=by
 refine F.ok scparts2 (fun vs H Q E h=>?_) (fun cdv A outer s H vs Q E hr h=>?_)
 ·obtain ⟨b,w1,h1,p1,t,dn,rfl,_⟩:=h
  rfl
 obtain ⟨b,w1,h1,p1,t,dn,rfl,ht,q⟩:=h
 have nd:=scparts2.nd
 obtain ⟨tdn,hdn⟩:=Z.dn
 obtain ⟨trs,hrs⟩:=Z.rs
 obtain ⟨tpc,hpc⟩:=Z.pc
 obtain ⟨tn1,hn1⟩:=Z.n1
 obtain ⟨tn5,hn5⟩:=Z.n5
 obtain ⟨tn4,hn4⟩:=Z.n4
 refine ⟨_,(@af _ _ _ _ _ (@br _ _ _ _ _ _ (pv 1) (aZ rfl (aj (ak (i:=4) nd rfl (Or.inl rfl)) (aj (ak (i:=5) nd rfl (Or.inl rfl)) aQ))) rfl rfl rfl) (@af _ _ _ _ _ (@aL _ _ _ _ _ _ _ _ (@ax _ _ _ _ _ _ _ _ dA (pv 2) (aB (v:=.str "down") rfl hdn ⟨tdn,rfl⟩) (ay _)) (@ai _ _ _ (@au _ _ _ _ (@aq _ _ _ _ _ (@aa _ _ _ _ _ (@aq _ _ _ _ _ (@aa _ _ _ _ _ (pv 3) (@aa _ _ _ _ _ (pv 5) ad rfl) rfl)) (@aa _ _ _ _ _ (@aq _ _ _ _ _ (@aa _ _ _ _ _ (@az _ _ _ _ _ _ _ _ bQ (@az _ _ _ _ _ _ _ _ bQ (pv 4) (pv 3)) (pv 0)) (@aa _ _ _ _ _ (pv 5) ad rfl) rfl)) ad rfl) rfl)))) av) (@ai _ _ _ (@au _ _ _ _ (@aq _ _ _ _ _ (@aa _ _ _ _ _ (@aq _ _ _ _ _ (@aa _ _ _ _ _ (pv 4) (@aa _ _ _ _ _ (pv 3) ad rfl) rfl)) (@aa _ _ _ _ _ (@aq _ _ _ _ _ (@aa _ _ _ _ _ (pv 4) (@aa _ _ _ _ _ (@az _ _ _ _ _ _ _ _ bQ (@az _ _ _ _ _ _ _ _ bQ (pv 5) (pv 3)) (pv 0)) ad rfl) rfl)) ad rfl) rfl)))))),?_⟩
 refine ⟨_,rfl,t,_,rfl,SqT.of ht,rfl,_,_,rfl,_,_,rfl,rfl,?_⟩
 cases dn with
 | true =>
  refine ⟨_,rfl,rfl,_,rfl,aT ?_⟩
  refine ⟨_,rfl,_,rfl,(by show 2≤sizeLine; decide),fun t1 h1'=>?_⟩
  have sa:Same H (upd H t1 (.tup [.int p1,.int h1])):=Same.new h1'
  have ka:(upd H t1 (.tup [.int p1,.int h1])) t1=some (.tup [.int p1,.int h1]):=ae
  generalize upd H t1 (.tup [.int p1,.int h1])=Ha at sa ka ⊢
  refine ⟨_,rfl,_,rfl,_,_,rfl,rfl,_,rfl,_,_,rfl,rfl,_,rfl,(by show 2≤sizeLine; decide),fun t2 h2'=>?_⟩
  have sb:Same Ha (upd Ha t2 (.tup [.int (w1 - p1 - b),.int h1])):=Same.new h2'
  have kb:(upd Ha t2 (.tup [.int (w1 - p1 - b),.int h1])) t2=some (.tup [.int (w1 - p1 - b),.int h1]):=ae
  generalize upd Ha t2 (.tup [.int (w1 - p1 - b),.int h1])=Hb at sb kb ⊢
  refine ⟨(by show 2≤sizeLine; decide),fun u hu=>?_⟩
  have sc:Same Hb (upd Hb u (.tup [.ref t1,.ref t2])):=Same.new hu
  have kc:(upd Hb u (.tup [.ref t1,.ref t2])) u=some (.tup [.ref t1,.ref t2]):=ae
  generalize upd Hb u (.tup [.ref t1,.ref t2])=Hc at sc kc ⊢
  exact q u t1 t2 Hc kc (sc _ _ (sb _ _ ka)) (sc _ _ kb) ((sa.trans sb).trans sc)
 | false =>
  refine ⟨_,rfl,rfl,_,rfl,aI ?_⟩
  refine ⟨_,rfl,_,rfl,(by show 2≤sizeLine; decide),fun t1 h1'=>?_⟩
  have sa:Same H (upd H t1 (.tup [.int w1,.int p1])):=Same.new h1'
  have ka:(upd H t1 (.tup [.int w1,.int p1])) t1=some (.tup [.int w1,.int p1]):=ae
  generalize upd H t1 (.tup [.int w1,.int p1])=Ha at sa ka ⊢
  refine ⟨_,rfl,_,rfl,_,rfl,_,_,rfl,rfl,_,rfl,_,_,rfl,rfl,(by show 2≤sizeLine; decide),fun t2 h2'=>?_⟩
  have sb:Same Ha (upd Ha t2 (.tup [.int w1,.int (h1 - p1 - b)])):=Same.new h2'
  have kb:(upd Ha t2 (.tup [.int w1,.int (h1 - p1 - b)])) t2=some (.tup [.int w1,.int (h1 - p1 - b)]):=ae
  generalize upd Ha t2 (.tup [.int w1,.int (h1 - p1 - b)])=Hb at sb kb ⊢
  refine ⟨(by show 2≤sizeLine; decide),fun u hu=>?_⟩
  have sc:Same Hb (upd Hb u (.tup [.ref t1,.ref t2])):=Same.new hu
  have kc:(upd Hb u (.tup [.ref t1,.ref t2])) u=some (.tup [.ref t1,.ref t2]):=ae
  generalize upd Hb u (.tup [.ref t1,.ref t2])=Hc at sc kc ⊢
  exact q u t1 t2 Hc kc (sc _ _ (sb _ _ ka)) (sc _ _ kb) ((sa.trans sb).trans sc)
theorem gN {d:PyData} {z:Str} {n:Nat} (h:bw d z n=true):∃r,bj d=some (.str z :: r)∧r.length + 1=n:=by
 unfold bw at h
 split at h
 ·rename_i y r e
  rw [Bool.and_eq_true] at h
  have:=of_decide_eq_true h.2
  subst this
  exact ⟨r,e,of_decide_eq_true h.1⟩
 ·cases h
theorem Dt.ref_row {p:Addr} {H:Hp} {v:V} {d:PyData} {ds:List PyData} (h:Dt p H v d) (e:bj d=some ds):∃a xs,v=.ref a∧(H a=some (.lst xs)∨H a=some (.tup xs))∧Dts p H xs ds:=by
 cases h <;> simp only [bj,Option.some.injEq,reduceCtorEq] at e
 ·subst e; exact ⟨_,_,rfl,.inl ‹_›,‹_›⟩
 ·subst e; exact ⟨_,_,rfl,.inr ‹_›,‹_›⟩
theorem ixR {H H1:Hp} {a:Addr} {xs:List V} (s1:Same H H1) (hx:H a=some (.lst xs)∨H a=some (.tup xs)) {i:Int} {x:V} (e:atI xs i=some x) {Q':VK} (h:Q' x H1):rIx K (.ref a) (.int i) H1 Q' :=
 hx.elim (fun z=>.inl ⟨a,_,i,x,rfl,rfl,SqL.of (s1 _ _ z),e,h⟩) (fun z=>.inr (.inl ⟨a,_,i,x,rfl,rfl,SqT.of (s1 _ _ z),e,h⟩))
theorem sccut:FnScope ["blade","spot","tree","way","side"] ["blade","spot"] (defScope gK):=⟨rfl,rfl,rfl,by decide +kernel,rfl,by decide +kernel,by decide +kernel⟩
theorem uT {f wa:Addr} {fd:FuncData} (F:Fun K "is_cut" "is_cut" gK f fd) (Z:TrC K mg wa) (DB:Dn P w K mg base "begins_with" ["thing","word","many"] 2 fb) (DW:Dn P w K mg base "is_whole" ["thing","least"] 1 (bN K)):FnOk P w K mg base CX0 3 f fd ["blade","spot"] (qG):=by
 refine F.ok sccut (fun vs H Q E h=>?_) (fun cdv A outer s H vs Q E hr h=>?_)
 ·obtain ⟨pp,b,x1,y1,w1,h1,sp,v,d,rfl,_⟩:=h
  rfl
 obtain ⟨pp,b,x0',y0',w1,h1,sp,v,d,rfl,hsp,hd,q⟩:=h
 have nd:=sccut.nd
 obtain ⟨tdn,hdn⟩:=Z.dn
 obtain ⟨trs,hrs⟩:=Z.rs
 obtain ⟨tpc,hpc⟩:=Z.pc
 obtain ⟨tn1,hn1⟩:=Z.n1
 obtain ⟨tn5,hn5⟩:=Z.n5
 obtain ⟨tn4,hn4⟩:=Z.n4
 have hr1:=hr.mono (show 1≤2 by decide)
 refine ⟨_,(@af _ _ _ _ _ (@aw _ _ 2 _ _ _ _ nd rfl (Or.inl rfl) (@aD _ _ _ _ _ _ _ ix_tup (pv 1) ag (fun _ _=>rfl)) rfl (Or.inl rfl)) (@af _ _ _ _ _ (@ce _ _ _ _ _ _ _ _ PassesOwn.never rfl (jW (aB (v:=.ref wa) rfl Z.wy rfl)) (ak (i:=3) nd rfl (Or.inl rfl)) (@ai _ _ _ (@aL _ _ _ _ _ _ _ _ (@aN _ _ _ (@ar _ _ _ _ _ _ _ _ _ _ DB hr rfl (@aa _ _ _ _ _ (pv 2) (@aa _ _ _ _ _ (pv 3) (@aa _ _ _ _ _ (aB (v:=.int 4) rfl hn4 ⟨tn4,rfl⟩) ad rfl) rfl) rfl) (by decide) rfl rfl) (by intro _; rfl)) (@af _ _ _ _ _ (@aw _ _ 4 _ _ _ _ nd rfl (Or.inl rfl) (gn (@ax _ _ _ _ _ _ _ _ dA (pv 3) (aB (v:=.str "down") rfl hdn ⟨tdn,rfl⟩) (ay _)) (@aD _ _ _ _ _ _ _ ix_tup (pv 1) ag (fun _ _=>rfl)) (@aD _ _ _ _ _ _ _ ix_tup (pv 1) ag (fun _ _=>rfl))) rfl (Or.inl rfl)) (@ai _ _ _ (@au _ _ _ _ (de (@ar _ _ _ _ _ _ _ _ _ _ DW hr1 rfl (@aa _ _ _ _ _ (@aD _ _ _ _ _ _ _ bS (pv 2) ag (fun _ _=>rfl)) (@aa _ _ _ _ _ ag ad rfl) rfl) (by decide) rfl rfl) (dy (@bR _ _ _ _ _ _ _ _ zh (@az _ _ _ _ _ _ _ _ aW (@aD _ _ _ _ _ _ _ bS (pv 2) ag (fun _ _=>rfl)) (pv 0)) (pv 4) (ay _))))))) av)) (by intro _; rfl)) (@ai _ _ _ (@au _ _ _ _ aX)))),?_⟩
 refine ⟨_,rfl,sp,_,4,_,rfl,rfl,SqT.of hsp,rfl,?_⟩
 refine ⟨wa, rfl, ⟨_, Z.wq H⟩, iE (xs:=[.str "down", .str "across"]) (fun i σ H'=>(∃v3 v4, σ=[some (.int b), some (.ref sp), some v, v3, v4])∧Same H H'∧(1≤i→bw d "down" 4=false)∧(2≤i→bw d "across" 4=false)) ⟨⟨_, _, rfl⟩, Same.refl _, fun z=>absurd z (by decide), fun z=>absurd z (by decide)⟩ (fun i σ H' _ _=>Z.wq H') ?_ ?_⟩
 ·rintro i y σ H1 hi ⟨⟨v3,v4,rfl⟩,s1,g1,g2⟩
  match i,hi with
  | 0,hi =>
   cases hi
   refine ⟨_,rfl,_,rfl,pp,v,d,"down",4,rfl,by decide,hd.same s1,fun H2 s12=>⟨_,rfl,?_⟩⟩
   have s2:=s1.trans s12
   refine cR (fun hb=>?_) (fun hb=>⟨⟨_,_,rfl⟩,s2,fun _=>by simpa using hb,fun z=>absurd z (by decide)⟩)
   obtain ⟨r0,er,rl⟩:=gN hb
   obtain ⟨a,xs,rfl,hx,dx⟩:=hd.ref_row er
   cases dx with
   | @cons x0 _ xs0 _ hd0 dx =>
   match r0,rl,dx with
   | [d1,d2,d3],_,.cons (x:=x1) hd1 (.cons (x:=x2) hd2 (.cons (x:=x3) hd3 .nil)) =>
   have sp2:=s2 _ _ hsp
   have co:ee b w1 d=sD b w1 d1:=by
    unfold ee
    rw [er]
   refine ⟨_,rfl,rfl,_,rfl,aT ⟨_,rfl,sp,_,2,_,rfl,rfl,SqT.of sp2,rfl,?_⟩⟩
   have at1:atI [x0,x1,x2,x3] 1=some x1:=bh (by decide) rfl
   obtain ⟨T1,t1⟩:=(hd1.same s2).ty (K:=K)
   refine ⟨_,rfl,ixR s2 hx at1 ⟨x1,T1,1,rfl,t1,_,rfl,?_⟩⟩
   have q1:=q H2 s2
   unfold isC at q1
   rw [if_pos hb,co] at q1
   cases hd1 with
   | int p =>
    have q1:Q (.bl (decide (1≤p) && decide (p + b < w1))) H2:=q1
    refine cR (fun cc=>?_) (fun cc=>?_)
    ·have cc:decide (1≤p)=true:=cc
     refine ⟨_,rfl,ixR s2 hx at1 ⟨_,rfl,_,_,rfl,rfl,_,rfl,_,_,rfl,rfl,?_⟩⟩
     rw [cc,Bool.true_and] at q1
     exact q1
    ·have cc:¬ decide (1≤p)=true:=cc
     rw [show decide (1≤p)=false by simpa using cc,Bool.false_and] at q1
     exact q1
   | _=>exact aI q1
  | 1,hi =>
   cases hi
   have hb0:=g1 (by decide)
   refine ⟨_,rfl,_,rfl,pp,v,d,"across",4,rfl,by decide,hd.same s1,fun H2 s12=>⟨_,rfl,?_⟩⟩
   have s2:=s1.trans s12
   refine cR (fun hb=>?_) (fun hb=>⟨⟨_,_,rfl⟩,s2,fun _=>hb0,fun _=>by simpa using hb⟩)
   obtain ⟨r0,er,rl⟩:=gN hb
   obtain ⟨a,xs,rfl,hx,dx⟩:=hd.ref_row er
   cases dx with
   | @cons x0 _ xs0 _ hd0 dx =>
   match r0,rl,dx with
   | [d1,d2,d3],_,.cons (x:=x1) hd1 (.cons (x:=x2) hd2 (.cons (x:=x3) hd3 .nil)) =>
   have sp2:=s2 _ _ hsp
   have co:ee b h1 d=sD b h1 d1:=by
    unfold ee
    rw [er]
   refine ⟨_,rfl,rfl,_,rfl,aI ⟨_,rfl,sp,_,3,_,rfl,rfl,SqT.of sp2,rfl,?_⟩⟩
   have at1:atI [x0,x1,x2,x3] 1=some x1:=bh (by decide) rfl
   obtain ⟨T1,t1⟩:=(hd1.same s2).ty (K:=K)
   refine ⟨_,rfl,ixR s2 hx at1 ⟨x1,T1,1,rfl,t1,_,rfl,?_⟩⟩
   have q1:=q H2 s2
   unfold isC at q1
   rw [if_neg (by rw [hb0]; decide),if_pos hb,co] at q1
   cases hd1 with
   | int p =>
    have q1:Q (.bl (decide (1≤p) && decide (p + b < h1))) H2:=q1
    refine cR (fun cc=>?_) (fun cc=>?_)
    ·have cc:decide (1≤p)=true:=cc
     refine ⟨_,rfl,ixR s2 hx at1 ⟨_,rfl,_,_,rfl,rfl,_,rfl,_,_,rfl,rfl,?_⟩⟩
     rw [cc,Bool.true_and] at q1
     exact q1
    ·have cc:¬ decide (1≤p)=true:=cc
     rw [show decide (1≤p)=false by simpa using cc,Bool.false_and] at q1
     exact q1
   | _=>exact aI q1
 ·rintro σ H1 ⟨⟨v3,v4,rfl⟩,s1,g1,g2⟩
  have q1:=q H1 s1
  unfold isC at q1
  rw [if_neg (by rw [g1 (by decide)]; decide),if_neg (by rw [g2 (by decide)]; decide)] at q1
  exact q1
theorem ud {C:Addr} {H H':Hp} {s:Addr} {b:Int} {ks:List Kd} (k:Same H H') (S:ShopAt C H s b ks):ShopAt C H' s b ks:=S.keep (fun c o e=>k _ _ e) (fun c C' d fs e=>k _ _ e)
theorem scleaf:FnScope ["shop","spot","x","y","wide","high","tree"] ["shop","spot"] (defScope eV):=⟨rfl,rfl,rfl,by decide +kernel,rfl,by decide +kernel,by decide +kernel⟩
theorem sE {f wa C:Addr} {fd:FuncData} (F:Fun K "is_leaf" "is_leaf" eV f fd) (Z:TrC K mg wa) (DB:Dn P w K mg base "begins_with" ["thing","word","many"] 2 fb) (DL:Dn P w K mg base "lies_in" ["shop","wide","high","kind","turned","x","y"] 4 (jc K C)):FnOk P w K mg base CX0 5 f fd ["shop","spot"] (kQ C):=by
 refine F.ok scleaf (fun vs H Q E h=>?_) (fun cdv A outer s H vs Q E hr h=>?_)
 ·obtain ⟨pp,b',x1,y1,w1,h1,s,sp,ks,v,d,rfl,_⟩:=h
  rfl
 obtain ⟨pp,b',x0',y0',w1,h1,s,sp,ks,v,d,rfl,S,hsp,hd,q⟩:=h
 have nd:=scleaf.nd
 obtain ⟨tdn,hdn⟩:=Z.dn
 obtain ⟨trs,hrs⟩:=Z.rs
 obtain ⟨tpc,hpc⟩:=Z.pc
 obtain ⟨tn1,hn1⟩:=Z.n1
 obtain ⟨tn5,hn5⟩:=Z.n5
 obtain ⟨tn4,hn4⟩:=Z.n4
 have hr2:=hr.mono (show 2≤4 by decide)
 refine ⟨_,(@af _ _ _ _ _ (@br _ _ _ _ _ _ (pv 1) (aZ rfl (aj (ak (i:=2) nd rfl (Or.inl rfl)) (aj (ak (i:=3) nd rfl (Or.inl rfl)) (aj (ak (i:=4) nd rfl (Or.inl rfl)) (aj (ak (i:=5) nd rfl (Or.inl rfl)) (aj (ak (i:=6) nd rfl (Or.inl rfl)) aQ)))))) rfl rfl rfl) (@af _ _ _ _ _ (@aL _ _ _ _ _ _ _ _ (@aN _ _ _ (@ar _ _ _ _ _ _ _ _ _ _ DB hr2 rfl (@aa _ _ _ _ _ (pv 6) (@aa _ _ _ _ _ (aB (v:=.str "piece") rfl hpc ⟨tpc,rfl⟩) (@aa _ _ _ _ _ (aB (v:=.int 5) rfl hn5 ⟨tn5,rfl⟩) ad rfl) rfl) rfl) (by decide) rfl rfl) (by intro _; rfl)) (@ai _ _ _ (@au _ _ _ _ (@ar _ _ _ _ _ _ _ _ _ _ DL hr rfl (@aa _ _ _ _ _ (pv 0) (@aa _ _ _ _ _ (pv 4) (@aa _ _ _ _ _ (pv 5) (@aa _ _ _ _ _ (@aD _ _ _ _ _ _ _ bS (pv 6) ag (fun _ _=>rfl)) (@aa _ _ _ _ _ (@aD _ _ _ _ _ _ _ bS (pv 6) ag (fun _ _=>rfl)) (@aa _ _ _ _ _ (@aD _ _ _ _ _ _ _ bS (pv 6) ag (fun _ _=>rfl)) (@aa _ _ _ _ _ (@aD _ _ _ _ _ _ _ bS (pv 6) ag (fun _ _=>rfl)) ad rfl) rfl) rfl) rfl) rfl) rfl) rfl) (by decide) rfl rfl))) av) (@ai _ _ _ (@au _ _ _ _ (@ar _ _ _ _ _ _ _ _ _ _ DB hr2 rfl (@aa _ _ _ _ _ (pv 6) (@aa _ _ _ _ _ (aB (v:=.str "rest") rfl hrs ⟨trs,rfl⟩) (@aa _ _ _ _ _ (aB (v:=.int 1) rfl hn1 ⟨tn1,rfl⟩) ad rfl) rfl) rfl) (by decide) rfl rfl))))),?_⟩
 refine ⟨_,rfl,sp,_,rfl,SqT.of hsp,rfl,_,_,rfl,_,_,rfl,_,_,rfl,_,_,rfl,_,_,rfl,rfl,?_⟩
 refine ⟨_,rfl,pp,v,d,"piece",5,rfl,by decide,hd,fun H1 s1=>⟨_,rfl,?_⟩⟩
 refine cR (fun hb=>?_) (fun hb=>?_)
 ·obtain ⟨r0,er,rl⟩:=gN hb
  obtain ⟨a,xs,rfl,hx,dx⟩:=hd.ref_row er
  cases dx with
  | @cons x0 _ xs0 _ hd0 dx =>
  match r0,rl,dx with
  | [d1,d2,d3,d4],_,.cons (x:=x1) hd1 (.cons (x:=x2) hd2 (.cons (x:=x3) hd3 (.cons (x:=x4) hd4 .nil))) =>
  have a1:atI [x0,x1,x2,x3,x4] 1=some x1:=bh (by decide) rfl
  have a2:atI [x0,x1,x2,x3,x4] 2=some x2:=bh (by decide) rfl
  have a3:atI [x0,x1,x2,x3,x4] 3=some x3:=bh (by decide) rfl
  have a4:atI [x0,x1,x2,x3,x4] 4=some x4:=bh (by decide) rfl
  obtain ⟨T1,t1⟩:=(hd1.same s1).ty (K:=K)
  obtain ⟨T2,t2⟩:=(hd2.same s1).ty (K:=K)
  obtain ⟨T3,t3⟩:=(hd3.same s1).ty (K:=K)
  obtain ⟨T4,t4⟩:=(hd4.same s1).ty (K:=K)
  refine ⟨_,rfl,_,rfl,_,rfl,_,rfl,ixR s1 hx a1 ⟨_,rfl,ixR s1 hx a2 ⟨_,rfl,ixR s1 hx a3 ⟨_,rfl,ixR s1 hx a4 ?_⟩⟩⟩⟩
  refine ⟨s,b',ks,w1,h1,x1,x2,x3,x4,T1,T2,T3,T4,rfl,ud s1 S,t1,t2,t3,t4,fun H2 s2=>?_⟩
  have q1:=q H2 (s1.trans s2)
  unfold isL at q1
  rw [if_pos hb,er] at q1
  have e:jd ks w1 h1 d1 d2 d3 d4=eC ks w1 h1 x1 x2 x3 x4:=by
   cases hd1 with
   | int i=>cases hd2 with
    | bl c=>cases hd3 with
     | int x=>cases hd4 with
      | int y=>rfl
      | _=>simp [jd,eC,aE]
     | _=>simp [jd,eC,aE]
    | _=>simp [jd,eC,cN]
   | _=>simp [jd,eC,cN]
  have q1:Q (.bl (jd ks w1 h1 d1 d2 d3 d4)) H2:=q1
  rw [e] at q1
  exact q1
 ·refine ⟨_,rfl,pp,v,d,"rest",1,rfl,by decide,hd.same s1,fun H2 s2=>?_⟩
  have q1:=q H2 (s1.trans s2)
  unfold isL at q1
  rw [if_neg hb] at q1
  exact q1
theorem scbehind:FnScope ["blade","spot","x","y","wide","high","tree","way","p","first","second","wide_ahead","high_ahead","wide_behind","high_behind","step","far_x","far_y"] ["blade","spot"] (defScope bV):=⟨rfl,rfl,rfl,by decide +kernel,rfl,by decide +kernel,by decide +kernel⟩
set_option maxHeartbeats 1000000 in
theorem nT {f wa:Addr} {fd:FuncData} (F:Fun K "spots_behind" "spots_behind" bV f fd) (Z:TrC K mg wa) (DP:Dn P w K mg base "cut_parts" ["blade","part","way","p"] 1 fc):FnOk P w K mg base CX0 2 f fd ["blade","spot"] (gM):=by
 refine F.ok scbehind (fun vs H Q E h=>?_) (fun cdv A outer s H vs Q E hr h=>?_)
 ·obtain ⟨b,x1,y1,w1,h1,p1,sp,a,dn,l,r,rfl,_⟩:=h
  rfl
 obtain ⟨b,x1,y1,w1,h1,p1,sp,a,dn,l,r,rfl,hsp,ha,q⟩:=h
 have nd:=scbehind.nd
 obtain ⟨tdn,hdn⟩:=Z.dn
 obtain ⟨trs,hrs⟩:=Z.rs
 obtain ⟨tpc,hpc⟩:=Z.pc
 obtain ⟨tn1,hn1⟩:=Z.n1
 obtain ⟨tn5,hn5⟩:=Z.n5
 obtain ⟨tn4,hn4⟩:=Z.n4
 refine ⟨_,(@af _ _ _ _ _ (@br _ _ _ _ _ _ (pv 1) (aZ rfl (aj (ak (i:=2) nd rfl (Or.inl rfl)) (aj (ak (i:=3) nd rfl (Or.inl rfl)) (aj (ak (i:=4) nd rfl (Or.inl rfl)) (aj (ak (i:=5) nd rfl (Or.inl rfl)) (aj (ak (i:=6) nd rfl (Or.inl rfl)) aQ)))))) rfl rfl rfl) (@af _ _ _ _ _ (@br _ _ _ _ _ _ (pv 6) (kD rfl (aj (ak (i:=7) nd rfl (Or.inl rfl)) (aj (ak (i:=8) nd rfl (Or.inl rfl)) (aj (ak (i:=9) nd rfl (Or.inl rfl)) (aj (ak (i:=10) nd rfl (Or.inl rfl)) aQ))))) rfl rfl rfl) (@af _ _ _ _ _ (@br _ _ _ _ _ _ (@ar _ _ _ _ _ _ _ _ _ _ DP hr rfl (@aa _ _ _ _ _ (pv 0) (@aa _ _ _ _ _ (@aq _ _ _ _ _ (@aa _ _ _ _ _ (pv 4) (@aa _ _ _ _ _ (pv 5) ad rfl) rfl)) (@aa _ _ _ _ _ (pv 7) (@aa _ _ _ _ _ (pv 8) ad rfl) rfl) rfl) rfl) (by decide) rfl rfl) (aZ rfl (aj (aZ rfl (aj (ak (i:=11) nd rfl (Or.inl rfl)) (aj (ak (i:=12) nd rfl (Or.inl rfl)) aQ))) (aj (aZ rfl (aj (ak (i:=13) nd rfl (Or.inl rfl)) (aj (ak (i:=14) nd rfl (Or.inl rfl)) aQ))) aQ))) rfl rfl rfl) (@af _ _ _ _ _ (@aw _ _ 15 _ _ _ _ nd rfl (Or.inl rfl) (@az _ _ _ _ _ _ _ _ aW (pv 8) (pv 0)) rfl (Or.inl rfl)) (@af _ _ _ _ _ (@br _ _ _ _ _ _ (gn (@ax _ _ _ _ _ _ _ _ dA (pv 7) (aB (v:=.str "down") rfl hdn ⟨tdn,rfl⟩) (ay _)) (@aq _ _ _ _ _ (@aa _ _ _ _ _ (@az _ _ _ _ _ _ _ _ aW (pv 2) (pv 15)) (@aa _ _ _ _ _ (pv 3) ad rfl) rfl)) (@aq _ _ _ _ _ (@aa _ _ _ _ _ (pv 2) (@aa _ _ _ _ _ (@az _ _ _ _ _ _ _ _ aW (pv 3) (pv 15)) ad rfl) rfl))) (aZ rfl (aj (ak (i:=16) nd rfl (Or.inl rfl)) (aj (ak (i:=17) nd rfl (Or.inl rfl)) aQ))) rfl rfl rfl) (@ai _ _ _ (@au _ _ _ _ (@aH _ _ _ _ (@aa _ _ _ _ _ (@aq _ _ _ _ _ (@aa _ _ _ _ _ (pv 2) (@aa _ _ _ _ _ (pv 3) (@aa _ _ _ _ _ (pv 11) (@aa _ _ _ _ _ (pv 12) (@aa _ _ _ _ _ (pv 9) ad rfl) rfl) rfl) rfl) rfl)) (@aa _ _ _ _ _ (@aq _ _ _ _ _ (@aa _ _ _ _ _ (pv 16) (@aa _ _ _ _ _ (pv 17) (@aa _ _ _ _ _ (pv 13) (@aa _ _ _ _ _ (pv 14) (@aa _ _ _ _ _ (pv 10) ad rfl) rfl) rfl) rfl) rfl)) ad rfl) rfl))))))))),?_⟩
 refine ⟨_,rfl,sp,_,rfl,SqT.of hsp,rfl,_,_,rfl,_,_,rfl,_,_,rfl,_,_,rfl,_,_,rfl,rfl,?_⟩
 have sq:SqL K H a [.str (if dn=true then "down" else "across"),.int p1,l,r]∨SqT K H a [.str (if dn=true then "down" else "across"),.int p1,l,r]:=ha.imp (fun z=>SqL.of z) fun z=>SqT.of z
 refine ⟨_,rfl,a,_,rfl,sq,rfl,_,_,rfl,_,_,rfl,_,_,rfl,_,_,rfl,rfl,?_⟩
 clear sq
 cases dn with
 | true =>
  refine ⟨_,rfl,_,rfl,_,rfl,(by show 2≤sizeLine; decide),fun tp htp=>?_⟩
  have sa:Same H (upd H tp (.tup [.int w1,.int h1])):=Same.new htp
  have ka:(upd H tp (.tup [.int w1,.int h1])) tp=some (.tup [.int w1,.int h1]):=ae
  generalize upd H tp (.tup [.int w1,.int h1])=Ha at sa ka ⊢
  refine ⟨_,rfl,_,rfl,b,w1,h1,p1,tp,true,rfl,ka,fun u t1 t2 Hb ku k1 k2 sb=>?_⟩
  refine ⟨u,_,rfl,SqT.of ku,rfl,_,_,rfl,t1,_,rfl,SqT.of k1,rfl,_,_,rfl,_,_,rfl,rfl,_,_,rfl,t2,_,rfl,SqT.of k2,rfl,_,_,rfl,_,_,rfl,rfl,rfl,?_⟩
  refine ao (fun σ' H'=>σ'=[some (.int b), some (.ref sp), some (.int x1), some (.int y1), some (.int w1), some (.int h1), some (.ref a), some (.str "down"), some (.int p1), some l, some r, some (.int p1), some (.int h1), some (.int (w1 - p1 - b)), some (.int h1), none, none, none]∧Hb=H') (fun R hR=>hR _ _ ⟨rfl, rfl⟩) ?_
  rintro _ _ ⟨rfl,rfl⟩
  refine ⟨_,rfl,_,rfl,_,_,rfl,rfl,?_⟩
  refine ⟨_,rfl,rfl,_,rfl,aT ⟨_,rfl,_,rfl,_,_,rfl,rfl,_,rfl,(by show 2≤sizeLine; decide),fun tf hf=>?_⟩⟩
  have sd:Same Hb (upd Hb tf (.tup [.int (x1 + (p1 + b)),.int y1])):=Same.new hf
  have kd:(upd Hb tf (.tup [.int (x1 + (p1 + b)),.int y1])) tf=some (.tup [.int (x1 + (p1 + b)),.int y1]):=ae
  generalize upd Hb tf (.tup [.int (x1 + (p1 + b)),.int y1])=Hd at sd kd ⊢
  refine ⟨tf,_,rfl,SqT.of kd,rfl,_,_,rfl,_,_,rfl,rfl,?_⟩
  refine ⟨_,rfl,_,rfl,_,rfl,_,rfl,_,rfl,(by show 5≤sizeLine; decide),fun g1 hg1=>?_⟩
  have se:Same Hd (upd Hd g1 (.tup [.int x1,.int y1,.int p1,.int h1,l])):=Same.new hg1
  have ke:(upd Hd g1 (.tup [.int x1,.int y1,.int p1,.int h1,l])) g1=some (.tup [.int x1,.int y1,.int p1,.int h1,l]):=ae
  generalize upd Hd g1 (.tup [.int x1,.int y1,.int p1,.int h1,l])=He at se ke ⊢
  refine ⟨_,rfl,_,rfl,_,rfl,_,rfl,_,rfl,(by show 5≤sizeLine; decide),fun g2 hg2=>?_⟩
  have sf:Same He (upd He g2 (.tup [.int (x1 + (p1 + b)),.int y1,.int (w1 - p1 - b),.int h1,r])):=Same.new hg2
  have kf:(upd He g2 (.tup [.int (x1 + (p1 + b)),.int y1,.int (w1 - p1 - b),.int h1,r])) g2=some (.tup [.int (x1 + (p1 + b)),.int y1,.int (w1 - p1 - b),.int h1,r]):=ae
  generalize upd He g2 (.tup [.int (x1 + (p1 + b)),.int y1,.int (w1 - p1 - b),.int h1,r])=Hf at sf kf ⊢
  refine ⟨(by show 2≤sizeLine; decide),fun lu hlu=>?_⟩
  have sg:Same Hf (upd Hf lu (.lst [.ref g1,.ref g2])):=Same.new hlu
  have kg:(upd Hf lu (.lst [.ref g1,.ref g2])) lu=some (.lst [.ref g1,.ref g2]):=ae
  generalize upd Hf lu (.lst [.ref g1,.ref g2])=Hg at sg kg ⊢
  have sA:=((((sa.trans sb).trans sd).trans se).trans sf)
  exact q lu g1 g2 Hg (sA.free hlu) kg (sg _ _ (sf _ _ ke)) (sg _ _ kf) (sA.trans sg)
 | false =>
  refine ⟨_,rfl,_,rfl,_,rfl,(by show 2≤sizeLine; decide),fun tp htp=>?_⟩
  have sa:Same H (upd H tp (.tup [.int w1,.int h1])):=Same.new htp
  have ka:(upd H tp (.tup [.int w1,.int h1])) tp=some (.tup [.int w1,.int h1]):=ae
  generalize upd H tp (.tup [.int w1,.int h1])=Ha at sa ka ⊢
  refine ⟨_,rfl,_,rfl,b,w1,h1,p1,tp,false,rfl,ka,fun u t1 t2 Hb ku k1 k2 sb=>?_⟩
  refine ⟨u,_,rfl,SqT.of ku,rfl,_,_,rfl,t1,_,rfl,SqT.of k1,rfl,_,_,rfl,_,_,rfl,rfl,_,_,rfl,t2,_,rfl,SqT.of k2,rfl,_,_,rfl,_,_,rfl,rfl,rfl,?_⟩
  refine ao (fun σ' H'=>σ'=[some (.int b), some (.ref sp), some (.int x1), some (.int y1), some (.int w1), some (.int h1), some (.ref a), some (.str "across"), some (.int p1), some l, some r, some (.int w1), some (.int p1), some (.int w1), some (.int (h1 - p1 - b)), none, none, none]∧Hb=H') (fun R hR=>hR _ _ ⟨rfl, rfl⟩) ?_
  rintro _ _ ⟨rfl,rfl⟩
  refine ⟨_,rfl,_,rfl,_,_,rfl,rfl,?_⟩
  refine ⟨_,rfl,rfl,_,rfl,aI ⟨_,rfl,_,rfl,_,rfl,_,_,rfl,rfl,(by show 2≤sizeLine; decide),fun tf hf=>?_⟩⟩
  have sd:Same Hb (upd Hb tf (.tup [.int x1,.int (y1 + (p1 + b))])):=Same.new hf
  have kd:(upd Hb tf (.tup [.int x1,.int (y1 + (p1 + b))])) tf=some (.tup [.int x1,.int (y1 + (p1 + b))]):=ae
  generalize upd Hb tf (.tup [.int x1,.int (y1 + (p1 + b))])=Hd at sd kd ⊢
  refine ⟨tf,_,rfl,SqT.of kd,rfl,_,_,rfl,_,_,rfl,rfl,?_⟩
  refine ⟨_,rfl,_,rfl,_,rfl,_,rfl,_,rfl,(by show 5≤sizeLine; decide),fun g1 hg1=>?_⟩
  have se:Same Hd (upd Hd g1 (.tup [.int x1,.int y1,.int w1,.int p1,l])):=Same.new hg1
  have ke:(upd Hd g1 (.tup [.int x1,.int y1,.int w1,.int p1,l])) g1=some (.tup [.int x1,.int y1,.int w1,.int p1,l]):=ae
  generalize upd Hd g1 (.tup [.int x1,.int y1,.int w1,.int p1,l])=He at se ke ⊢
  refine ⟨_,rfl,_,rfl,_,rfl,_,rfl,_,rfl,(by show 5≤sizeLine; decide),fun g2 hg2=>?_⟩
  have sf:Same He (upd He g2 (.tup [.int x1,.int (y1 + (p1 + b)),.int w1,.int (h1 - p1 - b),r])):=Same.new hg2
  have kf:(upd He g2 (.tup [.int x1,.int (y1 + (p1 + b)),.int w1,.int (h1 - p1 - b),r])) g2=some (.tup [.int x1,.int (y1 + (p1 + b)),.int w1,.int (h1 - p1 - b),r]):=ae
  generalize upd He g2 (.tup [.int x1,.int (y1 + (p1 + b)),.int w1,.int (h1 - p1 - b),r])=Hf at sf kf ⊢
  refine ⟨(by show 2≤sizeLine; decide),fun lu hlu=>?_⟩
  have sg:Same Hf (upd Hf lu (.lst [.ref g1,.ref g2])):=Same.new hlu
  have kg:(upd Hf lu (.lst [.ref g1,.ref g2])) lu=some (.lst [.ref g1,.ref g2]):=ae
  generalize upd Hf lu (.lst [.ref g1,.ref g2])=Hg at sg kg ⊢
  have sA:=((((sa.trans sb).trans sd).trans se).trans sf)
  exact q lu g1 g2 Hg (sA.free hlu) kg (sg _ _ (sf _ _ ke)) (sg _ _ kf) (sA.trans sg)
end
def isT (b:Int) (ks:List Kd) (w h:Int) (d:PyData):Bool :=
 if isC b w h d=true then
  match e:bj d with
  | some [_,.int p,l,r]=>if bw d "down" 4=true then isT b ks p h l && isT b ks (w - p - b) h r else isT b ks w p l && isT b ks w (h - p - b) r
  | _=>false
 else isL ks w h d
termination_by sizeOf d
decreasing_by all_goals (apply qE e; simp)
theorem fe {b:Int} {ks:List Kd} {w h:Int} {d:PyData} (hc:isC b w h d=false):isT b ks w h d=isL ks w h d:=by
 rw [isT,if_neg (by rw [hc]; decide)]
theorem mM {b:Int} {ks:List Kd} {w h:Int} {d:PyData} (hc:isC b w h d=true):∃ (dn:Bool) (p:Int) (l r:PyData),bj d=some [.str (if dn=true then "down" else "across"),.int p,l,r]∧1≤p∧(dn=true→p + b < w)∧(dn=false→p + b < h) ∧
  isT b ks w h d=(if dn=true then isT b ks p h l && isT b ks (w - p - b) h r else isT b ks w p l && isT b ks w (h - p - b) r):=by
 have key:∀side,ee b side d=true→∃x p l r,bj d=some [x,.int p,l,r]∧1≤p∧p + b < side:=fun side h=>by
  unfold ee at h
  split at h
  ·rename_i x p l r e
   unfold sD at h
   split at h
   ·rename_i p'
    rw [Bool.and_eq_true] at h
    exact ⟨x,p',l,r,e,of_decide_eq_true h.1,of_decide_eq_true h.2⟩
   ·cases h
  ·cases h
 have hc':=hc
 unfold isC at hc
 by_cases hb:bw d "down" 4=true
 ·rw [if_pos hb] at hc
  obtain ⟨x,p,l,r,e,p1,p2⟩:=key _ hc
  obtain ⟨r',e',_⟩:=gN hb
  rw [e] at e'
  cases e'
  refine ⟨true,p,l,r,e,p1,fun _=>p2,fun z=>(by cases z),?_⟩
  rw [isT,if_pos hc']
  split
  ·rename_i y p' l' r' e2
   rw [e] at e2
   cases e2
   rw [if_pos hb]; rfl
  ·rename_i z
   exact absurd e (z _ _ _ _)
 ·rw [if_neg hb] at hc
  by_cases hb2:bw d "across" 4=true
  ·rw [if_pos hb2] at hc
   obtain ⟨x,p,l,r,e,p1,p2⟩:=key _ hc
   obtain ⟨r',e',_⟩:=gN hb2
   rw [e] at e'
   cases e'
   refine ⟨false,p,l,r,e,p1,fun z=>(by cases z),fun _=>p2,?_⟩
   rw [isT,if_pos hc']
   split
   ·rename_i y p' l' r' e2
    rw [e] at e2
    cases e2
    rw [if_neg hb]; rfl
   ·rename_i z
    exact absurd e (z _ _ _ _)
  ·rw [if_neg hb2] at hc
   cases hc
structure Spot where
 x:Int
 y:Int
 w:Int
 h:Int
 d:PyData
def SpAt (p:Addr) (H0 H:Hp) (v:V) (t:Spot):Prop:=∃a u,v=.ref a∧H a=some (.tup [.int t.x,.int t.y,.int t.w,.int t.h,u])∧Dt p H0 u t.d
theorem SpAt.keep {p:Addr} {H0 H H':Hp} (k:∀a xs,H a=some (.tup xs)→H' a=some (.tup xs)) {v:V} {t:Spot} (h:SpAt p H0 H v t):SpAt p H0 H' v t:=by
 obtain ⟨a,u,e,h1,h2⟩:=h
 exact ⟨a,u,e,k _ _ h1,h2⟩
def fK (ts:List Spot):Nat:=(ts.map fun t=>wt t.d).sum
theorem dN (a b:List Spot):fK (a ++ b)=fK a + fK b:=by unfold fK; rw [List.map_append,List.sum_append]
theorem jJ:∀ts:List Spot,ts.length≤fK ts
 | []=>Nat.le_refl _
 | t :: r=>by
  have:=jJ r
  have:=uc t.d
  show r.length + 1≤wt t.d + fK r
  omega
theorem nU {d x y l r:PyData} (h:bj d=some [x,y,l,r]):wt l + wt r < wt d:=by
 cases d <;> simp only [bj,Option.some.injEq,reduceCtorEq] at h
 ·subst h; simp only [wt,wts]; omega
 ·subst h; simp only [wt,wts]; omega
theorem qH {α β:Type} {R:α→β→Prop} {x:α}:∀ {xs:List α} {zs:List β},Paired R (xs ++ [x]) zs→∃ys y,zs=ys ++ [y]∧Paired R xs ys∧R x y
 | [],zs,h=>by
  cases h with
  | cons a t=>cases t; exact ⟨[],_,rfl,.nil,a⟩
 | z :: xs,zs,h=>by
  cases h with
  | cons a t =>
   obtain ⟨ys,y,rfl,p,r⟩:=qH t
   exact ⟨_ :: ys,y,rfl,.cons a p,r⟩
theorem sG {α β:Type} {R:α→β→Prop}:∀ {xs:List α} {ys:List β} {xs':List α} {ys':List β},Paired R xs ys→Paired R xs' ys'→Paired R (xs ++ xs') (ys ++ ys')
 | _,_,_,_,.nil,h=>h
 | _,_,_,_,.cons a t,h=>.cons a (sG t h)
section
variable {P:Program} {w:World} {K:PySem.W.Frag} {mg:Str→Option Value} {base:Heap}
def sH:Sp:=fun vs H Q _=>∃ (w h:Int),vs=[.int w,.int h]∧1≤w∧1≤h∧Q .non H
def fg (C:Addr):Sp:=fun vs H Q _=>∃ (pp s:Addr) (b w h:Int) (ks:List Kd) (v:V) (d:PyData),vs=[.ref s,.int w,.int h,v]∧ShopAt C H s b ks∧1≤w∧1≤h∧Dt pp H v d∧wt d≤30000∧∀H',Same H H'→Q (.bl (isT b ks w h d)) H'
theorem sccplate:FnScope ["wide","high"] ["wide","high"] (defScope bE):=⟨rfl,rfl,rfl,by decide +kernel,rfl,by decide +kernel,by decide +kernel⟩
theorem nV {f:Addr} {fd:FuncData} (F:Fun K "check_plate" "check_plate" bE f fd) (DW:Dn P w K mg base "is_whole" ["thing","least"] 1 (bN K)):FnOk P w K mg base CX0 2 f fd ["wide","high"] (sH):=by
 refine F.ok sccplate (fun vs H Q E h=>?_) (fun cdv A outer s H vs Q E hr h=>?_)
 ·obtain ⟨w1,h1,rfl,_⟩:=h
  rfl
 obtain ⟨w1,h1,rfl,w0,h0,q⟩:=h
 have nd:=sccplate.nd
 refine ⟨_,(@ai _ _ _ (@aL _ _ _ _ _ _ _ _ (PW.pt (bP (@aS _ _ _ _ (@aN _ _ _ (@ar _ _ _ _ _ _ _ _ _ _ DW hr rfl (@aa _ _ _ _ _ (pv 0) (@aa _ _ _ _ _ ag ad rfl) rfl) (by decide) rfl rfl) (by intro _; rfl))) (bt (@aS _ _ _ _ (@aN _ _ _ (@ar _ _ _ _ _ _ _ _ _ _ DW hr rfl (@aa _ _ _ _ _ (pv 1) (@aa _ _ _ _ _ ag ad rfl) rfl) (by decide) rfl rfl) (by intro _; rfl)))))) (@ai _ _ _ aP) av)),?_⟩
 refine ⟨_,rfl,.int w1,"int",1,rfl,Ty.int,_,rfl,?_⟩
 rw [show aE (.int w1) 1=true from decide_eq_true w0]
 refine aI ⟨_,rfl,.int h1,"int",1,rfl,Ty.int,_,rfl,?_⟩
 rw [show aE (.int h1) 1=true from decide_eq_true h0]
 exact aI q
theorem scistree:FnScope ["shop","wide","high","thing","blade","waiting","spot"] ["shop","wide","high","thing"] (defScope dj):=⟨rfl,rfl,rfl,by decide +kernel,rfl,by decide +kernel,by decide +kernel⟩
theorem nW {f C:Addr} {fd:FuncData} (F:Fun K "is_tree" "is_tree" dj f fd) (T:ShopTxt K C) (MB:Mn P w K mg base C "blade" ["self"] 1 (gh C)) (DCP:Dn P w K mg base "check_plate" ["wide","high"] 2 (sH)) (DC:Dn P w K mg base "is_cut" ["blade","spot"] 3 (qG)) (DF:Dn P w K mg base "is_leaf" ["shop","spot"] 5 (kQ C)) (DS:Dn P w K mg base "spots_behind" ["blade","spot"] 2 (gM)):FnOk P w K mg base CX0 6 f fd ["shop","wide","high","thing"] (fg C):=by
 refine F.ok scistree (fun vs H Q E h=>?_) (fun cdv A outer s H vs Q E hr h=>?_)
 ·obtain ⟨pp,s,b,w1,h1,ks,v,d,rfl,_⟩:=h
  rfl
 obtain ⟨pp,s,b,w1,h1,ks,v,d,rfl,S,w0,h0,hd,dz,q⟩:=h
 have nd:=scistree.nd
 have hr1:=hr.mono (show 1≤5 by decide)
 have hr2:=hr.mono (show 2≤5 by decide)
 have hr3:=hr.mono (show 3≤5 by decide)
 refine ⟨_,(@af _ _ _ _ _ (@aV _ _ _ _ (@ar _ _ _ _ _ _ _ _ _ _ DCP hr2 rfl (@aa _ _ _ _ _ (pv 1) (@aa _ _ _ _ _ (pv 2) ad rfl) rfl) (by decide) rfl rfl) rfl) (@af _ _ _ _ _ (@aw _ _ 4 _ _ _ _ nd rfl (Or.inl rfl) (iO (pv 0) T.cl MB hr1) rfl (Or.inl rfl)) (@af _ _ _ _ _ (@aw _ _ 5 _ _ _ _ nd rfl (Or.inl rfl) (@aH _ _ _ _ (@aa _ _ _ _ _ (@aq _ _ _ _ _ (@aa _ _ _ _ _ ag (@aa _ _ _ _ _ ag (@aa _ _ _ _ _ (pv 1) (@aa _ _ _ _ _ (pv 2) (@aa _ _ _ _ _ (pv 3) ad rfl) rfl) rfl) rfl) rfl)) ad rfl)) rfl (Or.inl rfl)) (@af _ _ _ _ _ (gp PassesOwn.never (gv (pv 5) (fun _=>rfl)) (@af _ _ _ _ _ (@aw _ _ 6 _ _ _ _ nd rfl (Or.inl rfl) (kA PySem.F.plainAttrs_list PySem.F.slot_list_pop PySem.F.type_list_pop kC (pv 5)) rfl (Or.inl rfl)) (@ai _ _ _ (@aL _ _ _ _ _ _ _ _ (@aN _ _ _ (@ar _ _ _ _ _ _ _ _ _ _ DC hr3 rfl (@aa _ _ _ _ _ (pv 4) (@aa _ _ _ _ _ (pv 6) ad rfl) rfl) (by decide) rfl rfl) (by intro _; rfl)) (@ai _ _ _ (@aV _ _ _ _ (@dq _ _ _ _ _ _ _ _ _ _ _ _ PySem.F.plainAttrs_list PySem.F.slot_list_extend PySem.F.type_list_extend fG (pv 5) (@aa _ _ _ _ _ (@ar _ _ _ _ _ _ _ _ _ _ DS hr2 rfl (@aa _ _ _ _ _ (pv 4) (@aa _ _ _ _ _ (pv 6) ad rfl) rfl) (by decide) rfl rfl) ad rfl) rfl rfl rfl rfl rfl) rfl)) (@ai _ _ _ (@aL _ _ _ _ _ _ _ _ (@aS _ _ _ _ (@aN _ _ _ (@ar _ _ _ _ _ _ _ _ _ _ DF hr rfl (@aa _ _ _ _ _ (pv 0) (@aa _ _ _ _ _ (pv 6) ad rfl) rfl) (by decide) rfl rfl) (by intro _; rfl))) (@ai _ _ _ (@au _ _ _ _ aX)) av)))))) (@ai _ _ _ (@au _ _ _ _ aX)))))),?_⟩
 have sz:(40000:Nat)≤sizeLine:=by decide
 refine ⟨_,rfl,_,rfl,w1,h1,rfl,w0,h0,?_⟩
 obtain ⟨dx,r,rs,S1,S2,S3⟩:=id S
 refine ⟨_,rfl,s,dx,_,rfl,S1,(cw _ _ (by decide +kernel) (by decide +kernel)),s,b,ks,rfl,S,?_⟩
 refine ⟨_,rfl,_,rfl,_,rfl,(by show 5≤sizeLine; decide),fun t ht=>?_⟩
 have sa:Same H (upd H t (.tup [.int 0,.int 0,.int w1,.int h1,v])):=Same.new ht
 have ka:(upd H t (.tup [.int 0,.int 0,.int w1,.int h1,v])) t=some (.tup [.int 0,.int 0,.int w1,.int h1,v]):=ae
 generalize upd H t (.tup [.int 0,.int 0,.int w1,.int h1,v])=Ha at sa ka ⊢
 refine ⟨(by show 1≤sizeLine; decide),fun wl hwl=>?_⟩
 have sb:Same Ha (upd Ha wl (.lst [.ref t])):=Same.new hwl
 have kb:(upd Ha wl (.lst [.ref t])) wl=some (.lst [.ref t]):=ae
 generalize upd Ha wl (.lst [.ref t])=Hb at sb kb ⊢
 have fw:H wl=none:=sa.free hwl
 have sab:=sa.trans sb
 refine ⟨fun m σ H'=>∃ (vs:List V) (ts:List Spot) (v6:Option V),σ=[some (.ref s),some (.int w1),some (.int h1),some v,some (.int b),some (.ref wl),v6]∧m=fK ts∧H' wl=some (.lst vs)∧Paired (SpAt pp H H') vs ts∧fK ts≤30000∧isT b ks w1 h1 d=ts.all (fun t=>isT b ks t.w t.h t.d)∧Same H H',⟨_,[.ref t],[⟨0,0,w1,h1,d⟩],none,rfl,rfl,kb,.cons ⟨t,v,rfl,sb _ _ ka,hd⟩ .nil,by show wt d + 0≤30000; omega,by rw [List.all_cons,List.all_nil,Bool.and_true],sab⟩,?_⟩
 rintro m σ H1 ⟨vs,ts,v6,rfl,rfl,hw,pr,sz1,al,s1⟩
 refine ⟨_,rfl,_,.inl ⟨vs,SqL.of hw,rfl⟩,?_⟩
 rcases List.eq_nil_or_concat vs with rfl | ⟨vs',v0,rfl⟩
 ·have ets:ts=[]:=by
   have:=Paired.length pr
   cases ts with
   | nil=>rfl
   | cons _ _=>simp at this
  subst ets
  have q1:=q H1 s1
  rw [al] at q1
  exact aI q1
 rw [List.concat_eq_append] at pr hw ⊢
 obtain ⟨ts',t0,rfl,prp,⟨sp,u,rfl,hsp,hdu⟩⟩:=qH pr
 rw [show (!(vs' ++ [V.ref sp]).isEmpty)=true by cases vs' <;> rfl]
 have ssz:fK (ts' ++ [t0])=fK ts' + wt t0.d:=by rw [dN]; show _ + (wt t0.d + 0)=_; omega
 rw [ssz] at sz1 ⊢
 refine aT ⟨fun σ' H'=>∃ (vs:List V) (ts:List Spot) (v6:Option V),σ'=[some (.ref s),some (.int w1),some (.int h1),some v,some (.int b),some (.ref wl),v6]∧fK ts < fK ts' + wt t0.d∧H' wl=some (.lst vs)∧Paired (SpAt pp H H') vs ts∧fK ts≤30000∧isT b ks w1 h1 d=ts.all (fun t=>isT b ks t.w t.h t.d)∧Same H H',fun σ' H' ⟨vs,ts,v6,e,l,r⟩=>⟨_,l,vs,ts,v6,e,rfl,r⟩,?_⟩
 rw [List.all_append,List.all_cons,List.all_nil,Bool.and_true] at al
 have ml:(vs' ++ [V.ref sp]).length=vs'.length + 1:=by rw [List.length_append]; rfl
 have keep:∀ {Hx:Hp} {o:HO},Same H Hx→Same H (upd Hx wl o):=fun {Hx o} sx c oo e=>by
  rw [am (fun z=>by rw [z,fw] at e; cases e)]
  exact sx _ _ e
 refine ao (fun σ' H'=>σ'=[some (.ref s),some (.int w1),some (.int h1),some v,some (.int b),some (.ref wl),some (.ref sp)]∧H' wl=some (.lst vs')∧Paired (SpAt pp H H') vs' ts'∧H' sp=some (.tup [.int t0.x,.int t0.y,.int t0.w,.int t0.h,u])∧Same H H') (fun R hR=>?_) ?_
 ·refine ⟨_,rfl,.inl ⟨rfl,_,SqL.of hw⟩,wl,_,.ref sp,rfl,rfl,hw,(by rw [ml]; simp),?_⟩
  rw [List.dropLast_concat]
  have kt:∀ {c:Addr} {xs:List V},H1 c=some (.tup xs)→(upd H1 wl (.lst vs')) c=some (.tup xs):=fun {c xs} e=>by
   rw [am (fun z=>by rw [z,hw] at e; cases e)]; exact e
  exact hR _ _ ⟨rfl,ae,Paired.mapP prp fun v t h=>h.keep fun a xs e=>kt e,kt hsp,keep s1⟩
 rintro _ H2 ⟨rfl,hw2,pr2,hsp2,s2⟩
 refine ⟨_,rfl,_,rfl,pp,b,t0.x,t0.y,t0.w,t0.h,sp,u,t0.d,rfl,hsp2,hdu.same s2,fun H3 s3=>⟨_,rfl,?_⟩⟩
 have s03:=s2.trans s3
 refine cR (fun hc=>?_) (fun hc=>?_)
 ·obtain ⟨dn,p,l,r,er,p1,pw,ph,eT⟩:=mM (ks:=ks) hc
  obtain ⟨a,xs,rfl,hx,dxs⟩:=hdu.ref_row er
  cases dxs with
  | @cons x0 _ xs0 _ hd0 dxs =>
  cases dxs with
  | @cons x1 _ xs1 _ hd1 dxs =>
  cases dxs with
  | @cons lv _ xs2 _ hdl dxs =>
  cases dxs with
  | @cons rv _ xs3 _ hdr dxs =>
  cases dxs
  cases hd0
  cases hd1
  refine ⟨_,rfl,.inl ⟨rfl,_,SqL.of (s3 _ _ hw2)⟩,_,rfl,_,rfl,?_⟩
  refine ⟨b,t0.x,t0.y,t0.w,t0.h,p,sp,a,dn,lv,rv,rfl,s3 _ _ hsp2,hx.imp (s03 _ _) (s03 _ _),fun lu t1 t2 H4 hlu ku k1 k2 s4=>?_⟩
  have hw4:=s4 _ _ (s3 _ _ hw2)
  have pl:=Paired.length pr2
  have sl:=jJ ts'
  have two:=nU er
  refine ⟨wl,lu,_,_,rfl,rfl,hw4,ku,by show _ + 2≤_; omega,?_⟩
  have kt:∀ {c:Addr} {xs:List V},H4 c=some (.tup xs)→(upd H4 wl (.lst (vs' ++ [.ref t1,.ref t2]))) c=some (.tup xs):=fun {c xs} e=>by
   rw [am (fun z=>by rw [z,hw4] at e; cases e)]; exact e
  have pr4:Paired (SpAt pp H (upd H4 wl (.lst (vs' ++ [.ref t1,.ref t2])))) vs' ts':=Paired.mapP pr2 fun v t h=>h.keep fun a xs e=>kt (s4 _ _ (s3 _ _ e))
  cases dn with
  | true =>
   have k1:H4 t1=some (.tup [.int t0.x,.int t0.y,.int p,.int t0.h,lv]):=k1
   have k2:H4 t2=some (.tup [.int (t0.x + (p + b)),.int t0.y,.int (t0.w - p - b),.int t0.h,rv]):=k2
   refine ⟨vs' ++ [.ref t1,.ref t2],ts' ++ [⟨t0.x,t0.y,p,t0.h,l⟩,⟨t0.x + (p + b),t0.y,t0.w - p - b,t0.h,r⟩],_,rfl,?_,ae,sG pr4 (.cons ⟨t1,lv,rfl,kt k1,hdl⟩ (.cons ⟨t2,rv,rfl,kt k2,hdr⟩ .nil)),?_,?_,keep (s03.trans s4)⟩
   ·rw [dN]; show _ + (wt l + (wt r + 0)) < _; omega
   ·rw [dN]; show _ + (wt l + (wt r + 0))≤_; omega
   ·rw [al,eT,List.all_append]
    simp only [if_true,List.all_cons,List.all_nil,Bool.and_true]
  | false =>
   have k1:H4 t1=some (.tup [.int t0.x,.int t0.y,.int t0.w,.int p,lv]):=k1
   have k2:H4 t2=some (.tup [.int t0.x,.int (t0.y + (p + b)),.int t0.w,.int (t0.h - p - b),rv]):=k2
   refine ⟨vs' ++ [.ref t1,.ref t2],ts' ++ [⟨t0.x,t0.y,t0.w,p,l⟩,⟨t0.x,t0.y + (p + b),t0.w,t0.h - p - b,r⟩],_,rfl,?_,ae,sG pr4 (.cons ⟨t1,lv,rfl,kt k1,hdl⟩ (.cons ⟨t2,rv,rfl,kt k2,hdr⟩ .nil)),?_,?_,keep (s03.trans s4)⟩
   ·rw [dN]; show _ + (wt l + (wt r + 0)) < _; omega
   ·rw [dN]; show _ + (wt l + (wt r + 0))≤_; omega
   ·rw [al,eT,List.all_append]
    simp only [Bool.false_eq_true,if_false,List.all_cons,List.all_nil,Bool.and_true]
 ·have hc:isC b t0.w t0.h t0.d=false:=by simpa using hc
  have lf:=fe (ks:=ks) hc
  refine ⟨_,rfl,_,rfl,pp,b,t0.x,t0.y,t0.w,t0.h,s,sp,ks,u,t0.d,rfl,ud s03 S,s3 _ _ hsp2,hdu.same s03,fun H4 s4=>⟨_,rfl,?_⟩⟩
  have s04:=s03.trans s4
  have sp0:=uc t0.d
  cases hl:isL ks t0.w t0.h t0.d with
  | true =>
   rw [lf,hl,Bool.and_true] at al
   exact aI ⟨vs',ts',_,rfl,by omega,s4 _ _ (s3 _ _ hw2),Paired.mapP pr2 fun v t h=>h.keep fun a xs e=>s4 _ _ (s3 _ _ e),by omega,al,s04⟩
  | false =>
   rw [lf,hl,Bool.and_false] at al
   have q1:=q H4 s04
   rw [al] at q1
   exact aT q1
end
def qI (k:Kd) (c:Bool) (w h:Int):Bool:=decide (sd1 k c≤w) && decide (sd2 k c≤h)
def qJ (k:Kd):List Bool:=if bB k=true then [false,true] else [false]
theorem zK {a b c:St} (h1:leS a b) (h2:leS b c):leS a c:=⟨h2.1.trans h1.1,fun i v e=>h2.2 i v (h1.2 i v e)⟩
inductive Tr where
 | rest
 | piece (i:Nat) (c:Bool) (x y:Int)
 | cut (dn:Bool) (p:Int) (l r:Tr)
def toD:Tr→PyData
 | .rest=>.tuple [.str "rest"]
 | .piece i c x y=>.tuple [.str "piece",.int i,.bool c,.int x,.int y]
 | .cut dn p l r=>.tuple [.str (if dn=true then "down" else "across"),.int p,toD l,toD r]
def lvN:Tr→Nat
 | .cut _ _ l r=>lvN l + lvN r
 | _=>1
def TrV (H:Hp):Tr→V→Prop
 | .rest,v=>∃a,v=.ref a∧H a=some (.tup [.str "rest"])
 | .piece i c x y,v=>∃a,v=.ref a∧H a=some (.tup [.str "piece",.int i,.bl c,.int x,.int y])
 | .cut dn p l r,v=>∃a x y,v=.ref a∧H a=some (.tup [.str (if dn=true then "down" else "across"),.int p,x,y])∧TrV H l x∧TrV H r y
theorem TrV.keep {H H':Hp} (k:∀a xs,H a=some (.tup xs)→H' a=some (.tup xs)):∀ (t:Tr) {v:V},TrV H t v→TrV H' t v
 | .rest,_,⟨a,e,h⟩=>⟨a,e,k _ _ h⟩
 | .piece ..,_,⟨a,e,h⟩=>⟨a,e,k _ _ h⟩
 | .cut _ _ l r,_,⟨a,x,y,e,h,h1,h2⟩=>⟨a,x,y,e,k _ _ h,TrV.keep k l h1,TrV.keep k r h2⟩
def okT (b:Int) (ks:List Kd):Int→Int→Tr→Prop
 | _,_,.rest=>True
 | w,h,.piece i c x y=>∃k,ks[i]? = some k∧c∈qJ k∧0≤x∧0≤y∧x + sd1 k c≤w∧y + sd2 k c≤h
 | w,h,.cut dn p l r=>1≤p∧(if dn=true then p + b < w∧okT b ks p h l∧okT b ks (w - p - b) h r else p + b < h∧okT b ks w p l∧okT b ks w (h - p - b) r)
theorem sI {ks:List Kd} {i:Nat} {c:Bool} {k:Kd} (hk:ks[i]? = some k) (hc:c∈qJ k):cN ks (.int i) (.bl c)=true:=by
 unfold cN
 simp only [Int.toNat_natCast,hk]
 rw [decide_eq_true (show (0:Int)≤i by omega),Bool.true_and]
 cases c with
 | false=>rfl
 | true =>
  unfold qJ at hc
  cases t:bB k with
  | true=>rfl
  | false=>rw [t] at hc; simp at hc
def FW (p q:Addr) (H H':Hp):Prop:=∀c o,c≠p→c≠q→H c=some o→H' c=some o
theorem fV {d:PyData} {y:Str} {r:List PyData} (e:bj d=some (.str y :: r)) (z:Str) (n:Nat):bw d z n=(decide (r.length + 1=n) && decide (y=z)):=by
 unfold bw
 rw [e]
theorem mO {d:PyData} (h:∀y r,bj d≠some (.str y :: r)) (z:Str) (n:Nat):bw d z n=false:=by
 unfold bw
 split
 ·rename_i y r e
  exact absurd e (h y r)
 ·rfl
def pcD (ks:List Kd) (w h:Int):List PyData→Bool
 | [k,t,x,y]=>jd ks w h k t x y
 | _=>false
theorem kR {b:Int} {ks:List Kd} {w h:Int} {d:PyData} (hd:∀y r,bj d≠some (.str y :: r)):isT b ks w h d=false:=by
 have hc:isC b w h d=false:=by unfold isC; rw [mO hd,mO hd]; rfl
 rw [fe hc]
 unfold isL
 rw [mO hd,mO hd]
 rfl
theorem cX {b:Int} {ks:List Kd} {w h:Int} {d:PyData} {y:Str} {r:List PyData} (e:bj d=some (.str y :: r)) (h1:(decide (y = "down"))=false) (h2:(decide (y = "across"))=false):isT b ks w h d=(if decide (y = "rest")=true then decide (r.length + 1=1) else if decide (y = "piece")=true then pcD ks w h r else false):=by
 have hc:isC b w h d=false:=by
  unfold isC
  rw [fV e,fV e,h1,h2]
  simp only [Bool.and_false]
  rfl
 rw [fe hc]
 unfold isL
 rw [fV e,fV e,e]
 by_cases hr:y = "rest"
 ·subst hr
  rw [show decide ((Str.ofString "rest")=(Str.ofString "piece"))=false by decide +kernel,Bool.and_false,if_neg Bool.false_ne_true,decide_eq_true (rfl:(Str.ofString "rest")=Str.ofString "rest"),if_pos rfl,Bool.and_true]
 ·rw [decide_eq_false hr,if_neg Bool.false_ne_true]
  by_cases hp:y = "piece"
  ·subst hp
   rw [decide_eq_true (rfl:(Str.ofString "piece")=Str.ofString "piece"),Bool.and_true,if_pos (rfl:true=true),Bool.and_false]
   match r with
   | []=>rfl
   | [_]=>rfl
   | [_,_]=>rfl
   | [_,_,_]=>rfl
   | [_,_,_,_]=>rfl
   | _ :: _ :: _ :: _ :: _ :: r=>simp [pcD]
  ·rw [decide_eq_false hp,Bool.and_false,Bool.and_false,if_neg Bool.false_ne_true,if_neg Bool.false_ne_true]
theorem fh {b:Int} {ks:List Kd} {w h:Int} {d:PyData} {dn:Bool} {r:List PyData} (e:bj d=some (.str (if dn=true then "down" else "across") :: r)):isT b ks w h d=(match r with
  | [.int p,l,r']=>decide (1≤p) && (if dn=true then decide (p + b < w) && (isT b ks p h l && isT b ks (w - p - b) h r') else decide (p + b < h) && (isT b ks w p l && isT b ks w (h - p - b) r'))
  | _=>false):=by
 have leafF:isC b w h d=false→isT b ks w h d=false:=fun hc=>by
  rw [fe hc]
  unfold isL
  rw [fV e,fV e]
  cases dn
  ·rw [show decide ((if false=true then (Str.ofString "down") else Str.ofString "across")=Str.ofString "piece")=false by decide +kernel,show decide ((if false=true then (Str.ofString "down") else Str.ofString "across")=Str.ofString "rest")=false by decide +kernel,Bool.and_false,Bool.and_false,if_neg Bool.false_ne_true]
  ·rw [show decide ((if true=true then (Str.ofString "down") else Str.ofString "across")=Str.ofString "piece")=false by decide +kernel,show decide ((if true=true then (Str.ofString "down") else Str.ofString "across")=Str.ofString "rest")=false by decide +kernel,Bool.and_false,Bool.and_false,if_neg Bool.false_ne_true]
 cases hc:isC b w h d with
 | false =>
  rw [leafF hc]
  split
  ·rename_i p l r' e
   unfold isC at hc
   rw [fV e,fV e] at hc
   cases dn
   ·rw [show decide ((if false=true then (Str.ofString "down") else Str.ofString "across")=Str.ofString "down")=false by decide +kernel,show decide ((if false=true then (Str.ofString "down") else Str.ofString "across")=Str.ofString "across")=true by decide +kernel] at hc
    unfold ee at hc
    rw [e] at hc
    have hc:(decide (1≤p) && decide (p + b < h))=false:=hc
    rw [if_neg Bool.false_ne_true,← Bool.and_assoc,hc,Bool.false_and]
   ·rw [show decide ((if true=true then (Str.ofString "down") else Str.ofString "across")=Str.ofString "down")=true by decide +kernel] at hc
    unfold ee at hc
    rw [e] at hc
    have hc:(decide (1≤p) && decide (p + b < w))=false:=hc
    rw [if_pos rfl,← Bool.and_assoc,hc,Bool.false_and]
  ·rfl
 | true =>
  obtain ⟨dn',p,l,r',e',p1,pw,ph,eT⟩:=mM (ks:=ks) hc
  rw [e] at e'
  have hdn:dn=dn':=by
   have:=PyData.str.inj (List.cons.inj (Option.some.inj e')).1
   cases dn <;> cases dn' <;> first | rfl | exact absurd this (by decide +kernel)
  subst hdn
  cases e'
  rw [eT]
  cases dn
  ·simp only [Bool.false_eq_true,if_false]
   rw [decide_eq_true p1,decide_eq_true (ph rfl)]; rfl
  ·simp only [if_true]
   rw [decide_eq_true p1,decide_eq_true (pw rfl)]; rfl
def TrD:Tr→PyData→Prop
 | .rest,d=>bj d=some [.str "rest"]
 | .piece i c x y,d=>bj d=some [.str "piece",.int i,.bool c,.int x,.int y]
 | .cut dn p l r,d=>∃dl dr,bj d=some [.str (if dn=true then "down" else "across"),.int p,dl,dr]∧TrD l dl∧TrD r dr
theorem TrD.good {b:Int} {ks:List Kd}:∀ (t:Tr) (d:PyData) (w h:Int),TrD t d→okT b ks w h t→isT b ks w h d=true
 | .rest,d,w,h,e,_=>by
  have e:bj d=some (.str "rest" :: []):=e
  rw [cX e (by decide +kernel) (by decide +kernel),if_pos (by decide +kernel)]; rfl
 | .piece i c x y,d,w,h,e,⟨k,hk,hc,x0,y0,hx,hy⟩=>by
  have e:bj d=some (.str "piece" :: [.int i,.bool c,.int x,.int y]):=e
  rw [cX e (by decide +kernel) (by decide +kernel),if_neg (by decide +kernel),if_pos (by decide +kernel)]
  show eC ks w h (.int i) (.bl c) (.int x) (.int y)=true
  unfold eC
  rw [sI hk hc]
  simp only [Int.toNat_natCast,hk]
  rw [show aE (.int x) 0=true from decide_eq_true x0,show aE (.int y) 0=true from decide_eq_true y0,decide_eq_true hx,decide_eq_true hy]
  rfl
 | .cut true p l r,d,w,h,⟨dl,dr,e,tl,tr⟩,⟨p1,hp,hl,hr⟩=>by
  have eT:isT b ks w h d=(decide (1≤p) && (decide (p + b < w) && (isT b ks p h dl && isT b ks (w - p - b) h dr))):=fh (dn:=true) (r:=[.int p,dl,dr]) e
  rw [eT,decide_eq_true p1,decide_eq_true hp,TrD.good l dl p h tl hl,TrD.good r dr _ h tr hr]; rfl
 | .cut false p l r,d,w,h,⟨dl,dr,e,tl,tr⟩,⟨p1,hp,hl,hr⟩=>by
  have eT:isT b ks w h d=(decide (1≤p) && (decide (p + b < h) && (isT b ks w p dl && isT b ks w (h - p - b) dr))):=fh (dn:=false) (r:=[.int p,dl,dr]) e
  rw [eT,decide_eq_true p1,decide_eq_true hp,TrD.good l dl w p tl hl,TrD.good r dr w _ tr hr]; rfl
structure Lf where
 x:Int
 y:Int
 w:Int
 h:Int
 t:Tr
def lvs (b:Int):Tr→Int→Int→Int→Int→List Lf
 | .cut true p l r,x,y,w,h=>lvs b r (x + (p + b)) y (w - p - b) h ++ lvs b l x y p h
 | .cut false p l r,x,y,w,h=>lvs b r x (y + (p + b)) w (h - p - b) ++ lvs b l x y w p
 | .rest,x,y,w,h=>[⟨x,y,w,h,.rest⟩]
 | .piece i c u v,x,y,w,h=>[⟨x,y,w,h,.piece i c u v⟩]
def szT:Tr→Nat
 | .cut _ _ l r=>szT l + szT r + 1
 | _=>1
def FX (p:Addr) (H0 H:Hp) (v:V) (t:Lf):Prop:=∃a u d,v=.ref a∧H a=some (.tup [.int t.x,.int t.y,.int t.w,.int t.h,u])∧Dt p H0 u d∧TrD t.t d
def lsz (ts:List Lf):Nat:=(ts.map fun t=>szT t.t).sum
theorem ue (t:Tr):1≤szT t:=by cases t <;> simp only [szT] <;> omega
def FY (b:Int) (ts:List Lf):List Lf:=ts.reverse.flatMap fun t=>lvs b t.t t.x t.y t.w t.h
mutual
theorem Dt.fresh {p q:Addr} {H:Hp} (hq:H q=none):∀ {v:V} {d:PyData},Dt p H v d→Dt q H v d
 | _,_,.non=>.non
 | _,_,.bl b=>.bl b
 | _,_,.int i=>.int i
 | _,_,.str z=>.str z
 | _,_,.lst n h r=>.lst (ah h hq) h (r.fresh hq)
 | _,_,.tup h r=>.tup h (r.fresh hq)
 | _,_,.emp h=>.emp h
theorem Dts.fresh {p q:Addr} {H:Hp} (hq:H q=none):∀ {vs:List V} {ds:List PyData},Dts p H vs ds→Dts q H vs ds
 | _,_,.nil=>.nil
 | _,_,.cons a r=>.cons (a.fresh hq) (r.fresh hq)
end
theorem nX {C x dx:Addr} {H:Hp} (hx:H x=none) (hd:H dx=none):Same H (upd (upd H dx (.own x)) x (.ins C dx [])):=fun c o e=>by
 rw [am (ah e hx),am (ah e hd)]; exact e
def dpT:Tr→Nat
 | .cut _ _ l r=>max (dpT l) (dpT r) + 1
 | _=>0
section
variable {P:Program} {w:World} {K:PySem.W.Frag} {mg:Str→Option Value} {base:Heap}
def uU:Sp:=fun vs H Q _=>∃ (w h m:Int),vs=[.int w,.int h,.int m]∧w≤m∧h≤m∧Q .non H
def kS (C:Addr):Sp:=fun vs H Q _=>∃ (s:Addr) (b:Int) (ks:List Kd) (w h i:Int) (c:Bool) (k:Kd),vs=[.ref s,.int w,.int h,.int i,.bl c,.int 0,.int 0]∧ShopAt C H s b ks∧cN ks (.int i) (.bl c)=true∧ks[i.toNat]? = some k∧∀H',Same H H'→Q (.bl (qI k c w h)) H'
theorem sccsides:FnScope ["wide","high","most"] ["wide","high","most"] (defScope bG):=⟨rfl,rfl,rfl,by decide +kernel,rfl,by decide +kernel,by decide +kernel⟩
theorem nY {f:Addr} {fd:FuncData} (F:Fun K "check_sides" "check_sides" bG f fd)  : FnOk P w K mg base CX0 1 f fd ["wide","high","most"] (uU):=by
 refine F.ok sccsides (fun vs H Q E h=>?_) (fun cdv A outer s H vs Q E hr h=>?_)
 ·obtain ⟨w1,h1,m,rfl,_⟩:=h
  rfl
 obtain ⟨w1,h1,m,rfl,hw,hh,q⟩:=h
 have nd:=sccsides.nd
 refine ⟨_,(@ai _ _ _ (@aL _ _ _ _ _ _ _ _ (PW.pt (bP (@ax _ _ _ _ _ _ _ _ cQ (pv 0) (pv 2) (ay _)) (bt (@ax _ _ _ _ _ _ _ _ cQ (pv 1) (pv 2) (ay _))))) (@ai _ _ _ aP) av)),?_⟩
 refine ⟨_,rfl,_,rfl,_,_,rfl,rfl,_,rfl,?_⟩
 rw [decide_eq_false (show ¬ m < w1 by omega)]
 refine aI ⟨_,rfl,_,rfl,_,_,rfl,rfl,_,rfl,?_⟩
 rw [decide_eq_false (show ¬ m < h1 by omega)]
 exact aI q
theorem sclies:FnScope ["shop","wide","high","kind","turned","x","y","piece_wide","piece_high"] ["shop","wide","high","kind","turned","x","y"] (defScope di):=⟨rfl,rfl,rfl,by decide +kernel,rfl,by decide +kernel,by decide +kernel⟩
theorem sJ {f C NL:Addr} {fd:FuncData} (F:Fun K "lies_in" "lies_in" di f fd) (T:ShopTxt K C) (DW:Dn P w K mg base "is_whole" ["thing","least"] 1 (bN K)) (MI:Mn P w K mg base C "is_lying" ["self","kind","turned"] 2 (cT K C)) (MS:MnX P w K mg base C "sides" ["self","kind","turned"] 3 (gi K C NL)):FnOk P w K mg base CX0 4 f fd ["shop","wide","high","kind","turned","x","y"] (kS C):=by
 refine F.ok sclies (fun vs H Q E h=>?_) (fun cdv A outer s H vs Q E hr h=>?_)
 ·obtain ⟨s,b,ks,w,h,i,c,k,rfl,_⟩:=h
  rfl
 obtain ⟨s,b,ks,w,h,i,c,k,rfl,S,ly,hk,q⟩:=h
 have nd:=sclies.nd
 have hr1:=hr.mono (show 1≤3 by decide)
 have hr2:=hr.mono (show 2≤3 by decide)
 refine ⟨_,(@af _ _ _ _ _ (@aL _ _ _ _ _ _ _ _ (PW.pt (bP (@aS _ _ _ _ (@aN _ _ _ (qg (pv 0) T.cl MI hr2 (@aa _ _ _ _ _ (pv 3) (@aa _ _ _ _ _ (pv 4) ad rfl) rfl)) (by intro _; rfl))) (bP (@aS _ _ _ _ (@aN _ _ _ (@ar _ _ _ _ _ _ _ _ _ _ DW hr1 rfl (@aa _ _ _ _ _ (pv 5) (@aa _ _ _ _ _ ag ad rfl) rfl) (by decide) rfl rfl) (by intro _; rfl))) (bt (@aS _ _ _ _ (@aN _ _ _ (@ar _ _ _ _ _ _ _ _ _ _ DW hr1 rfl (@aa _ _ _ _ _ (pv 6) (@aa _ _ _ _ _ ag ad rfl) rfl) (by decide) rfl rfl) (by intro _; rfl))))))) (@ai _ _ _ (@au _ _ _ _ aX)) av) (@af _ _ _ _ _ (@br _ _ _ _ _ _ (qh (pv 0) T.cl MS hr (@aa _ _ _ _ _ (pv 3) (@aa _ _ _ _ _ (pv 4) ad rfl) rfl)) (aZ rfl (aj (ak (i:=7) nd rfl (Or.inl rfl)) (aj (ak (i:=8) nd rfl (Or.inl rfl)) aQ))) rfl rfl rfl) (@ai _ _ _ (@au _ _ _ _ (de (@bR _ _ _ _ _ _ _ _ ie (@az _ _ _ _ _ _ _ _ aW (pv 5) (pv 7)) (pv 1) (ay _)) (dy (@bR _ _ _ _ _ _ _ _ ie (@az _ _ _ _ _ _ _ _ aW (pv 6) (pv 8)) (pv 2) (ay _)))))))),?_⟩
 obtain ⟨dx,r,rs,h1,h2,h3⟩:=id S
 refine ⟨_,rfl,s,dx,_,rfl,h1,cw _ _ (by decide +kernel) (by decide +kernel),_,rfl,_,rfl,s,b,ks,.int i,.bl c,"int","bool",rfl,S,Ty.int,Ty.bl,_,rfl,?_⟩
 rw [ly]
 refine aI ⟨_,rfl,.int 0,"int",0,rfl,Ty.int,_,rfl,aI ⟨_,rfl,.int 0,"int",0,rfl,Ty.int,_,rfl,aI ?_⟩⟩
 refine ⟨_, rfl, s, dx, _, rfl, h1, cw _ _ (by decide +kernel) (by decide +kernel), _, rfl, _, rfl, s, b, ks, .int i, .bl c, "int", "bool", rfl, S, Ty.int, Ty.bl, fun z=>absurd z (by rw [ly]; decide), fun i' c' k' p e1 e2 hk' _ hp=>?_⟩
 cases e1
 cases e2
 rw [hk] at hk'
 cases hk'
 rw [jI]
 have q1:=q _ (Same.new hp (o:=.tup [.int (sd1 k c),.int (sd2 k c)]))
 refine ⟨p,_,rfl,SqT.of ae,rfl,_,_,rfl,_,_,rfl,rfl,?_⟩
 refine ⟨_,rfl,_,rfl,_,_,rfl,rfl,_,rfl,_,_,rfl,rfl,_,rfl,?_⟩
 unfold qI at q1
 refine cR (fun cc=>?_) (fun cc=>?_)
 ·refine ⟨_,rfl,_,rfl,_,_,rfl,rfl,_,rfl,_,_,rfl,rfl,?_⟩
  rw [Int.zero_add] at cc ⊢
  rw [cc] at q1
  exact q1
 ·rw [Int.zero_add] at cc
  rw [show decide (sd1 k c≤w)=false by simpa using cc] at q1
  exact q1
end
section
variable {P:Program} {w:World} {K:PySem.W.Frag} {mg:Str→Option Value} {base:Heap}
theorem sK {i:Nat} {k:Kd} {q:Nat×Bool} (h:q∈lyT i k):q.1=i∧(q.2=false∨bB k=true):=by
 unfold lyT at h
 rcases List.mem_cons.mp h with rfl | h
 ·exact ⟨rfl,.inl rfl⟩
 ·by_cases c:bB k=true
  ·rw [if_pos c] at h
   rw [List.mem_singleton.mp h]
   exact ⟨rfl,.inr c⟩
  ·rw [if_neg c] at h
   simp at h
theorem mQ:∀ {ks:List Kd} {i:Nat} {q:Nat×Bool},q∈lyK ks i→i≤q.1∧∃k,ks[q.1 - i]? = some k∧(q.2=false∨bB k=true)
 | [],_,_,h=>by simp [lyK] at h
 | k :: r,i,q,h=>by
  rcases List.mem_append.mp h with h | h
  ·obtain ⟨h1,h2⟩:=sK h
   exact ⟨by omega,k,by rw [h1,Nat.sub_self]; rfl,h2⟩
  ·obtain ⟨h1,k',h2,h3⟩:=mQ h
   refine ⟨by omega,k',?_,h3⟩
   rw [show q.1 - i=(q.1 - (i + 1)) + 1 by omega]
   exact h2
theorem mR {ks:List Kd} {q:Nat×Bool} (h:q∈lyK ks 0):cN ks (.int q.1) (.bl q.2)=true∧∃k,ks[q.1]? = some k:=by
 obtain ⟨_,k,h2,h3⟩:=mQ h
 rw [Nat.sub_zero] at h2
 refine ⟨?_,k,h2⟩
 unfold cN
 simp only [Int.toNat_natCast,h2,Bool.and_eq_true]
 refine ⟨decide_eq_true (by omega),?_⟩
 rcases h3 with e | e
 ·rw [e]; rfl
 ·rw [e,Bool.or_true]
def fj (ks:List Kd) (w h:Int) (q:Nat×Bool):Bool:=match ks[q.1]? with
 | some k=>qI k q.2 w h
 | none=>false
def kT (C:Addr):Sp:=fun vs H Q _=>∃ (s t:Addr) (b:Int) (ks:List Kd) (w h:Int),vs=[.ref s,.ref t]∧ShopAt C H s b ks∧ks.length≤8∧H t=some (.tup [.int w,.int h]) ∧
 ∀ (l:Addr) (ys:List V) (H':Hp),H l=none→H' l=some (.lst ys)→Lys H' ys ((lyK ks 0).filter (fj ks w h))→Same H H'→Q (.ref l) H'
theorem sclyin:FnScope ["shop","part","wide","high"] ["shop","part"] (defScope cz):=⟨rfl,rfl,rfl,by decide +kernel,rfl,by decide +kernel,by decide +kernel⟩
theorem sL {f C:Addr} {fd:FuncData} (F:Fun K "lyings_in" "lyings_in" cz f fd) (T:ShopTxt K C) (ML:Mn P w K mg base C "lyings" ["self"] 2 (gF C)) (DLI:Dn P w K mg base "lies_in" ["shop","wide","high","kind","turned","x","y"] 4 (kS C)):FnOk P w K mg base CX0 5 f fd ["shop","part"] (kT C):=by
 refine F.ok sclyin (fun vs H Q E h=>?_) (fun cdv A outer s H vs Q E hr h=>?_)
 ·obtain ⟨s,t,b,ks,w,h,rfl,_⟩:=h
  rfl
 obtain ⟨s,t,b,ks,w,h,rfl,S,k8,ht,q⟩:=h
 have nd:=sclyin.nd
 have hr2:=hr.mono (show 2≤4 by decide)
 refine ⟨_,(@af _ _ _ _ _ (@br _ _ _ _ _ _ (pv 1) (aZ rfl (aj (ak (i:=2) nd rfl (Or.inr rfl)) (aj (ak (i:=3) nd rfl (Or.inr rfl)) aQ))) rfl rfl rfl) (@ai _ _ _ (@au _ _ _ _ (ge (own:=["kind","turned"]) (cs:=["shop","wide","high"]) (cap:=[0,2,3]) rfl (cj (iO (pv 0) T.cl ML hr2)) (cf (sc:=defScope cz) (N:=["shop","part","wide","high"]) rfl rfl (by decide +kernel)) (fun _ _ _ _ _=>qj K rfl rfl (by show List.Nodup (["kind","turned","shop","wide","high"]:List Str) ; decide +kernel) rfl rfl rfl rfl) (fun _ _ _ _ _=>(pR (@aN _ _ _ (@ar _ _ _ _ _ _ _ _ _ _ DLI hr rfl (@aa _ _ _ _ _ (pv 2) (@aa _ _ _ _ _ (pv 3) (@aa _ _ _ _ _ (pv 4) (@aa _ _ _ _ _ (pv 0) (@aa _ _ _ _ _ (pv 1) (@aa _ _ _ _ _ ag (@aa _ _ _ _ _ ag ad rfl) rfl) rfl) rfl) rfl) rfl) rfl) (by decide) rfl rfl) (by intro _; rfl)))) (fun _ _ _ _ _=>(@aq _ _ _ _ _ (@aa _ _ _ _ _ (pv 0) (@aa _ _ _ _ _ (pv 1) ad rfl) rfl))))))),?_⟩
 have sz:(100:Nat) < sizeLine:=by decide
 obtain ⟨dx,r,rs,h1,h2,h3⟩:=id S
 refine ⟨_,rfl,t,_,rfl,SqT.of ht,rfl,_,_,rfl,_,_,rfl,rfl,?_⟩
 refine ⟨_,rfl,s,dx,_,rfl,h1,cw _ _ (by decide +kernel) (by decide +kernel),s,b,ks,rfl,S,k8,fun l1 ys H1 hl1 l1' ly s1=>?_⟩
 have lyl:=iU ks 0
 have ylen:=Paired.length ly
 refine ⟨l1,rfl,⟨_,SqL.of l1'⟩,(gC (K:=K) (.inl l1') (fun i zs H4=>Same H1 H4∧zs.length≤i∧Lys H4 zs (((lyK ks 0).take i).filter (fj ks w h))) (fun i zs H4 _ ⟨s4,_⟩ o e=>s4 _ _ e) ⟨Same.refl _,Nat.le_refl _,.nil⟩ ?_ ?_).1 l1'⟩
 ·rintro i y zs H4 hi ⟨s4,zl,lz⟩
  have hin:i < ys.length:=(List.getElem?_eq_some_iff.mp hi).1
  obtain ⟨qq,hq,a,rfl,ha⟩:=Paired.getR ly hi
  obtain ⟨li,k,hk⟩:=mR (List.mem_of_getElem? hq)
  refine ⟨by omega,a,_,rfl,SqT.of (s4 _ _ ha),rfl,_,_,rfl,_,_,rfl,rfl,?_⟩
  refine ⟨zK (leS.set rfl) (leS.set rfl),?_⟩
  have S4:ShopAt C H4 s b ks:=S.keep (fun c o e=>s4 _ _ (s1 _ _ e)) (fun c C' d fs e=>s4 _ _ (s1 _ _ e))
  refine ⟨_,rfl,_,rfl,_,rfl,_,rfl,_,rfl,s,b,ks,w,h,(qq.1:Int),qq.2,k,rfl,S4,li,(by rw [Int.toNat_natCast]; exact hk),fun H5 s5=>⟨_,rfl,?_⟩⟩
  have st:((lyK ks 0).take (i + 1)).filter (fj ks w h)=((lyK ks 0).take i).filter (fj ks w h) ++ (if qI k qq.2 w h=true then [qq] else []):=by
   rw [List.take_add_one,hq,List.filter_append]
   simp only [Option.toList_some,List.filter_cons,List.filter_nil]
   rw [show fj ks w h qq=qI k qq.2 w h by unfold fj; rw [hk]]
  dsimp only
  refine cR (fun cc=>?_) (fun cc=>?_)
  ·rw [cc,if_pos rfl] at st
   refine ⟨_,rfl,_,rfl,(by show 2≤sizeLine; decide),fun p hp=>Nx.of hin ⟨(s4.trans s5).trans (Same.new hp),by rw [List.length_append]; show _ + 1≤_; omega,?_⟩⟩
   rw [st]
   refine Paired.snoc (Lys.keep (fun c o e=>?_) lz) ⟨p,rfl,ae⟩
   have e5:=s5 _ _ e
   rw [am (ah e5 hp)]; exact e5
  ·rw [if_neg cc,List.append_nil] at st
   refine Nx.of hin ⟨s4.trans s5,by omega,?_⟩
   rw [st]
   exact Lys.keep (fun c o e=>s5 _ _ e) lz
 ·rintro zs H4 ⟨s4,zl,lz⟩
  rw [ylen,List.take_length] at lz
  refine ⟨by omega,fun p hp=>q p zs _ ((s1.trans s4).free hp) ae (Lys.keep (fun c o e=>?_) lz) ((s1.trans s4).trans (Same.new hp))⟩
  rw [am (ah e hp)]; exact e
end
def PtAt (H:Hp) (v:V) (p:Int×Int):Prop:=∃q,v=.ref q∧H q=some (.tup [.int p.1,.int p.2])
theorem PtAt.keep {H H':Hp} (s:Same H H') {v:V} {p:Int×Int} (h:PtAt H v p):PtAt H' v p:=by
 obtain ⟨q,e,h⟩:=h
 exact ⟨q,e,s _ _ h⟩
def gO (a:Int) (n:Nat):List (Int×Int):=(List.range n).map fun (c:Nat)=>(a,1 + (c:Int))
def aU (m n:Nat):List (Int×Int):=(List.range m).flatMap fun (a:Nat)=>gO (1 + (a:Int)) n
theorem jK (a:Int) (n:Nat):(gO a n).length=n:=by unfold gO; rw [List.length_map,List.length_range]
theorem cM (m n:Nat):aU (m + 1) n=aU m n ++ gO (1 + (m:Int)) n:=by
 unfold aU
 rw [List.range_succ,List.flatMap_append]
 simp
theorem iz (a:Int) (n:Nat):gO a (n + 1)=gO a n ++ [(a,1 + (n:Int))]:=by
 unfold gO
 rw [List.range_succ,List.map_append]
 rfl
theorem ci (m n:Nat):(aU m n).length=m * n:=by
 induction m with
 | zero=>simp [aU]
 | succ m ih=>rw [cM,List.length_append,ih,jK,Nat.succ_mul]
section
variable {P:Program} {w:World} {K:PySem.W.Frag} {mg:Str→Option Value} {base:Heap}
def je:Sp:=fun vs H Q _=>∃ (m n:Nat),vs=[.int m,.int n]∧m≤16∧n≤16∧∀ (l:Addr) (ys:List V) (H':Hp),H' l=some (.lst ys)→Paired (PtAt H') ys (aU m n)→Same H H'→Q (.ref l) H'
theorem scparts:FnScope ["wide","high"] ["wide","high"] (defScope cg):=⟨rfl,rfl,rfl,by decide +kernel,rfl,by decide +kernel,by decide +kernel⟩
theorem qK {f:Addr} {fd:FuncData} (F:Fun K "parts_up_to" "parts_up_to" cg f fd) (B:Blt mg):FnOk P w K mg base CX0 1 f fd ["wide","high"] (je):=by
 refine F.ok scparts (fun vs H Q E h=>?_) (fun cdv A outer s H vs Q E hr h=>?_)
 ·obtain ⟨m,n,rfl,_⟩:=h
  rfl
 obtain ⟨m,n,rfl,m16,n16,q⟩:=h
 have nd:=scparts.nd
 refine ⟨_,(@ai _ _ _ (@au _ _ _ _ (ql (own:=["a","b"]) (cs:=["high"]) (cap:=[1]) rfl (ia rfl B.range (@aa _ _ _ _ _ ag (@aa _ _ _ _ _ (@az _ _ _ _ _ _ _ _ aW (pv 0) ag) ad rfl) rfl)) (cf (sc:=defScope cg) (N:=["wide","high"]) rfl rfl (by decide +kernel)) (fun _ _ _ _ _=>ak (i:=0) (by show List.Nodup (["a","b","high"]:List Str) ; decide +kernel) rfl (Or.inl rfl) (Or.inr rfl)) (fun _ _ _ _ _=>cB) (fun _ _ _ _ _=>(ia rfl B.range (@aa _ _ _ _ _ ag (@aa _ _ _ _ _ (@az _ _ _ _ _ _ _ _ aW (pv 2) ag) ad rfl) rfl))) (fun _ _ _ _ _=>ak (i:=1) (by show List.Nodup (["a","b","high"]:List Str) ; decide +kernel) rfl (Or.inl rfl) (Or.inr rfl)) (fun _ _ _ _ _=>cB) (fun _ _ _ _ _=>(@aq _ _ _ _ _ (@aa _ _ _ _ _ (pv 0) (@aa _ _ _ _ _ (pv 1) ad rfl) rfl)))))),?_⟩
 have z4:4096≤sizeLine:=by decide
 refine ⟨_,rfl,_,_,rfl,rfl,1,_,rfl,⟨by decide,by decide,by show -(2 ^ 62)≤(m:Int) + 1; omega,by show (m:Int) + 1 < 2 ^ 62; omega⟩,?_⟩
 have em:((m:Int) + 1 - 1).toNat=m:=by omega
 show ∃W,_∧iZ _ _ _ (Itr 1 ((m:Int) + 1 - 1).toNat) _ _ _ _ _ _ _ W
 rw [em]
 refine nI (lo:=1) (n:=m) (fun i ys Hx=>Same H Hx∧Paired (PtAt Hx) ys (aU i n)) ⟨Same.refl _,.nil⟩ ?_ ?_
 ·rintro i ys Hx hi ⟨sx,py⟩
  refine ⟨leS.set rfl,cC ?_⟩
  refine ⟨_,rfl,_,_,rfl,rfl,1,_,rfl,⟨by decide,by decide,by show -(2 ^ 62)≤(n:Int) + 1; omega,by show (n:Int) + 1 < 2 ^ 62; omega⟩,?_⟩
  have en:((n:Int) + 1 - 1).toNat=n:=by omega
  show ∃W2,_∧iY _ (Itr 1 ((n:Int) + 1 - 1).toNat) _ _ _ _ W2
  rw [en]
  refine uO (lo:=1) (n:=n) (fun j zs Hy=>Same H Hy∧Paired (PtAt Hy) zs (aU i n ++ gO (1 + (i:Int)) j)) ⟨sx,by show Paired _ _ (_ ++ []); rw [List.append_nil]; exact py⟩ ?_ ?_
  ·rintro j zs Hy hj ⟨sy,pz⟩
   have pl:=Paired.length pz
   rw [List.length_append,ci,jK] at pl
   have:i * n≤16 * 16:=Nat.mul_le_mul (by omega) (by omega)
   refine ⟨by omega,leS.set rfl,cC ?_⟩
   refine ⟨_,rfl,_,rfl,(by show 2≤sizeLine; decide),fun t ht=>?_⟩
   obtain ⟨Hz,e1,k1,s1⟩:∃H',upd Hy t (.tup [.int (1 + i),.int (1 + j)])=H'∧H' t=some (.tup [.int (1 + i),.int (1 + j)])∧Same Hy H':=⟨_,rfl,ae,Same.new ht⟩
   rw [show upd Hy t _=Hz from e1]
   refine Nx.of hj ⟨sy.trans s1,?_⟩
   rw [iz,← List.append_assoc]
   exact Paired.app (Paired.mapP pz fun v p h=>h.keep s1) (.cons ⟨t,rfl,k1⟩ .nil)
  ·rintro zs Hy ⟨sy,pz⟩
   refine Nx.of hi ⟨sy,?_⟩
   rw [cM]
   exact pz
 ·rintro ys Hx ⟨sx,py⟩
  have pl:=Paired.length py
  rw [ci] at pl
  have:m * n≤16 * 16:=Nat.mul_le_mul (by omega) (by omega)
  refine ⟨by omega,fun l hl=>?_⟩
  obtain ⟨Hz,e2,k2,s2⟩:∃H',upd Hx l (.lst ys)=H'∧H' l=some (.lst ys)∧Same Hx H':=⟨_,rfl,ae,Same.new hl⟩
  rw [show upd Hx l _=Hz from e2]
  exact q l ys Hz k2 (Paired.mapP py fun v p h=>h.keep s2) (sx.trans s2)
end
structure BeC (K:PySem.W.Frag) (mg:Str→Option Value) (wa:Addr):Prop where
 dn:∃t,mg "DOWN" = some (.str "down" t)
 rs:∃t,mg "REST" = some (.str "rest" t)
 pc:∃t,mg "PIECE" = some (.str "piece" t)
 ac:∃t,mg "ACROSS" = some (.str "across" t)
 ms:∃t,mg "MOST_SIDE" = some (.int 16 t)
 wy:mg "WAYS" = some (.ref wa)
 wq:∀H,SqT K H wa [.str "down",.str "across"]
abbrev wv (dn:Bool):V:=.str (if dn=true then "down" else "across")
def WpAt (H:Hp) (v:V) (x:Bool×Int):Prop:=∃q,v=.ref q∧H q=some (.tup [wv x.1,.int x.2])
theorem WpAt.keep {H H':Hp} (s:Same H H') {v:V} {x:Bool×Int} (h:WpAt H v x):WpAt H' v x:=by
 obtain ⟨q,e,h⟩:=h
 exact ⟨q,e,s _ _ h⟩
def wpL (dn:Bool) (n:Nat):List (Bool×Int):=(List.range n).map fun (j:Nat)=>(dn,1 + (j:Int))
theorem dk (dn:Bool) (n:Nat):(wpL dn n).length=n:=by unfold wpL; rw [List.length_map,List.length_range]
theorem jL (dn:Bool) (n:Nat):wpL dn (n + 1)=wpL dn n ++ [(dn,1 + (n:Int))]:=by
 unfold wpL
 rw [List.range_succ,List.map_append]
 rfl
def cb (b w h:Int):List (Bool×Int):=wpL true (w - b - 1).toNat ++ wpL false (h - b - 1).toNat
def bL (w h:Int) (x:Bool×Int):Int×Int:=if x.1=true then (x.2,h) else (w,x.2)
def bM (b w h:Int) (x:Bool×Int):Int×Int:=if x.1=true then (w - x.2 - b,h) else (w,h - x.2 - b)
def CutAt (b w h:Int) (H:Hp) (v:V) (x:Bool×Int):Prop:=∃q t1 t2,v=.ref q∧H q=some (.tup [wv x.1,.int x.2,.ref t1,.ref t2])∧H t1=some (.tup [.int (bL w h x).1,.int (bL w h x).2])∧H t2=some (.tup [.int (bM b w h x).1,.int (bM b w h x).2])
theorem CutAt.keep {b w h:Int} {H H':Hp} (s:Same H H') {v:V} {x:Bool×Int} (c:CutAt b w h H v x):CutAt b w h H' v x:=by
 obtain ⟨q,t1,t2,e,h1,h2,h3⟩:=c
 exact ⟨q,t1,t2,e,s _ _ h1,s _ _ h2,s _ _ h3⟩
section
variable {P:Program} {w:World} {K:PySem.W.Frag} {mg:Str→Option Value} {base:Heap}
def kU:Sp:=fun vs H Q _=>∃ (b w h:Int) (t:Addr),vs=[.int b,.ref t]∧H t=some (.tup [.int w,.int h])∧w≤16∧h≤16∧0≤b∧∀ (l:Addr) (ys:List V) (H':Hp),H' l=some (.lst ys)→Paired (CutAt b w h H') ys (cb b w h)→Same H H'→Q (.ref l) H'
theorem sccuts:FnScope ["blade","part","down","across"] ["blade","part"] (defScope cL):=⟨rfl,rfl,rfl,by decide +kernel,rfl,by decide +kernel,by decide +kernel⟩
theorem sM {f wa:Addr} {fd:FuncData} (F:Fun K "cuts_of" "cuts_of" cL f fd) (B:Blt mg) (Z:BeC K mg wa) (DP:Dn P w K mg base "cut_parts" ["blade","part","way","p"] 1 (fc)):FnOk P w K mg base CX0 2 f fd ["blade","part"] (kU):=by
 refine F.ok sccuts (fun vs H Q E h=>?_) (fun cdv A outer s H vs Q E hr h=>?_)
 ·obtain ⟨b,w1,h1,t,rfl,_⟩:=h
  rfl
 obtain ⟨b,w1,h1,t,rfl,ht,w16,h16,b0,q⟩:=h
 have nd:=sccuts.nd
 obtain ⟨tdn,hdn⟩:=Z.dn
 obtain ⟨tac,hac⟩:=Z.ac
 refine ⟨_,(@af _ _ _ _ _ (mE (i:=2) (own:=["p"]) (cs:=[]) (cap:=[]) rfl nd rfl rfl rfl (gH rfl B.range (@aa _ _ _ _ _ ag (@aa _ _ _ _ _ (@az _ _ _ _ _ _ _ _ bQ (@aD _ _ _ _ _ _ _ ix_tup (pv 1) ag (fun _ _=>rfl)) (pv 0)) ad rfl) rfl)) (cf (sc:=defScope cL) (N:=["blade","part","down","across"]) rfl rfl (by decide +kernel)) (fun _ _ _ _ _=>ak (i:=0) (by show List.Nodup (["p"]:List Str) ; decide +kernel) rfl (Or.inl rfl) (Or.inr rfl)) (fun _ _ _ _ _=>cB) (fun _ _ _ _ _=>(@aq _ _ _ _ _ (@aa _ _ _ _ _ (aB (v:=.str "down") rfl hdn ⟨tdn,rfl⟩) (@aa _ _ _ _ _ (pv 0) ad rfl) rfl)))) (@af _ _ _ _ _ (mE (i:=3) (own:=["p"]) (cs:=[]) (cap:=[]) rfl nd rfl rfl rfl (gH rfl B.range (@aa _ _ _ _ _ ag (@aa _ _ _ _ _ (@az _ _ _ _ _ _ _ _ bQ (@aD _ _ _ _ _ _ _ ix_tup (pv 1) ag (fun _ _=>rfl)) (pv 0)) ad rfl) rfl)) (cf (sc:=defScope cL) (N:=["blade","part","down","across"]) rfl rfl (by decide +kernel)) (fun _ _ _ _ _=>ak (i:=0) (by show List.Nodup (["p"]:List Str) ; decide +kernel) rfl (Or.inl rfl) (Or.inr rfl)) (fun _ _ _ _ _=>cB) (fun _ _ _ _ _=>(@aq _ _ _ _ _ (@aa _ _ _ _ _ (aB (v:=.str "across") rfl hac ⟨tac,rfl⟩) (@aa _ _ _ _ _ (pv 0) ad rfl) rfl)))) (@ai _ _ _ (@au _ _ _ _ (ge (own:=["way","p"]) (cs:=["blade","part"]) (cap:=[0,1]) rfl (cj (@az _ _ _ _ _ _ _ _ ej (pv 2) (pv 3))) (cf (sc:=defScope cL) (N:=["blade","part","down","across"]) rfl rfl (by decide +kernel)) (fun _ _ _ _ _=>qj K rfl rfl (by show List.Nodup (["way","p","blade","part"]:List Str) ; decide +kernel) rfl rfl rfl rfl) (fun _ _ _ _ _=>cB) (fun _ _ _ _ _=>(az (r:=ua K) mz (@aq _ _ _ _ _ (@aa _ _ _ _ _ (pv 0) (@aa _ _ _ _ _ (pv 1) ad rfl) rfl)) (@ar _ _ _ _ _ _ _ _ _ _ DP hr rfl (@aa _ _ _ _ _ (pv 2) (@aa _ _ _ _ _ (pv 3) (@aa _ _ _ _ _ (pv 0) (@aa _ _ _ _ _ (pv 1) ad rfl) rfl) rfl) rfl) (by decide) rfl rfl)))))))),?_⟩
 have z4:4096≤sizeLine:=by decide
 have wn:(w1 - b - 1).toNat≤16:=by omega
 have hn:(h1 - b - 1).toNat≤16:=by omega
 refine ao (fun σ' H'=>∃ (dl:Addr) (ys:List V),σ'=[some (.int b),some (.ref t),some (.ref dl),none]∧H' dl=some (.lst ys)∧Paired (WpAt H') ys (wpL true (w1 - b - 1).toNat)∧Same H H') (fun R hR=>?_) ?_
 ·refine ⟨_,rfl,t,_,0,_,rfl,rfl,SqT.of ht,rfl,_,rfl,_,_,rfl,rfl,1,_,rfl,⟨by decide,by decide,by show w1 - b < 2 ^ 62; omega⟩,?_⟩
  show ∃W,_∧gz _ _ _ (Itr 1 (w1 - b - 1).toNat) _ _ _ _ W
  generalize (w1 - b - 1).toNat=n at *
  refine gG (lo:=1) (n:=n) (fun i ys Hx=>Same H Hx∧Paired (WpAt Hx) ys (wpL true i)) ⟨Same.refl _,.nil⟩ ?_ ?_
  ·rintro i ys Hx hi ⟨sx,py⟩
   have pl:=Paired.length py
   rw [dk] at pl
   refine ⟨by omega,leS.set rfl,cC ?_⟩
   refine ⟨_,rfl,(by show 2≤sizeLine; decide),fun q' hq=>?_⟩
   obtain ⟨Hy, e9, k9, s9⟩:∃H', upd Hx q' (.tup [.str "down", .int (1 + i)])=H'∧H' q'=some (.tup [.str "down", .int (1 + i)])∧Same Hx H':=⟨_, rfl, ae, Same.new hq⟩
   rw [show upd Hx q' _=Hy from e9]
   refine Nx.of hi ⟨sx.trans s9,?_⟩
   rw [jL]
   exact Paired.app (Paired.mapP py fun v p h=>h.keep s9) (.cons ⟨q',rfl,k9⟩ .nil)
  ·rintro ys Hx ⟨sx,py⟩
   have pl:=Paired.length py
   rw [dk] at pl
   refine ⟨by omega,fun l hl=>?_⟩
   obtain ⟨Hy,e9,k9,s9⟩:∃H',upd Hx l (.lst ys)=H'∧H' l=some (.lst ys)∧Same Hx H':=⟨_,rfl,ae,Same.new hl⟩
   rw [show upd Hx l _=Hy from e9]
   exact hR _ _ ⟨l,ys,rfl,k9,Paired.mapP py fun v p h=>h.keep s9,sx.trans s9⟩
 rintro _ H1 ⟨dl,ys,rfl,kd,pd,s1⟩
 refine ao (fun σ' H'=>∃ (al:Addr) (zs:List V),σ'=[some (.int b),some (.ref t),some (.ref dl),some (.ref al)]∧H' al=some (.lst zs)∧Paired (WpAt H') zs (wpL false (h1 - b - 1).toNat)∧Same H1 H') (fun R hR=>?_) ?_
 ·refine ⟨_,rfl,t,_,1,_,rfl,rfl,SqT.of (s1 _ _ ht),rfl,_,rfl,_,_,rfl,rfl,1,_,rfl,⟨by decide,by decide,by show h1 - b < 2 ^ 62; omega⟩,?_⟩
  show ∃W,_∧gz _ _ _ (Itr 1 (h1 - b - 1).toNat) _ _ _ _ W
  generalize (h1 - b - 1).toNat=n at *
  refine gG (lo:=1) (n:=n) (fun i ys Hx=>Same H1 Hx∧Paired (WpAt Hx) ys (wpL false i)) ⟨Same.refl _,.nil⟩ ?_ ?_
  ·rintro i ys Hx hi ⟨sx,py⟩
   have pl:=Paired.length py
   rw [dk] at pl
   refine ⟨by omega,leS.set rfl,cC ?_⟩
   refine ⟨_,rfl,(by show 2≤sizeLine; decide),fun q' hq=>?_⟩
   obtain ⟨Hy, e9, k9, s9⟩:∃H', upd Hx q' (.tup [.str "across", .int (1 + i)])=H'∧H' q'=some (.tup [.str "across", .int (1 + i)])∧Same Hx H':=⟨_, rfl, ae, Same.new hq⟩
   rw [show upd Hx q' _=Hy from e9]
   refine Nx.of hi ⟨sx.trans s9,?_⟩
   rw [jL]
   exact Paired.app (Paired.mapP py fun v p h=>h.keep s9) (.cons ⟨q',rfl,k9⟩ .nil)
  ·rintro ys Hx ⟨sx,py⟩
   have pl:=Paired.length py
   rw [dk] at pl
   refine ⟨by omega,fun l hl=>?_⟩
   obtain ⟨Hy,e9,k9,s9⟩:∃H',upd Hx l (.lst ys)=H'∧H' l=some (.lst ys)∧Same Hx H':=⟨_,rfl,ae,Same.new hl⟩
   rw [show upd Hx l _=Hy from e9]
   exact hR _ _ ⟨l,ys,rfl,k9,Paired.mapP py fun v p h=>h.keep s9,sx.trans s9⟩
 rintro _ H2 ⟨al,zs,rfl,ka,pa,s2⟩
 have s02:=s1.trans s2
 have ht2:=s02 _ _ ht
 have pd2:Paired (WpAt H2) ys (wpL true (w1 - b - 1).toNat):=Paired.mapP pd fun v p h=>h.keep s2
 have l1:=Paired.length pd2
 have l2:=Paired.length pa
 rw [dk] at l1 l2
 have pc:Paired (WpAt H2) (ys ++ zs) (cb b w1 h1):=Paired.app pd2 pa
 refine ⟨_,rfl,_,rfl,dl,al,_,_,rfl,rfl,s2 _ _ kd,ka,by omega,fun cl hcl=>?_⟩
 obtain ⟨H3,e3,k3,s3⟩:∃H',upd H2 cl (.lst (ys ++ zs))=H'∧H' cl=some (.lst (ys ++ zs))∧Same H2 H':=⟨_,rfl,ae,Same.new hcl⟩
 rw [show upd H2 cl _=H3 from e3]
 have pc3:Paired (WpAt H3) (ys ++ zs) (cb b w1 h1):=Paired.mapP pc fun v p h=>h.keep s3
 have cl32:(ys ++ zs).length≤32:=by rw [List.length_append]; omega
 refine ⟨cl,rfl,⟨_,SqL.of k3⟩,(gC (K:=K) (.inl k3) (fun i us Hx=>Same H3 Hx∧Paired (CutAt b w1 h1 Hx) us ((cb b w1 h1).take i)) (fun i us Hx _ ⟨sx,_⟩ o e=>sx _ _ e) ⟨Same.refl _,.nil⟩ ?_ ?_).1 k3⟩
 ·rintro i y us Hx hi ⟨sx,pu⟩
  have hin:i < (ys ++ zs).length:=(List.getElem?_eq_some_iff.mp hi).1
  obtain ⟨⟨dn,p⟩,hq,a,rfl,ha⟩:=Paired.getR pc3 hi
  have ul:=Paired.length pu
  rw [List.length_take] at ul
  have hax:=sx _ _ ha
  refine ⟨by omega,a,_,rfl,SqT.of hax,rfl,_,_,rfl,_,_,rfl,rfl,?_⟩
  refine ⟨zK (leS.set rfl) (leS.set rfl),cC ?_⟩
  refine ⟨_,rfl,_,rfl,(by show 2≤sizeLine; decide),fun x hx=>?_⟩
  obtain ⟨Hy,e4,k4,s4⟩:∃H',upd Hx x (.tup [wv dn,.int p])=H'∧H' x=some (.tup [wv dn,.int p])∧Same Hx H':=⟨_,rfl,ae,Same.new hx⟩
  rw [show upd Hx x _=Hy from e4]
  refine ⟨_,rfl,_,rfl,_,rfl,_,rfl,b,w1,h1,p,t,dn,rfl,s4 _ _ (sx _ _ (s3 _ _ ht2)),fun u t1 t2 Hz ku k1 k2 s5=>?_⟩
  refine ⟨x,u,_,_,rfl,rfl,SqT.of (s5 _ _ k4),SqT.of ku,List.cons_ne_nil _ _,(by show 4≤sizeLine; decide),(fun z=>by cases z),fun _ m hm=>?_⟩
  rw [show [wv dn,V.int p] ++ [V.ref t1,V.ref t2]=[wv dn,V.int p,V.ref t1,V.ref t2] from rfl]
  obtain ⟨Hw,e6,k6,s6⟩:∃H',upd Hz m (.tup [wv dn,.int p,.ref t1,.ref t2])=H'∧H' m=some (.tup [wv dn,.int p,.ref t1,.ref t2])∧Same Hz H':=⟨_,rfl,ae,Same.new hm⟩
  rw [show upd Hz m _=Hw from e6]
  have sxw:=s4.trans (s5.trans s6)
  refine Nx.of hin ⟨sx.trans sxw,?_⟩
  rw [List.take_add_one,hq]
  refine Paired.app (Paired.mapP pu fun v p h=>h.keep sxw) (.cons ⟨m,t1,t2,rfl,k6,?_,?_⟩ .nil)
  ·cases dn <;> exact s6 _ _ k1
  ·cases dn <;> exact s6 _ _ k2
 ·rintro us Hx ⟨sx,pu⟩
  have pl:=Paired.length pc3
  rw [pl,List.take_length] at pu
  have ul:=Paired.length pu
  refine ⟨by omega,fun l hl=>?_⟩
  obtain ⟨Hy,e7,k7,s7⟩:∃H',upd Hx l (.lst us)=H'∧H' l=some (.lst us)∧Same Hx H':=⟨_,rfl,ae,Same.new hl⟩
  rw [show upd Hx l _=Hy from e7]
  exact q l us Hy k7 (Paired.mapP pu fun v p h=>h.keep s7) (s02.trans (s3.trans (sx.trans s7)))
end
theorem TrV.dat {K:PySem.W.Frag} {H:Hp}:∀ (t:Tr) {v:V},TrV H t v→DatV K H v (toD t)
 | .rest,_,⟨a,e,h⟩=>by subst e; exact .tup (SqT.of h) (.cons (.str _) .nil)
 | .piece ..,_,⟨a,e,h⟩=>by subst e; exact .tup (SqT.of h) (.cons (.str _) (.cons (.int _) (.cons (.bl _) (.cons (.int _) (.cons (.int _) .nil)))))
 | .cut _ _ l r,_,⟨a,x,y,e,h,h1,h2⟩=>by subst e; exact .tup (SqT.of h) (.cons (.str _) (.cons (.int _) (.cons (TrV.dat l h1) (.cons (TrV.dat r h2) .nil))))
def dpt:Tr→Nat
 | .cut _ _ l r=>max (dpt l) (dpt r) + 1
 | _=>0
theorem fL:∀t:Tr,(toD t).depth≤dpt t + 1
 | .rest=>by decide +kernel
 | .piece i c x y=>by
  show PyData.depthAll [.str "piece",.int i,.bool c,.int x,.int y] + 1≤0 + 1
  simp only [PyData.depthAll,PyData.depth]
  omega
 | .cut dn p l r=>by
  have h1:=fL l
  have h2:=fL r
  show PyData.depthAll [.str (if dn=true then "down" else "across"),.int p,toD l,toD r] + 1≤max (dpt l) (dpt r) + 1 + 1
  simp only [PyData.depthAll,PyData.depth]
  omega
theorem gj:∀t:Tr,PyData.canLay0 (toD t)=true
 | .rest=>by decide +kernel
 | .piece i c x y=>by
  show (PyData.canLay0 (.str "piece") && (true && (true && (true && (true && true)))))=true
  decide +kernel
 | .cut dn p l r=>by
  have h1:=gj l
  have h2:=gj r
  show (PyData.canLay0 (.str (if dn=true then "down" else "across")) && (true && (PyData.canLay0 (toD l) && (PyData.canLay0 (toD r) && true))))=true
  rw [h1,h2]
  cases dn <;> decide +kernel
def wq (ks:List Kd) (q:Nat×Bool):Int:=match ks[q.1]? with
 | some k=>k.wo
 | none=>0
def mxL {α:Type} (f:α→Int) (l:List α) (x:Int):Int:=l.foldl (fun m q=>max m (f q)) x
theorem jM {α:Type} (f:α→Int) (l:List α) (x:Int) {i:Nat} {q:α} (h:l[i]? = some q):mxL f (l.take (i + 1)) x=max (mxL f (l.take i) x) (f q):=by
 unfold mxL
 rw [List.take_add_one,h,List.foldl_append]
 rfl
def lfW (ks:List Kd) (w h:Int):Int:=mxL (wq ks) ((lyK ks 0).filter (fj ks w h)) 0
def LfV (H:Hp) (v:V):Prop:=∃ (q:Addr) (y:Str) (r:List V),v=.ref q∧H q=some (.tup (.str y :: r))∧inV (V.str y) [V.str "down",V.str "across"]=false
def lfF (ks:List Kd) (m:Int×Tr) (q:Nat×Bool):Int×Tr:=if m.1 < wq ks q then (wq ks q,.piece q.1 q.2 0 0) else m
def lfP (ks:List Kd) (l:List (Nat×Bool)):Int×Tr:=l.foldl (lfF ks) (0,.rest)
theorem mS (ks:List Kd):∀ (l:List (Nat×Bool)) (m:Int×Tr),(l.foldl (lfF ks) m).1=mxL (wq ks) l m.1
 | [],_=>rfl
 | q :: l,m=>by
  show (l.foldl (lfF ks) (lfF ks m q)).1=mxL (wq ks) l (max m.1 (wq ks q))
  rw [mS ks l]
  unfold lfF
  split
  ·rw [show max m.1 (wq ks q)=wq ks q by omega]
  ·rw [show max m.1 (wq ks q)=m.1 by omega]
theorem sN (ks:List Kd) (l:List (Nat×Bool)):(lfP ks l).1=mxL (wq ks) l 0:=mS ks l _
theorem qL (ks:List Kd) (l:List (Nat×Bool)) {i:Nat} {q:Nat×Bool} (h:l[i]? = some q):lfP ks (l.take (i + 1))=lfF ks (lfP ks (l.take i)) q:=by
 unfold lfP
 rw [List.take_add_one,h,List.foldl_append]
 rfl
def qM:Tr→Bool
 | .cut .. => false
 | _=>true
theorem jN (ks:List Kd):∀ (l:List (Nat×Bool)) (m:Int×Tr),qM m.2=true→qM (l.foldl (lfF ks) m).2=true
 | [],_,h=>h
 | q :: l,m,h=>by
  refine jN ks l _ ?_
  unfold lfF
  split
  ·rfl
  ·exact h
def lfT (ks:List Kd) (w h:Int):Tr:=(lfP ks ((lyK ks 0).filter (fj ks w h))).2
theorem jO (ks:List Kd) (w h:Int):qM (lfT ks w h)=true:=jN ks _ _ rfl
theorem TrV.lf {H:Hp} {v:V}:∀ {t:Tr},qM t=true→TrV H t v→LfV H v
 | .rest,_,⟨a,e,h⟩=>⟨a,_,_,e,h,by decide +kernel⟩
 | .piece ..,_,⟨a,e,h⟩=>⟨a,_,_,e,h,by decide +kernel⟩
def stF (g:Bool×Int→Int) (m:Int×Option (Bool×Int)) (c:Bool×Int):Int×Option (Bool×Int):=if m.1 < g c then (g c,some c) else m
def stP (g:Bool×Int→Int) (cs:List (Bool×Int)) (x:Int):Int×Option (Bool×Int):=cs.foldl (stF g) (x,none)
def stC (g:Bool×Int→Int) (cs:List (Bool×Int)) (x:Int):Option (Bool×Int):=(stP g cs x).2
def StV (b w h:Int) (H:Hp) (lv v:V):Option (Bool×Int)→Prop
 | none=>v=lv
 | some c=>CutAt b w h H v c
abbrev pk (p:Int×Int):List Key:=[.inl p.1,.inl p.2]
section
variable {P:Program} {w:World} {K:PySem.W.Frag} {mg:Str→Option Value} {base:Heap}
def jf (C:Addr):Sp:=fun vs H Q _=>∃ (s t:Addr) (b:Int) (ks:List Kd) (w h:Int),vs=[.ref s,.ref t]∧ShopAt C H s b ks∧ks.length≤8∧H t=some (.tup [.int w,.int h])∧∀ (r:Addr) (v:V) (H':Hp),H' r=some (.tup [.int (lfW ks w h),v])→TrV H' (lfT ks w h) v→Same H H'→Q (.ref r) H'
def EC:Sp:=fun vs H Q _=>∃ (lf cl wt:Addr) (x:Int) (lv:V) (ys:List V) (b w h:Int) (cs:List (Bool×Int)) (f:Int×Int→Int) (kvs:List (List Key×V)),vs=[.ref lf,.ref cl,.ref wt]∧H lf=some (.tup [.int x,lv])∧H cl=some (.lst ys)∧Paired (CutAt b w h H) ys cs∧H wt=some (.dT kvs)∧(∀c∈cs,cx kvs (pk (bL w h c))=some (.int (f (bL w h c)))∧cx kvs (pk (bM b w h c))=some (.int (f (bM b w h c)))) ∧
 ∀ (r:Addr) (v:V) (H':Hp),H' r=some (.tup [.int (mxL (fun c=>f (bL w h c) + f (bM b w h c)) cs x),v])→StV b w h H' lv v (stC (fun c=>f (bL w h c) + f (bM b w h c)) cs x)→Same H H'→Q (.ref r) H'
theorem scbleaf:FnScope ["shop","part","worth","leaf","kinds","kind","turned"] ["shop","part"] (defScope cV):=⟨rfl,rfl,rfl,by decide +kernel,rfl,by decide +kernel,by decide +kernel⟩
theorem qN {f wa C:Addr} {fd:FuncData} (F:Fun K "best_leaf" "best_leaf" cV f fd) (Z:BeC K mg wa) (T:ShopTxt K C) (MK:Mn P w K mg base C "kinds" ["self"] 1 (iN C)) (DL:Dn P w K mg base "lyings_in" ["shop","part"] 5 (kT C)):FnOk P w K mg base CX0 6 f fd ["shop","part"] (jf C):=by
 refine F.ok scbleaf (fun vs H Q E h=>?_) (fun cdv A outer s H vs Q E hr h=>?_)
 ·obtain ⟨s,t,b,ks,w1,h1,rfl,_⟩:=h
  rfl
 obtain ⟨s,t,b,ks,w1,h1,rfl,S0,k8,ht,q⟩:=h
 have nd:=scbleaf.nd
 obtain ⟨trs,hrs⟩:=Z.rs
 obtain ⟨tpc,hpc⟩:=Z.pc
 refine ⟨_,(@af _ _ _ _ _ (jU rfl nd rfl rfl (i:=2) (j:=3) (by decide) rfl rfl (@aa _ _ _ _ _ ag (@aa _ _ _ _ _ (@aq _ _ _ _ _ (@aa _ _ _ _ _ (aB (v:=.str "rest") rfl hrs ⟨trs,rfl⟩) ad rfl)) ad rfl) rfl) rfl) (@af _ _ _ _ _ (@aw _ _ 4 _ _ _ _ nd rfl (Or.inl rfl) (iO (pv 0) T.cl MK (hr.mono (by decide))) rfl (Or.inl rfl)) (@af _ _ _ _ _ (@ce _ _ _ _ _ _ _ _ PassesOwn.never rfl (cj (@ar _ _ _ _ _ _ _ _ _ _ DL hr rfl (@aa _ _ _ _ _ (pv 0) (@aa _ _ _ _ _ (pv 1) ad rfl) rfl) (by decide) rfl rfl)) (aZ rfl (aj (ak (i:=5) nd rfl (Or.inl rfl)) (aj (ak (i:=6) nd rfl (Or.inl rfl)) aQ))) (@ai _ _ _ (@aL _ _ _ _ _ _ _ _ (@ax _ _ _ _ _ _ _ _ cQ (@aD _ _ _ _ _ _ _ ix_tup (@aD _ _ _ _ _ _ _ ix_list (pv 4) (pv 5) (fun _ _=>rfl)) ag (fun _ _=>rfl)) (pv 2) (ay _)) (@ai _ _ _ (jU rfl nd rfl rfl (i:=2) (j:=3) (by decide) rfl rfl (@aa _ _ _ _ _ (@aD _ _ _ _ _ _ _ ix_tup (@aD _ _ _ _ _ _ _ ix_list (pv 4) (pv 5) (fun _ _=>rfl)) ag (fun _ _=>rfl)) (@aa _ _ _ _ _ (@aq _ _ _ _ _ (@aa _ _ _ _ _ (aB (v:=.str "piece") rfl hpc ⟨tpc,rfl⟩) (@aa _ _ _ _ _ (pv 5) (@aa _ _ _ _ _ (pv 6) (@aa _ _ _ _ _ ag (@aa _ _ _ _ _ ag ad rfl) rfl) rfl) rfl) rfl)) ad rfl) rfl) rfl)) av)) (by intro _; rfl)) (@ai _ _ _ (@au _ _ _ _ (@aq _ _ _ _ _ (@aa _ _ _ _ _ (pv 2) (@aa _ _ _ _ _ (pv 3) ad rfl) rfl))))))),?_⟩
 have z4:4096≤sizeLine:=by decide
 refine ao (fun σ' H'=>∃lv,σ'=[some (.ref s),some (.ref t),some (.int 0),some lv,none,none,none]∧TrV H' .rest lv∧Same H H') (fun R hR=>?_) ?_
 ·refine ⟨(by show 1≤sizeLine; decide),fun x hx=>?_⟩
  obtain ⟨H1, e1, k1, s1⟩:∃H', upd H x (.tup [.str "rest"])=H'∧H' x=some (.tup [.str "rest"])∧Same H H':=⟨_, rfl, ae, Same.new hx⟩
  rw [show upd H x _=H1 from e1]
  exact ⟨_,_,rfl,hR _ _ ⟨_,rfl,⟨x,rfl,k1⟩,s1⟩⟩
 rintro _ H1 ⟨lv,rfl,hlv,s1⟩
 have S1:=S0.keep (fun c o e=>s1 _ _ e) (fun c C' d fs e=>s1 _ _ e)
 obtain ⟨dx,r0,rs0,g1,g2,g3⟩:=id S1
 refine ao (fun σ' H'=>∃ (kl:Addr) (rs:List V),σ'=[some (.ref s),some (.ref t),some (.int 0),some lv,some (.ref kl),none,none]∧H' kl=some (.lst rs)∧Tups H' rs ks∧Same H1 H') (fun R hR=>?_) ?_
 ·refine ⟨_,rfl,s,dx,_,rfl,g1,cw _ _ (by decide +kernel) (by decide +kernel),s,b,ks,rfl,S1,fun kl rs hkl tp=>?_⟩
  obtain ⟨H2,e2,k2,s2⟩:∃H',upd H1 kl (.lst rs)=H'∧H' kl=some (.lst rs)∧Same H1 H':=⟨_,rfl,ae,Same.new hkl⟩
  rw [show upd H1 kl _=H2 from e2]
  exact hR _ _ ⟨kl,rs,rfl,k2,Tups.keep (fun c o e=>s2 _ _ e) tp,s2⟩
 rintro _ H2 ⟨kl,rs,rfl,kk2,tp2,s2⟩
 have s02:=s1.trans s2
 have S2:=S0.keep (fun c o e=>s02 _ _ e) (fun c C' d fs e=>s02 _ _ e)
 refine ao (fun σ' H'=>∃ (lv:V) (v5 v6:Option V),σ'=[some (.ref s),some (.ref t),some (.int (lfW ks w1 h1)),some lv,some (.ref kl),v5,v6]∧TrV H' (lfT ks w1 h1) lv∧Same H2 H') (fun R hR=>?_) ?_
 ·refine ⟨_,rfl,_,rfl,s,t,b,ks,w1,h1,rfl,S2,k8,s02 _ _ ht,fun l ys H3 hl hl3 ly s3=>?_⟩
  have kk:=s3 _ _ kk2
  have tp3:Tups H3 rs ks:=Tups.keep (fun c o e=>s3 _ _ e) tp2
  have yl:=Paired.length ly
  refine ⟨l,rfl,⟨_,SqL.of hl3⟩,ck (xs:=ys) (fun i σ' H'=>∃ (lv:V) (v5 v6:Option V),σ'=[some (.ref s),some (.ref t),some (.int (mxL (wq ks) (((lyK ks 0).filter (fj ks w1 h1)).take i) 0)),some lv,some (.ref kl),v5,v6]∧TrV H' (lfP ks (((lyK ks 0).filter (fj ks w1 h1)).take i)).2 lv∧Same H3 H') ⟨lv,none,none,rfl,TrV.keep (fun a xs e=>(s2.trans s3) _ _ e) _ hlv,Same.refl _⟩ (fun i σ Hx _ ⟨_,_,_,_,_,sx⟩=>SqL.of (sx _ _ hl3)) ?_ ?_⟩
  ·rintro i x σ Hx hi ⟨lv,v5,v6,rfl,hlv,sx⟩
   obtain ⟨⟨ki,c⟩,hq,qa,rfl,hqa⟩:=Paired.getR ly hi
   obtain ⟨_,k,hk⟩:=mR (List.mem_filter.mp (List.mem_of_getElem? hq)).1
   have hk:ks[ki]? = some k:=hk
   obtain ⟨vv,hvv,hva⟩:=Paired.getL tp3 hk
   obtain ⟨a,rfl,ha2⟩:=hva
   have hat:atI rs (ki:Int)=some (.ref a):=bh (by omega) (by rw [Int.toNat_natCast]; exact hvv)
   have ewq:wq ks (ki,c)=k.wo:=by unfold wq; simp only [hk]
   have hmx:=jM (wq ks) ((lyK ks 0).filter (fj ks w1 h1)) 0 hq
   rw [ewq] at hmx
   have hlt:=qL ks ((lyK ks 0).filter (fj ks w1 h1)) hq
   have hlf:=sN ks (((lyK ks 0).filter (fj ks w1 h1)).take i)
   refine ⟨qa,_,rfl,SqT.of (sx _ _ hqa),rfl,_,_,rfl,_,_,rfl,rfl,?_⟩
   obtain ⟨m,hm⟩:∃m,mxL (wq ks) (((lyK ks 0).filter (fj ks w1 h1)).take i) 0=m:=⟨_,rfl⟩
   rw [hm] at hmx hlf ⊢
   unfold lfF at hlt
   rw [hlf,ewq] at hlt
   refine ⟨_,rfl,_,rfl,kl,_,_,_,rfl,rfl,SqL.of (sx _ _ kk),hat,a,_,2,_,rfl,rfl,SqT.of (sx _ _ ha2),rfl,_,rfl,_,_,rfl,rfl,_,rfl,?_⟩
   by_cases c1:m < k.wo
   ·rw [show decide (m < k.wo)=true from decide_eq_true c1]
    refine aT ⟨_,rfl,_,rfl,kl,_,_,_,rfl,rfl,SqL.of (sx _ _ kk),hat,a,_,2,_,rfl,rfl,SqT.of (sx _ _ ha2),rfl,_,rfl,_,rfl,(by show 5≤sizeLine; decide),fun x hx=>?_⟩
    obtain ⟨Hy, e4, k4, s4⟩:∃H', upd Hx x (.tup [.str "piece", .int ki, .bl c, .int 0, .int 0])=H'∧H' x=some (.tup [.str "piece", .int ki, .bl c, .int 0, .int 0])∧Same Hx H':=⟨_, rfl, ae, Same.new hx⟩
    rw [show upd Hx x _=Hy from e4]
    refine ⟨_,_,rfl,.ref x,some (.int ki),some (.bl c),?_,by rw [hlt,if_pos c1]; exact ⟨x,rfl,k4⟩,sx.trans s4⟩
    rw [hmx,show max m k.wo=k.wo by omega]
    rfl
   ·rw [show decide (m < k.wo)=false from decide_eq_false c1]
    refine aI ⟨lv,some (.int ki),some (.bl c),?_,by rw [hlt,if_neg c1]; exact hlv,sx⟩
    rw [hmx,show max m k.wo=m by omega]
    rfl
  ·rintro σ Hx ⟨lv,v5,v6,rfl,hlv,sx⟩
   rw [yl,List.take_length] at hlv
   refine hR _ _ ⟨lv,v5,v6,?_,hlv,s3.trans sx⟩
   rw [yl,List.take_length]
   rfl
 rintro _ H3 ⟨lv,v5,v6,rfl,hlv,s3⟩
 refine ⟨_,rfl,_,rfl,(by show 2≤sizeLine; decide),fun x hx=>?_⟩
 obtain ⟨H4,e5,k5,s5⟩:∃H',upd H3 x (.tup [.int (lfW ks w1 h1),lv])=H'∧H' x=some (.tup [.int (lfW ks w1 h1),lv])∧Same H3 H':=⟨_,rfl,ae,Same.new hx⟩
 rw [show upd H3 x _=H4 from e5]
 exact q x lv H4 k5 (TrV.keep (fun a xs e=>s5 _ _ e) _ hlv) (s02.trans (s3.trans s5))
end
def msr (p:Int×Int):Nat:=(p.1 + p.2).toNat
theorem mU {dn:Bool} {n:Nat} {x:Bool×Int} (h:x∈wpL dn n):x.1=dn∧1≤x.2∧x.2≤n:=by
 unfold wpL at h
 obtain ⟨j,hj,rfl⟩:=List.mem_map.mp h
 have:=List.mem_range.mp hj
 exact ⟨rfl,by show 1≤1 + (j:Int); omega,by show 1 + (j:Int)≤n; omega⟩
theorem nZ {b w h:Int} {x:Bool×Int} (m:x∈cb b w h):1≤x.2∧(if x.1=true then x.2 + b < w else x.2 + b < h):=by
 unfold cb at m
 rcases List.mem_append.mp m with m | m
 ·obtain ⟨e,h1,h2⟩:=mU m
  rw [e,if_pos rfl]
  exact ⟨h1,by omega⟩
 ·obtain ⟨e,h1,h2⟩:=mU m
  rw [e,if_neg Bool.false_ne_true]
  exact ⟨h1,by omega⟩
theorem fk {b w h:Int} {x:Bool×Int} (b0:0≤b) (w0:1≤w) (h0:1≤h) (m:x∈cb b w h) :
  (1≤(bL w h x).1∧1≤(bL w h x).2∧(bL w h x).1≤w∧(bL w h x).2≤h∧((bL w h x).1 < w∨(bL w h x).1=w∧(bL w h x).2 < h)∧msr (bL w h x) < msr (w,h)) ∧
  (1≤(bM b w h x).1∧1≤(bM b w h x).2∧(bM b w h x).1≤w∧(bM b w h x).2≤h∧((bM b w h x).1 < w∨(bM b w h x).1=w∧(bM b w h x).2 < h)∧msr (bM b w h x) < msr (w,h)):=by
 obtain ⟨h1,h2⟩:=nZ m
 obtain ⟨dn,p⟩:=x
 cases dn with
 | true =>
  have h2:p + b < w:=h2
  have h1:1≤p:=h1
  show (1≤p∧1≤h∧p≤w∧h≤h∧(p < w∨p=w∧h < h)∧(p + h).toNat < (w + h).toNat)∧(1≤w - p - b∧1≤h∧w - p - b≤w∧h≤h∧(w - p - b < w∨w - p - b=w∧h < h)∧(w - p - b + h).toNat < (w + h).toNat)
  refine ⟨⟨?_,?_,?_,?_,?_,?_⟩,⟨?_,?_,?_,?_,?_,?_⟩⟩ <;> omega
 | false =>
  have h2:p + b < h:=h2
  have h1:1≤p:=h1
  show (1≤w∧1≤p∧w≤w∧p≤h∧(w < w∨w=w∧p < h)∧(w + p).toNat < (w + h).toNat)∧(1≤w∧1≤h - p - b∧w≤w∧h - p - b≤h∧(w < w∨w=w∧h - p - b < h)∧(w + (h - p - b)).toNat < (w + h).toNat)
  refine ⟨⟨?_,?_,?_,?_,?_,?_⟩,⟨?_,?_,?_,?_,?_,?_⟩⟩ <;> omega
theorem fM {α:Type} {f g:α→Int}:∀ {l:List α} {x:Int},(∀a∈l,f a=g a)→mxL f l x=mxL g l x
 | [],_,_=>rfl
 | a :: r,x,h=>by
  show mxL f r (max x (f a))=mxL g r (max x (g a))
  rw [h a List.mem_cons_self]
  exact fM fun b hb=>h b (List.mem_cons_of_mem _ hb)
def bF (b:Int) (ks:List Kd):Nat→Int×Int→Int
 | 0,_=>0
 | n + 1,p=>mxL (fun c=>bF b ks n (bL p.1 p.2 c) + bF b ks n (bM b p.1 p.2 c)) (cb b p.1 p.2) (lfW ks p.1 p.2)
def bW (b:Int) (ks:List Kd) (p:Int×Int):Int:=bF b ks (msr p + 1) p
def ltP (p q:Int×Int):Prop:=p.1 < q.1∨p.1=q.1∧p.2 < q.2
theorem rowP_mem {a:Int} {n:Nat} {p:Int×Int}:p∈gO a n↔p.1=a∧1≤p.2∧p.2≤n:=by
 unfold gO
 constructor
 ·intro h
  obtain ⟨j,hj,rfl⟩:=List.mem_map.mp h
  have:=List.mem_range.mp hj
  exact ⟨rfl,by show 1≤1 + (j:Int); omega,by show 1 + (j:Int)≤n; omega⟩
 ·rintro ⟨e,h1,h2⟩
  refine List.mem_map.mpr ⟨(p.2 - 1).toNat,List.mem_range.mpr (by omega),?_⟩
  rw [← e,show 1 + ((p.2 - 1).toNat:Int)=p.2 by omega]
theorem partsL_mem {n:Nat} {p:Int×Int}:∀ {m:Nat},p∈aU m n↔(1≤p.1∧p.1≤m)∧1≤p.2∧p.2≤n
 | 0=>by
  constructor
  ·intro h; simp [aU] at h
  ·rintro ⟨⟨h1,h2⟩,_⟩; exfalso; have h2:p.1≤0:=h2; omega
 | m + 1=>by
  rw [cM,List.mem_append,partsL_mem (m:=m),rowP_mem]
  constructor
  ·rintro (⟨⟨h1,h2⟩,h3⟩ | ⟨h1,h2⟩)
   ·exact ⟨⟨h1,by omega⟩,h3⟩
   ·exact ⟨⟨by omega,by omega⟩,h2⟩
  ·rintro ⟨⟨h1,h2⟩,h3⟩
   by_cases e:p.1=1 + (m:Int)
   ·exact .inr ⟨e,h3⟩
   ·exact .inl ⟨⟨h1,by omega⟩,h3⟩
theorem iA (a:Int):∀n:Nat,(gO a n).Pairwise ltP
 | 0=>List.Pairwise.nil
 | n + 1=>by
  rw [iz,List.pairwise_append]
  refine ⟨iA a n,List.pairwise_singleton _ _,fun p hp q hq=>?_⟩
  rw [List.mem_singleton.mp hq]
  obtain ⟨e,_,h⟩:=rowP_mem.mp hp
  exact .inr ⟨e,by show p.2 < 1 + (n:Int); omega⟩
theorem fW (n:Nat):∀m:Nat,(aU m n).Pairwise ltP
 | 0=>List.Pairwise.nil
 | m + 1=>by
  rw [cM,List.pairwise_append]
  refine ⟨fW n m,iA _ n,fun p hp q hq=>?_⟩
  obtain ⟨⟨_,h⟩,_⟩:=partsL_mem.mp hp
  obtain ⟨e,_⟩:=rowP_mem.mp hq
  exact .inl (by omega)
theorem fX {m n i:Nat} {p q:Int×Int} (hi:(aU m n)[i]? = some p) (hq:q∈aU m n) (hl:ltP q p):q∈(aU m n).take i:=by
 obtain ⟨j,hj⟩:=List.mem_iff_getElem?.mp hq
 obtain ⟨i1,i2⟩:=List.getElem?_eq_some_iff.mp hi
 obtain ⟨j1,j2⟩:=List.getElem?_eq_some_iff.mp hj
 by_cases h:j < i
 ·refine List.mem_iff_getElem?.mpr ⟨j,?_⟩
  rw [List.getElem?_take_of_lt h]; exact hj
 ·exfalso
  rcases Nat.lt_or_ge i j with h' | h'
  ·have:=List.pairwise_iff_getElem.mp (fW n m) i j i1 j1 h'
   rw [i2,j2] at this
   unfold ltP at this hl
   omega
  ·have e:i=j:=by omega
   subst e
   rw [hi] at hj
   cases hj
   unfold ltP at hl
   omega
def byP (ss:List ((Int×Int)×V)):List (List Key×V):=ss.map fun s=>(pk s.1,s.2)
def FZ (b:Int) (ks:List Kd) (ps:List (Int×Int)):List ((Int×Int)×V):=ps.map fun p=>(p,.int (bW b ks p))
def bC (b:Int) (ks:List Kd) (p:Int×Int):Option (Bool×Int):=stC (fun c=>bW b ks (bL p.1 p.2 c) + bW b ks (bM b p.1 p.2 c)) (cb b p.1 p.2) (lfW ks p.1 p.2)
def bT (b:Int) (ks:List Kd):Nat→Int×Int→Tr
 | 0,_=>.rest
 | n + 1,p=>match bC b ks p with
  | none=>lfT ks p.1 p.2
  | some c=>.cut c.1 c.2 (bT b ks n (bL p.1 p.2 c)) (bT b ks n (bM b p.1 p.2 c))
def Ga (b:Int) (ks:List Kd) (H:Hp) (ss:List ((Int×Int)×V)):Prop:=∀p v,(p,v)∈ss→(bC b ks p=none∧TrV H (lfT ks p.1 p.2) v)∨∃x:Bool×Int,bC b ks p=some x∧CutAt b p.1 p.2 H v x∧bL p.1 p.2 x∈ss.map (·.1)∧bM b p.1 p.2 x∈ss.map (·.1)∧msr (bL p.1 p.2 x) < msr p∧msr (bM b p.1 p.2 x) < msr p
abbrev TC:=(Bool×Int)×Nat
def jP (wa:Bool) (left:Nat) (c:Bool×Int):Option TC:=if c.1=wa then some (c,left) else if left=0 then none else some (c,left - 1)
def cbt (cs:List (Bool×Int)) (wa:Bool) (left:Nat):List TC:=cs.filterMap (jP wa left)
theorem qO {cs:List (Bool×Int)} {wa:Bool} {left i:Nat} {c:Bool×Int} (h:cs[i]? = some c):cbt (cs.take (i + 1)) wa left=cbt (cs.take i) wa left ++ (jP wa left c).toList:=by
 unfold cbt
 rw [List.take_add_one,h,List.filterMap_append]
 congr 1
theorem gl {cs:List (Bool×Int)} {wa:Bool} {left:Nat} {x:TC} (h:x∈cbt cs wa left):x.1∈cs∧x.2≤left∧(x.1.1=wa→x.2=left)∧(x.1.1≠wa→x.2 + 1=left):=by
 unfold cbt at h
 obtain ⟨c,hc,e⟩:=List.mem_filterMap.mp h
 unfold jP at e
 split at e
 ·rename_i hw
  cases e
  exact ⟨hc,Nat.le_refl _,fun _=>rfl,fun n=>absurd hw n⟩
 ·rename_i hw
  split at e
  ·cases e
  ·cases e
   exact ⟨hc,by show left - 1≤left; omega,fun z=>absurd z hw,fun _=>by show left - 1 + 1=left; omega⟩
theorem sO (cs:List (Bool×Int)) (wa:Bool) (left:Nat):(cbt cs wa left).length≤cs.length:=List.length_filterMap_le _ _
def wS (dn:Bool):Str:=if dn=true then "down" else "across"
theorem qQ {a b:Bool} (h:wS a=wS b):a=b:=by
 cases a <;> cases b <;> first | rfl | exact absurd h (by decide +kernel)
def nk (p:Int×Int) (dn:Bool) (l:Nat):NK:=([.inl p.1,.inl p.2],[.inr (wS dn),.inl (l:Int)])
theorem qR {p p':Int×Int} {dn dn':Bool} {l l':Nat} (h:nk p dn l=nk p' dn' l'):p=p'∧dn=dn'∧l=l':=by
 unfold nk at h
 injection h with h1 h2
 injection h1 with a1 a2
 injection a1 with a1
 injection a2 with a2 _
 injection a2 with a2
 injection h2 with c1 c2
 injection c1 with c1
 injection c2 with c2 _
 injection c2 with c2
 exact ⟨Prod.ext a1 a2,qQ c1,by omega⟩
def TcAt (b w h:Int) (H:Hp) (v:V) (x:TC):Prop:=∃q p1 p2,v=.ref q∧H q=some (.tup [wv x.1.1,.int x.1.2,.ref p1,.ref p2])∧NkAt H p1 (nk (bL w h x.1) x.1.1 x.2)∧NkAt H p2 (nk (bM b w h x.1) x.1.1 x.2)
theorem TcAt.keep {b w h:Int} {H H':Hp} (t:∀c xs,H c=some (.tup xs)→H' c=some (.tup xs)) {v:V} {x:TC} (c:TcAt b w h H v x):TcAt b w h H' v x:=by
 obtain ⟨q,p1,p2,e,h1,h2,h3⟩:=c
 exact ⟨q,p1,p2,e,t _ _ h1,h2.keep t,h3.keep t⟩
def eD {α:Type} (g:α→Int) (m:Int×Option α) (c:α):Int×Option α:=if m.1 < g c then (g c,some c) else m
def og {α:Type} (g:α→Int) (cs:List α) (x:Int):Int×Option α:=cs.foldl (eD g) (x,none)
def kW {α:Type} (g:α→Int) (cs:List α) (x:Int):Option α:=(og g cs x).2
theorem gP {α:Type} (g:α→Int):∀ (l:List α) (m:Int×Option α),(l.foldl (eD g) m).1=mxL g l m.1
 | [],_=>rfl
 | q :: l,m=>by
  show (l.foldl (eD g) (eD g m q)).1=mxL g l (max m.1 (g q))
  rw [gP g l]
  unfold eD
  split
  ·rw [show max m.1 (g q)=g q by omega]
  ·rw [show max m.1 (g q)=m.1 by omega]
theorem oh {α:Type} (g:α→Int) (l:List α) (x:Int) {i:Nat} {q:α} (h:l[i]? = some q):og g (l.take (i + 1)) x=eD g (og g (l.take i) x) q:=by
 unfold og
 rw [List.take_add_one,h,List.foldl_append]
 rfl
theorem jQ {α:Type} (g:α→Int):∀ (l:List α) (m:Int×Option α) {c:α},(l.foldl (eD g) m).2=some c→(c∈l∧(l.foldl (eD g) m).1=g c)∨(m.2=some c∧(l.foldl (eD g) m).1=m.1)
 | [],_,_,h=>.inr ⟨h,rfl⟩
 | q :: l,m,c,h=>by
  show (c∈q :: l∧(l.foldl (eD g) (eD g m q)).1=g c)∨(m.2=some c∧(l.foldl (eD g) (eD g m q)).1=m.1)
  rcases jQ g l _ h with ⟨h1,h2⟩ | ⟨h1,h2⟩
  ·exact .inl ⟨List.mem_cons_of_mem _ h1,h2⟩
  ·rw [h2]
   unfold eD at h1 ⊢
   split at h1
   ·rename_i hc
    cases h1
    exact .inl ⟨List.mem_cons_self,by rw [if_pos hc]⟩
   ·rename_i hc
    exact .inr ⟨h1,by rw [if_neg hc]⟩
theorem qS {α:Type} {g:α→Int} {l:List α} {x:Int} {c:α} (h:kW g l x=some c):c∈l∧mxL g l x=g c:=by
 rcases jQ g l _ h with ⟨h1,h2⟩ | ⟨h1,h2⟩
 ·exact ⟨h1,(gP g l (x,none)).symm.trans h2⟩
 ·cases h1
def StVN (b w h:Int) (H:Hp) (lv v:V):Option TC→Prop
 | none=>v=lv
 | some c=>TcAt b w h H v c
theorem StVN.keep {b w h:Int} {H H':Hp} (s:Same H H') {lv v:V}:∀ {o:Option TC},StVN b w h H lv v o→StVN b w h H' lv v o
 | none,e=>e
 | some _,e=>TcAt.keep (fun c xs e=>s _ _ e) e
def tcW (b:Int) (f:Int×Int→Bool→Nat→Int) (w h:Int) (x:TC):Int:=f (bL w h x.1) x.1.1 x.2 + f (bM b w h x.1) x.1.1 x.2
section
variable {P:Program} {w:World} {K:PySem.W.Frag} {mg:Str→Option Value} {base:Heap}
def qT:Sp:=fun vs H Q _=>∃ (cl:Addr) (ys:List V) (b w h:Int) (cs:List (Bool×Int)) (wa:Bool) (left:Nat),vs=[.ref cl,wv wa,.int (left:Int)]∧H cl=some (.lst ys)∧Paired (CutAt b w h H) ys cs∧cs.length≤32∧∀ (l:Addr) (ys':List V) (H':Hp),H' l=some (.lst ys')→Paired (TcAt b w h H') ys' (cbt cs wa left)→Same H H'→Q (.ref l) H'
def jg (P:Program) (w:World):Sp:=fun vs H Q _=>∃ (lf cl wt:Addr) (x:Int) (lv:V) (ys:List V) (b w1 h1:Int) (cs:List TC) (f:Int×Int→Bool→Nat→Int) (kvs:List (NK×V)),vs=[.ref lf,.ref cl,.ref wt]∧H lf=some (.tup [.int x,lv])∧H cl=some (.lst ys)∧Paired (TcAt b w1 h1 H) ys cs∧NDict P w H wt kvs∧(∀c∈cs,cx kvs (nk (bL w1 h1 c.1) c.1.1 c.2)=some (.int (f (bL w1 h1 c.1) c.1.1 c.2))∧cx kvs (nk (bM b w1 h1 c.1) c.1.1 c.2)=some (.int (f (bM b w1 h1 c.1) c.1.1 c.2))) ∧
 ∀ (r:Addr) (v:V) (H':Hp),H' r=some (.tup [.int (mxL (tcW b f w1 h1) cs x),v])→StVN b w1 h1 H' lv v (kW (tcW b f w1 h1) cs x)→Same H H'→Q (.ref r) H'
theorem sccbt:FnScope ["cuts","way_ahead","left","allowed","way","p","first","second","still_left"] ["cuts","way_ahead","left"] (defScope bY):=⟨rfl,rfl,rfl,by decide +kernel,rfl,by decide +kernel,by decide +kernel⟩
theorem uV {f:Addr} {fd:FuncData} (F:Fun K "cuts_by_turns" "cuts_by_turns" bY f fd)  : FnOk P w K mg base CX0 1 f fd ["cuts","way_ahead","left"] (qT):=by
 refine F.ok sccbt (fun vs H Q E h=>?_) (fun cdv A outer s H vs Q E hr h=>?_)
 ·obtain ⟨cl,ys,b,w1,h1,cs,wa,left,rfl,_⟩:=h
  rfl
 obtain ⟨cl,ys,b,w1,h1,cs,wa,left,rfl,hcl,pc,c32,q⟩:=h
 have nd:=sccbt.nd
 refine ⟨_,(@af _ _ _ _ _ (@aw _ _ 3 _ _ _ _ nd rfl (Or.inl rfl) (@aH _ _ _ _ ad) rfl (Or.inl rfl)) (@af _ _ _ _ _ (@ce _ _ _ _ _ _ _ _ PassesOwn.never rfl (cj (pv 0)) (aZ rfl (aj (ak (i:=4) nd rfl (Or.inl rfl)) (aj (ak (i:=5) nd rfl (Or.inl rfl)) (aj (ak (i:=6) nd rfl (Or.inl rfl)) (aj (ak (i:=7) nd rfl (Or.inl rfl)) aQ))))) (@af _ _ _ _ _ (@aw _ _ 8 _ _ _ _ nd rfl (Or.inl rfl) (gn (@ax _ _ _ _ _ _ _ _ dA (pv 4) (pv 1) (ay _)) (pv 2) (@az _ _ _ _ _ _ _ _ bQ (pv 2) ag)) rfl (Or.inl rfl)) (@ai _ _ _ (@aL _ _ _ _ _ _ _ _ (@ax _ _ _ _ _ _ _ _ pC (pv 8) ag (ay _)) (@ai _ _ _ (@aV _ _ _ _ (@dq _ _ _ _ _ _ _ _ _ _ _ _ PySem.F.plainAttrs_list PySem.F.slot_list_append PySem.F.type_list_append bI (pv 3) (@aa _ _ _ _ _ (@aq _ _ _ _ _ (@aa _ _ _ _ _ (pv 4) (@aa _ _ _ _ _ (pv 5) (@aa _ _ _ _ _ (@aq _ _ _ _ _ (@aa _ _ _ _ _ (pv 6) (@aa _ _ _ _ _ (pv 4) (@aa _ _ _ _ _ (pv 8) ad rfl) rfl) rfl)) (@aa _ _ _ _ _ (@aq _ _ _ _ _ (@aa _ _ _ _ _ (pv 7) (@aa _ _ _ _ _ (pv 4) (@aa _ _ _ _ _ (pv 8) ad rfl) rfl) rfl)) ad rfl) rfl) rfl) rfl)) ad rfl) rfl rfl rfl rfl rfl) rfl)) av))) (by intro _; rfl)) (@ai _ _ _ (@au _ _ _ _ (pv 3))))),?_⟩
 have z4:4096≤sizeLine:=by decide
 refine ao (fun σ' H'=>∃l:Addr,σ'=[some (.ref cl),some (wv wa),some (.int (left:Int)),some (.ref l),none,none,none,none,none]∧H l=none∧H' l=some (.lst [])∧Same H H') (fun R hR=>?_) ?_
 ·refine ⟨by decide,fun l hl=>?_⟩
  obtain ⟨H1,e1,k1,s1⟩:∃H',upd H l (.lst [])=H'∧H' l=some (.lst [])∧Same H H':=⟨_,rfl,ae,Same.new hl⟩
  rw [show upd H l _=H1 from e1]
  exact hR _ _ ⟨l,rfl,hl,k1,s1⟩
 rintro _ H1 ⟨l,rfl,hl,l1,s1⟩
 have ncl:cl≠l:=ah hcl hl
 have yl:=Paired.length pc
 refine ao (fun σ' H'=>(∃v4 v5 v6 v7 v8:Option V,σ'=[some (.ref cl),some (wv wa),some (.int (left:Int)),some (.ref l),v4,v5,v6,v7,v8])∧(∃us,H' l=some (.lst us)∧Paired (TcAt b w1 h1 H') us (cbt cs wa left))∧But l H1 H') (fun R hR=>?_) ?_
 ·refine ⟨_,rfl,cl,rfl,⟨_,SqL.of (s1 _ _ hcl)⟩,ck (xs:=ys) (fun i σ' H'=>(∃v4 v5 v6 v7 v8:Option V,σ'=[some (.ref cl),some (wv wa),some (.int (left:Int)),some (.ref l),v4,v5,v6,v7,v8])∧(∃us,H' l=some (.lst us)∧Paired (TcAt b w1 h1 H') us (cbt (cs.take i) wa left))∧But l H1 H') ⟨⟨_,_,_,_,_,rfl⟩,⟨[],l1,.nil⟩,But.refl⟩ (fun i σ Hx _ ⟨_,_,bx⟩=>SqL.of (bx _ _ ncl (s1 _ _ hcl))) ?_ ?_⟩
  ·rintro i x σ H2 hi ⟨⟨v4,v5,v6,v7,v8,rfl⟩,⟨us,l2,pu⟩,b2⟩
   obtain ⟨c,hc,q0,t1,t2,rfl,g1,g2,g3⟩:=Paired.getR pc hi
   have il:i < ys.length:=(List.getElem?_eq_some_iff.mp hi).1
   have g1':=b2 _ _ (ah g1 hl) (s1 _ _ g1)
   have g2':=b2 _ _ (ah g2 hl) (s1 _ _ g2)
   have g3':=b2 _ _ (ah g3 hl) (s1 _ _ g3)
   have ul:=Paired.length pu
   have ul2:=sO (cs.take i) wa left
   rw [List.length_take] at ul2
   have ct:=qO (wa:=wa) (left:=left) hc
   refine ⟨q0,_,rfl,SqT.of g1',rfl,_,_,rfl,_,_,rfl,_,_,rfl,_,_,rfl,rfl,?_⟩
   refine ao (fun σ' H'=>(∃st:Int,σ'=[some (.ref cl),some (wv wa),some (.int (left:Int)),some (.ref l),some (wv c.1),some (.int c.2),some (.ref t1),some (.ref t2),some (.int st)]∧((0≤st∧∃n:Nat,st=n∧jP wa left c=some (c,n))∨(st < 0∧jP wa left c=none)))∧H2=H') (fun R hR=>?_) ?_
   ·refine ⟨_,rfl,_,rfl,rfl,_,rfl,?_⟩
    by_cases hw:c.1=wa
    ·rw [show decide (wv c.1=wv wa)=true by rw [hw]; exact decide_eq_true rfl]
     refine aT ⟨_,rfl,hR _ _ ⟨⟨left,rfl,.inl ⟨by omega,left,rfl,by unfold jP; rw [if_pos hw]⟩⟩,rfl⟩⟩
    ·rw [show decide (wv c.1=wv wa)=false from decide_eq_false fun z=>hw (qQ (V.str.inj z))]
     refine aI ⟨_,rfl,_,_,rfl,rfl,hR _ _ ⟨⟨left - 1,rfl,?_⟩,rfl⟩⟩
     by_cases h0:left=0
     ·exact .inr ⟨by omega,by unfold jP; rw [if_neg hw,if_pos h0]⟩
     ·exact .inl ⟨by omega,left - 1,by omega,by unfold jP; rw [if_neg hw,if_neg h0]⟩
   rintro _ _ ⟨⟨st,rfl,hst⟩,rfl⟩
   refine ⟨_,rfl,_,_,rfl,rfl,_,rfl,?_⟩
   rcases hst with ⟨s0,n,rfl,hcb⟩ | ⟨s0,hcb⟩
   ·rw [show decide ((0:Int)≤(n:Int))=true from decide_eq_true s0]
    refine aT ⟨_,rfl,.inl ⟨rfl,_,SqL.of l2⟩,_,rfl,_,rfl,_,rfl,_,rfl,_,rfl,(by show 3≤sizeLine; decide),fun p1 hp1=>?_⟩
    obtain ⟨H3,e3,k3,s3⟩:∃H',upd H2 p1 (.tup [.ref t1,wv c.1,.int (n:Int)])=H'∧H' p1=some (.tup [.ref t1,wv c.1,.int (n:Int)])∧Same H2 H':=⟨_,rfl,ae,Same.new hp1⟩
    rw [show upd H2 p1 _=H3 from e3]
    refine ⟨_,rfl,_,rfl,_,rfl,(by show 3≤sizeLine; decide),fun p2 hp2=>?_⟩
    obtain ⟨H4,e4,k4,s4⟩:∃H',upd H3 p2 (.tup [.ref t2,wv c.1,.int (n:Int)])=H'∧H' p2=some (.tup [.ref t2,wv c.1,.int (n:Int)])∧Same H3 H':=⟨_,rfl,ae,Same.new hp2⟩
    rw [show upd H3 p2 _=H4 from e4]
    refine ⟨(by show 4≤sizeLine; decide),fun m hm=>?_⟩
    obtain ⟨H5,e5,k5,s5⟩:∃H',upd H4 m (.tup [wv c.1,.int c.2,.ref p1,.ref p2])=H'∧H' m=some (.tup [wv c.1,.int c.2,.ref p1,.ref p2])∧Same H4 H':=⟨_,rfl,ae,Same.new hm⟩
    rw [show upd H4 m _=H5 from e5]
    have s25:=s3.trans (s4.trans s5)
    have l5:=s25 _ _ l2
    have kt:∀d xs,H5 d=some (.tup xs)→(upd H5 l (.lst (us ++ [.ref m]))) d=some (.tup xs):=fun d xs e=>by
     rw [am (fun z=>by rw [z,l5] at e; cases e)]; exact e
    refine ⟨l,_,_,rfl,rfl,l5,by omega,⟨_,_,_,_,_,rfl⟩,⟨_,ae,?_⟩,fun d o nn e=>by rw [am nn]; exact s25 _ _ (b2 _ _ nn e)⟩
    rw [ct,hcb]
    exact Paired.app (Paired.mapP pu fun v x h=>TcAt.keep (fun d xs e=>kt _ _ (s25 _ _ e)) h) (.cons ⟨m,p1,p2,rfl,kt _ _ k5,⟨t1,kt _ _ (s5 _ _ (s4 _ _ k3)),kt _ _ (s25 _ _ g2')⟩,⟨t2,kt _ _ (s5 _ _ k4),kt _ _ (s25 _ _ g3')⟩⟩ .nil)
   ·rw [show decide ((0:Int)≤st)=false from decide_eq_false (by omega)]
    refine aI ⟨⟨_,_,_,_,_,rfl⟩,⟨us,l2,?_⟩,b2⟩
    rw [ct,hcb]
    exact (List.append_nil _).symm ▸ pu
  ·rintro σ H2 ⟨e,⟨us,l2,pu⟩,b2⟩
   rw [yl,List.take_length] at pu
   exact hR _ _ ⟨e,⟨us,l2,pu⟩,b2⟩
 rintro _ H2 ⟨⟨v4,v5,v6,v7,v8,rfl⟩,⟨us,l2,pu⟩,b2⟩
 exact ⟨_,rfl,q l us H2 l2 pu (fun c o e=>b2 _ _ (ah e hl) (s1 _ _ e))⟩
theorem scbstepn:FnScope ["leaf_found","cuts","worths","worth","step","cut","together"] ["leaf_found","cuts","worths"] (defScope cW):=⟨rfl,rfl,rfl,by decide +kernel,rfl,by decide +kernel,by decide +kernel⟩
theorem oi {f:Addr} {fd:FuncData} (F:Fun K "best_step" "best_step" cW f fd)  : FnOk P w K mg base CX0 1 f fd ["leaf_found","cuts","worths"] (jg P w):=by
 refine F.ok scbstepn (fun vs H Q E h=>?_) (fun cdv A outer s H vs Q E hr h=>?_)
 ·obtain ⟨lf,cl,wt,x0,lv,ys,b,w1,h1,cs,f0,kvs,rfl,_⟩:=h
  rfl
 obtain ⟨lf,cl,wt,x0,lv,ys,b,w1,h1,cs,f0,kvs,rfl,hlf,hcl,pc,hwt,hv,q⟩:=h
 have nd:=scbstepn.nd
 have hu2:=Nat.lt_of_le_of_lt (Nat.add_le_add_left (show 2≤64 by decide) _) hr.units
 refine ⟨_,(@af _ _ _ _ _ (@br _ _ _ _ _ _ (pv 0) (aZ rfl (aj (ak (i:=3) nd rfl (Or.inl rfl)) (aj (ak (i:=4) nd rfl (Or.inl rfl)) aQ))) rfl rfl rfl) (@af _ _ _ _ _ (@ce _ _ _ _ _ _ _ _ PassesOwn.never rfl (cj (pv 1)) (ak (i:=5) nd rfl (Or.inl rfl)) (@af _ _ _ _ _ (@aw _ _ 6 _ _ _ _ nd rfl (Or.inl rfl) (@az _ _ _ _ _ _ _ _ aW (dS hu2 (pv 2) (@aD _ _ _ _ _ _ _ ix_tup (pv 5) ag (fun _ _=>rfl)) (fun _ _=>rfl)) (dS hu2 (pv 2) (@aD _ _ _ _ _ _ _ ix_tup (pv 5) ag (fun _ _=>rfl)) (fun _ _=>rfl))) rfl (Or.inl rfl)) (@ai _ _ _ (@aL _ _ _ _ _ _ _ _ (@ax _ _ _ _ _ _ _ _ cQ (pv 6) (pv 3) (ay _)) (@ai _ _ _ (jU rfl nd rfl rfl (i:=3) (j:=4) (by decide) rfl rfl (@aa _ _ _ _ _ (pv 6) (@aa _ _ _ _ _ (pv 5) ad rfl) rfl) rfl)) av))) (by intro _; rfl)) (@ai _ _ _ (@au _ _ _ _ (@aq _ _ _ _ _ (@aa _ _ _ _ _ (pv 3) (@aa _ _ _ _ _ (pv 4) ad rfl) rfl)))))),?_⟩
 have z4:4096≤sizeLine:=by decide
 refine ao (fun σ' H'=>σ'=[some (.ref lf),some (.ref cl),some (.ref wt),some (.int x0),some lv,none,none]∧H=H') (fun R hR=>?_) ?_
 ·exact ⟨_,rfl,lf,_,rfl,SqT.of hlf,rfl,_,_,rfl,_,_,rfl,rfl,hR _ _ ⟨rfl,rfl⟩⟩
 rintro _ _ ⟨rfl,rfl⟩
 have cln:=Paired.length pc
 refine ao (fun σ' H'=>∃ (sv:V) (v5 v6:Option V),σ'=[some (.ref lf),some (.ref cl),some (.ref wt),some (.int (mxL (tcW b f0 w1 h1) cs x0)),some sv,v5,v6]∧StVN b w1 h1 H lv sv (kW (tcW b f0 w1 h1) cs x0)∧H=H') (fun R hR=>?_) ?_
 ·refine ⟨_,rfl,cl,rfl,⟨_,SqL.of hcl⟩,ck (xs:=ys) (fun i σ' H'=>∃ (sv:V) (v5 v6:Option V),σ'=[some (.ref lf),some (.ref cl),some (.ref wt),some (.int (mxL (tcW b f0 w1 h1) (cs.take i) x0)),some sv,v5,v6]∧StVN b w1 h1 H lv sv (kW (tcW b f0 w1 h1) (cs.take i) x0)∧H=H') ⟨lv,none,none,rfl,rfl,rfl⟩ (fun i σ Hx _ ⟨_,_,_,_,_,e⟩=>by subst e; exact SqL.of hcl) ?_ ?_⟩
  ·rintro i x σ Hx hi ⟨sv,v5,v6,rfl,hsv,rfl⟩
   obtain ⟨c,hc,ca⟩:=Paired.getR pc hi
   obtain ⟨q',t1,t2,rfl,h1',h2',h3'⟩:=id ca
   have cm:=List.mem_of_getElem? hc
   obtain ⟨e1,e2⟩:=hv c cm
   have hmx:=jM (tcW b f0 w1 h1) cs x0 hc
   have hst:=oh (tcW b f0 w1 h1) cs x0 hc
   have hsf:(og (tcW b f0 w1 h1) (cs.take i) x0).1=_:=gP (tcW b f0 w1 h1) (cs.take i) (x0,none)
   have hsf:(og (tcW b f0 w1 h1) (cs.take i) x0).1=mxL (tcW b f0 w1 h1) (cs.take i) x0:=hsf
   obtain ⟨m,hm⟩:∃m,mxL (tcW b f0 w1 h1) (cs.take i) x0=m:=⟨_,rfl⟩
   rw [hm] at hmx hsf ⊢
   unfold eD at hst
   rw [hsf] at hst
   refine ⟨_,rfl,_,rfl,q',_,2,_,rfl,rfl,SqT.of h1',rfl,wt,_,_,_,t1,rfl,rfl,hwt,h2',e1,_,rfl,_,rfl,q',_,3,_,rfl,rfl,SqT.of h1',rfl,wt,_,_,_,t2,rfl,rfl,hwt,h3',e2,_,_,rfl,rfl,?_⟩
   have gg:f0 (bL w1 h1 c.1) c.1.1 c.2 + f0 (bM b w1 h1 c.1) c.1.1 c.2=(tcW b f0 w1 h1) c:=rfl
   refine ⟨_,rfl,_,rfl,_,_,rfl,rfl,_,rfl,?_⟩
   by_cases c1:m < (tcW b f0 w1 h1) c
   ·rw [show decide (m < (f0 (bL w1 h1 c.1) c.1.1 c.2 + f0 (bM b w1 h1 c.1) c.1.1 c.2))=true from decide_eq_true c1]
    refine aT ⟨_,rfl,_,rfl,_,_,rfl,.ref q',some (.ref q'),some (.int ((tcW b f0 w1 h1) c)),?_,by unfold kW; rw [hst,if_pos c1]; exact ca,rfl⟩
    rw [hmx,show max m ((tcW b f0 w1 h1) c)=(tcW b f0 w1 h1) c by omega]
    rfl
   ·rw [show decide (m < (f0 (bL w1 h1 c.1) c.1.1 c.2 + f0 (bM b w1 h1 c.1) c.1.1 c.2))=false from decide_eq_false c1]
    refine aI ⟨sv,some (.ref q'),some (.int ((tcW b f0 w1 h1) c)),?_,by unfold kW; rw [hst,if_neg c1]; exact hsv,rfl⟩
    rw [hmx,show max m ((tcW b f0 w1 h1) c)=m by omega]
    rfl
  ·rintro σ Hx ⟨sv,v5,v6,rfl,hsv,rfl⟩
   rw [cln,List.take_length] at hsv
   refine hR _ _ ⟨sv,v5,v6,?_,hsv,rfl⟩
   rw [cln,List.take_length]
 rintro _ _ ⟨sv,v5,v6,rfl,hsv,rfl⟩
 refine ⟨_,rfl,_,rfl,(by show 2≤sizeLine; decide),fun x hx=>?_⟩
 obtain ⟨H4,e5,k5,s5⟩:∃H',upd H x (.tup [.int (mxL (tcW b f0 w1 h1) cs x0),sv])=H'∧H' x=some (.tup [.int (mxL (tcW b f0 w1 h1) cs x0),sv])∧Same H H':=⟨_,rfl,ae,Same.new hx⟩
 rw [show upd H x _=H4 from e5]
 exact q x sv H4 k5 (hsv.keep s5) s5
end
def tF (b:Int) (ks:List Kd):Nat→Int×Int→Bool→Nat→Int
 | 0,_,_,_=>0
 | n + 1,p,wa,l=>mxL (tcW b (tF b ks n) p.1 p.2) (cbt (cb b p.1 p.2) wa l) (lfW ks p.1 p.2)
theorem dU {b:Int} {ks:List Kd} (b0:0≤b):∀ (n m:Nat) (p:Int×Int) (wa:Bool) (l:Nat),msr p < n→msr p < m→1≤p.1→1≤p.2→tF b ks n p wa l=tF b ks m p wa l
 | 0,_,_,_,_,h,_,_,_=>absurd h (Nat.not_lt_zero _)
 | _ + 1,0,_,_,_,_,h,_,_=>absurd h (Nat.not_lt_zero _)
 | n + 1,m + 1,p,wa,l,h1,h2,p1,p2=>by
  show mxL _ _ _=mxL _ _ _
  refine fM fun c hc=>?_
  obtain ⟨⟨a1,a2,_,_,_,a3⟩,⟨c1,c2,_,_,_,c3⟩⟩:=fk b0 p1 p2 (gl hc).1
  have e:msr (p.1,p.2)=msr p:=rfl
  unfold tcW
  rw [dU b0 n m _ _ _ (by omega) (by omega) a1 a2,dU b0 n m _ _ _ (by omega) (by omega) c1 c2]
def tW (b:Int) (ks:List Kd) (p:Int×Int) (wa:Bool) (l:Nat):Int:=tF b ks (msr p + 1) p wa l
theorem zL {b:Int} {ks:List Kd} (b0:0≤b) (p:Int×Int) (wa:Bool) (l:Nat) (p1:1≤p.1) (p2:1≤p.2):tW b ks p wa l=mxL (tcW b (tW b ks) p.1 p.2) (cbt (cb b p.1 p.2) wa l) (lfW ks p.1 p.2):=by
 show mxL _ _ _=mxL _ _ _
 refine fM fun c hc=>?_
 obtain ⟨⟨a1,a2,_,_,_,a3⟩,⟨c1,c2,_,_,_,c3⟩⟩:=fk b0 p1 p2 (gl hc).1
 have e:msr (p.1,p.2)=msr p:=rfl
 unfold tcW tW
 rw [dU b0 (msr p) (msr (bL p.1 p.2 c.1) + 1) _ _ _ (by omega) (by omega) a1 a2,dU b0 (msr p) (msr (bM b p.1 p.2 c.1) + 1) _ _ _ (by omega) (by omega) c1 c2]
def tC (b:Int) (ks:List Kd) (p:Int×Int) (wa:Bool) (l:Nat):Option TC:=kW (tcW b (tW b ks) p.1 p.2) (cbt (cb b p.1 p.2) wa l) (lfW ks p.1 p.2)
def tT (b:Int) (ks:List Kd):Nat→Int×Int→Bool→Nat→Tr
 | 0,_,_,_=>.rest
 | n + 1,p,wa,l=>match tC b ks p wa l with
  | none=>lfT ks p.1 p.2
  | some x=>.cut x.1.1 x.1.2 (tT b ks n (bL p.1 p.2 x.1) x.1.1 x.2) (tT b ks n (bM b p.1 p.2 x.1) x.1.1 x.2)
theorem oj:∀ {t:Tr},qM t=true→dpt t=0
 | .rest,_=>rfl
 | .piece ..,_=>rfl
theorem kX (b:Int) (ks:List Kd):∀n p wa l,dpt (tT b ks n p wa l)≤n
 | 0,_,_,_=>Nat.le_refl _
 | n + 1,p,wa,l=>by
  unfold tT
  split
  ·rw [oj (jO ks _ _)]; omega
  ·rename_i x _
   have h1:=kX b ks n (bL p.1 p.2 x.1) x.1.1 x.2
   have h2:=kX b ks n (bM b p.1 p.2 x.1) x.1.1 x.2
   show max _ _ + 1≤n + 1
   omega
def StepN (b:Int) (ks:List Kd) (H:Hp) (p:Int×Int) (wa:Bool) (l:Nat) (v:V):Prop:=(tC b ks p wa l=none∧TrV H (lfT ks p.1 p.2) v)∨∃x,tC b ks p wa l=some x∧TcAt b p.1 p.2 H v x
theorem StepN.keep {b:Int} {ks:List Kd} {H H':Hp} (t:∀c xs,H c=some (.tup xs)→H' c=some (.tup xs)) {p:Int×Int} {wa:Bool} {l:Nat} {v:V} (h:StepN b ks H p wa l v):StepN b ks H' p wa l v:=by
 rcases h with ⟨e,h⟩ | ⟨x,e,h⟩
 ·exact .inl ⟨e,TrV.keep t _ h⟩
 ·exact .inr ⟨x,e,h.keep t⟩
abbrev iB:=Int×Int→Bool→Nat→Prop
def TWd (b:Int) (ks:List Kd) (D:iB) (kvs:List (NK×V)):Prop:=∀p wa l,D p wa l→cx kvs (nk p wa l)=some (.int (tW b ks p wa l))
def TSd (b:Int) (ks:List Kd) (H:Hp) (D:iB) (kws:List (NK×V)):Prop:=∀p wa l,D p wa l→∃v,cx kws (nk p wa l)=some v∧StepN b ks H p wa l v
theorem TWd.put {b:Int} {ks:List Kd} {D D':iB} {kvs:List (NK×V)} {p0:Int×Int} {wa0:Bool} {l0:Nat} (h:TWd b ks D kvs) (hd:∀p wa l,D' p wa l→D p wa l∨(p=p0∧wa=wa0∧l=l0)):TWd b ks D' (hU kvs (nk p0 wa0 l0) (.int (tW b ks p0 wa0 l0))):=fun p wa l d=>by
 rw [jA]
 by_cases e:nk p wa l=nk p0 wa0 l0
 ·rw [if_pos e]
  obtain ⟨rfl,rfl,rfl⟩:=qR e
  rfl
 ·rw [if_neg e]
  rcases hd p wa l d with h1 | ⟨rfl,rfl,rfl⟩
  ·exact h p wa l h1
  ·exact absurd rfl e
theorem TSd.put {b:Int} {ks:List Kd} {H H':Hp} {D D':iB} {kvs:List (NK×V)} {p0:Int×Int} {wa0:Bool} {l0:Nat} {v:V} (h:TSd b ks H D kvs) (t:∀c xs,H c=some (.tup xs)→H' c=some (.tup xs)) (hv:StepN b ks H' p0 wa0 l0 v) (hd:∀p wa l,D' p wa l→D p wa l∨(p=p0∧wa=wa0∧l=l0)):TSd b ks H' D' (hU kvs (nk p0 wa0 l0) v):=fun p wa l d=>by
 rw [jA]
 by_cases e:nk p wa l=nk p0 wa0 l0
 ·rw [if_pos e]
  obtain ⟨rfl,rfl,rfl⟩:=qR e
  exact ⟨v,rfl,hv⟩
 ·rw [if_neg e]
  rcases hd p wa l d with h1 | ⟨rfl,rfl,rfl⟩
  ·obtain ⟨u,h2,h3⟩:=h p wa l h1
   exact ⟨u,h2,h3.keep t⟩
  ·exact absurd rfl e
theorem TSd.keep {b:Int} {ks:List Kd} {H H':Hp} {D D':iB} {kvs:List (NK×V)} (h:TSd b ks H D kvs) (t:∀c xs,H c=some (.tup xs)→H' c=some (.tup xs)) (hd:∀p wa l,D' p wa l→D p wa l):TSd b ks H' D' kvs:=fun p wa l d=>by
 obtain ⟨u,h2,h3⟩:=h p wa l (hd p wa l d)
 exact ⟨u,h2,h3.keep t⟩
def DnT (m n k i j t:Nat):iB:=fun p wa l=>(p∈(aU m n).take i∧l≤k)∨((aU m n)[i]? = some p∧(l < j∨(l=j∧((wa=true∧1≤t)∨(wa=false∧2≤t)))))
def tB (b:Int) (ks:List Kd) (p:Int×Int) (k:Nat):Int:=max (tW b ks p true k) (tW b ks p false k)
def tR (b:Int) (ks:List Kd) (p:Int×Int) (k:Nat):Tr:=if tW b ks p true k < tW b ks p false k then tT b ks 33 p false k else tT b ks 33 p true k
theorem uW (dn:Bool):inV (wv dn) [V.str "down",V.str "across"]=true:=by cases dn <;> decide +kernel
section
variable {P:Program} {w:World} {K:PySem.W.Frag} {mg:Str→Option Value} {base:Heap}
def dO (P:Program) (w:World) (n:Nat):Sp:=fun vs H Q _=>∃ (st kt:Addr) (b:Int) (ks:List Kd) (kvs:List (NK×V)) (M N k:Nat) (p:Int×Int) (wa:Bool) (l:Nat),vs=[.ref st,.ref kt]∧NDict P w H st kvs∧NkAt H kt (nk p wa l)∧0≤b∧TSd b ks H (fun p _ l=>p∈aU M N∧l≤k) kvs∧p∈aU M N∧l≤k∧msr p < n∧∀v' H',TrV H' (tT b ks n p wa l) v'→Same H H'→Q v' H'
def jR (C:Addr):Sp:=fun vs H Q _=>∃ (s:Addr) (b:Int) (ks:List Kd) (m n k:Nat),vs=[.ref s,.int (m:Int),.int (n:Int),.int (k:Int)]∧ShopAt C H s b ks∧ks.length≤8∧0≤b∧1≤m∧m≤16∧1≤n∧n≤16∧k≤32 ∧
 ∀ (r:Addr) (v:V) (H':Hp),H' r=some (.tup [.int (tB b ks (m,n) k),v])→TrV H' (tR b ks (m,n) k) v→Same H H'→Q (.ref r) H'
theorem sctbsn:FnScope ["steps","key","step","way","p","first","second"] ["steps","key"] (defScope bp):=⟨rfl,rfl,rfl,by decide +kernel,rfl,by decide +kernel,by decide +kernel⟩
theorem sP {f wy:Addr} {fd:FuncData} (F:Fun K "tree_by_steps" "tree_by_steps" bp f fd) (n:Nat) (Z:BeC K mg wy) (DT:Dn P w K mg base "tree_by_steps" ["steps","key"] (1 + n) (dO P w n)):FnOk P w K mg base CX0 (1 + (n + 1)) f fd ["steps","key"] (dO P w (n + 1)):=by
 refine F.ok sctbsn (fun vs H Q E h=>?_) (fun cdv A outer s H vs Q E hr h=>?_)
 ·obtain ⟨st,kt,b,ks,kvs,M,N,k,p,wa,l,rfl,_⟩:=h
  rfl
 obtain ⟨st,kt,b,ks,kvs,M,N,k,p,wa,l,rfl,hst,hkt,b0,hts,hp,hl,hn,q⟩:=h
 have nd:=sctbsn.nd
 have hu2:=Nat.lt_of_le_of_lt (Nat.add_le_add_left (show 2≤64 by decide) _) hr.units
 refine ⟨_,(@af _ _ _ _ _ (@aw _ _ 2 _ _ _ _ nd rfl (Or.inl rfl) (dS hu2 (pv 0) (pv 1) (fun _ _=>rfl)) rfl (Or.inl rfl)) (@af _ _ _ _ _ (@aL _ _ _ _ _ _ _ _ (@ax _ _ _ _ _ _ _ _ iI (@aD _ _ _ _ _ _ _ ix_tup (pv 2) ag (fun _ _=>rfl)) (aB (v:=.ref wy) rfl Z.wy rfl) rfl) (@ai _ _ _ (@au _ _ _ _ (pv 2))) av) (@af _ _ _ _ _ (@br _ _ _ _ _ _ (pv 2) (aZ rfl (aj (ak (i:=3) nd rfl (Or.inl rfl)) (aj (ak (i:=4) nd rfl (Or.inl rfl)) (aj (ak (i:=5) nd rfl (Or.inl rfl)) (aj (ak (i:=6) nd rfl (Or.inl rfl)) aQ))))) rfl rfl rfl) (@ai _ _ _ (@au _ _ _ _ (@aq _ _ _ _ _ (@aa _ _ _ _ _ (pv 3) (@aa _ _ _ _ _ (pv 4) (@aa _ _ _ _ _ (@ar _ _ _ _ _ _ _ _ _ _ DT hr rfl (@aa _ _ _ _ _ (pv 0) (@aa _ _ _ _ _ (pv 5) ad rfl) rfl) (by decide) rfl rfl) (@aa _ _ _ _ _ (@ar _ _ _ _ _ _ _ _ _ _ DT hr rfl (@aa _ _ _ _ _ (pv 0) (@aa _ _ _ _ _ (pv 6) ad rfl) rfl) (by decide) rfl rfl) ad rfl) rfl) rfl) rfl))))))),?_⟩
 obtain ⟨v,hv,hm⟩:=hts p wa l ⟨hp,hl⟩
 obtain ⟨⟨pp1,pp2⟩,pp3,pp4⟩:=partsL_mem.mp hp
 refine ao (fun σ' H'=>σ'=[some (.ref st),some (.ref kt),some v,none,none,none,none]∧H=H') (fun R hR=>?_) ?_
 ·exact ⟨_,rfl,_,rfl,st,_,_,_,kt,rfl,rfl,hst,hkt,hv,hR _ _ ⟨rfl,rfl⟩⟩
 rintro _ _ ⟨rfl,rfl⟩
 rcases hm with ⟨ec,hlt⟩ | ⟨x,ec,⟨qa,t1,t2,rfl,c1,c2,c3⟩⟩
 ·obtain ⟨qa,y,r,rfl,h1,h2⟩:=TrV.lf (jO ks _ _) hlt
  refine ao (fun σ' H'=>False) (fun R hR=>?_) (fun _ _ z=>z.elim)
  refine ⟨_,rfl,qa,_,0,_,rfl,rfl,SqT.of h1,bh (Int.le_refl _) rfl,wy,_,rfl,.inr (Z.wq _),rfl,rfl,_,rfl,?_⟩
  rw [show (if true=true then !inV (V.str y) [V.str "down",V.str "across"] else inV (V.str y) [V.str "down",V.str "across"])=true by rw [if_pos rfl,h2]; rfl]
  exact aT ⟨_,rfl,q _ H (by unfold tT; rw [ec]; exact hlt) (Same.refl _)⟩
 have hx:=gl (qS ec).1
 obtain ⟨⟨a1,a2,a3,a4,_,a5⟩,⟨d1,d2,d3,d4,_,d5⟩⟩:=fk b0 pp1 pp3 hx.1
 have em:msr (p.1,p.2)=msr p:=rfl
 have m1:bL p.1 p.2 x.1∈aU M N:=partsL_mem.mpr ⟨⟨a1,by omega⟩,a2,by omega⟩
 have m2:bM b p.1 p.2 x.1∈aU M N:=partsL_mem.mpr ⟨⟨d1,by omega⟩,d2,by omega⟩
 have lx:x.2≤k:=Nat.le_trans hx.2.1 hl
 refine ao (fun σ' H'=>σ'=[some (.ref st),some (.ref kt),some (.ref qa),none,none,none,none]∧H=H') (fun R hR=>?_) ?_
 ·refine ⟨_,rfl,qa,_,0,_,rfl,rfl,SqT.of c1,rfl,wy,_,rfl,.inr (Z.wq _),rfl,rfl,_,rfl,?_⟩
  rw [show (if true=true then !inV (wv x.1.1) [V.str "down",V.str "across"] else inV (wv x.1.1) [V.str "down",V.str "across"])=false by rw [if_pos rfl,uW]; rfl]
  exact aI (hR _ _ ⟨rfl,rfl⟩)
 rintro _ _ ⟨rfl,rfl⟩
 refine ao (fun σ' H'=>σ'=[some (.ref st),some (.ref kt),some (.ref qa),some (wv x.1.1),some (.int x.1.2),some (.ref t1),some (.ref t2)]∧H=H') (fun R hR=>?_) ?_
 ·exact ⟨_,rfl,qa,_,rfl,SqT.of c1,rfl,_,_,rfl,_,_,rfl,_,_,rfl,_,_,rfl,rfl,hR _ _ ⟨rfl,rfl⟩⟩
 rintro _ _ ⟨rfl,rfl⟩
 refine ⟨_,rfl,_,rfl,_,rfl,_,rfl,st,t1,b,ks,kvs,M,N,k,bL p.1 p.2 x.1,x.1.1,x.2,rfl,hst,c2,b0,hts,m1,lx,by omega,fun v1 H1 hv1 s1=>?_⟩
 refine ⟨_,rfl,_,rfl,st,t2,b,ks,kvs,M,N,k,bM b p.1 p.2 x.1,x.1.1,x.2,rfl,hst.same s1,c3.keep (fun c xs e=>s1 _ _ e),b0,hts.keep (fun c xs e=>s1 _ _ e) (fun _ _ _ h=>h),m2,lx,by omega,fun v2 H2 hv2 s2=>?_⟩
 refine ⟨(by show 4≤sizeLine; decide),fun t ht=>q _ _ (?_) ((s1.trans s2).trans (Same.new ht))⟩
 have sn:Same H2 (upd H2 t (.tup [wv x.1.1,.int x.1.2,v1,v2])):=Same.new ht
 unfold tT
 rw [ec]
 exact ⟨t,v1,v2,rfl,ae,TrV.keep (fun a xs e=>sn _ _ (s2 _ _ e)) _ hv1,TrV.keep (fun a xs e=>sn _ _ e) _ hv2⟩
theorem qU {f:Addr} {fd:FuncData} (F:Fun K "tree_by_steps" "tree_by_steps" bp f fd):FnOk P w K mg base CX0 1 f fd ["steps","key"] (dO P w 0):=by
 refine F.ok sctbsn (fun vs H Q E h=>?_) (fun cdv A outer s H vs Q E hr h=>?_)
 ·obtain ⟨st,kt,b,ks,kvs,M,N,k,p,wa,l,rfl,_⟩:=h
  rfl
 ·obtain ⟨st,kt,b,ks,kvs,M,N,k,p,wa,l,_,_,_,_,_,_,_,z,_⟩:=h
  exact absurd z (Nat.not_lt_zero _)
theorem jS {f wy:Addr} {fd:FuncData} (F:Fun K "tree_by_steps" "tree_by_steps" bp f fd) (Z:BeC K mg wy) (mk:∀n,FnOk P w K mg base CX0 (1 + n) f fd ["steps","key"] (dO P w n)→Dn P w K mg base "tree_by_steps" ["steps","key"] (1 + n) (dO P w n)):∀n,FnOk P w K mg base CX0 (1 + n) f fd ["steps","key"] (dO P w n)
 | 0=>qU F
 | n + 1=>sP F n Z (mk n (jS F Z mk n))
theorem scbyt:FnScope ["shop","wide","high","k","worths","steps","part","leaf_found","cuts","left","way","worth","step","key","other"] ["shop","wide","high","k"] (defScope bq):=⟨rfl,rfl,rfl,by decide +kernel,rfl,by decide +kernel,by decide +kernel⟩
theorem qV {f wy C:Addr} {fd:FuncData} (F:Fun K "best_by_turns" "best_by_turns" bq f fd) (Z:BeC K mg wy) (B:Blt mg) (mt:∃t,mg "MOST_TURNS" = some (.int 32 t)) (T:ShopTxt K C) (MB:Mn P w K mg base C "blade" ["self"] 1 (gh C)) (DW:Dn P w K mg base "is_whole" ["thing","least"] 1 (bN K)) (DCP:Dn P w K mg base "check_plate" ["wide","high"] 2 (sH)) (DCS:Dn P w K mg base "check_sides" ["wide","high","most"] 1 (uU)) (DPu:Dn P w K mg base "parts_up_to" ["wide","high"] 1 (je)) (DCu:Dn P w K mg base "cuts_of" ["blade","part"] 2 (kU)) (DBL:Dn P w K mg base "best_leaf" ["shop","part"] 6 (jf C)) (DCb:Dn P w K mg base "cuts_by_turns" ["cuts","way_ahead","left"] 1 (qT)) (DBS:Dn P w K mg base "best_step" ["leaf_found","cuts","worths"] 1 (jg P w)) (DTB:Dn P w K mg base "tree_by_steps" ["steps","key"] 34 (dO P w 33)):FnOk P w K mg base CX0 35 f fd ["shop","wide","high","k"] (jR C):=by
 refine F.ok scbyt (fun vs H Q E h=>?_) (fun cdv A outer s H vs Q E hr h=>?_)
 ·obtain ⟨s,b,ks,m,n,k,rfl,_⟩:=h
  rfl
 obtain ⟨s,b,ks,m,n,k,rfl,S0,k8,b0,m1,m16,n1,n16,k32,q⟩:=h
 have nd:=scbyt.nd
 have hu2:=Nat.lt_of_le_of_lt (Nat.add_le_add_left (show 2≤64 by decide) _) hr.units
 obtain ⟨tms,hms⟩:=Z.ms
 obtain ⟨tmt,hmt⟩:=mt
 obtain ⟨tdn,hdn⟩:=Z.dn
 obtain ⟨tac,hac⟩:=Z.ac
 refine ⟨_,(@af _ _ _ _ _ (@aV _ _ _ _ (@ar _ _ _ _ _ _ _ _ _ _ DCP (hr.mono (by decide)) rfl (@aa _ _ _ _ _ (pv 1) (@aa _ _ _ _ _ (pv 2) ad rfl) rfl) (by decide) rfl rfl) rfl) (@af _ _ _ _ _ (@aV _ _ _ _ (@ar _ _ _ _ _ _ _ _ _ _ DCS (hr.mono (by decide)) rfl (@aa _ _ _ _ _ (pv 1) (@aa _ _ _ _ _ (pv 2) (@aa _ _ _ _ _ (aB (v:=.int 16) rfl hms ⟨tms,rfl⟩) ad rfl) rfl) rfl) (by decide) rfl rfl) rfl) (@af _ _ _ _ _ (@aL _ _ _ _ _ _ _ _ (PW.pt (bP (@aS _ _ _ _ (@aN _ _ _ (@ar _ _ _ _ _ _ _ _ _ _ DW (hr.mono (by decide)) rfl (@aa _ _ _ _ _ (pv 3) (@aa _ _ _ _ _ ag ad rfl) rfl) (by decide) rfl rfl) (by intro _; rfl))) (bt (@ax _ _ _ _ _ _ _ _ cQ (pv 3) (aB (v:=.int 32) rfl hmt ⟨tmt,rfl⟩) (ay _))))) (@ai _ _ _ aP) av) (@af _ _ _ _ _ (@aw _ _ 4 _ _ _ _ nd rfl (Or.inl rfl) mK rfl (Or.inl rfl)) (@af _ _ _ _ _ (@aw _ _ 5 _ _ _ _ nd rfl (Or.inl rfl) mK rfl (Or.inl rfl)) (@af _ _ _ _ _ (@ce _ _ _ _ _ _ _ _ PassesOwn.never rfl (cj (@ar _ _ _ _ _ _ _ _ _ _ DPu (hr.mono (by decide)) rfl (@aa _ _ _ _ _ (pv 1) (@aa _ _ _ _ _ (pv 2) ad rfl) rfl) (by decide) rfl rfl)) (ak (i:=6) nd rfl (Or.inl rfl)) (@af _ _ _ _ _ (@aw _ _ 7 _ _ _ _ nd rfl (Or.inl rfl) (@ar _ _ _ _ _ _ _ _ _ _ DBL (hr.mono (by decide)) rfl (@aa _ _ _ _ _ (pv 0) (@aa _ _ _ _ _ (pv 6) ad rfl) rfl) (by decide) rfl rfl) rfl (Or.inl rfl)) (@af _ _ _ _ _ (@aw _ _ 8 _ _ _ _ nd rfl (Or.inl rfl) (@ar _ _ _ _ _ _ _ _ _ _ DCu (hr.mono (by decide)) rfl (@aa _ _ _ _ _ (iO (pv 0) T.cl MB (hr.mono (by decide))) (@aa _ _ _ _ _ (pv 6) ad rfl) rfl) (by decide) rfl rfl) rfl (Or.inl rfl)) (@ai _ _ _ (@ce _ _ _ _ _ _ _ _ PassesOwn.never rfl (fu rfl B.range (@aa _ _ _ _ _ (@az _ _ _ _ _ _ _ _ aW (pv 3) ag) ad rfl)) (ak (i:=9) nd rfl (Or.inl rfl)) (@ai _ _ _ (@ce _ _ _ _ _ _ _ _ PassesOwn.never rfl (jW (aB (v:=.ref wy) rfl Z.wy rfl)) (ak (i:=10) nd rfl (Or.inl rfl)) (@af _ _ _ _ _ (@br _ _ _ _ _ _ (@ar _ _ _ _ _ _ _ _ _ _ DBS (hr.mono (by decide)) rfl (@aa _ _ _ _ _ (pv 7) (@aa _ _ _ _ _ (@ar _ _ _ _ _ _ _ _ _ _ DCb (hr.mono (by decide)) rfl (@aa _ _ _ _ _ (pv 8) (@aa _ _ _ _ _ (pv 10) (@aa _ _ _ _ _ (pv 9) ad rfl) rfl) rfl) (by decide) rfl rfl) (@aa _ _ _ _ _ (pv 4) ad rfl) rfl) rfl) (by decide) rfl rfl) (aZ rfl (aj (ak (i:=11) nd rfl (Or.inl rfl)) (aj (ak (i:=12) nd rfl (Or.inl rfl)) aQ))) rfl rfl rfl) (@af _ _ _ _ _ (mL hu2 (pv 4) (@aq _ _ _ _ _ (@aa _ _ _ _ _ (pv 6) (@aa _ _ _ _ _ (pv 10) (@aa _ _ _ _ _ (pv 9) ad rfl) rfl) rfl)) (pv 11) rfl) (@ai _ _ _ (mL hu2 (pv 5) (@aq _ _ _ _ _ (@aa _ _ _ _ _ (pv 6) (@aa _ _ _ _ _ (pv 10) (@aa _ _ _ _ _ (pv 9) ad rfl) rfl) rfl)) (pv 12) rfl)))) (by intro _; rfl))) (by intro _; rfl))))) (by intro _; rfl)) (@af _ _ _ _ _ (@aw _ _ 13 _ _ _ _ nd rfl (Or.inl rfl) (@aq _ _ _ _ _ (@aa _ _ _ _ _ (@aq _ _ _ _ _ (@aa _ _ _ _ _ (pv 1) (@aa _ _ _ _ _ (pv 2) ad rfl) rfl)) (@aa _ _ _ _ _ (aB (v:=.str "down") rfl hdn ⟨tdn,rfl⟩) (@aa _ _ _ _ _ (pv 3) ad rfl) rfl) rfl)) rfl (Or.inl rfl)) (@af _ _ _ _ _ (@aw _ _ 14 _ _ _ _ nd rfl (Or.inl rfl) (@aq _ _ _ _ _ (@aa _ _ _ _ _ (@aq _ _ _ _ _ (@aa _ _ _ _ _ (pv 1) (@aa _ _ _ _ _ (pv 2) ad rfl) rfl)) (@aa _ _ _ _ _ (aB (v:=.str "across") rfl hac ⟨tac,rfl⟩) (@aa _ _ _ _ _ (pv 3) ad rfl) rfl) rfl)) rfl (Or.inl rfl)) (@af _ _ _ _ _ (@aL _ _ _ _ _ _ _ _ (@ax _ _ _ _ _ _ _ _ cQ (dS hu2 (pv 4) (pv 14) (fun _ _=>rfl)) (dS hu2 (pv 4) (pv 13) (fun _ _=>rfl)) (ay _)) (@ai _ _ _ (@aw _ _ 13 _ _ _ _ nd rfl (Or.inl rfl) (pv 14) rfl (Or.inl rfl))) av) (@ai _ _ _ (@au _ _ _ _ (@aq _ _ _ _ _ (@aa _ _ _ _ _ (dS hu2 (pv 4) (pv 13) (fun _ _=>rfl)) (@aa _ _ _ _ _ (@ar _ _ _ _ _ _ _ _ _ _ DTB (hr.mono (by decide)) rfl (@aa _ _ _ _ _ (pv 5) (@aa _ _ _ _ _ (pv 13) ad rfl) rfl) (by decide) rfl rfl) ad rfl) rfl))))))))))))),?_⟩
 have z4:40000≤sizeLine:=by decide
 refine ao (fun σ' H'=>σ'=[some (.ref s),some (.int (m:Int)),some (.int (n:Int)),some (.int (k:Int)),none,none,none,none,none,none,none,none,none,none,none]∧H=H') (fun R hR=>?_) ?_
 ·exact ⟨_,rfl,_,rfl,m,n,rfl,by omega,by omega,hR _ _ ⟨rfl,rfl⟩⟩
 rintro _ _ ⟨rfl,rfl⟩
 refine ao (fun σ' H'=>σ'=[some (.ref s),some (.int (m:Int)),some (.int (n:Int)),some (.int (k:Int)),none,none,none,none,none,none,none,none,none,none,none]∧H=H') (fun R hR=>?_) ?_
 ·exact ⟨_,rfl,_,rfl,m,n,16,rfl,by omega,by omega,hR _ _ ⟨rfl,rfl⟩⟩
 rintro _ _ ⟨rfl,rfl⟩
 refine ao (fun σ' H'=>σ'=[some (.ref s),some (.int (m:Int)),some (.int (n:Int)),some (.int (k:Int)),none,none,none,none,none,none,none,none,none,none,none]∧H=H') (fun R hR=>?_) ?_
 ·refine ⟨_,rfl,.int (k:Int),"int",0,rfl,⟨by decide,.int _⟩,_,rfl,aI ⟨_,rfl,_,_,rfl,rfl,_,rfl,?_⟩⟩
  rw [show decide ((32:Int) < (k:Int))=false from decide_eq_false (by omega)]
  exact aI (hR _ _ ⟨rfl,rfl⟩)
 rintro _ _ ⟨rfl,rfl⟩
 refine ao (fun σ' H'=>∃wt:Addr,σ'=[some (.ref s),some (.int (m:Int)),some (.int (n:Int)),some (.int (k:Int)),some (.ref wt),none,none,none,none,none,none,none,none,none,none]∧H wt=none∧NDict P w H' wt []∧Same H H') (fun R hR=>?_) ?_
 ·exact fun wt hwt H1 nd s1=>hR _ _ ⟨wt,rfl,hwt,nd,s1⟩
 rintro _ H1 ⟨wt,rfl,hwt,nd1,s1⟩
 refine ao (fun σ' H'=>∃st:Addr,σ'=[some (.ref s),some (.int (m:Int)),some (.int (n:Int)),some (.int (k:Int)),some (.ref wt),some (.ref st),none,none,none,none,none,none,none,none,none]∧H1 st=none∧NDict P w H' st []∧Same H1 H') (fun R hR=>?_) ?_
 ·exact fun st hst H2 nd s2=>hR _ _ ⟨st,rfl,hst,nd,s2⟩
 rintro _ H2 ⟨st,rfl,hst1,ns2,s2⟩
 have nd2:=nd1.same s2
 have hst:H st=none:=s1.free hst1
 have nts:wt≠st:=fun z=>nd1.some (z ▸ hst1)
 have s02:=s1.trans s2
 have keepU:∀ {Hx:Hp},(∀c o,c≠wt→c≠st→H2 c=some o→Hx c=some o)→Same H Hx:=fun {Hx} kx c o e=>kx c o (ah e hwt) (ah e hst) (s02 _ _ e)
 obtain ⟨dx,r0,rs0,g1,g2,g3⟩:=id S0
 refine ao (fun σ' H'=>(∃v6 v7 v8 v9 v10 v11 v12:Option V,σ'=[some (.ref s),some (.int (m:Int)),some (.int (n:Int)),some (.int (k:Int)),some (.ref wt),some (.ref st),v6,v7,v8,v9,v10,v11,v12,none,none])∧(∃kvs,NDict P w H' wt kvs∧TWd b ks (DnT m n k (m * n) 0 0) kvs∧kvs.length≤16896)∧(∃kws,NDict P w H' st kws∧TSd b ks H' (DnT m n k (m * n) 0 0) kws∧kws.length≤16896)∧(∀c o,c≠wt→c≠st→H2 c=some o→H' c=some o)) (fun R hR=>?_) ?_
 ·refine ⟨_,rfl,_,rfl,m,n,rfl,m16,n16,fun pl ys H3 hpl pys s3=>?_⟩
  have pln:=Paired.length pys
  have p256:(aU m n).length≤256:=by rw [ci]; exact Nat.mul_le_mul m16 n16
  have kee3:∀c o,c≠wt→c≠st→H2 c=some o→H3 c=some o:=fun c o _ _ e=>s3 _ _ e
  have npw:pl≠wt:=fun z=>by obtain ⟨_,e,_⟩:=nd2.same s3; rw [← z,hpl] at e; cases e
  have nps:pl≠st:=fun z=>by obtain ⟨_,e,_⟩:=ns2.same s3; rw [← z,hpl] at e; cases e
  have d0:∀p wa l,DnT m n k 0 0 0 p wa l→False:=fun p wa l h=>by
   rcases h with ⟨h,_⟩ | ⟨_,h | ⟨_,⟨_,h⟩ | ⟨_,h⟩⟩⟩
   ·simp at h
   ·exact Nat.not_lt_zero _ h
   ·omega
   ·omega
  refine ⟨pl,rfl,⟨_,SqL.of hpl⟩,ck (xs:=ys) (fun i σ' H'=>(∃v6 v7 v8 v9 v10 v11 v12:Option V,σ'=[some (.ref s),some (.int (m:Int)),some (.int (n:Int)),some (.int (k:Int)),some (.ref wt),some (.ref st),v6,v7,v8,v9,v10,v11,v12,none,none])∧(∃kvs,NDict P w H' wt kvs∧TWd b ks (DnT m n k i 0 0) kvs∧kvs.length≤66 * i)∧(∃kws,NDict P w H' st kws∧TSd b ks H' (DnT m n k i 0 0) kws∧kws.length≤66 * i)∧(∀c o,c≠wt→c≠st→H3 c=some o→H' c=some o)) ⟨⟨_,_,_,_,_,_,_,rfl⟩,⟨[],nd2.same s3,(fun p wa l h=>(d0 p wa l h).elim),Nat.zero_le _⟩,⟨[],ns2.same s3,(fun p wa l h=>(d0 p wa l h).elim),Nat.zero_le _⟩,fun c o _ _ e=>e⟩ (fun i σ Hx _ ⟨_,_,_,kx⟩=>SqL.of (kx _ _ npw nps hpl)) ?_ ?_⟩
  ·rintro i x σ Hx hi ⟨⟨v6,v7,v8,v9,v10,v11,v12,rfl⟩,⟨kvs,nd,tw,kl⟩,⟨kws,ns,ts,wl⟩,kx⟩
   obtain ⟨p,hp,ta,rfl,hta0⟩:=Paired.getR pys hi
   have pm:=List.mem_of_getElem? hp
   obtain ⟨⟨p1,p2⟩,p3,p4⟩:=partsL_mem.mp pm
   have il:i < (aU m n).length:=(List.getElem?_eq_some_iff.mp hp).1
   have tupN:∀ {Hz:Hp} {d:Addr} {kk} {c xs},NDict P w Hz d kk→Hz c=some (.tup xs)→c≠d:=fun h e=>h.tup e
   have nd3:=nd2.same s3
   have ns3:=ns2.same s3
   have hta:=kx _ _ (nd3.tup hta0) (ns3.tup hta0) hta0
   have Sx:ShopAt C Hx s b ks:=S0.keep (fun c o e=>kx _ _ (ah e hwt) (ah e hst) (s3 _ _ (s02 _ _ e))) (fun c C' d fs e=>kx _ _ (ah e hwt) (ah e hst) (s3 _ _ (s02 _ _ e)))
   obtain ⟨dx',r0',rs0',g1',_,_⟩:=id Sx
   have cutIn:∀c∈cb b p.1 p.2,bL p.1 p.2 c∈(aU m n).take i∧bM b p.1 p.2 c∈(aU m n).take i:=fun c hc=>by
    obtain ⟨⟨a1,a2,a3,a4,a5,_⟩,⟨c1,c2,c3,c4,c5,_⟩⟩:=fk b0 p1 p3 hc
    exact ⟨fX hp (partsL_mem.mpr ⟨⟨a1,by omega⟩,a2,by omega⟩) a5,fX hp (partsL_mem.mpr ⟨⟨c1,by omega⟩,c2,by omega⟩) c5⟩
   refine ao (fun σ' H'=>∃ (lf:Addr) (lv:V),σ'=[some (.ref s),some (.int (m:Int)),some (.int (n:Int)),some (.int (k:Int)),some (.ref wt),some (.ref st),some (.ref ta),some (.ref lf),v8,v9,v10,v11,v12,none,none]∧H' lf=some (.tup [.int (lfW ks p.1 p.2),lv])∧TrV H' (lfT ks p.1 p.2) lv∧Same Hx H') (fun R hR=>?_) ?_
   ·exact ⟨_,rfl,_,rfl,s,ta,b,ks,p.1,p.2,rfl,Sx,k8,hta,fun lf lv Ha hlf hlv sa=>hR _ _ ⟨lf,lv,rfl,hlf,hlv,sa⟩⟩
   rintro _ Ha ⟨lf,lv,rfl,hlf,hlv,sa⟩
   refine ao (fun σ' H'=>∃ (cl:Addr) (cy:List V),σ'=[some (.ref s),some (.int (m:Int)),some (.int (n:Int)),some (.int (k:Int)),some (.ref wt),some (.ref st),some (.ref ta),some (.ref lf),some (.ref cl),v9,v10,v11,v12,none,none]∧H' cl=some (.lst cy)∧Paired (CutAt b p.1 p.2 H') cy (cb b p.1 p.2)∧Same Ha H') (fun R hR=>?_) ?_
   ·have Sa:ShopAt C Ha s b ks:=Sx.keep (fun c o e=>sa _ _ e) (fun c C' d fs e=>sa _ _ e)
    obtain ⟨dxa,_,_,ga,_,_⟩:=id Sa
    exact ⟨_,rfl,s,dxa,_,rfl,ga,cw _ _ (by decide +kernel) (by decide +kernel),s,b,ks,rfl,Sa,_,rfl,b,p.1,p.2,ta,rfl,sa _ _ hta,by omega,by omega,b0,fun cl cy Hb hcl pc sb=>hR _ _ ⟨cl,cy,rfl,hcl,pc,sb⟩⟩
   rintro _ Hb ⟨cl,cy,rfl,hcl,pc,sb⟩
   have sab:=sa.trans sb
   have htab:=sab _ _ hta
   have hlfb:=sb _ _ hlf
   have hlvb:TrV Hb (lfT ks p.1 p.2) lv:=TrV.keep (fun c xs e=>sb _ _ e) _ hlv
   have ndb:=nd.same sab
   have nsb:=ns.same sab
   have ncw:cl≠wt:=fun z=>by obtain ⟨_,e,_⟩:=id ndb; rw [← z,hcl] at e; cases e
   have ncs:cl≠st:=fun z=>by obtain ⟨_,e,_⟩:=id nsb; rw [← z,hcl] at e; cases e
   obtain ⟨kvsb,ndb'⟩:∃kvsb,NDict P w Hb wt kvsb:=⟨_,ndb⟩
   obtain ⟨kwsb,nsb'⟩:∃kwsb,NDict P w Hb st kwsb:=⟨_,nsb⟩
   have cl32:(cb b p.1 p.2).length≤32:=by
    unfold cb
    rw [List.length_append,dk,dk]; omega
   clear hta Sx hlf hlv
   refine ⟨_,rfl,_,_,rfl,rfl,_,rfl,by omega,by omega,?_⟩
   refine ic (lo:=0) (n:=((k:Int) + 1).toNat) (fun j σ' H'=>(∃v9 v10 v11 v12:Option V,σ'=[some (.ref s),some (.int (m:Int)),some (.int (n:Int)),some (.int (k:Int)),some (.ref wt),some (.ref st),some (.ref ta),some (.ref lf),some (.ref cl),v9,v10,v11,v12,none,none])∧(∃kvs,NDict P w H' wt kvs∧TWd b ks (DnT m n k i j 0) kvs∧kvs.length≤66 * i + 2 * j)∧(∃kws,NDict P w H' st kws∧TSd b ks H' (DnT m n k i j 0) kws∧kws.length≤66 * i + 2 * j)∧(∀c o,c≠wt→c≠st→Hb c=some o→H' c=some o)) ⟨⟨_,_,_,_,rfl⟩,⟨kvs,ndb,tw,by omega⟩,⟨kws,nsb,ts.keep (fun c xs e=>sab _ _ e) (fun _ _ _ h=>h),by omega⟩,fun c o _ _ e=>e⟩ ?_ ?_
   ·clear nd tw kl ns ts wl
    clear kvs kws ndb nsb
    rintro j σ Hc hj ⟨⟨v9,v10,v11,v12,rfl⟩,⟨kvs,nd,tw,kl⟩,⟨kws,ns,ts,wl⟩,kc⟩
    have wyq:=Z.wq Hc
    refine ⟨wy, rfl, ⟨_, Z.wq Hc⟩, iE (xs:=[.str "down", .str "across"]) (fun t σ' H'=>(∃v10 v11 v12:Option V, σ'=[some (.ref s), some (.int (m:Int)), some (.int (n:Int)), some (.int (k:Int)), some (.ref wt), some (.ref st), some (.ref ta), some (.ref lf), some (.ref cl), some (.int (0 + (j:Int))), v10, v11, v12, none, none])∧(∃kvs, NDict P w H' wt kvs∧TWd b ks (DnT m n k i j t) kvs∧kvs.length≤66 * i + 2 * j + t)∧(∃kws, NDict P w H' st kws∧TSd b ks H' (DnT m n k i j t) kws∧kws.length≤66 * i + 2 * j + t)∧(∀c o, c≠wt→c≠st→Hb c=some o→H' c=some o)) ⟨⟨_, _, _, rfl⟩, ⟨kvs, nd, tw, by omega⟩, ⟨kws, ns, ts, by omega⟩, kc⟩ (fun t σ Hx _ _=>Z.wq _) ?_ ?_⟩
    ·clear nd tw kl ns ts wl kc wyq
     clear kvs kws Hc v10 v11 v12
     rintro t x σ Hc ht ⟨⟨v10,v11,v12,rfl⟩,⟨kvs,nd,tw,kl⟩,⟨kws,ns,ts,wl⟩,kc⟩
     have t2:t < 2:=(List.getElem?_eq_some_iff.mp ht).1
     obtain ⟨wa,rfl,hwa⟩:∃wa:Bool,x=wv wa∧((wa=true∧t=0)∨(wa=false∧t=1)):=by
      match t,t2 with
      | 0,_=>exact ⟨true,(Option.some.inj ht).symm,.inl ⟨rfl,rfl⟩⟩
      | 1,_=>exact ⟨false,(Option.some.inj ht).symm,.inr ⟨rfl,rfl⟩⟩
     have hclc:=kc _ _ ncw ncs hcl
     have tpk:∀c xs,Hb c=some (.tup xs)→Hc c=some (.tup xs):=fun c xs e=>kc _ _ (ndb'.tup e) (nsb'.tup e) e
     have pcc:Paired (CutAt b p.1 p.2 Hc) cy (cb b p.1 p.2):=Paired.mapP pc fun v c ⟨q',u1,u2,e,e1,e2,e3⟩=>⟨q',u1,u2,e,tpk _ _ e1,tpk _ _ e2,tpk _ _ e3⟩
     have htac:=tpk _ _ htab
     have hlfc:=tpk _ _ hlfb
     have hlvc:TrV Hc (lfT ks p.1 p.2) lv:=TrV.keep tpk _ hlvb
     refine ao (fun σ' H'=>∃ (sv:V),σ'=[some (.ref s),some (.int (m:Int)),some (.int (n:Int)),some (.int (k:Int)),some (.ref wt),some (.ref st),some (.ref ta),some (.ref lf),some (.ref cl),some (.int (0 + (j:Int))),some (wv wa),some (.int (tW b ks p wa j)),some sv,none,none]∧StepN b ks H' p wa j sv∧Same Hc H') (fun R hR=>?_) ?_
     ·refine ⟨_,rfl,_,rfl,_,rfl,_,rfl,cl,cy,b,p.1,p.2,cb b p.1 p.2,wa,j,by rw [Int.zero_add]; rfl,hclc,pcc,cl32,fun l zs Hd hl pz sd=>?_⟩
      refine ⟨_,rfl,lf,l,wt,lfW ks p.1 p.2,lv,zs,b,p.1,p.2,_,tW b ks,kvs,rfl,sd _ _ hlfc,hl,pz,nd.same sd,(fun x hx=>?_),fun r sv He hr hsv se=>?_⟩
      ·obtain ⟨h1,h2,_,_⟩:=gl hx
       obtain ⟨i1,i2⟩:=cutIn x.1 h1
       exact ⟨tw _ _ _ (.inl ⟨i1,by omega⟩),tw _ _ _ (.inl ⟨i2,by omega⟩)⟩
      ·rw [← zL b0 p wa j p1 p3] at hr
       refine ⟨r,_,rfl,SqT.of hr,rfl,_,_,rfl,_,_,rfl,rfl,hR _ _ ⟨sv,rfl,?_,sd.trans se⟩⟩
       change StVN b p.1 p.2 He lv sv (tC b ks p wa j) at hsv
       cases ec:tC b ks p wa j with
       | none=>rw [ec] at hsv; exact .inl ⟨ec,(show sv=lv from hsv) ▸ TrV.keep (fun c xs e=>se _ _ (sd _ _ e)) _ hlvc⟩
       | some x=>rw [ec] at hsv; exact .inr ⟨x,ec,hsv⟩
     rintro _ Hd ⟨sv,rfl,hsv,scd⟩
     have upD:∀p' wa' l,DnT m n k i j (t + 1) p' wa' l→DnT m n k i j t p' wa' l∨(p'=p∧wa'=wa∧l=j):=fun p' wa' l h=>by
      rcases h with h | ⟨h1,h2 | ⟨h2,h3⟩⟩
      ·exact .inl (.inl h)
      ·exact .inl (.inr ⟨h1,.inl h2⟩)
      ·rw [hp] at h1
       cases h1
       subst h2
       rcases h3 with ⟨e1,e2⟩ | ⟨e1,e2⟩ <;> rcases hwa with ⟨w1,w2⟩ | ⟨w1,w2⟩
       ·exact .inr ⟨rfl,by rw [e1,w1],rfl⟩
       ·exact .inl (.inr ⟨hp,.inr ⟨rfl,.inl ⟨e1,by omega⟩⟩⟩)
       ·omega
       ·exact .inr ⟨rfl,by rw [e1,w1],rfl⟩
     have ndd:=nd.same scd
     have nsd:=ns.same scd
     refine ao (fun σ' H'=>σ'=[some (.ref s),some (.int (m:Int)),some (.int (n:Int)),some (.int (k:Int)),some (.ref wt),some (.ref st),some (.ref ta),some (.ref lf),some (.ref cl),some (.int (0 + (j:Int))),some (wv wa),some (.int (tW b ks p wa j)),some sv,none,none]∧(∃kvs,NDict P w H' wt kvs∧TWd b ks (DnT m n k i j (t + 1)) kvs∧kvs.length≤66 * i + 2 * j + (t + 1))∧(∃kws,NDict P w H' st kws∧TSd b ks H' (DnT m n k i j t) kws∧kws.length≤66 * i + 2 * j + t)∧StepN b ks H' p wa j sv∧H' ta=some (.tup [.int p.1,.int p.2])∧(∀c o,c≠wt→c≠st→Hb c=some o→H' c=some o)) (fun R hR=>?_) ?_
     ·refine ⟨_,rfl,_,rfl,_,rfl,_,rfl,_,rfl,(by show 3≤sizeLine; decide),fun ku hku=>?_⟩
      obtain ⟨He,e6,k6,s6⟩:∃H',upd Hd ku (.tup [.ref ta,wv wa,.int (0 + (j:Int))])=H'∧H' ku=some (.tup [.ref ta,wv wa,.int (0 + (j:Int))])∧Same Hd H':=⟨_,rfl,ae,Same.new hku⟩
      rw [show upd Hd ku _=He from e6]
      refine ⟨wt,kvs,nk p wa j,ku,rfl,rfl,ndd.same s6,⟨ta,by rw [show (0 + (j:Int))=(j:Int) by omega] at k6; exact k6,s6 _ _ (scd _ _ htac)⟩,by omega,fun Hf nf bf ff=>?_⟩
      have tdf:∀c xs,Hd c=some (.tup xs)→Hf c=some (.tup xs):=fun c xs e=>bf _ _ ((ndd.same s6).tup (s6 _ _ e)) (s6 _ _ e)
      refine hR _ _ ⟨rfl,⟨_,nf,tw.put upD,?_⟩,⟨kws,nsd.keep (fun o e=>bf _ _ (Ne.symm nts) (s6 _ _ e)) tdf,ts.keep (fun c xs e=>tdf _ _ (scd _ _ e)) (fun _ _ _ h=>h),wl⟩,hsv.keep tdf,tdf _ _ (scd _ _ htac),fun c o n1 n2 e=>bf _ _ n1 (s6 _ _ (scd _ _ (kc _ _ n1 n2 e)))⟩
      have:=fU kvs (nk p wa j) (.int (tW b ks p wa j))
      omega
     clear nd tw kl ns ts wl ndd nsd hsv scd hclc pcc htac hlfc hlvc tpk kc
     clear kvs kws Hc Hd
     rintro _ Hc ⟨rfl,⟨kvs,nd,tw,kl⟩,⟨kws,ns,ts,wl⟩,hsv,htac,kc⟩
     refine ⟨_,rfl,_,rfl,_,rfl,_,rfl,_,rfl,(by show 3≤sizeLine; decide),fun ku hku=>?_⟩
     obtain ⟨He,e6,k6,s6⟩:∃H',upd Hc ku (.tup [.ref ta,wv wa,.int (0 + (j:Int))])=H'∧H' ku=some (.tup [.ref ta,wv wa,.int (0 + (j:Int))])∧Same Hc H':=⟨_,rfl,ae,Same.new hku⟩
     rw [show upd Hc ku _=He from e6]
     refine ⟨st,kws,nk p wa j,ku,rfl,rfl,ns.same s6,⟨ta,by rw [show (0 + (j:Int))=(j:Int) by omega] at k6; exact k6,s6 _ _ htac⟩,by omega,fun Hf nf bf ff=>?_⟩
     have tdf:∀c xs,Hc c=some (.tup xs)→Hf c=some (.tup xs):=fun c xs e=>bf _ _ ((ns.same s6).tup (s6 _ _ e)) (s6 _ _ e)
     refine ⟨⟨_,_,_,rfl⟩,⟨kvs,nd.keep (fun o e=>bf _ _ nts (s6 _ _ e)) tdf,tw,kl⟩,⟨_,nf,ts.put tdf (hsv.keep tdf) upD,?_⟩,fun c o n1 n2 e=>bf _ _ n2 (s6 _ _ (kc _ _ n1 n2 e))⟩
     have:=fU kws (nk p wa j) sv
     omega
    ·rintro σ Hd ⟨⟨v10,v11,v12,rfl⟩,⟨kvs,nd,tw,kl⟩,⟨kws,ns,ts,wl⟩,kd⟩
     have up:∀p wa l,DnT m n k i (j + 1) 0 p wa l→DnT m n k i j 2 p wa l:=fun p wa l h=>by
      rcases h with h | ⟨h1,h2 | ⟨_,⟨_,h2⟩ | ⟨_,h2⟩⟩⟩
      ·exact .inl h
      ·refine .inr ⟨h1,?_⟩
       rcases Nat.lt_succ_iff_lt_or_eq.mp h2 with h3 | h3
       ·exact .inl h3
       ·cases wa with
        | true=>exact .inr ⟨h3,.inl ⟨rfl,by decide⟩⟩
        | false=>exact .inr ⟨h3,.inr ⟨rfl,by decide⟩⟩
      ·omega
      ·omega
     exact ⟨⟨_,_,_,_,rfl⟩,⟨kvs,nd,fun p wa l h=>tw p wa l (up p wa l h),by have:kvs.length≤66 * i + 2 * j + 2:=kl; omega⟩,⟨kws,ns,ts.keep (fun _ _ e=>e) up,by have:kws.length≤66 * i + 2 * j + 2:=wl; omega⟩,kd⟩
   ·rintro σ Hd ⟨⟨v9,v10,v11,v12,rfl⟩,⟨kvs,nd,tw,kl⟩,⟨kws,ns,ts,wl⟩,kd⟩
    have ek:((k:Int) + 1).toNat=k + 1:=by omega
    rw [ek] at tw ts kl wl
    have up:∀p' wa l,DnT m n k (i + 1) 0 0 p' wa l→DnT m n k i (k + 1) 0 p' wa l:=fun p' wa l h=>by
     rcases h with ⟨h,hl⟩ | ⟨_,h2 | ⟨_,⟨_,h2⟩ | ⟨_,h2⟩⟩⟩
     ·rw [List.take_add_one,hp] at h
      rcases List.mem_append.mp h with h | h
      ·exact .inl ⟨h,hl⟩
      ·rw [List.mem_singleton.mp h]
       exact .inr ⟨hp,.inl (by omega)⟩
     ·exact absurd h2 (Nat.not_lt_zero _)
     ·omega
     ·omega
    exact ⟨⟨_,_,_,_,_,_,_,rfl⟩,⟨kvs,nd,fun p wa l h=>tw p wa l (up p wa l h),by omega⟩,⟨kws,ns,ts.keep (fun _ _ e=>e) up,by omega⟩,fun c o n1 n2 e=>kd _ _ n1 n2 (sab _ _ (kx _ _ n1 n2 e))⟩
  ·rintro σ Hx ⟨e,⟨kvs,nd,tw,kl⟩,⟨kws,ns,ts,wl⟩,kx⟩
   have ey:ys.length=m * n:=pln.trans (ci m n)
   have mn:=ci m n
   rw [ey] at tw ts kl wl
   exact hR _ _ ⟨e,⟨kvs,nd,tw,by omega⟩,⟨kws,ns,ts,by omega⟩,fun c o n1 n2 e=>kx _ _ n1 n2 (s3 _ _ e)⟩
 rintro _ H3 ⟨⟨v6,v7,v8,v9,v10,v11,v12,rfl⟩,⟨kvs,nd,tw,kl⟩,⟨kws,ns,ts,wl⟩,k23⟩
 have pmem:((m:Int),(n:Int))∈aU m n:=partsL_mem.mpr ⟨⟨by show (1:Int)≤m; omega,Int.le_refl _⟩,by show (1:Int)≤n; omega,Int.le_refl _⟩
 have all:∀p (wa:Bool) l,p∈aU m n∧l≤k→DnT m n k (m * n) 0 0 p wa l:=fun p wa l h=>.inl ⟨by rw [List.take_of_length_le (by rw [ci]; exact Nat.le_refl _)]; exact h.1,h.2⟩
 have twD:=tw _ true k (all (m,n) true k ⟨pmem,Nat.le_refl _⟩)
 have twA:=tw _ false k (all (m,n) false k ⟨pmem,Nat.le_refl _⟩)
 have s03:=keepU k23
 refine ao (fun σ' H'=>∃kd:Addr,σ'=[some (.ref s),some (.int (m:Int)),some (.int (n:Int)),some (.int (k:Int)),some (.ref wt),some (.ref st),v6,v7,v8,v9,v10,v11,v12,some (.ref kd),none]∧NkAt H' kd (nk ((m:Int),(n:Int)) true k)∧Same H3 H') (fun R hR=>?_) ?_
 ·refine ⟨_,rfl,_,rfl,(by show 2≤sizeLine; decide),fun pa hpa=>?_⟩
  obtain ⟨H4,e4,k4,s4⟩:∃H',upd H3 pa (.tup [.int (m:Int),.int (n:Int)])=H'∧H' pa=some (.tup [.int (m:Int),.int (n:Int)])∧Same H3 H':=⟨_,rfl,ae,Same.new hpa⟩
  rw [show upd H3 pa _=H4 from e4]
  refine ⟨_,rfl,(by show 3≤sizeLine; decide),fun kd hkd=>?_⟩
  obtain ⟨H5, e5, k5, s5⟩:∃H', upd H4 kd (.tup [.ref pa, .str "down", .int (k:Int)])=H'∧H' kd=some (.tup [.ref pa, .str "down", .int (k:Int)])∧Same H4 H':=⟨_, rfl, ae, Same.new hkd⟩
  rw [show upd H4 kd _=H5 from e5]
  exact hR _ _ ⟨kd,rfl,⟨pa,k5,s5 _ _ k4⟩,s4.trans s5⟩
 rintro _ H4 ⟨kd,rfl,hkd,s34⟩
 refine ao (fun σ' H'=>∃ka:Addr,σ'=[some (.ref s),some (.int (m:Int)),some (.int (n:Int)),some (.int (k:Int)),some (.ref wt),some (.ref st),v6,v7,v8,v9,v10,v11,v12,some (.ref kd),some (.ref ka)]∧NkAt H' ka (nk ((m:Int),(n:Int)) false k)∧Same H4 H') (fun R hR=>?_) ?_
 ·refine ⟨_,rfl,_,rfl,(by show 2≤sizeLine; decide),fun pa hpa=>?_⟩
  obtain ⟨H5,e4,k4,s4⟩:∃H',upd H4 pa (.tup [.int (m:Int),.int (n:Int)])=H'∧H' pa=some (.tup [.int (m:Int),.int (n:Int)])∧Same H4 H':=⟨_,rfl,ae,Same.new hpa⟩
  rw [show upd H4 pa _=H5 from e4]
  refine ⟨_,rfl,(by show 3≤sizeLine; decide),fun ka hka=>?_⟩
  obtain ⟨H6, e5, k5, s5⟩:∃H', upd H5 ka (.tup [.ref pa, .str "across", .int (k:Int)])=H'∧H' ka=some (.tup [.ref pa, .str "across", .int (k:Int)])∧Same H5 H':=⟨_, rfl, ae, Same.new hka⟩
  rw [show upd H5 ka _=H6 from e5]
  exact hR _ _ ⟨ka,rfl,⟨pa,k5,s5 _ _ k4⟩,s4.trans s5⟩
 rintro _ H5 ⟨ka,rfl,hka,s45⟩
 have s35:=s34.trans s45
 have hkd5:=hkd.keep (fun c xs e=>s45 _ _ e)
 have nd5:=nd.same s35
 have ns5:=ns.same s35
 refine ao (fun σ' H'=>∃ (ky:Addr) (wa:Bool),σ'=[some (.ref s),some (.int (m:Int)),some (.int (n:Int)),some (.int (k:Int)),some (.ref wt),some (.ref st),v6,v7,v8,v9,v10,v11,v12,some (.ref ky),some (.ref ka)]∧NkAt H5 ky (nk ((m:Int),(n:Int)) wa k)∧tB b ks ((m:Int),(n:Int)) k=tW b ks ((m:Int),(n:Int)) wa k∧tR b ks ((m:Int),(n:Int)) k=tT b ks 33 ((m:Int),(n:Int)) wa k∧H5=H') (fun R hR=>?_) ?_
 ·refine ⟨_,rfl,_,rfl,wt,_,_,_,ka,rfl,rfl,nd5,hka,twA,_,rfl,_,rfl,wt,_,_,_,kd,rfl,rfl,nd5,hkd5,twD,_,_,rfl,rfl,_,rfl,?_⟩
  by_cases c:tW b ks ((m:Int),(n:Int)) true k < tW b ks ((m:Int),(n:Int)) false k
  ·rw [decide_eq_true c]
   exact aT ⟨_,rfl,hR _ _ ⟨ka,false,rfl,hka,by unfold tB; omega,by unfold tR; rw [if_pos c],rfl⟩⟩
  ·rw [decide_eq_false c]
   exact aI (hR _ _ ⟨kd,true,rfl,hkd5,by unfold tB; omega,by unfold tR; rw [if_neg c],rfl⟩)
 rintro _ _ ⟨ky,wa,rfl,hky,eB,eR,rfl⟩
 refine ⟨_,rfl,_,rfl,wt,_,_,_,ky,rfl,rfl,nd5,hky,tw _ wa k (all (m,n) wa k ⟨pmem,Nat.le_refl _⟩),?_⟩
 refine ⟨_,rfl,_,rfl,st,ky,b,ks,kws,m,n,k,((m:Int),(n:Int)),wa,k,rfl,ns5,hky,b0,ts.keep (fun c xs e=>s35 _ _ e) all,pmem,Nat.le_refl _,(by show ((m:Int) + n).toNat < 33; omega),fun v6 H6 hv6 s56=>?_⟩
 refine ⟨(by show 2≤sizeLine; decide),fun r hr=>?_⟩
 obtain ⟨H7,e7,k7,s7⟩:∃H',upd H6 r (.tup [.int (tW b ks ((m:Int),(n:Int)) wa k),v6])=H'∧H' r=some (.tup [.int (tW b ks ((m:Int),(n:Int)) wa k),v6])∧Same H6 H':=⟨_,rfl,ae,Same.new hr⟩
 rw [show upd H6 r _=H7 from e7]
 exact q r v6 H7 (by rw [eB]; exact k7) (by rw [eR]; exact TrV.keep (fun c xs e=>s7 _ _ e) _ hv6) (s03.trans (s35.trans (s56.trans s7)))
end
section
variable {P:Program} {w:World} {K:PySem.W.Frag} {mg:Str→Option Value} {base:Heap}
def mV (K:PySem.W.Frag) (NP:Addr):Sp:=fun vs H Q E=>∃ (wv hv:V),vs=[wv,hv]∧(∃T,Ty K H wv T)∧(∃T,Ty K H hv T)∧((aE wv 1 && aE hv 1)=false→E (.ref NP) none H)∧((aE wv 1 && aE hv 1)=true→Q .non H)
def qW (TL:Addr):Sp:=fun vs H Q E=>∃ (w h:Int),vs=[.int w,.int h,.int 16]∧((16 < w∨16 < h)→E (.ref TL) none H)∧(w≤16→h≤16→Q .non H)
def qX (v:V):Prop:=aE v 0=false∨∃i:Int,v=.int i∧32 < i
def kY (K:PySem.W.Frag) (NP TL NN:Addr):Sp:=fun vs H Q E=>∃ (s:Addr) (wv hv kv:V),vs=[.ref s,wv,hv,kv]∧(∃T,Ty K H wv T)∧(∃T,Ty K H hv T)∧(∃T,Ty K H kv T)∧(((aE wv 1 && aE hv 1)=false∧E (.ref NP) none H)∨∃w h:Int,wv=.int w∧hv=.int h∧1≤w∧1≤h∧(((16 < w∨16 < h)∧E (.ref TL) none H)∨(w≤16∧h≤16∧qX kv∧E (.ref NN) none H)))
def dm (K:PySem.W.Frag) (NP:Addr):Sp:=fun vs H Q E=>∃ (s:Addr) (wv hv v:V),vs=[.ref s,wv,hv,v]∧(∃T,Ty K H wv T)∧(∃T,Ty K H hv T)∧(aE wv 1 && aE hv 1)=false∧E (.ref NP) none H
theorem sccplateX:FnScope ["wide","high"] ["wide","high"] (defScope bE):=⟨rfl,rfl,rfl,by decide +kernel,rfl,by decide +kernel,by decide +kernel⟩
theorem kZ {f NP:Addr} {fd:FuncData} (F:Fun K "check_plate" "check_plate" bE f fd) (mP:mg "NoPlate" = some (.ref NP)) (eP:ExcC K NP) (DW:Dn P w K mg base "is_whole" ["thing","least"] 1 (bN K)):FnOk P w K mg base (CXx P w) 2 f fd ["wide","high"] (mV K NP):=by
 refine F.okX sccplateX (fun vs H Q E h=>?_) (fun cdv A outer s H vs Q E hr h=>?_)
 ·obtain ⟨wv,hv,rfl,_⟩:=h
  rfl
 obtain ⟨wv,hv,rfl,⟨Tw,tw⟩,⟨Th,th⟩,qe,q⟩:=h
 have nd:=sccplateX.nd
 refine ⟨_,(@ai _ _ _ (@aL _ _ _ _ _ _ _ _ (PW.pt (bP (@aS _ _ _ _ (@aN _ _ _ (@ar _ _ _ _ _ _ _ _ _ _ DW hr rfl (@aa _ _ _ _ _ (pv 0) (@aa _ _ _ _ _ ag ad rfl) rfl) (by decide) rfl rfl) (by intro _; rfl))) (bt (@aS _ _ _ _ (@aN _ _ _ (@ar _ _ _ _ _ _ _ _ _ _ DW hr rfl (@aa _ _ _ _ _ (pv 1) (@aa _ _ _ _ _ ag ad rfl) rfl) (by decide) rfl rfl) (by intro _; rfl)))))) (@ai _ _ _ (dG (R:=fun c H=>E c none H) rfl rfl mP eP (@aa _ _ _ _ _ aM ad rfl) cF)) av)),?_⟩
 refine ⟨_,rfl,wv,_,1,rfl,tw,_,rfl,?_⟩
 cases hw:aE wv 1 with
 | false=>exact aT (aT ⟨(by show 1≤sizeLine; decide),qe (by rw [hw]; rfl)⟩)
 | true =>
  refine aI ⟨_,rfl,hv,_,1,rfl,th,_,rfl,?_⟩
  cases hh:aE hv 1 with
  | false=>exact aT ⟨(by show 1≤sizeLine; decide),qe (by rw [hw,hh]; rfl)⟩
  | true=>exact aI (q (by rw [hw,hh]; rfl))
theorem sccsidesX:FnScope ["wide","high","most"] ["wide","high","most"] (defScope bG):=⟨rfl,rfl,rfl,by decide +kernel,rfl,by decide +kernel,by decide +kernel⟩
theorem lb {f TL:Addr} {fd:FuncData} (F:Fun K "check_sides" "check_sides" bG f fd) (mT:mg "TooLarge" = some (.ref TL)) (eT:ExcC K TL):FnOk P w K mg base (CXx P w) 1 f fd ["wide","high","most"] (qW TL):=by
 refine F.okX sccsidesX (fun vs H Q E h=>?_) (fun cdv A outer s H vs Q E hr h=>?_)
 ·obtain ⟨w1,h1,rfl,_⟩:=h
  rfl
 obtain ⟨w1,h1,rfl,qe,q⟩:=h
 have nd:=sccsidesX.nd
 refine ⟨_,(@ai _ _ _ (@aL _ _ _ _ _ _ _ _ (PW.pt (bP (@ax _ _ _ _ _ _ _ _ cQ (pv 0) (pv 2) (ay _)) (bt (@ax _ _ _ _ _ _ _ _ cQ (pv 1) (pv 2) (ay _))))) (@ai _ _ _ (dG (R:=fun c H=>E c none H) rfl rfl mT eT (@aa _ _ _ _ _ (nG (uH (uI (pv 2) uG))) ad rfl) cF)) av)),?_⟩
 have sz:(1000:Nat)≤sizeLine:=by decide
 have ra:(16 < w1∨16 < h1)→pY (fun c H=>E c none H) TL (pJ (fun σ H Q=>tJC "a side of the plate is above " (tJF (oV 2) (fun _ H out Q=>out.length≤sizeLine∧Q out H)) σ H Str.empty fun z H'=>Q (.str z) H') ko) { nx:=fun x H'=>Q V.non H', rt:=Q } [some (.int w1), some (.int h1), some (.int 16)] H:=fun z =>
  ⟨by decide +kernel,_,rfl,_,.inl ⟨16,rfl,by decide,rfl⟩,by decide +kernel,by decide +kernel,(by show 1≤sizeLine; decide),qe z⟩
 refine ⟨_,rfl,_,rfl,_,_,rfl,rfl,_,rfl,?_⟩
 by_cases c1:16 < w1
 ·rw [decide_eq_true c1]
  exact aT (aT (ra (.inl c1)))
 ·rw [decide_eq_false c1]
  refine aI ⟨_,rfl,_,rfl,_,_,rfl,rfl,_,rfl,?_⟩
  by_cases c2:16 < h1
  ·rw [decide_eq_true c2]
   exact aT (ra (.inr c2))
  ·rw [decide_eq_false c2]
   exact aI (q (by omega) (by omega))
theorem scbytX:FnScope ["shop","wide","high","k","worths","steps","part","leaf_found","cuts","left","way","worth","step","key","other"] ["shop","wide","high","k"] (defScope bq):=⟨rfl,rfl,rfl,by decide +kernel,rfl,by decide +kernel,by decide +kernel⟩
theorem sQ {f NP TL NN:Addr} {fd:FuncData} (F:Fun K "best_by_turns" "best_by_turns" bq f fd) (ms:∃t,mg "MOST_SIDE" = some (.int 16 t)) (mt:∃t,mg "MOST_TURNS" = some (.int 32 t)) (mN:mg "NoNumber" = some (.ref NN)) (eN:ExcC K NN) (DW:Dn P w K mg base "is_whole" ["thing","least"] 1 (bN K)) (DCP:DnX P w K mg base "check_plate" ["wide","high"] 2 (mV K NP)) (DCS:DnX P w K mg base "check_sides" ["wide","high","most"] 1 (qW TL)):FnOk P w K mg base (CXx P w) 3 f fd ["shop","wide","high","k"] (kY K NP TL NN):=by
 refine F.okX scbytX (fun vs H Q E h=>?_) (fun cdv A outer s H vs Q E hr h=>?_)
 ·obtain ⟨s,wv,hv,kv,rfl,_⟩:=h
  rfl
 obtain ⟨s,wv,hv,kv,rfl,⟨_,tw⟩,⟨_,th⟩,⟨_,tk⟩,cs⟩:=h
 have nd:=scbytX.nd
 obtain ⟨tms,hms⟩:=ms
 obtain ⟨tmt,hmt⟩:=mt
 refine ⟨_,(@af _ _ _ _ _ (@aV _ _ _ _ (eU (dI DCP (hr.mono (by decide)) rfl (@aa _ _ _ _ _ (pv 1) (@aa _ _ _ _ _ (pv 2) ad rfl) rfl))) rfl) (@af _ _ _ _ _ (@aV _ _ _ _ (eU (dI DCS (hr.mono (by decide)) rfl (@aa _ _ _ _ _ (pv 1) (@aa _ _ _ _ _ (pv 2) (@aa _ _ _ _ _ (aB (v:=.int 16) rfl hms ⟨tms,rfl⟩) ad rfl) rfl) rfl))) rfl) (@af _ _ _ _ _ (@aL _ _ _ _ _ _ _ _ (PW.pt (bP (@aS _ _ _ _ (@aN _ _ _ (@ar _ _ _ _ _ _ _ _ _ _ DW (hr.mono (by decide)) rfl (@aa _ _ _ _ _ (pv 3) (@aa _ _ _ _ _ ag ad rfl) rfl) (by decide) rfl rfl) (by intro _; rfl))) (bt (@ax _ _ _ _ _ _ _ _ cQ (pv 3) (aB (v:=.int 32) rfl hmt ⟨tmt,rfl⟩) (ay _))))) (@ai _ _ _ (dG (R:=fun c H=>E c none H) rfl rfl mN eN (@aa _ _ _ _ _ aM ad rfl) cF)) av) (@af _ _ _ _ _ aP (@af _ _ _ _ _ aP (@af _ _ _ _ _ aP (@af _ _ _ _ _ aP (@af _ _ _ _ _ aP (@af _ _ _ _ _ aP (@ai _ _ _ aP)))))))))),?_⟩
 rcases cs with ⟨bad,e⟩ | ⟨w1,h1,rfl,rfl,w0,h0,cs⟩
 ·refine ao (fun σ' H'=>False) (fun R hR=>?_) (fun _ _ z=>z.elim)
  exact ⟨_,rfl,_,rfl,wv,hv,rfl,⟨_,tw⟩,⟨_,th⟩,fun _=>e,fun g=>by rw [bad] at g; cases g⟩
 have gw:(aE (.int w1) 1 && aE (.int h1) 1)=true:=by
  rw [show aE (.int w1) 1=true from decide_eq_true w0,show aE (.int h1) 1=true from decide_eq_true h0]; rfl
 refine ao (fun σ' H'=>σ'=[some (.ref s),some (.int w1),some (.int h1),some kv,none,none,none,none,none,none,none,none,none,none,none]∧H=H') (fun R hR=>?_) ?_
 ·exact ⟨_,rfl,_,rfl,.int w1,.int h1,rfl,⟨_,Ty.int⟩,⟨_,Ty.int⟩,(fun z=>by rw [gw] at z; cases z),fun _=>hR _ _ ⟨rfl,rfl⟩⟩
 rintro _ _ ⟨rfl,rfl⟩
 rcases cs with ⟨big,e⟩ | ⟨w16,h16,bk,e⟩
 ·refine ao (fun σ' H'=>False) (fun R hR=>?_) (fun _ _ z=>z.elim)
  exact ⟨_,rfl,_,rfl,w1,h1,rfl,fun _=>e,fun a b=>by omega⟩
 refine ao (fun σ' H'=>σ'=[some (.ref s),some (.int w1),some (.int h1),some kv,none,none,none,none,none,none,none,none,none,none,none]∧H=H') (fun R hR=>?_) ?_
 ·exact ⟨_,rfl,_,rfl,w1,h1,rfl,(fun z=>by omega),fun _ _=>hR _ _ ⟨rfl,rfl⟩⟩
 rintro _ _ ⟨rfl,rfl⟩
 refine ao (fun σ' H'=>False) (fun R hR=>?_) (fun _ _ z=>z.elim)
 refine ⟨_,rfl,kv,_,0,rfl,tk,_,rfl,?_⟩
 cases hk:aE kv 0 with
 | false=>exact aT (aT ⟨(by show 1≤sizeLine; decide),e⟩)
 | true =>
  rcases bk with z | ⟨i,rfl,hi⟩
  ·rw [z] at hk; cases hk
  refine aI ⟨_,rfl,_,_,rfl,rfl,_,rfl,?_⟩
  rw [show decide ((32:Int) < i)=true from decide_eq_true hi]
  exact aT ⟨(by show 1≤sizeLine; decide),e⟩
theorem scistreeP:FnScope ["shop","wide","high","thing","blade","waiting","spot"] ["shop","wide","high","thing"] (defScope dj):=⟨rfl,rfl,rfl,by decide +kernel,rfl,by decide +kernel,by decide +kernel⟩
theorem lc {f NP:Addr} {fd:FuncData} (F:Fun K "is_tree" "is_tree" dj f fd) (DCP:DnX P w K mg base "check_plate" ["wide","high"] 2 (mV K NP)):FnOk P w K mg base (CXx P w) 3 f fd ["shop","wide","high","thing"] (dm K NP):=by
 refine F.okX scistreeP (fun vs H Q E h=>?_) (fun cdv A outer s H vs Q E hr h=>?_)
 ·obtain ⟨s,wv,hv,v,rfl,_⟩:=h
  rfl
 obtain ⟨s,wv,hv,v,rfl,⟨_,tw⟩,⟨_,th⟩,bad,e⟩:=h
 have nd:=scistreeP.nd
 refine ⟨_,(@af _ _ _ _ _ (@aV _ _ _ _ (eU (dI DCP (hr.mono (by decide)) rfl (@aa _ _ _ _ _ (pv 1) (@aa _ _ _ _ _ (pv 2) ad rfl) rfl))) rfl) (@af _ _ _ _ _ aP (@af _ _ _ _ _ aP (@af _ _ _ _ _ aP (@ai _ _ _ aP))))),?_⟩
 refine ao (fun σ' H'=>False) (fun R hR=>?_) (fun _ _ z=>z.elim)
 exact ⟨_,rfl,_,rfl,wv,hv,rfl,⟨_,tw⟩,⟨_,th⟩,fun _=>e,fun g=>by rw [bad] at g; cases g⟩
theorem scchecktP:FnScope ["shop","wide","high","thing"] ["shop","wide","high","thing"] (defScope bo):=⟨rfl,rfl,rfl,by decide +kernel,rfl,by decide +kernel,by decide +kernel⟩
theorem le {f NP:Addr} {fd:FuncData} (F:Fun K "check_tree" "check_tree" bo f fd) (DI:DnX P w K mg base "is_tree" ["shop","wide","high","thing"] 3 (dm K NP)):FnOk P w K mg base (CXx P w) 4 f fd ["shop","wide","high","thing"] (dm K NP):=by
 refine F.okX scchecktP (fun vs H Q E h=>?_) (fun cdv A outer s H vs Q E hr h=>?_)
 ·obtain ⟨s,wv,hv,v,rfl,_⟩:=h
  rfl
 obtain ⟨s,wv,hv,v,rfl,⟨_,tw⟩,⟨_,th⟩,bad,e⟩:=h
 have nd:=scchecktP.nd
 refine ⟨_,(@ai _ _ _ (@aL _ _ _ _ _ _ _ _ (@aS _ _ _ _ (@aN _ _ _ (eU (dI DI (hr.mono (by decide)) rfl (@aa _ _ _ _ _ (pv 0) (@aa _ _ _ _ _ (pv 1) (@aa _ _ _ _ _ (pv 2) (@aa _ _ _ _ _ (pv 3) ad rfl) rfl) rfl) rfl))) (by intro _; rfl))) (@ai _ _ _ aP) av)),?_⟩
 exact ⟨_,rfl,_,rfl,_,rfl,_,rfl,s,wv,hv,v,rfl,⟨_,tw⟩,⟨_,th⟩,bad,e⟩
theorem scturnsP:FnScope ["shop","wide","high","tree","most","waiting","part_tree","way_ahead","turns","way"] ["shop","wide","high","tree"] (defScope bX):=⟨rfl,rfl,rfl,by decide +kernel,rfl,by decide +kernel,by decide +kernel⟩
theorem om {f NP:Addr} {fd:FuncData} (F:Fun K "turns_of" "turns_of" bX f fd) (DC:DnX P w K mg base "check_tree" ["shop","wide","high","thing"] 4 (dm K NP)):FnOk P w K mg base (CXx P w) 5 f fd ["shop","wide","high","tree"] (dm K NP):=by
 refine F.okX scturnsP (fun vs H Q E h=>?_) (fun cdv A outer s H vs Q E hr h=>?_)
 ·obtain ⟨s,wv,hv,v,rfl,_⟩:=h
  rfl
 obtain ⟨s,wv,hv,v,rfl,⟨_,tw⟩,⟨_,th⟩,bad,e⟩:=h
 have nd:=scturnsP.nd
 refine ⟨_,(@af _ _ _ _ _ (@aV _ _ _ _ (eU (dI DC (hr.mono (by decide)) rfl (@aa _ _ _ _ _ (pv 0) (@aa _ _ _ _ _ (pv 1) (@aa _ _ _ _ _ (pv 2) (@aa _ _ _ _ _ (pv 3) ad rfl) rfl) rfl) rfl))) rfl) (@af _ _ _ _ _ aP (@af _ _ _ _ _ aP (@af _ _ _ _ _ aP (@ai _ _ _ aP))))),?_⟩
 refine ao (fun σ' H'=>False) (fun R hR=>?_) (fun _ _ z=>z.elim)
 exact ⟨_,rfl,_,rfl,_,rfl,_,rfl,s,wv,hv,v,rfl,⟨_,tw⟩,⟨_,th⟩,bad,e⟩
end
def mW (la:Option Bool) (dn:Bool):Nat:=match la with
 | none=>0
 | some d=>if d=dn then 0 else 1
def tn:Tr→Option Bool→Nat→Nat
 | .cut dn _ l r,la,n=>max (tn l (some dn) (n + mW la dn)) (tn r (some dn) (n + mW la dn))
 | .rest,_,n=>n
 | .piece _ _ _ _,_,n=>n
theorem uf:∀ (t:Tr) (la:Option Bool) (n:Nat),n≤tn t la n
 | .rest,_,_=>Nat.le_refl _
 | .piece ..,_,_=>Nat.le_refl _
 | .cut dn _ l r,la,n=>by
  have:=uf l (some dn) (n + mW la dn)
  show n≤max _ _
  omega
structure Sk where
 t:Tr
 la:Option Bool
 n:Nat
def laV:Option Bool→V
 | none=>.non
 | some d=>wv d
def SkAt (p:Addr) (H0 H:Hp) (v:V) (k:Sk):Prop:=∃a u d,v=.ref a∧H a=some (.tup [u,laV k.la,.int (k.n:Nat)])∧Dt p H0 u d∧TrD k.t d
theorem SkAt.keep {p:Addr} {H0 H H':Hp} (k:∀a xs,H a=some (.tup xs)→H' a=some (.tup xs)) {v:V} {t:Sk} (h:SkAt p H0 H v t):SkAt p H0 H' v t:=by
 obtain ⟨a,u,d,e,h1,h2,h3⟩:=h
 exact ⟨a,u,d,e,k _ _ h1,h2,h3⟩
def ksz (ts:List Sk):Nat:=(ts.map fun k=>szT k.t).sum
theorem mX (a b:List Sk):ksz (a ++ b)=ksz a + ksz b:=by unfold ksz; rw [List.map_append,List.sum_append]
theorem mY:∀ts:List Sk,ts.length≤ksz ts
 | []=>Nat.le_refl _
 | t :: r=>by
  have:=mY r
  have:=ue t.t
  show r.length + 1≤szT t.t + ksz r
  omega
def fm:List Sk→Nat
 | []=>0
 | k :: r=>max (tn k.t k.la k.n) (fm r)
theorem gQ:∀a b:List Sk,fm (a ++ b)=max (fm a) (fm b)
 | [],b=>by show fm b=max 0 (fm b); omega
 | k :: r,b=>by
  show max _ (fm (r ++ b))=max (max _ (fm r)) (fm b)
  rw [gQ r b]
  omega
section
variable {P:Program} {w:World} {K:PySem.W.Frag} {mg:Str→Option Value} {base:Heap}
def gR (C:Addr):Sp:=fun vs H Q _=>∃ (pp s:Addr) (b w h:Int) (ks:List Kd) (v:V) (d:PyData),vs=[.ref s,.int w,.int h,v]∧ShopAt C H s b ks∧1≤w∧1≤h∧Dt pp H v d∧wt d≤30000∧isT b ks w h d=true∧∀H',Same H H'→Q .non H'
def fN (C NT:Addr):Sp:=fun vs H Q E=>∃ (pp s:Addr) (b w h:Int) (ks:List Kd) (v:V) (d:PyData),vs=[.ref s,.int w,.int h,v]∧ShopAt C H s b ks∧1≤w∧1≤h∧Dt pp H v d∧wt d≤30000∧isT b ks w h d=false∧∀H',Same H H'→E (.ref NT) none H'
def jh (C:Addr):Sp:=fun vs H Q _=>∃ (pp s:Addr) (b w h:Int) (ks:List Kd) (v:V) (d:PyData) (t:Tr),vs=[.ref s,.int w,.int h,v]∧ShopAt C H s b ks∧1≤w∧1≤h∧Dt pp H v d∧wt d≤30000∧TrD t d∧okT b ks w h t∧szT t≤10000∧∀H',Same H H'→Q (.int (tn t none 0:Nat)) H'
def gS (C NT:Addr):Sp:=fun vs H Q E=>∃ (pp s:Addr) (b w h:Int) (ks:List Kd) (v:V) (d:PyData),vs=[.ref s,.int w,.int h,v]∧ShopAt C H s b ks∧1≤w∧1≤h∧Dt pp H v d∧wt d≤30000∧isT b ks w h d=false∧∀H',Same H H'→E (.ref NT) none H'
theorem sccheckt:FnScope ["shop","wide","high","thing"] ["shop","wide","high","thing"] (defScope bo):=⟨rfl,rfl,rfl,by decide +kernel,rfl,by decide +kernel,by decide +kernel⟩
theorem oq {f C:Addr} {fd:FuncData} (F:Fun K "check_tree" "check_tree" bo f fd) (DI:Dn P w K mg base "is_tree" ["shop","wide","high","thing"] 6 (fg C)):FnOk P w K mg base CX0 7 f fd ["shop","wide","high","thing"] (gR C):=by
 refine F.ok sccheckt (fun vs H Q E h=>?_) (fun cdv A outer s H vs Q E hr h=>?_)
 ·obtain ⟨pp,s,b,w1,h1,ks,v,d,rfl,_⟩:=h
  rfl
 obtain ⟨pp,s,b,w1,h1,ks,v,d,rfl,SH,w0,h0,hd,dz,ht,q⟩:=h
 have nd:=sccheckt.nd
 refine ⟨_,(@ai _ _ _ (@aL _ _ _ _ _ _ _ _ (@aS _ _ _ _ (@aN _ _ _ (@ar _ _ _ _ _ _ _ _ _ _ DI hr rfl (@aa _ _ _ _ _ (pv 0) (@aa _ _ _ _ _ (pv 1) (@aa _ _ _ _ _ (pv 2) (@aa _ _ _ _ _ (pv 3) ad rfl) rfl) rfl) rfl) (by decide) rfl rfl) (by intro _; rfl))) (@ai _ _ _ aP) av)),?_⟩
 refine ⟨_,rfl,_,rfl,_,rfl,_,rfl,pp,s,b,w1,h1,ks,v,d,rfl,SH,w0,h0,hd,dz,fun H1 s1=>⟨_,rfl,?_⟩⟩
 rw [ht]
 exact aI (q _ s1)
theorem scchecktX:FnScope ["shop","wide","high","thing"] ["shop","wide","high","thing"] (defScope bo):=⟨rfl,rfl,rfl,by decide +kernel,rfl,by decide +kernel,by decide +kernel⟩
theorem lg {f C NT:Addr} {fd:FuncData} (F:Fun K "check_tree" "check_tree" bo f fd) (mT:mg "NoTree" = some (.ref NT)) (eT:ExcC K NT) (DI:Dn P w K mg base "is_tree" ["shop","wide","high","thing"] 6 (fg C)):FnOk P w K mg base (CXx P w) 7 f fd ["shop","wide","high","thing"] (fN C NT):=by
 refine F.okX scchecktX (fun vs H Q E h=>?_) (fun cdv A outer s H vs Q E hr h=>?_)
 ·obtain ⟨pp,s,b,w1,h1,ks,v,d,rfl,_⟩:=h
  rfl
 obtain ⟨pp,s,b,w1,h1,ks,v,d,rfl,SH,w0,h0,hd,dz,ht,q⟩:=h
 have nd:=scchecktX.nd
 refine ⟨_,(@ai _ _ _ (@aL _ _ _ _ _ _ _ _ (@aS _ _ _ _ (@aN _ _ _ (@ar _ _ _ _ _ _ _ _ _ _ DI hr rfl (@aa _ _ _ _ _ (pv 0) (@aa _ _ _ _ _ (pv 1) (@aa _ _ _ _ _ (pv 2) (@aa _ _ _ _ _ (pv 3) ad rfl) rfl) rfl) rfl) (by decide) rfl rfl) (by intro _; rfl))) (@ai _ _ _ (dG (R:=fun c H=>E c none H) rfl rfl mT eT (@aa _ _ _ _ _ aM ad rfl) cF)) av)),?_⟩
 refine ⟨_,rfl,_,rfl,_,rfl,_,rfl,pp,s,b,w1,h1,ks,v,d,rfl,SH,w0,h0,hd,dz,fun H1 s1=>⟨_,rfl,?_⟩⟩
 rw [ht]
 exact aT ⟨(by show 1≤sizeLine; decide),q _ s1⟩
theorem scturns:FnScope ["shop","wide","high","tree","most","waiting","part_tree","way_ahead","turns","way"] ["shop","wide","high","tree"] (defScope bX):=⟨rfl,rfl,rfl,by decide +kernel,rfl,by decide +kernel,by decide +kernel⟩
theorem qY {f C wa:Addr} {fd:FuncData} (F:Fun K "turns_of" "turns_of" bX f fd) (B:Blt mg) (Z:TrC K mg wa) (DC:Dn P w K mg base "check_tree" ["shop","wide","high","thing"] 7 (gR C)):FnOk P w K mg base CX0 8 f fd ["shop","wide","high","tree"] (jh C):=by
 refine F.ok scturns (fun vs H Q E h=>?_) (fun cdv A outer s H vs Q E hr h=>?_)
 ·obtain ⟨pp,s,b,w1,h1,ks,v,d,t,rfl,_⟩:=h
  rfl
 obtain ⟨pp,s,b,w1,h1,ks,v,d,t,rfl,SH,w0,h0,hd,dz,td,hok,tz,q⟩:=h
 have nd:=scturns.nd
 refine ⟨_,(@af _ _ _ _ _ (@aV _ _ _ _ (@ar _ _ _ _ _ _ _ _ _ _ DC hr rfl (@aa _ _ _ _ _ (pv 0) (@aa _ _ _ _ _ (pv 1) (@aa _ _ _ _ _ (pv 2) (@aa _ _ _ _ _ (pv 3) ad rfl) rfl) rfl) rfl) (by decide) rfl rfl) rfl) (@af _ _ _ _ _ (@aw _ _ 4 _ _ _ _ nd rfl (Or.inl rfl) ag rfl (Or.inl rfl)) (@af _ _ _ _ _ (@aw _ _ 5 _ _ _ _ nd rfl (Or.inl rfl) (@aH _ _ _ _ (@aa _ _ _ _ _ (@aq _ _ _ _ _ (@aa _ _ _ _ _ (pv 3) (@aa _ _ _ _ _ ef (@aa _ _ _ _ _ ag ad rfl) rfl) rfl)) ad rfl)) rfl (Or.inl rfl)) (@af _ _ _ _ _ (gp PassesOwn.never (gv (pv 5) (fun _=>rfl)) (@af _ _ _ _ _ (@br _ _ _ _ _ _ (kA PySem.F.plainAttrs_list PySem.F.slot_list_pop PySem.F.type_list_pop kC (pv 5)) (aZ rfl (aj (ak (i:=6) nd rfl (Or.inl rfl)) (aj (ak (i:=7) nd rfl (Or.inl rfl)) (aj (ak (i:=8) nd rfl (Or.inl rfl)) aQ)))) rfl rfl rfl) (@af _ _ _ _ _ (@aw _ _ 4 _ _ _ _ nd rfl (Or.inl rfl) (@aJ _ _ _ _ _ _ _ _ _ (fC rfl) rfl B.max PyProof.Rows.boot_max (@aa _ _ _ _ _ (pv 4) (@aa _ _ _ _ _ (pv 8) ad rfl) rfl) (by decide) (by decide) rfl rfl) rfl (Or.inl rfl)) (@af _ _ _ _ _ (@aw _ _ 9 _ _ _ _ nd rfl (Or.inl rfl) (@aD _ _ _ _ _ _ _ bS (pv 6) ag (fun _ _=>rfl)) rfl (Or.inl rfl)) (@ai _ _ _ (@aL _ _ _ _ _ _ _ _ (@ax _ _ _ _ _ _ _ _ im (pv 9) (aB (v:=.ref wa) rfl Z.wy rfl) rfl) (@af _ _ _ _ _ (@aL _ _ _ _ _ _ _ _ (PW.pt (iD (@ax _ _ _ _ _ _ _ _ mr (pv 7) ef (ay _)) (gc (@ax _ _ _ _ _ _ _ _ jn (pv 7) (pv 9) (ay _))))) (@ai _ _ _ (pe (i:=8) nd rfl (Or.inl rfl) ag pf)) av) (@ai _ _ _ (@aV _ _ _ _ (@dq _ _ _ _ _ _ _ _ _ _ _ _ PySem.F.plainAttrs_list PySem.F.slot_list_extend PySem.F.type_list_extend fG (pv 5) (@aa _ _ _ _ _ (@aH _ _ _ _ (@aa _ _ _ _ _ (@aq _ _ _ _ _ (@aa _ _ _ _ _ (@aD _ _ _ _ _ _ _ bS (pv 6) ag (fun _ _=>rfl)) (@aa _ _ _ _ _ (pv 9) (@aa _ _ _ _ _ (pv 8) ad rfl) rfl) rfl)) (@aa _ _ _ _ _ (@aq _ _ _ _ _ (@aa _ _ _ _ _ (@aD _ _ _ _ _ _ _ bS (pv 6) ag (fun _ _=>rfl)) (@aa _ _ _ _ _ (pv 9) (@aa _ _ _ _ _ (pv 8) ad rfl) rfl) rfl)) ad rfl) rfl)) ad rfl) rfl rfl rfl rfl rfl) rfl))) av)))))) (@ai _ _ _ (@au _ _ _ _ (pv 4))))))),?_⟩
 refine ao (fun σ' H'=>σ'=[some (.ref s),some (.int w1),some (.int h1),some v,none,none,none,none,none,none]∧Same H H') (fun R hR=>?_) ?_
 ·exact ⟨_,rfl,_,rfl,_,rfl,_,rfl,pp,s,b,w1,h1,ks,v,d,rfl,SH,w0,h0,hd,dz,TrD.good t d w1 h1 td hok,fun H1 s1=>hR _ _ ⟨rfl,s1⟩⟩
 rintro _ H0 ⟨rfl,s0⟩
 refine ao (fun σ' H'=>σ'=[some (.ref s),some (.int w1),some (.int h1),some v,some (.int 0),none,none,none,none,none]∧H0=H') (fun R hR=>hR _ _ ⟨rfl,rfl⟩) ?_
 rintro _ _ ⟨rfl,rfl⟩
 refine ao (fun σ' H'=>∃t' wl:Addr,σ'=[some (.ref s),some (.int w1),some (.int h1),some v,some (.int 0),some (.ref wl),none,none,none,none]∧H' t'=some (.tup [v,.non,.int 0])∧H' wl=some (.lst [.ref t'])∧H wl=none∧Same H H') (fun R hR=>?_) ?_
 ·refine ⟨_,rfl,(by show 3≤sizeLine; decide),fun t' ht'=>?_⟩
  obtain ⟨Ha,e1,k1,s1⟩:∃H',upd H0 t' (.tup [v,.non,.int 0])=H'∧H' t'=some (.tup [v,.non,.int 0])∧Same H0 H':=⟨_,rfl,ae,Same.new ht'⟩
  rw [show upd H0 t' _=Ha from e1]
  refine ⟨(by show 1≤sizeLine; decide),fun wl hwl=>?_⟩
  have fw:H wl=none:=(s0.trans s1).free hwl
  obtain ⟨Hb,e2,k2,s2⟩:∃H',upd Ha wl (.lst [.ref t'])=H'∧H' wl=some (.lst [.ref t'])∧Same Ha H':=⟨_,rfl,ae,Same.new hwl⟩
  rw [show upd Ha wl _=Hb from e2]
  exact hR _ _ ⟨t',wl,rfl,s2 _ _ k1,k2,fw,(s0.trans s1).trans s2⟩
 rintro _ Hb ⟨t',wl,rfl,kt',kb,fw,sab⟩
 refine ao (fun σ' H'=>∃v6 v7 v8 v9:Option V,σ'=[some (.ref s),some (.int w1),some (.int h1),some v,some (.int (tn t none 0:Nat)),some (.ref wl),v6,v7,v8,v9]∧Same H H') (fun R hR=>?_) ?_
 ·refine ⟨fun m σ' H'=>∃ (vs:List V) (ts:List Sk) (m0:Nat) (v6 v7 v8 v9:Option V),σ'=[some (.ref s),some (.int w1),some (.int h1),some v,some (.int (m0:Nat)),some (.ref wl),v6,v7,v8,v9]∧m=ksz ts∧H' wl=some (.lst vs)∧Paired (SkAt pp H H') vs ts∧ksz ts≤10000∧max m0 (fm ts)=tn t none 0∧Same H H',⟨_,[.ref t'],[⟨t,none,0⟩],0,none,none,none,none,rfl,rfl,kb,.cons ⟨t',v,d,rfl,kt',hd,td⟩ .nil,(by show szT t + 0≤10000; omega),(by show max 0 (max (tn t none 0) 0)=_; omega),sab⟩,?_⟩
  rintro m σ H1 ⟨vs,ts,m0,v6,v7,v8,v9,rfl,rfl,hw,pr,sz1,al,s1⟩
  refine ⟨_,rfl,_,.inl ⟨vs,SqL.of hw,rfl⟩,?_⟩
  rcases List.eq_nil_or_concat vs with rfl | ⟨vs',v0,rfl⟩
  ·have ets:ts=[]:=by
    have:=Paired.length pr
    cases ts with
    | nil=>rfl
    | cons _ _=>simp at this
   subst ets
   have al:max m0 0=tn t none 0:=al
   have em:m0=tn t none 0:=by omega
   subst em
   exact aI (hR _ _ ⟨v6,v7,v8,v9,rfl,s1⟩)
  rw [List.concat_eq_append] at pr hw ⊢
  obtain ⟨ts',t0,rfl,prp,⟨sp,u,du,rfl,hsp,hdu,tdu⟩⟩:=qH pr
  rw [show (!(vs' ++ [V.ref sp]).isEmpty)=true by cases vs' <;> rfl]
  have ssz:ksz (ts' ++ [t0])=ksz ts' + szT t0.t:=by rw [mX]; show _ + (szT t0.t + 0)=_; omega
  rw [ssz] at sz1 ⊢
  have al2:max m0 (max (fm ts') (tn t0.t t0.la t0.n))=tn t none 0:=by
   rw [← al,gQ]
   show _=max m0 (max (fm ts') (max (tn t0.t t0.la t0.n) 0))
   omega
  refine aT ⟨fun σ' H'=>∃ (vs:List V) (ts:List Sk) (m0:Nat) (v6 v7 v8 v9:Option V),σ'=[some (.ref s),some (.int w1),some (.int h1),some v,some (.int (m0:Nat)),some (.ref wl),v6,v7,v8,v9]∧ksz ts < ksz ts' + szT t0.t∧H' wl=some (.lst vs)∧Paired (SkAt pp H H') vs ts∧ksz ts≤10000∧max m0 (fm ts)=tn t none 0∧Same H H',fun σ' H' ⟨vs,ts,m0,v6,v7,v8,v9,e,l,r⟩=>⟨_,l,vs,ts,m0,v6,v7,v8,v9,e,rfl,r⟩,?_⟩
  have ml:(vs' ++ [V.ref sp]).length=vs'.length + 1:=by rw [List.length_append]; rfl
  have keep:∀ {Hx:Hp} {o:HO},Same H Hx→Same H (upd Hx wl o):=fun {Hx o} sx c oo e=>by
   rw [am (fun z=>by rw [z,fw] at e; cases e)]
   exact sx _ _ e
  have go:∀ (y:Str) (ys:List PyData),bj du=some (.str y :: ys)→∃a xs,u=.ref a∧(H a=some (.lst (.str y :: xs))∨H a=some (.tup (.str y :: xs)))∧Dts pp H xs ys:=fun y ys er=>by
   obtain ⟨a,xs,e,hx,dxs⟩:=hdu.ref_row er
   cases dxs with
   | cons hd0 dxs =>
    cases hd0
    exact ⟨a,_,e,hx,dxs⟩
  refine ao (fun σ' H'=>σ'=[some (.ref s),some (.int w1),some (.int h1),some v,some (.int (m0:Nat)),some (.ref wl),some u,some (laV t0.la),some (.int (t0.n:Nat)),v9]∧H' wl=some (.lst vs')∧Paired (SkAt pp H H') vs' ts'∧Same H H') (fun R hR=>?_) ?_
  ·refine ⟨_,rfl,.inl ⟨rfl,_,SqL.of hw⟩,wl,_,.ref sp,rfl,rfl,hw,(by rw [ml]; simp),?_⟩
   rw [List.dropLast_concat]
   have kt:∀ {c:Addr} {xs:List V},H1 c=some (.tup xs)→(upd H1 wl (.lst vs')) c=some (.tup xs):=fun {c xs} e=>by
    rw [am (fun z=>by rw [z,hw] at e; cases e)]; exact e
   exact ⟨sp,_,rfl,SqT.of (kt hsp),rfl,_,_,rfl,_,_,rfl,_,_,rfl,rfl,hR _ _ ⟨rfl,ae,Paired.mapP prp fun v t h=>h.keep fun a xs e=>kt e,keep s1⟩⟩
  rintro _ H2 ⟨rfl,hw2,pr2,s02⟩
  clear prp hsp hw pr
  obtain ⟨m1,hm1⟩:∃m1:Nat,m1=max m0 t0.n:=⟨_,rfl⟩
  refine ao (fun σ' H'=>σ'=[some (.ref s),some (.int w1),some (.int h1),some v,some (.int (m1:Nat)),some (.ref wl),some u,some (laV t0.la),some (.int (t0.n:Nat)),v9]∧H2=H') (fun R hR=>?_) ?_
  ·refine ⟨_,rfl,_,rfl,_,_,rfl,hR _ _ ⟨?_,rfl⟩⟩
   have em:(m1:Int)=(if (t0.n:Int) > (m0:Int) then (t0.n:Int) else m0):=by split <;> omega
   rw [em]
   rfl
  rintro _ _ ⟨rfl,rfl⟩
  have pl:=Paired.length pr2
  have sl:=mY ts'
  have big:30000≤sizeLine:=by decide
  have tg:=uf t0.t t0.la t0.n
  obtain ⟨tt,et⟩:∃tt,t0.t=tt:=⟨_,rfl⟩
  have zpos:=ue t0.t
  cases tt with
  | cut dn p l r =>
   rw [et] at tdu
   obtain ⟨dl,dr,er,tl,tr⟩:=tdu
   obtain ⟨a,xs,eu,hx,dxs⟩:=go _ _ er
   cases dxs with
   | @cons x1 _ xs1 _ hd1 dxs =>
   cases dxs with
   | @cons lv _ xs2 _ hdl dxs =>
   cases dxs with
   | @cons rv _ xs3 _ hdr dxs =>
   cases dxs
   cases hd1
   subst eu
   refine ao (fun σ' H'=>σ'=[some (.ref s),some (.int w1),some (.int h1),some v,some (.int (m1:Nat)),some (.ref wl),some (.ref a),some (laV t0.la),some (.int (t0.n:Nat)),some (wv dn)]∧H2=H') (fun R hR=>?_) ?_
   ·refine ⟨_,rfl,?_⟩
    show rIx K (.ref a) (.int 0) H2 _
    exact ixR s02 hx (bh (Int.le_refl _) rfl) (hR _ _ ⟨rfl,rfl⟩)
   rintro _ _ ⟨rfl,rfl⟩
   refine ⟨_,rfl,wa,_,rfl,.inr (Z.wq _),rfl,rfl,_,rfl,?_⟩
   show (if (inV (wv dn) [V.str "down",V.str "across"])=true then _ else _)
   rw [show inV (wv dn) [V.str "down",V.str "across"]=true by cases dn <;> decide +kernel]
   refine aT ?_
   obtain ⟨n1,hn1⟩:∃n1:Nat,n1=t0.n + mW t0.la dn:=⟨_,rfl⟩
   refine ao (fun σ' H'=>σ'=[some (.ref s),some (.int w1),some (.int h1),some v,some (.int (m1:Nat)),some (.ref wl),some (.ref a),some (laV t0.la),some (.int (n1:Nat)),some (wv dn)]∧H2=H') (fun R hR=>?_) ?_
   ·obtain ⟨la,ela⟩:∃la,t0.la=la:=⟨_,rfl⟩
    rw [ela] at hn1 ⊢
    refine ⟨_,rfl,rfl,_,rfl,?_⟩
    cases la with
    | none =>
     have:n1=t0.n:=hn1
     subst this
     exact aI (aI (hR _ _ ⟨by rw [ela],rfl⟩))
    | some d0 =>
     refine aT ⟨_,rfl,_,rfl,rfl,_,rfl,?_⟩
     have ek:(!decide (wv d0=wv dn))=!decide (d0=dn):=by cases d0 <;> cases dn <;> decide +kernel
     show (if (!decide (wv d0=wv dn))=true then _ else _)
     rw [ek]
     have hn1:n1=t0.n + (if d0=dn then 0 else 1):=hn1
     by_cases e:d0=dn
     ·rw [if_pos e] at hn1
      have:n1=t0.n:=hn1
      subst this
      rw [decide_eq_true e]
      exact aI (hR _ _ ⟨by rw [ela],rfl⟩)
     ·rw [if_neg e] at hn1
      rw [decide_eq_false e]
      exact aT ⟨_,rfl,_,_,rfl,rfl,hR _ _ ⟨by rw [ela,hn1]; rfl,rfl⟩⟩
   rintro _ _ ⟨rfl,rfl⟩
   refine ⟨_,rfl,.inl ⟨rfl,_,SqL.of hw2⟩,_,rfl,?_⟩
   refine ixR s02 hx (bh (i:=2) (by decide) rfl) ?_
   refine ⟨_,rfl,_,rfl,(by show 3≤sizeLine; decide),fun t1 ht1=>?_⟩
   obtain ⟨H3,e3,k3,s3⟩:∃H',upd H2 t1 (.tup [lv,wv dn,.int (n1:Nat)])=H'∧H' t1=some (.tup [lv,wv dn,.int (n1:Nat)])∧Same H2 H':=⟨_,rfl,ae,Same.new ht1⟩
   rw [show upd H2 t1 _=H3 from e3]
   have s03:=s02.trans s3
   refine ⟨_,rfl,?_⟩
   refine ixR s03 hx (bh (i:=3) (by decide) rfl) ?_
   refine ⟨_,rfl,_,rfl,(by show 3≤sizeLine; decide),fun t2 ht2=>?_⟩
   obtain ⟨H4,e4,k4,s4⟩:∃H',upd H3 t2 (.tup [rv,wv dn,.int (n1:Nat)])=H'∧H' t2=some (.tup [rv,wv dn,.int (n1:Nat)])∧Same H3 H':=⟨_,rfl,ae,Same.new ht2⟩
   rw [show upd H3 t2 _=H4 from e4]
   refine ⟨(by show 2≤sizeLine; decide),fun lu hlu=>?_⟩
   obtain ⟨H5,e5,k5,s5⟩:∃H',upd H4 lu (.lst [.ref t1,.ref t2])=H'∧H' lu=some (.lst [.ref t1,.ref t2])∧Same H4 H':=⟨_,rfl,ae,Same.new hlu⟩
   rw [show upd H4 lu _=H5 from e5]
   have s25:=s3.trans (s4.trans s5)
   have hw5:=s25 _ _ hw2
   refine ⟨wl,lu,_,_,rfl,rfl,hw5,k5,(by show _ + 2≤_; omega),?_⟩
   have kt:∀ {c:Addr} {xs:List V},H5 c=some (.tup xs)→(upd H5 wl (.lst (vs' ++ [.ref t1,.ref t2]))) c=some (.tup xs):=fun {c xs} e=>by
    rw [am (fun z=>by rw [z,hw5] at e; cases e)]; exact e
   have e2:ksz (ts' ++ [⟨l,some dn,n1⟩,⟨r,some dn,n1⟩])=ksz ts' + (szT l + szT r):=by
    rw [mX]
    show _ + (szT l + (szT r + 0))=_
    omega
   have sz0:szT t0.t=szT l + szT r + 1:=by rw [et]; rfl
   refine ⟨_,ts' ++ [⟨l,some dn,n1⟩,⟨r,some dn,n1⟩],m1,_,_,_,_,rfl,by rw [e2]; omega,ae,sG (Paired.mapP pr2 fun v t h=>h.keep fun a xs e=>kt (s25 _ _ e)) (.cons (show SkAt pp H _ (.ref t1) ⟨l,some dn,n1⟩ from ⟨t1,lv,dl,rfl,kt (s5 _ _ (s4 _ _ k3)),hdl,tl⟩) (.cons (show SkAt pp H _ (.ref t2) ⟨r,some dn,n1⟩ from ⟨t2,rv,dr,rfl,kt (s5 _ _ k4),hdr,tr⟩) .nil)),by rw [e2]; omega,?_,keep (s02.trans s25)⟩
   rw [gQ]
   show max m1 (max (fm ts') (max (tn l (some dn) n1) (max (tn r (some dn) n1) 0)))=_
   have etn:tn t0.t t0.la t0.n=max (tn l (some dn) n1) (tn r (some dn) n1):=by rw [et,hn1]; rfl
   rw [etn] at al2 tg
   omega
  | rest =>
   rw [et] at tdu
   obtain ⟨a,xs,eu,hx,dxs⟩:=go _ _ tdu
   subst eu
   refine ao (fun σ' H'=>σ'=[some (.ref s), some (.int w1), some (.int h1), some v, some (.int (m1:Nat)), some (.ref wl), some (.ref a), some (laV t0.la), some (.int (t0.n:Nat)), some (.str "rest")]∧H2=H') (fun R hR=>?_) ?_
   ·refine ⟨_,rfl,?_⟩
    show rIx K (.ref a) (.int 0) H2 _
    exact ixR s02 hx (bh (Int.le_refl _) rfl) (hR _ _ ⟨rfl,rfl⟩)
   rintro _ _ ⟨rfl,rfl⟩
   refine ⟨_,rfl,wa,_,rfl,.inr (Z.wq _),rfl,rfl,_,rfl,?_⟩
   show (if (inV (V.str "rest") [V.str "down",V.str "across"])=true then _ else _)
   rw [show inV (V.str "rest") [V.str "down",V.str "across"]=false by decide +kernel]
   have etn:tn t0.t t0.la t0.n=t0.n:=by rw [et]; rfl
   exact aI ⟨vs',ts',m1,_,_,_,_,rfl,by omega,hw2,pr2,by omega,by omega,s02⟩
  | piece i c x y =>
   rw [et] at tdu
   obtain ⟨a,xs,eu,hx,dxs⟩:=go _ _ tdu
   subst eu
   refine ao (fun σ' H'=>σ'=[some (.ref s), some (.int w1), some (.int h1), some v, some (.int (m1:Nat)), some (.ref wl), some (.ref a), some (laV t0.la), some (.int (t0.n:Nat)), some (.str "piece")]∧H2=H') (fun R hR=>?_) ?_
   ·refine ⟨_,rfl,?_⟩
    show rIx K (.ref a) (.int 0) H2 _
    exact ixR s02 hx (bh (Int.le_refl _) rfl) (hR _ _ ⟨rfl,rfl⟩)
   rintro _ _ ⟨rfl,rfl⟩
   refine ⟨_,rfl,wa,_,rfl,.inr (Z.wq _),rfl,rfl,_,rfl,?_⟩
   show (if (inV (V.str "piece") [V.str "down",V.str "across"])=true then _ else _)
   rw [show inV (V.str "piece") [V.str "down",V.str "across"]=false by decide +kernel]
   have etn:tn t0.t t0.la t0.n=t0.n:=by rw [et]; rfl
   exact aI ⟨vs',ts',m1,_,_,_,_,rfl,by omega,hw2,pr2,by omega,by omega,s02⟩
 rintro _ H1 ⟨v6,v7,v8,v9,rfl,s1⟩
 exact ⟨_,rfl,q H1 s1⟩
theorem scturnsX:FnScope ["shop","wide","high","tree","most","waiting","part_tree","way_ahead","turns","way"] ["shop","wide","high","tree"] (defScope bX):=⟨rfl,rfl,rfl,by decide +kernel,rfl,by decide +kernel,by decide +kernel⟩
theorem ot {f C NT wa:Addr} {fd:FuncData} (F:Fun K "turns_of" "turns_of" bX f fd) (B:Blt mg) (Z:TrC K mg wa) (DC:DnX P w K mg base "check_tree" ["shop","wide","high","thing"] 7 (fN C NT)):FnOk P w K mg base (CXx P w) 8 f fd ["shop","wide","high","tree"] (gS C NT):=by
 refine F.okX scturnsX (fun vs H Q E h=>?_) (fun cdv A outer s H vs Q E hr h=>?_)
 ·obtain ⟨pp,s,b,w1,h1,ks,v,d,rfl,_⟩:=h
  rfl
 obtain ⟨pp,s,b,w1,h1,ks,v,d,rfl,SH,w0,h0,hd,dz,ht,q⟩:=h
 have nd:=scturnsX.nd
 refine ⟨_,(@af _ _ _ _ _ (qk (dI DC hr rfl (@aa _ _ _ _ _ (pv 0) (@aa _ _ _ _ _ (pv 1) (@aa _ _ _ _ _ (pv 2) (@aa _ _ _ _ _ (pv 3) ad rfl) rfl) rfl) rfl))) (@af _ _ _ _ _ (@aw _ _ 4 _ _ _ _ nd rfl (Or.inl rfl) ag rfl (Or.inl rfl)) (@af _ _ _ _ _ (@aw _ _ 5 _ _ _ _ nd rfl (Or.inl rfl) (@aH _ _ _ _ (@aa _ _ _ _ _ (@aq _ _ _ _ _ (@aa _ _ _ _ _ (pv 3) (@aa _ _ _ _ _ ef (@aa _ _ _ _ _ ag ad rfl) rfl) rfl)) ad rfl)) rfl (Or.inl rfl)) (@af _ _ _ _ _ (gp PassesOwn.leaving (gv (pv 5) (fun _=>rfl)) (@af _ _ _ _ _ (@br _ _ _ _ _ _ (kA PySem.F.plainAttrs_list PySem.F.slot_list_pop PySem.F.type_list_pop kC (pv 5)) (aZ rfl (aj (ak (i:=6) nd rfl (Or.inl rfl)) (aj (ak (i:=7) nd rfl (Or.inl rfl)) (aj (ak (i:=8) nd rfl (Or.inl rfl)) aQ)))) rfl rfl rfl) (@af _ _ _ _ _ (@aw _ _ 4 _ _ _ _ nd rfl (Or.inl rfl) (@aJ _ _ _ _ _ _ _ _ _ (fC rfl) rfl B.max PyProof.Rows.boot_max (@aa _ _ _ _ _ (pv 4) (@aa _ _ _ _ _ (pv 8) ad rfl) rfl) (by decide) (by decide) rfl rfl) rfl (Or.inl rfl)) (@af _ _ _ _ _ (@aw _ _ 9 _ _ _ _ nd rfl (Or.inl rfl) (@aD _ _ _ _ _ _ _ bS (pv 6) ag (fun _ _=>rfl)) rfl (Or.inl rfl)) (@ai _ _ _ (@aL _ _ _ _ _ _ _ _ (@ax _ _ _ _ _ _ _ _ im (pv 9) (aB (v:=.ref wa) rfl Z.wy rfl) rfl) (@af _ _ _ _ _ (@aL _ _ _ _ _ _ _ _ (PW.pt (iD (@ax _ _ _ _ _ _ _ _ mr (pv 7) ef (ay _)) (gc (@ax _ _ _ _ _ _ _ _ jn (pv 7) (pv 9) (ay _))))) (@ai _ _ _ (pe (i:=8) nd rfl (Or.inl rfl) ag pf)) av) (@ai _ _ _ (@aV _ _ _ _ (@dq _ _ _ _ _ _ _ _ _ _ _ _ PySem.F.plainAttrs_list PySem.F.slot_list_extend PySem.F.type_list_extend fG (pv 5) (@aa _ _ _ _ _ (@aH _ _ _ _ (@aa _ _ _ _ _ (@aq _ _ _ _ _ (@aa _ _ _ _ _ (@aD _ _ _ _ _ _ _ bS (pv 6) ag (fun _ _=>rfl)) (@aa _ _ _ _ _ (pv 9) (@aa _ _ _ _ _ (pv 8) ad rfl) rfl) rfl)) (@aa _ _ _ _ _ (@aq _ _ _ _ _ (@aa _ _ _ _ _ (@aD _ _ _ _ _ _ _ bS (pv 6) ag (fun _ _=>rfl)) (@aa _ _ _ _ _ (pv 9) (@aa _ _ _ _ _ (pv 8) ad rfl) rfl) rfl)) ad rfl) rfl)) ad rfl) rfl rfl rfl rfl rfl) rfl))) av)))))) (@ai _ _ _ (@au _ _ _ _ (pv 4))))))),?_⟩
 refine ao (fun σ' H'=>False) (fun R hR=>?_) ?_
 ·exact ⟨_,rfl,_,rfl,_,rfl,_,rfl,pp,s,b,w1,h1,ks,v,d,rfl,SH,w0,h0,hd,dz,ht,fun H1 s1=>q H1 s1⟩
 ·intro _ _ z
  exact z.elim
end
section
variable {P:Program} {w:World} {K:PySem.W.Frag} {mg:Str→Option Value} {base:Heap}
def cY:Sp:=fun vs H Q _=>∃ (p:Addr) (m:Int),vs=[.ref p,.int m]∧PotB H p∧0 < m∧m≤10 ^ 60∧∀ (r:Int) (H':Hp),0≤r→r < m→PotB H' p→But p H H'→Q (.int r) H'
def Ea:Sp:=fun vs H Q _=>∃ (p:Addr),vs=[.ref p]∧PotB H p∧∀ (r:Int) (H':Hp),1≤r→r < 10 ^ 60→PotB H' p→But p H H'→Q (.int r) H'
theorem scpot:FnScope ["_law_cell"] ["_law_cell"] (defScope qv):=⟨rfl,rfl,rfl,by decide +kernel,rfl,by decide +kernel,by decide +kernel⟩
theorem uX {f:Addr} {fd:FuncData} (F:Fun K "_law_pot" "_law_pot" qv f fd) (B:Blt mg):FnOk P w K mg base CX0 1 f fd ["_law_cell"] (kM):=by
 refine F.ok scpot (fun vs H Q E h=>?_) (fun cdv A outer s H vs Q E hr h=>?_)
 ·obtain ⟨c,rfl,_⟩:=h
  rfl
 obtain ⟨c,rfl,q⟩:=h
 have nd:=scpot.nd
 refine ⟨_,(@ai _ _ _ (@au _ _ _ _ (@aH _ _ _ _ (@aa _ _ _ _ _ (@aJ _ _ _ _ _ _ _ _ _ (fC rfl) rfl B.max PyProof.Rows.boot_max (@aa _ _ _ _ _ ag (@aa _ _ _ _ _ (@az _ _ _ _ _ _ _ _ bQ (pv 0) (@az _ _ _ _ _ _ _ _ fA ag ag)) ad rfl) rfl) (by decide) (by decide) rfl rfl) (@aa _ _ _ _ _ (@az _ _ _ _ _ _ _ _ aW (@az _ _ _ _ _ _ _ _ fz (@aJ _ _ _ _ _ _ _ _ _ pF rfl B.abs PyProof.Rows.boot_abs (@aa _ _ _ _ _ (pv 0) ad rfl) (by decide) (by decide) rfl rfl) ag) ag) ad rfl) rfl)))),?_⟩
 refine ⟨_,rfl,_,_,rfl,rfl,⟨by decide,by decide,by decide⟩,_,_,rfl,rfl,_,_,rfl,_,rfl,_,rfl,_,_,rfl,rfl,(by show (0:Int) < 2147483629; decide),_,_,rfl,rfl,(by show 2≤sizeLine; decide),fun p hp=>?_⟩
 refine q p _ hp ⟨_,_,?_,?_,?_,ae⟩ (Same.new hp)
 ·split <;> omega
 ·have:=Int.emod_nonneg (if c < 0 then -c else c) (show (2147483629:Int)≠0 by decide)
  omega
 ·have:=Int.emod_lt_of_pos (if c < 0 then -c else c) (show (0:Int) < 2147483629 by decide)
  omega
theorem scdraw:FnScope ["_law_pot_here","_law_many","_law_number"] ["_law_pot_here","_law_many"] (defScope jF):=⟨rfl,rfl,rfl,by decide +kernel,rfl,by decide +kernel,by decide +kernel⟩
theorem sR {f:Addr} {fd:FuncData} (F:Fun K "_law_draw" "_law_draw" jF f fd) (B:Blt mg):FnOk P w K mg base CX0 1 f fd ["_law_pot_here","_law_many"] (dh):=by
 refine F.ok scdraw (fun vs H Q E h=>?_) (fun cdv A outer s H vs Q E hr h=>?_)
 ·obtain ⟨p,m,rfl,_⟩:=h
  rfl
 obtain ⟨p,m,rfl,⟨a,b,a0,b0,b1,hp⟩,m0,m1,q⟩:=h
 have nd:=scdraw.nd
 refine ⟨_,(@af _ _ _ _ _ (@aL _ _ _ _ _ _ _ _ (@ax _ _ _ _ _ _ _ _ cQ (@aD _ _ _ _ _ _ _ ix_list (pv 0) ag (fun _ _=>rfl)) ag (ay _)) (@af _ _ _ _ _ (@aw _ _ 2 _ _ _ _ nd rfl (Or.inl rfl) (@az _ _ _ _ _ _ _ _ fz (@aD _ _ _ _ _ _ _ ix_list (pv 0) ag (fun _ _=>rfl)) (pv 1)) rfl (Or.inl rfl)) (@af _ _ _ _ _ (@br _ _ _ _ _ _ (@az _ _ _ _ _ _ _ _ jt (@aD _ _ _ _ _ _ _ ix_list (pv 0) ag (fun _ _=>rfl)) (pv 1)) (oZ (pv 0) ag jr) rfl rfl rfl) (@ai _ _ _ (@au _ _ _ _ (pv 2))))) av) (@af _ _ _ _ _ (@br _ _ _ _ _ _ (@az _ _ _ _ _ _ _ _ fz (@az _ _ _ _ _ _ _ _ jX (@aD _ _ _ _ _ _ _ ix_list (pv 0) ag (fun _ _=>rfl)) ag) ag) (oZ (pv 0) ag jr) rfl rfl rfl) (@ai _ _ _ (@au _ _ _ _ (@az _ _ _ _ _ _ _ _ fz (@az _ _ _ _ _ _ _ _ jt (@az _ _ _ _ _ _ _ _ fz (@az _ _ _ _ _ _ _ _ jX (@aD _ _ _ _ _ _ _ ix_list (pv 0) ag (fun _ _=>rfl)) (@aD _ _ _ _ _ _ _ ix_list (pv 0) ag (fun _ _=>rfl))) ag) ag) (pv 1)))))),?_⟩
 have at0:atI [V.int a,V.int b] 0=some (.int a):=rfl
 have at1:atI [V.int a,V.int b] 1=some (.int b):=rfl
 refine ⟨_,rfl,p,_,_,_,rfl,rfl,SqL.of hp,at0,_,_,rfl,rfl,_,rfl,?_⟩
 refine cR (fun c=>?_) (fun c=>?_)
 ·have c':0 < a:=of_decide_eq_true c
  refine ⟨_,rfl,p,_,_,_,rfl,rfl,SqL.of hp,at0,_,rfl,_,_,rfl,rfl,m0,?_⟩
  refine ⟨_,rfl,p,_,_,_,rfl,rfl,SqL.of hp,at0,_,rfl,_,_,rfl,rfl,⟨m0,m1⟩,_,rfl,p,_,_,_,rfl,rfl,hp,rfl,?_⟩
  refine ⟨_,rfl,q _ _ (Int.emod_nonneg _ (by omega)) (Int.emod_lt_of_pos _ m0) ⟨a / m,b,Int.ediv_nonneg a0 (by omega),b0,b1,ae⟩ But.upd⟩
 ·refine ⟨_,rfl,p,_,_,_,rfl,rfl,SqL.of hp,at1,_,_,rfl,rfl,.inr ⟨by decide,by decide⟩,_,_,rfl,rfl,(by show (0:Int) < 2147483647; decide),_,rfl,p,_,_,_,rfl,rfl,hp,rfl,?_⟩
  have n0:0≤(b * 48271) % 2147483647:=Int.emod_nonneg _ (by decide)
  have n1:(b * 48271) % 2147483647 < 2147483647:=Int.emod_lt_of_pos _ (by decide)
  refine ⟨_,rfl,p,_,_,_,rfl,rfl,SqL.of ae,rfl,_,rfl,p,_,_,_,rfl,rfl,SqL.of ae,rfl,_,_,rfl,rfl,.inl ⟨by omega,by omega⟩,_,_,rfl,rfl,(by show (0:Int) < 2147483629; decide),_,_,rfl,rfl,⟨by decide,by decide⟩,_,rfl,_,_,rfl,rfl,m0,?_⟩
  exact q _ _ (Int.emod_nonneg _ (by omega)) (Int.emod_lt_of_pos _ m0) ⟨a,_,a0,n0,by omega,ae⟩ But.upd
theorem scgreatm:FnScope ["_law_pot_here","_law_many","_law_found","_law_k"] ["_law_pot_here","_law_many"] (defScope gL):=⟨rfl,rfl,rfl,by decide +kernel,rfl,by decide +kernel,by decide +kernel⟩
theorem ou {f:Addr} {fd:FuncData} (F:Fun K "_law_great" "_law_great" gL f fd) (B:Blt mg) (DD:Dn P w K mg base "_law_draw" ["_law_pot_here","_law_many"] 1 (dh)):FnOk P w K mg base CX0 2 f fd ["_law_pot_here","_law_many"] (cY):=by
 refine F.ok scgreatm (fun vs H Q E h=>?_) (fun cdv A outer s H vs Q E hr h=>?_)
 ·obtain ⟨p,m,rfl,_⟩:=h
  rfl
 obtain ⟨p,m,rfl,pt,m0,m1,q⟩:=h
 have nd:=scgreatm.nd
 refine ⟨_,(@af _ _ _ _ _ (@aL _ _ _ _ _ _ _ _ (@ax _ _ _ _ _ _ _ _ cQ (@aD _ _ _ _ _ _ _ ix_list (pv 0) ag (fun _ _=>rfl)) ag (ay _)) (@ai _ _ _ (@au _ _ _ _ (@ar _ _ _ _ _ _ _ _ _ _ DD hr rfl (@aa _ _ _ _ _ (pv 0) (@aa _ _ _ _ _ (pv 1) ad rfl) rfl) (by decide) rfl rfl))) av) (@af _ _ _ _ _ (@aw _ _ 2 _ _ _ _ nd rfl (Or.inl rfl) ag rfl (Or.inl rfl)) (@af _ _ _ _ _ (@ce _ _ _ _ _ _ _ _ PassesOwn.never rfl (fu rfl B.range (@aa _ _ _ _ _ ag ad rfl)) (ak (i:=3) nd rfl (Or.inl rfl)) (@ai _ _ _ (@aw _ _ 2 _ _ _ _ nd rfl (Or.inl rfl) (@az _ _ _ _ _ _ _ _ aW (@az _ _ _ _ _ _ _ _ jX (pv 2) ag) (@ar _ _ _ _ _ _ _ _ _ _ DD hr rfl (@aa _ _ _ _ _ (pv 0) (@aa _ _ _ _ _ ag ad rfl) rfl) (by decide) rfl rfl)) rfl (Or.inl rfl))) (by intro _; rfl)) (@ai _ _ _ (@au _ _ _ _ (@az _ _ _ _ _ _ _ _ fz (pv 2) (pv 1))))))),?_⟩
 obtain ⟨a,b,a0,b0,b1,hp⟩:=id pt
 have at0:atI [V.int a,V.int b] 0=some (.int a):=rfl
 refine ao (fun σ' H'=>σ'=[some (.ref p),some (.int m),none,none]∧H=H') (fun R hR=>?_) ?_
 ·refine ⟨_,rfl,p,_,_,_,rfl,rfl,SqL.of hp,at0,_,_,rfl,rfl,_,rfl,?_⟩
  refine cR (fun c=>?_) (fun c=>?_)
  ·exact ⟨_,rfl,_,rfl,p,m,rfl,pt,m0,m1,fun r H1 r0 r1 pt1 b1'=>q r H1 r0 r1 pt1 b1'⟩
  ·exact hR _ _ ⟨rfl,rfl⟩
 rintro _ _ ⟨rfl,rfl⟩
 refine ao (fun σ' H'=>σ'=[some (.ref p),some (.int m),some (.int 0),none]∧H=H') (fun R hR=>hR _ _ ⟨rfl,rfl⟩) ?_
 rintro _ _ ⟨rfl,rfl⟩
 refine ao (fun σ' H'=>∃ (f:Int) (v3:Option V),σ'=[some (.ref p),some (.int m),some (.int f),v3]∧PotB H' p∧But p H H') (fun R hR=>?_) ?_
 ·refine ⟨_,rfl,by decide,by decide,ic (lo:=0) (n:=7) (fun i σ' H'=>∃ (f:Int) (v3:Option V),σ'=[some (.ref p),some (.int m),some (.int f),v3]∧PotB H' p∧But p H H') ⟨0,none,rfl,pt,fun _ _ _ e=>e⟩ ?_ (fun σ H1 ⟨f,v3,e,pt1,b1⟩=>hR _ _ ⟨f,v3,e,pt1,b1⟩)⟩
  rintro i σ H1 hi ⟨f,v3,rfl,pt1,b1⟩
  exact ⟨_,rfl,_,_,rfl,rfl,.inr ⟨by decide,by decide⟩,_,rfl,p,_,rfl,pt1,by decide,by decide,fun r H2 r0 r1 pt2 b2=>⟨_,_,rfl,rfl,_,_,rfl,pt2,b1.trans b2⟩⟩
 rintro _ H1 ⟨f,v3,rfl,pt1,b1⟩
 exact ⟨_,rfl,_,rfl,_,_,rfl,rfl,m0,q _ _ (Int.emod_nonneg _ (by omega)) (Int.emod_lt_of_pos _ m0) pt1 b1⟩
def fO (n:Int):List V:=[.bl true,.bl (decide (V.int 0=V.int n)),.bl (decide (V.int 1=V.int n)),.bl (decide (V.int 2=V.int n)),.bl (decide (V.int 3=V.int n)),.bl false,.bl false]
def lh:Sp:=fun vs H Q _=>∃ (n:Int),vs=[.int n]∧∀ (l:Addr) (H':Hp),H l=none→H' l=some (.lst (fO n))→Same H H'→Q (.ref l) H'
def Thg (p:Addr) (H:Hp) (x:V):Prop:=dX x=true∨∃a,x=.ref a∧a≠p∧((∃xs,H a=some (.lst xs))∨(∃xs,H a=some (.tup xs))∨∃kvs,H a=some (.dK kvs))
theorem Thg.but {p:Addr} {H H':Hp} {x:V} (h:Thg p H x) (b:But p H H'):Thg p H' x:=by
 rcases h with h | ⟨a,e,n,h⟩
 ·exact .inl h
 ·exact .inr ⟨a,e,n,h.imp (fun ⟨xs,h⟩=>⟨xs,b _ _ n h⟩) fun h=>h.imp (fun ⟨xs,h⟩=>⟨xs,b _ _ n h⟩) fun ⟨xs,h⟩=>⟨xs,b _ _ n h⟩⟩
def gT:Sp:=fun vs H Q _=>∃ (p:Addr),vs=[.ref p]∧PotB H p∧∀ (x:V) (H':Hp),Thg p H' x→aE x 1=false→PotB H' p→But p H H'→Q x H'
def fP:Sp:=fun vs H Q _=>∃ (p:Addr),vs=[.ref p]∧PotB H p∧∀ (x:V) (H':Hp),Thg p H' x→qX x→PotB H' p→But p H H'→Q x H'
theorem scdue5:FnScope ["_law_which"] ["_law_which"] (defScope nM):=⟨rfl,rfl,rfl,by decide +kernel,rfl,by decide +kernel,by decide +kernel⟩
theorem sS {f:Addr} {fd:FuncData} (F:Fun K "_law_due" "_law_due" nM f fd) (B:Blt mg):FnOk P w K mg base CX0 1 f fd ["_law_which"] (lh):=by
 refine F.ok scdue5 (fun vs H Q E h=>?_) (fun cdv A outer s H vs Q E hr h=>?_)
 ·obtain ⟨n,rfl,_⟩:=h
  rfl
 obtain ⟨n,rfl,q⟩:=h
 have nd:=scdue5.nd
 refine ⟨_,(@ai _ _ _ (@au _ _ _ _ (@az _ _ _ _ _ _ _ _ ej (@az _ _ _ _ _ _ _ _ ej (@aH _ _ _ _ (@aa _ _ _ _ _ aX ad rfl)) (ge (own:=["_law_k"]) (cs:=["_law_which"]) (cap:=[0]) rfl (fu rfl B.range (@aa _ _ _ _ _ ag ad rfl)) (cf (sc:=defScope nM) (N:=["_law_which"]) rfl rfl (by decide +kernel)) (fun _ _ _ _ _=>ak (i:=0) (by show List.Nodup (["_law_k","_law_which"]:List Str) ; decide +kernel) rfl (Or.inl rfl) (Or.inr rfl)) (fun _ _ _ _ _=>cB) (fun _ _ _ _ _=>(@bR _ _ _ _ _ _ _ _ dA (pv 0) (pv 1) (ay _))))) (@aH _ _ _ _ (@aa _ _ _ _ _ aX (@aa _ _ _ _ _ aX ad rfl) rfl))))),?_⟩
 have z4:4096≤sizeLine:=by decide
 refine ⟨(by show 1≤sizeLine; decide),fun l1 h1=>?_⟩
 obtain ⟨H1,e1,k1,s1⟩:∃H',upd H l1 (.lst [.bl true])=H'∧H' l1=some (.lst [.bl true])∧Same H H':=⟨_,rfl,ae,Same.new h1⟩
 rw [show upd H l1 _=H1 from e1]
 refine ⟨_,rfl,by decide,by decide,?_⟩
 refine gG (lo:=0) (n:=4) (fun i us Hx=>H1=Hx∧us=([V.bl (decide (V.int 0=V.int n)),.bl (decide (V.int 1=V.int n)),.bl (decide (V.int 2=V.int n)),.bl (decide (V.int 3=V.int n))].take i)) ⟨rfl,rfl⟩ ?_ ?_
 ·rintro i us _ hi ⟨rfl,rfl⟩
  refine ⟨by rw [List.length_take]; show min i 4 < _; omega,leS.set rfl,cC ?_⟩
  refine ⟨_,rfl,_,rfl,rfl,Nx.of hi ⟨rfl,?_⟩⟩
  match i,hi with
  | 0,_=>rfl
  | 1,_=>rfl
  | 2,_=>rfl
  | 3,_=>rfl
 ·rintro us _ ⟨rfl,rfl⟩
  refine ⟨(by show 4≤sizeLine; decide),fun l2 h2=>?_⟩
  obtain ⟨H2,e2,k2,s2⟩:∃H',upd H1 l2 (.lst ([V.bl (decide (V.int 0=V.int n)),.bl (decide (V.int 1=V.int n)),.bl (decide (V.int 2=V.int n)),.bl (decide (V.int 3=V.int n))].take 4))=H'∧H' l2=some (.lst ([V.bl (decide (V.int 0=V.int n)),.bl (decide (V.int 1=V.int n)),.bl (decide (V.int 2=V.int n)),.bl (decide (V.int 3=V.int n))].take 4))∧Same H1 H':=⟨_,rfl,ae,Same.new h2⟩
  rw [show upd H1 l2 _=H2 from e2]
  refine ⟨l1,l2,_,_,rfl,rfl,s2 _ _ k1,k2,(by show 5≤sizeLine; decide),fun l3 h3=>?_⟩
  obtain ⟨H3,e3,k3,s3⟩:∃H',upd H2 l3 (.lst ([.bl true] ++ ([V.bl (decide (V.int 0=V.int n)),.bl (decide (V.int 1=V.int n)),.bl (decide (V.int 2=V.int n)),.bl (decide (V.int 3=V.int n))].take 4)))=H'∧H' l3=some (.lst ([.bl true] ++ ([V.bl (decide (V.int 0=V.int n)),.bl (decide (V.int 1=V.int n)),.bl (decide (V.int 2=V.int n)),.bl (decide (V.int 3=V.int n))].take 4)))∧Same H2 H':=⟨_,rfl,ae,Same.new h3⟩
  rw [show upd H2 l3 _=H3 from e3]
  refine ⟨(by show 2≤sizeLine; decide),fun l4 h4=>?_⟩
  obtain ⟨H4,e4,k4,s4⟩:∃H',upd H3 l4 (.lst [.bl false,.bl false])=H'∧H' l4=some (.lst [.bl false,.bl false])∧Same H3 H':=⟨_,rfl,ae,Same.new h4⟩
  rw [show upd H3 l4 _=H4 from e4]
  refine ⟨l3,l4,_,_,rfl,rfl,s4 _ _ k3,k4,(by show 7≤sizeLine; decide),fun l5 h5=>?_⟩
  have s05:=s1.trans (s2.trans (s3.trans s4))
  exact q l5 _ (s05.free h5) ae (s05.trans (Same.new h5))
theorem scnoside:FnScope ["_law_pot_here","_law_far","_law_some"] ["_law_pot_here"] (defScope eY):=⟨rfl,rfl,rfl,by decide +kernel,rfl,by decide +kernel,by decide +kernel⟩
theorem ow {f:Addr} {fd:FuncData} (F:Fun K "_law_no_side" "_law_no_side" eY f fd) (B:Blt mg) (DD:Dn P w K mg base "_law_draw" ["_law_pot_here","_law_many"] 1 (dh)) (DG:Dn P w K mg base "_law_great" ["_law_pot_here","_law_many"] 2 (cY)):FnOk P w K mg base CX0 3 f fd ["_law_pot_here"] (gT):=by
 refine F.ok scnoside (fun vs H Q E h=>?_) (fun cdv A outer s H vs Q E hr h=>?_)
 ·obtain ⟨p,rfl,_⟩:=h
  rfl
 obtain ⟨p,rfl,pt,q⟩:=h
 have nd:=scnoside.nd
 refine ⟨_,(@af _ _ _ _ _ (@aw _ _ 1 _ _ _ _ nd rfl (Or.inl rfl) (@ar _ _ _ _ _ _ _ _ _ _ DG (hr.mono (by decide)) rfl (@aa _ _ _ _ _ (pv 0) (@aa _ _ _ _ _ (@az _ _ _ _ _ _ _ _ fA ag ag) ad rfl) rfl) (by decide) rfl rfl) rfl (Or.inl rfl)) (@af _ _ _ _ _ (@aw _ _ 2 _ _ _ _ nd rfl (Or.inl rfl) (@aH _ _ _ _ (@aa _ _ _ _ _ ag (@aa _ _ _ _ _ (@az _ _ _ _ _ _ _ _ bQ (@pj _ _ _ _ _ _ jY ag) (pv 1)) (@aa _ _ _ _ _ aX (@aa _ _ _ _ _ aX (@aa _ _ _ _ _ ef (@aa _ _ _ _ _ aM (@aa _ _ _ _ _ (@aH _ _ _ _ (@aa _ _ _ _ _ (pv 1) ad rfl)) (@aa _ _ _ _ _ (@aq _ _ _ _ _ (@aa _ _ _ _ _ ag ad rfl)) (@aa _ _ _ _ _ (qi ag (pv 1)) (@aa _ _ _ _ _ aM ad rfl) rfl) rfl) rfl) rfl) rfl) rfl) rfl) rfl) rfl)) rfl (Or.inl rfl)) (@ai _ _ _ (@au _ _ _ _ (@aD _ _ _ _ _ _ _ ix_list (pv 2) (@ar _ _ _ _ _ _ _ _ _ _ DD (hr.mono (by decide)) rfl (@aa _ _ _ _ _ (pv 0) (@aa _ _ _ _ _ (@aJ _ _ _ _ _ _ _ _ _ bn rfl B.len PySem.boot_len (@aa _ _ _ _ _ (pv 2) ad rfl) (by decide) (by decide) rfl rfl) ad rfl) rfl) (by decide) rfl rfl) (fun _ _=>rfl)))))),?_⟩
 refine ao (fun σ' H'=>∃fa:Int,σ'=[some (.ref p),some (.int fa),none]∧0≤fa∧PotB H' p∧But p H H') (fun R hR=>?_) ?_
 ·exact ⟨_,rfl,_,_,rfl,rfl,⟨by decide,by decide,by decide⟩,p,_,rfl,pt,(by show (0:Int) < 10 ^ (59:Int).toNat; decide),(by show (10:Int) ^ (59:Int).toNat≤10 ^ 60; decide),fun r H1 r0 r1 pt1 b1=>hR _ _ ⟨r,rfl,r0,pt1,b1⟩⟩
 rintro _ H1 ⟨fa,rfl,fa0,pt1,b1⟩
 refine ao (fun σ' H'=>∃so l1 t1 d1:Addr, σ'=[some (.ref p), some (.int fa), some (.ref so)]∧so≠p∧l1≠p∧t1≠p∧d1≠p∧H' so=some (.lst [.int 0, .int (-1 - fa), .bl true, .bl false, .non, .str "7", .ref l1, .ref t1, .ref d1, .str "16 x 16"])∧H' l1=some (.lst [.int fa])∧H' t1=some (.tup [.int 1])∧(∃kvs, H' d1=some (.dK kvs))∧PotB H' p∧But p H H') (fun R hR=>?_) ?_
 ·refine ⟨1,rfl,_,rfl,_,_,rfl,rfl,_,rfl,(by show 1≤sizeLine; decide),fun l1 hl1=>?_⟩
  obtain ⟨H2,e2,k2,n2,s2,b2,pt2⟩:=fJ (o:=.lst [.int fa]) b1 pt1 hl1
  rw [show upd H1 l1 _=H2 from e2]
  refine ⟨(by show 1≤sizeLine; decide),fun t1 ht1=>?_⟩
  obtain ⟨H3,e3,k3,n3,s3,b3,pt3⟩:=fJ (o:=.tup [.int 1]) b2 pt2 ht1
  rw [show upd H2 t1 _=H3 from e3]
  refine fun d1 hd1=>⟨_,rfl,ae,1,rfl,?_⟩
  rw [rC]
  obtain ⟨H4,e4,k4,n4,s4,b4,pt4⟩:=fJ (o:=.dK [(.inl 1,.int fa)]) b3 pt3 hd1
  rw [show upd H3 d1 _=H4 from e4]
  refine ⟨(by show 10≤sizeLine; decide),fun so hso=>?_⟩
  obtain ⟨H5,e5,k5,n5,s5,b5,pt5⟩:=fJ (o:=.lst [.int 0,.int (-1 - fa),.bl true,.bl false,.non,.str "7",.ref l1,.ref t1,.ref d1,.str "16 x 16"]) b4 pt4 hso
  rw [show upd H4 so _=H5 from e5]
  exact hR _ _ ⟨so,l1,t1,d1,rfl,n5,n2,n3,n4,k5,s5 _ _ (s4 _ _ (s3 _ _ k2)),s5 _ _ (s4 _ _ k3),⟨_,s5 _ _ k4⟩,pt5,b5⟩
 rintro _ H2 ⟨so,l1,t1,d1,rfl,nso,nl,nt,nd1,hso,hl1,ht1,hd1,pt2,b2⟩
 refine ⟨_,rfl,_,rfl,_,rfl,so,_,rfl,.inl (SqL.of hso),p,_,rfl,pt2,(by show (0:Int) < 10; decide),(by show (10:Int)≤10 ^ 60; decide),fun z H3 z0 z1 pt3 b3=>?_⟩
 have z1:z < 10:=z1
 obtain ⟨x,hx,hb,hw⟩:∃x:V,atI [.int 0,.int (-1 - fa),.bl true,.bl false,.non,.str "7",.ref l1,.ref t1,.ref d1,.str "16 x 16"] z=some x∧Thg p H2 x∧aE x 1=false:=by
  rcases (by omega:z=0∨z=1∨z=2∨z=3∨z=4∨z=5∨z=6∨z=7∨z=8∨z=9) with rfl | rfl | rfl | rfl | rfl | rfl | rfl | rfl | rfl | rfl
  ·exact ⟨_,rfl,.inl rfl,rfl⟩
  ·exact ⟨_,rfl,.inl rfl,decide_eq_false (by omega)⟩
  ·exact ⟨_,rfl,.inl rfl,rfl⟩
  ·exact ⟨_,rfl,.inl rfl,rfl⟩
  ·exact ⟨_,rfl,.inl rfl,rfl⟩
  ·exact ⟨_,rfl,.inl rfl,rfl⟩
  ·exact ⟨_,rfl,.inr ⟨l1,rfl,nl,.inl ⟨_,hl1⟩⟩,rfl⟩
  ·exact ⟨_,rfl,.inr ⟨t1,rfl,nt,.inr (.inl ⟨_,ht1⟩)⟩,rfl⟩
  ·exact ⟨_,rfl,.inr ⟨d1,rfl,nd1,.inr (.inr hd1)⟩,rfl⟩
  ·exact ⟨_,rfl,.inl rfl,rfl⟩
 exact ⟨so,_,_,_,rfl,rfl,SqL.of (b3 _ _ nso hso),hx,q x H3 (hb.but b3) hw pt3 (b2.trans b3)⟩
theorem scnoturns:FnScope ["_law_pot_here","_law_far","_law_some"] ["_law_pot_here"] (defScope dM):=⟨rfl,rfl,rfl,by decide +kernel,rfl,by decide +kernel,by decide +kernel⟩
theorem lj {f:Addr} {fd:FuncData} (F:Fun K "_law_no_turns" "_law_no_turns" dM f fd) (B:Blt mg) (DD:Dn P w K mg base "_law_draw" ["_law_pot_here","_law_many"] 1 (dh)) (DG:Dn P w K mg base "_law_great" ["_law_pot_here","_law_many"] 2 (cY)):FnOk P w K mg base CX0 3 f fd ["_law_pot_here"] (fP):=by
 refine F.ok scnoturns (fun vs H Q E h=>?_) (fun cdv A outer s H vs Q E hr h=>?_)
 ·obtain ⟨p,rfl,_⟩:=h
  rfl
 obtain ⟨p,rfl,pt,q⟩:=h
 have nd:=scnoturns.nd
 refine ⟨_,(@af _ _ _ _ _ (@aw _ _ 1 _ _ _ _ nd rfl (Or.inl rfl) (@ar _ _ _ _ _ _ _ _ _ _ DG (hr.mono (by decide)) rfl (@aa _ _ _ _ _ (pv 0) (@aa _ _ _ _ _ (@az _ _ _ _ _ _ _ _ fA ag ag) ad rfl) rfl) (by decide) rfl rfl) rfl (Or.inl rfl)) (@af _ _ _ _ _ (@aw _ _ 2 _ _ _ _ nd rfl (Or.inl rfl) (@aH _ _ _ _ (@aa _ _ _ _ _ ag (@aa _ _ _ _ _ (@az _ _ _ _ _ _ _ _ aW ag (pv 1)) (@aa _ _ _ _ _ (@az _ _ _ _ _ _ _ _ bQ (@pj _ _ _ _ _ _ jY ag) (pv 1)) (@aa _ _ _ _ _ aX (@aa _ _ _ _ _ aX (@aa _ _ _ _ _ ef (@aa _ _ _ _ _ aM (@aa _ _ _ _ _ (@aH _ _ _ _ (@aa _ _ _ _ _ ag ad rfl)) ad rfl) rfl) rfl) rfl) rfl) rfl) rfl) rfl)) rfl (Or.inl rfl)) (@ai _ _ _ (@au _ _ _ _ (@aD _ _ _ _ _ _ _ ix_list (pv 2) (@ar _ _ _ _ _ _ _ _ _ _ DD (hr.mono (by decide)) rfl (@aa _ _ _ _ _ (pv 0) (@aa _ _ _ _ _ (@aJ _ _ _ _ _ _ _ _ _ bn rfl B.len PySem.boot_len (@aa _ _ _ _ _ (pv 2) ad rfl) (by decide) (by decide) rfl rfl) ad rfl) rfl) (by decide) rfl rfl) (fun _ _=>rfl)))))),?_⟩
 refine ao (fun σ' H'=>∃fa:Int,σ'=[some (.ref p),some (.int fa),none]∧0≤fa∧PotB H' p∧But p H H') (fun R hR=>?_) ?_
 ·exact ⟨_,rfl,_,_,rfl,rfl,⟨by decide,by decide,by decide⟩,p,_,rfl,pt,(by show (0:Int) < 10 ^ (59:Int).toNat; decide),(by show (10:Int) ^ (59:Int).toNat≤10 ^ 60; decide),fun r H1 r0 r1 pt1 b1=>hR _ _ ⟨r,rfl,r0,pt1,b1⟩⟩
 rintro _ H1 ⟨fa,rfl,fa0,pt1,b1⟩
 refine ao (fun σ' H'=>∃so l1:Addr, σ'=[some (.ref p), some (.int fa), some (.ref so)]∧so≠p∧l1≠p∧H' so=some (.lst [.int 33, .int (33 + fa), .int (-1 - fa), .bl true, .bl false, .non, .str "1", .ref l1])∧H' l1=some (.lst [.int 1])∧PotB H' p∧But p H H') (fun R hR=>?_) ?_
 ·refine ⟨_,rfl,_,_,rfl,rfl,1,rfl,_,rfl,_,_,rfl,rfl,(by show 1≤sizeLine; decide),fun l1 hl1=>?_⟩
  obtain ⟨H2,e2,k2,n2,s2,b2,pt2⟩:=fJ (o:=.lst [.int 1]) b1 pt1 hl1
  rw [show upd H1 l1 _=H2 from e2]
  refine ⟨(by show 8≤sizeLine; decide),fun so hso=>?_⟩
  obtain ⟨H5,e5,k5,n5,s5,b5,pt5⟩:=fJ (o:=.lst [.int 33,.int (33 + fa),.int (-1 - fa),.bl true,.bl false,.non,.str "1",.ref l1]) b2 pt2 hso
  rw [show upd H2 so _=H5 from e5]
  exact hR _ _ ⟨so,l1,rfl,n5,n2,k5,s5 _ _ k2,pt5,b5⟩
 rintro _ H2 ⟨so,l1,rfl,nso,nl,hso,hl1,pt2,b2⟩
 refine ⟨_,rfl,_,rfl,_,rfl,so,_,rfl,.inl (SqL.of hso),p,_,rfl,pt2,(by show (0:Int) < 8; decide),(by show (8:Int)≤10 ^ 60; decide),fun z H3 z0 z1 pt3 b3=>?_⟩
 have z1:z < 8:=z1
 obtain ⟨x,hx,hb,hw⟩:∃x:V,atI [.int 33,.int (33 + fa),.int (-1 - fa),.bl true,.bl false,.non,.str "1",.ref l1] z=some x∧Thg p H2 x∧qX x:=by
  rcases (by omega:z=0∨z=1∨z=2∨z=3∨z=4∨z=5∨z=6∨z=7) with rfl | rfl | rfl | rfl | rfl | rfl | rfl | rfl
  ·exact ⟨_,rfl,.inl rfl,.inr ⟨_,rfl,by decide⟩⟩
  ·exact ⟨_,rfl,.inl rfl,.inr ⟨_,rfl,by omega⟩⟩
  ·exact ⟨_,rfl,.inl rfl,.inl (decide_eq_false (by omega))⟩
  ·exact ⟨_,rfl,.inl rfl,.inl rfl⟩
  ·exact ⟨_,rfl,.inl rfl,.inl rfl⟩
  ·exact ⟨_,rfl,.inl rfl,.inl rfl⟩
  ·exact ⟨_,rfl,.inl rfl,.inl rfl⟩
  ·exact ⟨_,rfl,.inr ⟨l1,rfl,nl,.inl ⟨_,hl1⟩⟩,.inl rfl⟩
 exact ⟨so,_,_,_,rfl,rfl,SqL.of (b3 _ _ nso hso),hx,q x H3 (hb.but b3) hw pt3 (b2.trans b3)⟩
end
section
variable {P:Program} {w:World} {K:PySem.W.Frag} {mg:Str→Option Value} {base:Heap}
theorem uY:bootBuiltins "ValueError" = some (.type "ValueError"):=by decide +kernel
theorem eE {H:Hp} {l ea:Addr} {xs:List V} {o:HO} (h:H l=some (.lst xs)) (he:H ea=some o) {c:Addr} (x:V) (ho:o=.ext (IsA ea (.ref c)):=by rfl):∃H',upd H l (.lst (xs ++ [x]))=H'∧H' l=some (.lst (xs ++ [x]))∧H' ea=some o∧But l H H' :=
 ⟨_,rfl,ae,by rw [am (fun z=>by rw [z,h] at he; rw [ho] at he; cases he)]; exact he,fun a o n e=>by rw [am n]; exact e⟩
structure Cl (mg:Str→Option Value) (x0 x1 x2 x3 x4 x5 x6 x7 x8 x9 x10 x11 x12:Addr):Prop where
 m0:mg "NoPlate" = some (.ref x0)
 m1:mg "TooLarge" = some (.ref x1)
 m2:mg "NoNumber" = some (.ref x2)
 m3:mg "NoTree" = some (.ref x3)
 m4:mg "NoBlade" = some (.ref x4)
 m5:mg "NoKind" = some (.ref x5)
 m6:mg "NoKinds" = some (.ref x6)
 m7:mg "NoLaying" = some (.ref x7)
 m8:mg "NoLying" = some (.ref x8)
 m9:mg "NoTable" = some (.ref x9)
 m10:mg "NoTelling" = some (.ref x10)
 m11:mg "NoText" = some (.ref x11)
 m12:mg "NoWeights" = some (.ref x12)
 mv:mg "ValueError" = none
structure Ec (K:PySem.W.Frag) (CE c x0 x1 x2 x3 x4 x5 x6 x7 x8 x9 x10 x11 x12:Addr) (n:Int):Prop where
 F0:ExK K c
 k0:PySem.W.kitOne K (.ref c) (.ref x0)=some (decide (V.int 0=V.int n))
 k1:PySem.W.kitOne K (.ref c) (.ref x1)=some (decide (V.int 1=V.int n))
 k2:PySem.W.kitOne K (.ref c) (.ref x2)=some (decide (V.int 2=V.int n))
 k3:PySem.W.kitOne K (.ref c) (.ref x3)=some (decide (V.int 3=V.int n))
 kv:PySem.W.kitOne K (.ref c) (.type "ValueError")=some true
 a1:PySem.W.kitAny K (.ref c) [.ref x4,.ref x5,.ref x6,.ref x7,.ref x8]=some false
 a2:PySem.W.kitAny K (.ref c) [.ref x9,.ref x10,.ref x11,.ref x12]=some false
 xm:PySem.W.exmOne K (.ref c) (.ref CE)=some true
def uZ (K:PySem.W.Frag) (C:Addr) (H:Hp) (way:Int) (s:Addr) (wv hv x:V) (ans:List V):Prop :=
 (way=0∧((∃n,ans=fO n∧(∃T,Ty K H wv T)∧(∃T,Ty K H hv T)∧(∃T,Ty K H x T)∧((n=0∧(aE wv 1 && aE hv 1)=false)∨∃w h:Int,wv=.int w∧hv=.int h∧1≤w∧1≤h∧((n=1∧(16 < w∨16 < h))∨(n=2∧w≤16∧h≤16∧qX x))))
  ∨ (ans=[]∧∃ (b:Int) (ks:List Kd) (m n k:Nat),wv=.int m∧hv=.int n∧x=.int k∧ShopAt C H s b ks∧ks.length≤8∧0≤b∧1≤m∧m≤16∧1≤n∧n≤16∧k≤32)))
 ∨ (way=1∧((ans=fO 0∧(∃T,Ty K H wv T)∧(∃T,Ty K H hv T)∧(aE wv 1 && aE hv 1)=false)
  ∨ ∃ (pp:Addr) (b w h:Int) (ks:List Kd) (d:PyData),wv=.int w∧hv=.int h∧ShopAt C H s b ks∧1≤w∧1≤h∧Dt pp H x d∧wt d≤30000∧((ans=fO 3∧isT b ks w h d=false)∨(ans=[]∧∃t:Tr,TrD t d∧okT b ks w h t∧szT t≤10000))))
def ji (K:PySem.W.Frag) (C:Addr):Sp:=fun vs H Q _=>∃ (way:Int) (s sd:Addr) (wv hv x:V) (ans:List V),vs=[.int way,.ref s,.ref sd,x]∧H sd=some (.lst [wv,hv])∧uZ K C H way s wv hv x ans∧∀ (l:Addr) (H':Hp),H l=none→H' l=some (.lst ans)→Same H H'→Q (.ref l) H'
theorem sctold5:FnScope ["_law_way","_law_shop","_law_sides","_law_thing","_law_told_here","e"] ["_law_way","_law_shop","_law_sides","_law_thing"] (defScope jG):=⟨rfl,rfl,rfl,by decide +kernel,rfl,by decide +kernel,by decide +kernel⟩
theorem qZ {f C CE x0 x1 x2 x3 x4 x5 x6 x7 x8 x9 x10 x11 x12:Addr} {fd:FuncData} (F:Fun K "_law_told" "_law_told" jG f fd) (B:Blt mg) (Z:Cl mg x0 x1 x2 x3 x4 x5 x6 x7 x8 x9 x10 x11 x12) (Y0:Ec K CE x0 x0 x1 x2 x3 x4 x5 x6 x7 x8 x9 x10 x11 x12 0) (Y1:Ec K CE x1 x0 x1 x2 x3 x4 x5 x6 x7 x8 x9 x10 x11 x12 1) (Y2:Ec K CE x2 x0 x1 x2 x3 x4 x5 x6 x7 x8 x9 x10 x11 x12 2) (Y3:Ec K CE x3 x0 x1 x2 x3 x4 x5 x6 x7 x8 x9 x10 x11 x12 3) (mp:mg "PlateError" = some (.ref CE)) (DBy:DnX P w K mg base "best_by_turns" ["shop","wide","high","k"] 35 (fun vs H Q E=>jR C vs H Q E∨kY K x0 x1 x2 vs H Q E)) (DTu:DnX P w K mg base "turns_of" ["shop","wide","high","tree"] 8 (fun vs H Q E=>jh C vs H Q E∨(gS C x3 vs H Q E∨dm K x0 vs H Q E))):FnOk P w K mg base CX0 36 f fd ["_law_way","_law_shop","_law_sides","_law_thing"] (ji K C):=by
 refine F.ok sctold5 (fun vs H Q E h=>?_) (fun cdv A outer s0 H vs Q E hr h=>?_)
 ·obtain ⟨way,s,sd,wv,hv,x,ans,rfl,_⟩:=h
  rfl
 obtain ⟨way,s,sd,wv,hv,x,ans,rfl,hsd,h,q⟩:=h
 have nd:=sctold5.nd
 refine ⟨_,af (aw (i:=4) nd rfl (Or.inl rfl) (aH ad)) (af (si (i:=5) rfl rfl rfl (uL (ax dA (pv 0) ag (ay _)) (jB (dI DBy (hr.mono (by decide)) rfl (aa (pv 1) (aa (aD ix_list (pv 2) ag (fun _ _=>rfl)) (aa (aD ix_list (pv 2) ag (fun _ _=>rfl)) (aa (pv 3) ad)))))) (jB (dI DTu (hr.mono (by decide)) rfl (aa (pv 1) (aa (aD ix_list (pv 2) ag (fun _ _=>rfl)) (aa (aD ix_list (pv 2) ag (fun _ _=>rfl)) (aa (pv 3) ad))))))) nd rfl rfl rfl mp (fun ea=>(af (aw (i:=4) nd rfl (Or.inl rfl) (aH (aa (aJ bU rfl B.isi PyProof.Rows.boot_isinstance (aa (pv 5) (aa (cZ (v:=.ty "ValueError") rfl Z.mv uY rfl) ad))) (aa (aJ bU rfl B.isi PyProof.Rows.boot_isinstance (aa (pv 5) (aa (aB (v:=.ref x0) rfl Z.m0 rfl) ad))) (aa (aJ bU rfl B.isi PyProof.Rows.boot_isinstance (aa (pv 5) (aa (aB (v:=.ref x1) rfl Z.m1 rfl) ad))) (aa (aJ bU rfl B.isi PyProof.Rows.boot_isinstance (aa (pv 5) (aa (aB (v:=.ref x2) rfl Z.m2 rfl) ad))) ad)))))) (af (aV (dq PySem.F.plainAttrs_list PySem.F.slot_list_append PySem.F.type_list_append bI (pv 4) (aa (aJ bU rfl B.isi PyProof.Rows.boot_isinstance (aa (pv 5) (aa (aB (v:=.ref x3) rfl Z.m3 rfl) ad))) ad))) (af (aV (dq PySem.F.plainAttrs_list PySem.F.slot_list_append PySem.F.type_list_append bI (pv 4) (aa (aJ dZ rfl B.isi PyProof.Rows.boot_isinstance (aa (pv 5) (aa (aq (aa (aB (v:=.ref x4) rfl Z.m4 rfl) (aa (aB (v:=.ref x5) rfl Z.m5 rfl) (aa (aB (v:=.ref x6) rfl Z.m6 rfl) (aa (aB (v:=.ref x7) rfl Z.m7 rfl) (aa (aB (v:=.ref x8) rfl Z.m8 rfl) ad)))))) ad))) ad))) (ai (aV (dq PySem.F.plainAttrs_list PySem.F.slot_list_append PySem.F.type_list_append bI (pv 4) (aa (aJ dZ rfl B.isi PyProof.Rows.boot_isinstance (aa (pv 5) (aa (aq (aa (aB (v:=.ref x9) rfl Z.m9 rfl) (aa (aB (v:=.ref x10) rfl Z.m10 rfl) (aa (aB (v:=.ref x11) rfl Z.m11 rfl) (aa (aB (v:=.ref x12) rfl Z.m12 rfl) ad))))) ad))) ad))))))))) (ai (au (pv 4)))),?_⟩
 refine ⟨by decide,fun l0 hl0=>?_⟩
 obtain ⟨H1,e1,k1,s1⟩:∃H',upd H l0 (.lst [])=H'∧H' l0=some (.lst [])∧Same H H':=⟨_,rfl,ae,Same.new hl0⟩
 rw [show upd H l0 _=H1 from e1]
 have hsd1:=s1 _ _ hsd
 refine ⟨_,rfl,rfl,_,rfl,?_⟩
 rcases h with ⟨rfl,h⟩ | ⟨rfl,h⟩
 ·refine aT ?_
  refine ⟨_,rfl,_,rfl,sd,_,0,_,rfl,rfl,SqL.of hsd1,rfl,_,rfl,sd,_,1,_,rfl,rfl,SqL.of hsd1,rfl,_,rfl,?_⟩
  dsimp only [ko]
  rcases h with ⟨n,rfl,⟨Tw,tw⟩,⟨Th,th⟩,⟨Tx,tx⟩,h⟩ | ⟨rfl,b,ks,m,n,k,rfl,rfl,rfl,S0,k8,b0,m1,m16,n1,n16,k32⟩
  ·have tw1:=Ty.same s1 tw
   have th1:=Ty.same s1 th
   have tx1:=Ty.same s1 tx
   rcases h with ⟨rfl,bad⟩ | ⟨w1,h1,rfl,rfl,w0,h0,⟨rfl,big⟩ | ⟨rfl,w16,h16,bk⟩⟩
   ·refine .inr ⟨s,wv,hv,x,rfl,⟨_,tw1⟩,⟨_,th1⟩,⟨_,tx1⟩,.inl ⟨bad,Y0.xm,fun ea hea=>?_⟩⟩
    obtain ⟨Hs,es,kes,ss⟩:∃H',upd H1 ea (.ext (IsA ea (.ref x0)))=H'∧H' ea=some (.ext (IsA ea (.ref x0)))∧Same H1 H':=⟨_,rfl,ae,Same.new hea⟩
    rw [show upd H1 ea _=Hs from es]
    refine ⟨_,rfl,ea,x0,_,_,_,Y0.F0,rfl,kes,rfl,Y0.kv,_,rfl,ea,x0,_,_,_,Y0.F0,rfl,kes,rfl,Y0.k0,_,rfl,ea,x0,_,_,_,Y0.F0,rfl,kes,rfl,Y0.k1,_,rfl,ea,x0,_,_,_,Y0.F0,rfl,kes,rfl,Y0.k2,(by show 4≤sizeLine; decide),fun l1 hl1=>?_⟩
    obtain ⟨Ha,e11,k11,s11⟩:∃H',upd Hs l1 (.lst [.bl true,.bl (decide (V.int 0=V.int 0)),.bl (decide (V.int 1=V.int 0)),.bl (decide (V.int 2=V.int 0))])=H'∧H' l1=some (.lst [.bl true,.bl (decide (V.int 0=V.int 0)),.bl (decide (V.int 1=V.int 0)),.bl (decide (V.int 2=V.int 0))])∧Same Hs H':=⟨_,rfl,ae,Same.new hl1⟩
    rw [show upd Hs l1 _=Ha from e11]
    refine ⟨_,rfl,.inl ⟨rfl,_,SqL.of k11⟩,_,rfl,ea,x0,_,_,_,Y0.F0,rfl,(s11 _ _ kes),rfl,Y0.k3,l1,_,_,rfl,rfl,k11,(by show 4 < sizeLine; decide),?_⟩
    obtain ⟨Hb,eb,kb,kbe,bb⟩:=eE (ea:=ea) k11 (s11 _ _ kes) (.bl (decide (V.int 3=V.int 0)))
    rw [show upd Ha l1 _=Hb from eb]
    refine ⟨_,rfl,.inl ⟨rfl,_,SqL.of kb⟩,_,rfl,(by show 5≤sizeLine; decide),fun t1 ht1=>?_⟩
    obtain ⟨Hc,e12,k12,s12⟩:∃H',upd Hb t1 (.tup [.ref x4,.ref x5,.ref x6,.ref x7,.ref x8])=H'∧H' t1=some (.tup [.ref x4,.ref x5,.ref x6,.ref x7,.ref x8])∧Same Hb H':=⟨_,rfl,ae,Same.new ht1⟩
    rw [show upd Hb t1 _=Hc from e12]
    refine ⟨ea,x0,t1,_,_,_,Y0.F0,rfl,s12 _ _ kbe,k12,rfl,Y0.a1,l1,_,_,rfl,rfl,s12 _ _ kb,(by show 5 < sizeLine; decide),?_⟩
    obtain ⟨Hd,ed,kd,kde,bd⟩:=eE (ea:=ea) (s12 _ _ kb) (s12 _ _ kbe) (.bl false)
    rw [show upd Hc l1 _=Hd from ed]
    refine ⟨_,rfl,.inl ⟨rfl,_,SqL.of kd⟩,_,rfl,(by show 4≤sizeLine; decide),fun t2 ht2=>?_⟩
    obtain ⟨Hf,e13,k13,s13⟩:∃H',upd Hd t2 (.tup [.ref x9,.ref x10,.ref x11,.ref x12])=H'∧H' t2=some (.tup [.ref x9,.ref x10,.ref x11,.ref x12])∧Same Hd H':=⟨_,rfl,ae,Same.new ht2⟩
    rw [show upd Hd t2 _=Hf from e13]
    refine ⟨ea,x0,t2,_,_,_,Y0.F0,rfl,s13 _ _ kde,k13,rfl,Y0.a2,l1,_,_,rfl,rfl,s13 _ _ kd,(by show 6 < sizeLine; decide),?_⟩
    obtain ⟨Hg,eg,kg,kge,bg⟩:=eE (ea:=ea) (s13 _ _ kd) (s13 _ _ kde) (.bl false)
    rw [show upd Hf l1 _=Hg from eg]
    have sl:Same H Hs:=(s1.trans (Same.refl H1)).trans ss
    refine ⟨_,rfl,q l1 Hg (sl.free hl1) kg fun a o e=>?_⟩
    have ha:=sl _ _ e
    have na:a≠l1:=ah ha hl1
    exact bg _ _ na (s13 _ _ (bd _ _ na (s12 _ _ (bb _ _ na (s11 _ _ ha)))))
   ·refine .inr ⟨s,_,_,x,rfl,⟨_,tw1⟩,⟨_,th1⟩,⟨_,tx1⟩,.inr ⟨w1,h1,rfl,rfl,w0,h0,.inl ⟨big,Y1.xm,fun ea hea=>?_⟩⟩⟩
    obtain ⟨Hs,es,kes,ss⟩:∃H',upd H1 ea (.ext (IsA ea (.ref x1)))=H'∧H' ea=some (.ext (IsA ea (.ref x1)))∧Same H1 H':=⟨_,rfl,ae,Same.new hea⟩
    rw [show upd H1 ea _=Hs from es]
    refine ⟨_,rfl,ea,x1,_,_,_,Y1.F0,rfl,kes,rfl,Y1.kv,_,rfl,ea,x1,_,_,_,Y1.F0,rfl,kes,rfl,Y1.k0,_,rfl,ea,x1,_,_,_,Y1.F0,rfl,kes,rfl,Y1.k1,_,rfl,ea,x1,_,_,_,Y1.F0,rfl,kes,rfl,Y1.k2,(by show 4≤sizeLine; decide),fun l1 hl1=>?_⟩
    obtain ⟨Ha,e11,k11,s11⟩:∃H',upd Hs l1 (.lst [.bl true,.bl (decide (V.int 0=V.int 1)),.bl (decide (V.int 1=V.int 1)),.bl (decide (V.int 2=V.int 1))])=H'∧H' l1=some (.lst [.bl true,.bl (decide (V.int 0=V.int 1)),.bl (decide (V.int 1=V.int 1)),.bl (decide (V.int 2=V.int 1))])∧Same Hs H':=⟨_,rfl,ae,Same.new hl1⟩
    rw [show upd Hs l1 _=Ha from e11]
    refine ⟨_,rfl,.inl ⟨rfl,_,SqL.of k11⟩,_,rfl,ea,x1,_,_,_,Y1.F0,rfl,(s11 _ _ kes),rfl,Y1.k3,l1,_,_,rfl,rfl,k11,(by show 4 < sizeLine; decide),?_⟩
    obtain ⟨Hb,eb,kb,kbe,bb⟩:=eE (ea:=ea) k11 (s11 _ _ kes) (.bl (decide (V.int 3=V.int 1)))
    rw [show upd Ha l1 _=Hb from eb]
    refine ⟨_,rfl,.inl ⟨rfl,_,SqL.of kb⟩,_,rfl,(by show 5≤sizeLine; decide),fun t1 ht1=>?_⟩
    obtain ⟨Hc,e12,k12,s12⟩:∃H',upd Hb t1 (.tup [.ref x4,.ref x5,.ref x6,.ref x7,.ref x8])=H'∧H' t1=some (.tup [.ref x4,.ref x5,.ref x6,.ref x7,.ref x8])∧Same Hb H':=⟨_,rfl,ae,Same.new ht1⟩
    rw [show upd Hb t1 _=Hc from e12]
    refine ⟨ea,x1,t1,_,_,_,Y1.F0,rfl,s12 _ _ kbe,k12,rfl,Y1.a1,l1,_,_,rfl,rfl,s12 _ _ kb,(by show 5 < sizeLine; decide),?_⟩
    obtain ⟨Hd,ed,kd,kde,bd⟩:=eE (ea:=ea) (s12 _ _ kb) (s12 _ _ kbe) (.bl false)
    rw [show upd Hc l1 _=Hd from ed]
    refine ⟨_,rfl,.inl ⟨rfl,_,SqL.of kd⟩,_,rfl,(by show 4≤sizeLine; decide),fun t2 ht2=>?_⟩
    obtain ⟨Hf,e13,k13,s13⟩:∃H',upd Hd t2 (.tup [.ref x9,.ref x10,.ref x11,.ref x12])=H'∧H' t2=some (.tup [.ref x9,.ref x10,.ref x11,.ref x12])∧Same Hd H':=⟨_,rfl,ae,Same.new ht2⟩
    rw [show upd Hd t2 _=Hf from e13]
    refine ⟨ea,x1,t2,_,_,_,Y1.F0,rfl,s13 _ _ kde,k13,rfl,Y1.a2,l1,_,_,rfl,rfl,s13 _ _ kd,(by show 6 < sizeLine; decide),?_⟩
    obtain ⟨Hg,eg,kg,kge,bg⟩:=eE (ea:=ea) (s13 _ _ kd) (s13 _ _ kde) (.bl false)
    rw [show upd Hf l1 _=Hg from eg]
    have sl:Same H Hs:=(s1.trans (Same.refl H1)).trans ss
    refine ⟨_,rfl,q l1 Hg (sl.free hl1) kg fun a o e=>?_⟩
    have ha:=sl _ _ e
    have na:a≠l1:=ah ha hl1
    exact bg _ _ na (s13 _ _ (bd _ _ na (s12 _ _ (bb _ _ na (s11 _ _ ha)))))
   ·refine .inr ⟨s,_,_,x,rfl,⟨_,tw1⟩,⟨_,th1⟩,⟨_,tx1⟩,.inr ⟨w1,h1,rfl,rfl,w0,h0,.inr ⟨w16,h16,bk,Y2.xm,fun ea hea=>?_⟩⟩⟩
    obtain ⟨Hs,es,kes,ss⟩:∃H',upd H1 ea (.ext (IsA ea (.ref x2)))=H'∧H' ea=some (.ext (IsA ea (.ref x2)))∧Same H1 H':=⟨_,rfl,ae,Same.new hea⟩
    rw [show upd H1 ea _=Hs from es]
    refine ⟨_,rfl,ea,x2,_,_,_,Y2.F0,rfl,kes,rfl,Y2.kv,_,rfl,ea,x2,_,_,_,Y2.F0,rfl,kes,rfl,Y2.k0,_,rfl,ea,x2,_,_,_,Y2.F0,rfl,kes,rfl,Y2.k1,_,rfl,ea,x2,_,_,_,Y2.F0,rfl,kes,rfl,Y2.k2,(by show 4≤sizeLine; decide),fun l1 hl1=>?_⟩
    obtain ⟨Ha,e11,k11,s11⟩:∃H',upd Hs l1 (.lst [.bl true,.bl (decide (V.int 0=V.int 2)),.bl (decide (V.int 1=V.int 2)),.bl (decide (V.int 2=V.int 2))])=H'∧H' l1=some (.lst [.bl true,.bl (decide (V.int 0=V.int 2)),.bl (decide (V.int 1=V.int 2)),.bl (decide (V.int 2=V.int 2))])∧Same Hs H':=⟨_,rfl,ae,Same.new hl1⟩
    rw [show upd Hs l1 _=Ha from e11]
    refine ⟨_,rfl,.inl ⟨rfl,_,SqL.of k11⟩,_,rfl,ea,x2,_,_,_,Y2.F0,rfl,(s11 _ _ kes),rfl,Y2.k3,l1,_,_,rfl,rfl,k11,(by show 4 < sizeLine; decide),?_⟩
    obtain ⟨Hb,eb,kb,kbe,bb⟩:=eE (ea:=ea) k11 (s11 _ _ kes) (.bl (decide (V.int 3=V.int 2)))
    rw [show upd Ha l1 _=Hb from eb]
    refine ⟨_,rfl,.inl ⟨rfl,_,SqL.of kb⟩,_,rfl,(by show 5≤sizeLine; decide),fun t1 ht1=>?_⟩
    obtain ⟨Hc,e12,k12,s12⟩:∃H',upd Hb t1 (.tup [.ref x4,.ref x5,.ref x6,.ref x7,.ref x8])=H'∧H' t1=some (.tup [.ref x4,.ref x5,.ref x6,.ref x7,.ref x8])∧Same Hb H':=⟨_,rfl,ae,Same.new ht1⟩
    rw [show upd Hb t1 _=Hc from e12]
    refine ⟨ea,x2,t1,_,_,_,Y2.F0,rfl,s12 _ _ kbe,k12,rfl,Y2.a1,l1,_,_,rfl,rfl,s12 _ _ kb,(by show 5 < sizeLine; decide),?_⟩
    obtain ⟨Hd,ed,kd,kde,bd⟩:=eE (ea:=ea) (s12 _ _ kb) (s12 _ _ kbe) (.bl false)
    rw [show upd Hc l1 _=Hd from ed]
    refine ⟨_,rfl,.inl ⟨rfl,_,SqL.of kd⟩,_,rfl,(by show 4≤sizeLine; decide),fun t2 ht2=>?_⟩
    obtain ⟨Hf,e13,k13,s13⟩:∃H',upd Hd t2 (.tup [.ref x9,.ref x10,.ref x11,.ref x12])=H'∧H' t2=some (.tup [.ref x9,.ref x10,.ref x11,.ref x12])∧Same Hd H':=⟨_,rfl,ae,Same.new ht2⟩
    rw [show upd Hd t2 _=Hf from e13]
    refine ⟨ea,x2,t2,_,_,_,Y2.F0,rfl,s13 _ _ kde,k13,rfl,Y2.a2,l1,_,_,rfl,rfl,s13 _ _ kd,(by show 6 < sizeLine; decide),?_⟩
    obtain ⟨Hg,eg,kg,kge,bg⟩:=eE (ea:=ea) (s13 _ _ kd) (s13 _ _ kde) (.bl false)
    rw [show upd Hf l1 _=Hg from eg]
    have sl:Same H Hs:=(s1.trans (Same.refl H1)).trans ss
    refine ⟨_,rfl,q l1 Hg (sl.free hl1) kg fun a o e=>?_⟩
    have ha:=sl _ _ e
    have na:a≠l1:=ah ha hl1
    exact bg _ _ na (s13 _ _ (bd _ _ na (s12 _ _ (bb _ _ na (s11 _ _ ha)))))
  ·exact .inl ⟨s,b,ks,m,n,k,rfl,S0.keep (fun c o e=>s1 _ _ e) (fun c C' d fs e=>s1 _ _ e),k8,b0,m1,m16,n1,n16,k32,fun r v H2 hr hv s2=>⟨_,rfl,q l0 H2 hl0 (s2 _ _ k1) (s1.trans s2)⟩⟩
 ·refine aI ?_
  refine ⟨_,rfl,_,rfl,sd,_,0,_,rfl,rfl,SqL.of hsd1,rfl,_,rfl,sd,_,1,_,rfl,rfl,SqL.of hsd1,rfl,_,rfl,?_⟩
  dsimp only [ko]
  rcases h with ⟨rfl,⟨Tw,tw⟩,⟨Th,th⟩,bad⟩ | ⟨pp,b,w1,h1,ks,d,rfl,rfl,S0,w0,h0,hd,dz,h⟩
  ·refine .inr (.inr ⟨s,wv,hv,x,rfl,⟨_,Ty.same s1 tw⟩,⟨_,Ty.same s1 th⟩,bad,Y0.xm,fun ea hea=>?_⟩)
   obtain ⟨Hs,es,kes,ss⟩:∃H',upd H1 ea (.ext (IsA ea (.ref x0)))=H'∧H' ea=some (.ext (IsA ea (.ref x0)))∧Same H1 H':=⟨_,rfl,ae,Same.new hea⟩
   rw [show upd H1 ea _=Hs from es]
   refine ⟨_,rfl,ea,x0,_,_,_,Y0.F0,rfl,kes,rfl,Y0.kv,_,rfl,ea,x0,_,_,_,Y0.F0,rfl,kes,rfl,Y0.k0,_,rfl,ea,x0,_,_,_,Y0.F0,rfl,kes,rfl,Y0.k1,_,rfl,ea,x0,_,_,_,Y0.F0,rfl,kes,rfl,Y0.k2,(by show 4≤sizeLine; decide),fun l1 hl1=>?_⟩
   obtain ⟨Ha,e11,k11,s11⟩:∃H',upd Hs l1 (.lst [.bl true,.bl (decide (V.int 0=V.int 0)),.bl (decide (V.int 1=V.int 0)),.bl (decide (V.int 2=V.int 0))])=H'∧H' l1=some (.lst [.bl true,.bl (decide (V.int 0=V.int 0)),.bl (decide (V.int 1=V.int 0)),.bl (decide (V.int 2=V.int 0))])∧Same Hs H':=⟨_,rfl,ae,Same.new hl1⟩
   rw [show upd Hs l1 _=Ha from e11]
   refine ⟨_,rfl,.inl ⟨rfl,_,SqL.of k11⟩,_,rfl,ea,x0,_,_,_,Y0.F0,rfl,(s11 _ _ kes),rfl,Y0.k3,l1,_,_,rfl,rfl,k11,(by show 4 < sizeLine; decide),?_⟩
   obtain ⟨Hb,eb,kb,kbe,bb⟩:=eE (ea:=ea) k11 (s11 _ _ kes) (.bl (decide (V.int 3=V.int 0)))
   rw [show upd Ha l1 _=Hb from eb]
   refine ⟨_,rfl,.inl ⟨rfl,_,SqL.of kb⟩,_,rfl,(by show 5≤sizeLine; decide),fun t1 ht1=>?_⟩
   obtain ⟨Hc,e12,k12,s12⟩:∃H',upd Hb t1 (.tup [.ref x4,.ref x5,.ref x6,.ref x7,.ref x8])=H'∧H' t1=some (.tup [.ref x4,.ref x5,.ref x6,.ref x7,.ref x8])∧Same Hb H':=⟨_,rfl,ae,Same.new ht1⟩
   rw [show upd Hb t1 _=Hc from e12]
   refine ⟨ea,x0,t1,_,_,_,Y0.F0,rfl,s12 _ _ kbe,k12,rfl,Y0.a1,l1,_,_,rfl,rfl,s12 _ _ kb,(by show 5 < sizeLine; decide),?_⟩
   obtain ⟨Hd,ed,kd,kde,bd⟩:=eE (ea:=ea) (s12 _ _ kb) (s12 _ _ kbe) (.bl false)
   rw [show upd Hc l1 _=Hd from ed]
   refine ⟨_,rfl,.inl ⟨rfl,_,SqL.of kd⟩,_,rfl,(by show 4≤sizeLine; decide),fun t2 ht2=>?_⟩
   obtain ⟨Hf,e13,k13,s13⟩:∃H',upd Hd t2 (.tup [.ref x9,.ref x10,.ref x11,.ref x12])=H'∧H' t2=some (.tup [.ref x9,.ref x10,.ref x11,.ref x12])∧Same Hd H':=⟨_,rfl,ae,Same.new ht2⟩
   rw [show upd Hd t2 _=Hf from e13]
   refine ⟨ea,x0,t2,_,_,_,Y0.F0,rfl,s13 _ _ kde,k13,rfl,Y0.a2,l1,_,_,rfl,rfl,s13 _ _ kd,(by show 6 < sizeLine; decide),?_⟩
   obtain ⟨Hg,eg,kg,kge,bg⟩:=eE (ea:=ea) (s13 _ _ kd) (s13 _ _ kde) (.bl false)
   rw [show upd Hf l1 _=Hg from eg]
   have sl:Same H Hs:=(s1.trans (Same.refl H1)).trans ss
   refine ⟨_,rfl,q l1 Hg (sl.free hl1) kg fun a o e=>?_⟩
   have ha:=sl _ _ e
   have na:a≠l1:=ah ha hl1
   exact bg _ _ na (s13 _ _ (bd _ _ na (s12 _ _ (bb _ _ na (s11 _ _ ha)))))
  ·have S1:=S0.keep (fun c o e=>s1 _ _ e) (fun c C' d fs e=>s1 _ _ e)
   rcases h with ⟨rfl,ht⟩ | ⟨rfl,t,td,tk,tz⟩
   ·refine .inr (.inl ⟨pp,s,b,w1,h1,ks,x,d,rfl,S1,w0,h0,hd.same s1,dz,ht,fun H2 s2=>⟨Y3.xm,fun ea hea=>?_⟩⟩)
    obtain ⟨Hs,es,kes,ss⟩:∃H',upd H2 ea (.ext (IsA ea (.ref x3)))=H'∧H' ea=some (.ext (IsA ea (.ref x3)))∧Same H2 H':=⟨_,rfl,ae,Same.new hea⟩
    rw [show upd H2 ea _=Hs from es]
    refine ⟨_,rfl,ea,x3,_,_,_,Y3.F0,rfl,kes,rfl,Y3.kv,_,rfl,ea,x3,_,_,_,Y3.F0,rfl,kes,rfl,Y3.k0,_,rfl,ea,x3,_,_,_,Y3.F0,rfl,kes,rfl,Y3.k1,_,rfl,ea,x3,_,_,_,Y3.F0,rfl,kes,rfl,Y3.k2,(by show 4≤sizeLine; decide),fun l1 hl1=>?_⟩
    obtain ⟨Ha,e11,k11,s11⟩:∃H',upd Hs l1 (.lst [.bl true,.bl (decide (V.int 0=V.int 3)),.bl (decide (V.int 1=V.int 3)),.bl (decide (V.int 2=V.int 3))])=H'∧H' l1=some (.lst [.bl true,.bl (decide (V.int 0=V.int 3)),.bl (decide (V.int 1=V.int 3)),.bl (decide (V.int 2=V.int 3))])∧Same Hs H':=⟨_,rfl,ae,Same.new hl1⟩
    rw [show upd Hs l1 _=Ha from e11]
    refine ⟨_,rfl,.inl ⟨rfl,_,SqL.of k11⟩,_,rfl,ea,x3,_,_,_,Y3.F0,rfl,(s11 _ _ kes),rfl,Y3.k3,l1,_,_,rfl,rfl,k11,(by show 4 < sizeLine; decide),?_⟩
    obtain ⟨Hb,eb,kb,kbe,bb⟩:=eE (ea:=ea) k11 (s11 _ _ kes) (.bl (decide (V.int 3=V.int 3)))
    rw [show upd Ha l1 _=Hb from eb]
    refine ⟨_,rfl,.inl ⟨rfl,_,SqL.of kb⟩,_,rfl,(by show 5≤sizeLine; decide),fun t1 ht1=>?_⟩
    obtain ⟨Hc,e12,k12,s12⟩:∃H',upd Hb t1 (.tup [.ref x4,.ref x5,.ref x6,.ref x7,.ref x8])=H'∧H' t1=some (.tup [.ref x4,.ref x5,.ref x6,.ref x7,.ref x8])∧Same Hb H':=⟨_,rfl,ae,Same.new ht1⟩
    rw [show upd Hb t1 _=Hc from e12]
    refine ⟨ea,x3,t1,_,_,_,Y3.F0,rfl,s12 _ _ kbe,k12,rfl,Y3.a1,l1,_,_,rfl,rfl,s12 _ _ kb,(by show 5 < sizeLine; decide),?_⟩
    obtain ⟨Hd,ed,kd,kde,bd⟩:=eE (ea:=ea) (s12 _ _ kb) (s12 _ _ kbe) (.bl false)
    rw [show upd Hc l1 _=Hd from ed]
    refine ⟨_,rfl,.inl ⟨rfl,_,SqL.of kd⟩,_,rfl,(by show 4≤sizeLine; decide),fun t2 ht2=>?_⟩
    obtain ⟨Hf,e13,k13,s13⟩:∃H',upd Hd t2 (.tup [.ref x9,.ref x10,.ref x11,.ref x12])=H'∧H' t2=some (.tup [.ref x9,.ref x10,.ref x11,.ref x12])∧Same Hd H':=⟨_,rfl,ae,Same.new ht2⟩
    rw [show upd Hd t2 _=Hf from e13]
    refine ⟨ea,x3,t2,_,_,_,Y3.F0,rfl,s13 _ _ kde,k13,rfl,Y3.a2,l1,_,_,rfl,rfl,s13 _ _ kd,(by show 6 < sizeLine; decide),?_⟩
    obtain ⟨Hg,eg,kg,kge,bg⟩:=eE (ea:=ea) (s13 _ _ kd) (s13 _ _ kde) (.bl false)
    rw [show upd Hf l1 _=Hg from eg]
    have sl:Same H Hs:=(s1.trans s2).trans ss
    refine ⟨_,rfl,q l1 Hg (sl.free hl1) kg fun a o e=>?_⟩
    have ha:=sl _ _ e
    have na:a≠l1:=ah ha hl1
    exact bg _ _ na (s13 _ _ (bd _ _ na (s12 _ _ (bb _ _ na (s11 _ _ ha)))))
   ·exact .inl ⟨pp,s,b,w1,h1,ks,x,d,t,rfl,S1,w0,h0,hd.same s1,dz,td,tk,tz,fun H2 s2=>⟨_,rfl,q l0 H2 hl0 (s2 _ _ k1) (s1.trans s2)⟩⟩
end
theorem gU {b:Int} {ks:List Kd} {w h:Int} (r:List PyData):isT b ks w h (.tuple (.str "piece" :: r))=pcD ks w h r:=by
 rw [cX (y := "piece") (r:=r) rfl (by decide +kernel) (by decide +kernel),if_neg (by decide +kernel),if_pos (by decide +kernel)]
theorem va {k:Kd} {w h x y:Int} (hb:w < x + k.w∨h < y + k.h∨x < 0∨y < 0):jd [k] w h (.int 0) (.bool false) (.int x) (.int y)=false:=by
 show eC [k] w h (.int 0) (.bl false) (.int x) (.int y)=false
 unfold eC
 simp only [aE]
 rcases hb with hb | hb | hb | hb
 ·rw [show (cN [k] (.int 0) (.bl false))=true from rfl]
  simp only [sd1,sd2,List.getElem?_cons_zero,Int.toNat_zero]
  simp
  intros
  omega
 ·rw [show (cN [k] (.int 0) (.bl false))=true from rfl]
  simp only [sd1,sd2,List.getElem?_cons_zero,Int.toNat_zero]
  simp
  intros
  omega
 ·rw [decide_eq_false (show ¬ (0:Int)≤x by omega)]; simp
 ·rw [decide_eq_false (show ¬ (0:Int)≤y by omega)]; simp
inductive Nt (b:Int) (k:Kd) (w h:Int):PyData→Prop
 | far {x y:Int} (hb:w < x + k.w∨h < y + k.h∨x < 0∨y < 0):Nt b k w h (.tuple [.str "piece",.int 0,.bool false,.int x,.int y])
 | one:Nt b k w h (.tuple [.str "piece",.int 1,.bool false,.int 0,.int 0])
 | zero:Nt b k w h (.tuple [.str "piece",.int 0,.int 0,.int 0,.int 0])
 | few:Nt b k w h (.tuple [.str "piece",.int 0,.bool false,.int 0])
 | more:Nt b k w h (.tuple [.str "piece",.int 0,.bool false,.int 0,.int 0,.int 0])
 | rest2:Nt b k w h (.tuple [.str "rest",.int 0])
 | str:Nt b k w h (.str "rest")
 | non:Nt b k w h .none
 | emp:Nt b k w h (.tuple [])
 | down {p:Int} (hp:p < 1∨w≤p + b):Nt b k w h (.tuple [.str "down",.int p,.tuple [.str "rest"],.tuple [.str "rest"]])
 | across {p:Int} (hp:p < 1∨h≤p + b):Nt b k w h (.tuple [.str "across",.int p,.tuple [.str "rest"],.tuple [.str "rest"]])
 | downT:Nt b k w h (.tuple [.str "down",.bool true,.tuple [.str "rest"],.tuple [.str "rest"]])
 | up:Nt b k w h (.tuple [.str "up",.int 1,.tuple [.str "rest"]])
theorem Nt.no {b:Int} {k:Kd} {w h:Int} {d:PyData} (n:Nt b k w h d):isT b [k] w h d=false:=by
 cases n with
 | far hb=>rw [gU]; exact va hb
 | one=>rw [gU]; rfl
 | zero=>rw [gU]; rfl
 | few=>rw [gU]; rfl
 | more=>rw [gU]; rfl
 | rest2 =>
  rw [cX (y := "rest") (r:=[.int 0]) rfl (by decide +kernel) (by decide +kernel),if_pos (by decide +kernel)]
  rfl
 | str=>exact kR (fun y r e=>by cases e)
 | non=>exact kR (fun y r e=>by cases e)
 | emp=>exact kR (fun y r e=>by cases e)
 | down hp =>
  rename_i p
  rw [fh (dn:=true) (r:=[.int p,.tuple [.str "rest"],.tuple [.str "rest"]]) rfl]
  rcases hp with hp | hp
  ·show (decide (1≤p) && _)=false
   rw [decide_eq_false (by omega)]; rfl
  ·show (decide (1≤p) && (decide (p + b < w) && _))=false
   rw [decide_eq_false (show ¬ p + b < w by omega),Bool.false_and,Bool.and_false]
 | across hp =>
  rename_i p
  rw [fh (dn:=false) (r:=[.int p,.tuple [.str "rest"],.tuple [.str "rest"]]) rfl]
  rcases hp with hp | hp
  ·show (decide (1≤p) && _)=false
   rw [decide_eq_false (by omega)]; rfl
  ·show (decide (1≤p) && (decide (p + b < h) && _))=false
   rw [decide_eq_false (show ¬ p + b < h by omega),Bool.false_and,Bool.and_false]
 | downT=>rw [fh (dn:=true) (r:=[.bool true,.tuple [.str "rest"],.tuple [.str "rest"]]) rfl]
 | up =>
  rw [cX (y := "up") (r:=[.int 1,.tuple [.str "rest"]]) rfl (by decide +kernel) (by decide +kernel),if_neg (by decide +kernel),if_neg (by decide +kernel)]
theorem Nt.wt {b:Int} {k:Kd} {w h:Int} {d:PyData} (n:Nt b k w h d):wt d≤30000:=by
 have e1:(Str.ofString "piece").length=5:=by decide +kernel
 have e2:(Str.ofString "rest").length=4:=by decide +kernel
 have e3:(Str.ofString "down").length=4:=by decide +kernel
 have e4:(Str.ofString "across").length=6:=by decide +kernel
 have e5:(Str.ofString "up").length=2:=by decide +kernel
 cases n <;> simp only [Pc.wt,wts] <;> omega
mutual
inductive Td (H:Hp):V→PyData→Prop
 | non:Td H .non .none
 | bl (b:Bool):Td H (.bl b) (.bool b)
 | int (i:Int):Td H (.int i) (.int i)
 | str (z:Str):Td H (.str z) (.str z)
 | tup {a:Addr} {xs:List V} {ds:List PyData}:H a=some (.tup xs)→Tds H xs ds→Td H (.ref a) (.tuple ds)
inductive Tds (H:Hp):List V→List PyData→Prop
 | nil:Tds H [] []
 | cons {x:V} {d:PyData} {xs:List V} {ds:List PyData}:Td H x d→Tds H xs ds→Tds H (x :: xs) (d :: ds)
end
mutual
theorem Td.keep {H H':Hp} (k:∀a xs,H a=some (.tup xs)→H' a=some (.tup xs)):∀ {v:V} {d:PyData},Td H v d→Td H' v d
 | _,_,.non=>.non
 | _,_,.bl b=>.bl b
 | _,_,.int i=>.int i
 | _,_,.str z=>.str z
 | _,_,.tup h r=>.tup (k _ _ h) (Tds.keep k r)
theorem Tds.keep {H H':Hp} (k:∀a xs,H a=some (.tup xs)→H' a=some (.tup xs)):∀ {vs:List V} {ds:List PyData},Tds H vs ds→Tds H' vs ds
 | _,_,.nil=>.nil
 | _,_,.cons h r=>.cons (Td.keep k h) (Tds.keep k r)
end
mutual
theorem Td.dt {p:Addr} {H:Hp}:∀ {v:V} {d:PyData},Td H v d→Dt p H v d
 | _,_,.non=>.non
 | _,_,.bl b=>.bl b
 | _,_,.int i=>.int i
 | _,_,.str z=>.str z
 | _,_,.tup h r=>.tup h (Tds.dt r)
theorem Tds.dt {p:Addr} {H:Hp}:∀ {vs:List V} {ds:List PyData},Tds H vs ds→Dts p H vs ds
 | _,_,.nil=>.nil
 | _,_,.cons h r=>.cons (Td.dt h) (Tds.dt r)
end
def NtV (b:Int) (k:Kd) (w h:Int) (H:Hp) (x:V):Prop:=∃d,Td H x d∧Nt b k w h d
theorem NtV.keep {b:Int} {k:Kd} {w h:Int} {H H':Hp} {x:V} (s:∀a xs,H a=some (.tup xs)→H' a=some (.tup xs)) (n:NtV b k w h H x):NtV b k w h H' x:=n.imp fun d ⟨h1,h2⟩=>⟨h1.keep s,h2⟩
theorem sT {p t:Addr} {H G:Hp} (b:But p H G) (n:t≠p) (h:G t=none):H t=none:=by
 cases e:H t with
 | none=>rfl
 | some o=>rw [b _ _ n e] at h; cases h
section
variable {P:Program} {w:World} {K:PySem.W.Frag} {mg:Str→Option Value} {base:Heap}
def gW:Sp:=fun vs H Q _=>∃ (p sd ka:Addr) (b w h:Int) (k:Kd),vs=[.ref p,.ref sd,.int b,.ref ka]∧PotB H p∧H sd=some (.lst [.int w,.int h])∧H ka=some (.tup (kdV k))∧0≤b∧1≤w∧1≤h∧1≤k.w∧1≤k.h∧∀ (x:V) (H':Hp),NtV b k w h H' x→PotB H' p→But p H H'→Q x H'
theorem scnotree:FnScope ["_law_pot_here","_law_sides","_law_blade","_law_kind","_law_wide","_law_high","_law_fit","_law_far","_law_some"] ["_law_pot_here","_law_sides","_law_blade","_law_kind"] (defScope eZ):=⟨rfl,rfl,rfl,by decide +kernel,rfl,by decide +kernel,by decide +kernel⟩
theorem ox {f:Addr} {fd:FuncData} (F:Fun K "_law_no_tree" "_law_no_tree" eZ f fd) (B:Blt mg) (DD:Dn P w K mg base "_law_draw" ["_law_pot_here","_law_many"] 1 (dh)) (DG:Dn P w K mg base "_law_great" ["_law_pot_here","_law_many"] 2 (cY)):FnOk P w K mg base CX0 3 f fd ["_law_pot_here","_law_sides","_law_blade","_law_kind"] (gW):=by
 refine F.ok scnotree (fun vs H Q E h=>?_) (fun cdv A outer s H vs Q E hr h=>?_)
 ·obtain ⟨p,sd,ka,b,w1,h1,k,rfl,_⟩:=h
  rfl
 obtain ⟨p,sd,ka,b,w1,h1,k,rfl,pt,hsd,hka,b0,w0,h0,kw0,kh0,q⟩:=h
 have nd:=scnotree.nd
 refine ⟨_,(@af _ _ _ _ _ (@br _ _ _ _ _ _ (pv 1) (kD rfl (aj (ak (i:=4) nd rfl (Or.inl rfl)) (aj (ak (i:=5) nd rfl (Or.inl rfl)) aQ))) rfl rfl rfl) (@af _ _ _ _ _ (@aw _ _ 6 _ _ _ _ nd rfl (Or.inl rfl) (@aq _ _ _ _ _ (@aa _ _ _ _ _ aM (@aa _ _ _ _ _ ag (@aa _ _ _ _ _ aX (@aa _ _ _ _ _ ag (@aa _ _ _ _ _ ag ad rfl) rfl) rfl) rfl) rfl)) rfl (Or.inl rfl)) (@af _ _ _ _ _ (@aw _ _ 7 _ _ _ _ nd rfl (Or.inl rfl) (@az _ _ _ _ _ _ _ _ aW ag (@ar _ _ _ _ _ _ _ _ _ _ DG (hr.mono (by decide)) rfl (@aa _ _ _ _ _ (pv 0) (@aa _ _ _ _ _ (@az _ _ _ _ _ _ _ _ fA ag ag) ad rfl) rfl) (by decide) rfl rfl)) rfl (Or.inl rfl)) (@af _ _ _ _ _ (@aw _ _ 8 _ _ _ _ nd rfl (Or.inl rfl) (@aH _ _ _ _ (@aa _ _ _ _ _ (@aq _ _ _ _ _ (@aa _ _ _ _ _ aM (@aa _ _ _ _ _ ag (@aa _ _ _ _ _ aX (@aa _ _ _ _ _ (@az _ _ _ _ _ _ _ _ bQ (@az _ _ _ _ _ _ _ _ aW (pv 4) ag) (@aD _ _ _ _ _ _ _ ix_tup (pv 3) ag (fun _ _=>rfl))) (@aa _ _ _ _ _ ag ad rfl) rfl) rfl) rfl) rfl)) (@aa _ _ _ _ _ (@aq _ _ _ _ _ (@aa _ _ _ _ _ aM (@aa _ _ _ _ _ ag (@aa _ _ _ _ _ aX (@aa _ _ _ _ _ ag (@aa _ _ _ _ _ (@az _ _ _ _ _ _ _ _ bQ (@az _ _ _ _ _ _ _ _ aW (pv 5) ag) (@aD _ _ _ _ _ _ _ ix_tup (pv 3) ag (fun _ _=>rfl))) ad rfl) rfl) rfl) rfl) rfl)) ad rfl) rfl)) rfl (Or.inl rfl)) (@af _ _ _ _ _ (@aw _ _ 8 _ _ _ _ nd rfl (Or.inl rfl) (@az _ _ _ _ _ _ _ _ ej (pv 8) (@aH _ _ _ _ (@aa _ _ _ _ _ (@aq _ _ _ _ _ (@aa _ _ _ _ _ aM (@aa _ _ _ _ _ ag (@aa _ _ _ _ _ aX (@aa _ _ _ _ _ ag (@aa _ _ _ _ _ ag ad rfl) rfl) rfl) rfl) rfl)) (@aa _ _ _ _ _ (@aq _ _ _ _ _ (@aa _ _ _ _ _ aM (@aa _ _ _ _ _ ag (@aa _ _ _ _ _ ag (@aa _ _ _ _ _ ag (@aa _ _ _ _ _ ag ad rfl) rfl) rfl) rfl) rfl)) (@aa _ _ _ _ _ (@aq _ _ _ _ _ (@aa _ _ _ _ _ aM (@aa _ _ _ _ _ ag (@aa _ _ _ _ _ aX (@aa _ _ _ _ _ (@pj _ _ _ _ _ _ jY (pv 7)) (@aa _ _ _ _ _ ag ad rfl) rfl) rfl) rfl) rfl)) ad rfl) rfl) rfl))) rfl (Or.inl rfl)) (@af _ _ _ _ _ (@aV _ _ _ _ (@dq _ _ _ _ _ _ _ _ _ _ _ _ PySem.F.plainAttrs_list PySem.F.slot_list_append PySem.F.type_list_append bI (pv 8) (@aa _ _ _ _ _ (@aq _ _ _ _ _ (@aa _ _ _ _ _ aM (@aa _ _ _ _ _ ag (@aa _ _ _ _ _ aX (@aa _ _ _ _ _ ag ad rfl) rfl) rfl) rfl)) ad rfl) rfl rfl rfl rfl rfl) rfl) (@af _ _ _ _ _ (@aw _ _ 8 _ _ _ _ nd rfl (Or.inl rfl) (@az _ _ _ _ _ _ _ _ ej (pv 8) (@aH _ _ _ _ (@aa _ _ _ _ _ (@aq _ _ _ _ _ (@aa _ _ _ _ _ aM (@aa _ _ _ _ _ ag ad rfl) rfl)) (@aa _ _ _ _ _ aM (@aa _ _ _ _ _ ef (@aa _ _ _ _ _ (@aq _ _ _ _ _ ad) (@aa _ _ _ _ _ (@aq _ _ _ _ _ (@aa _ _ _ _ _ aM (@aa _ _ _ _ _ (@az _ _ _ _ _ _ _ _ bQ (pv 4) (pv 2)) (@aa _ _ _ _ _ (@aq _ _ _ _ _ (@aa _ _ _ _ _ aM ad rfl)) (@aa _ _ _ _ _ (@aq _ _ _ _ _ (@aa _ _ _ _ _ aM ad rfl)) ad rfl) rfl) rfl) rfl)) (@aa _ _ _ _ _ (@az _ _ _ _ _ _ _ _ mz (pv 6) (@aq _ _ _ _ _ (@aa _ _ _ _ _ ag ad rfl))) ad rfl) rfl) rfl) rfl) rfl) rfl))) rfl (Or.inl rfl)) (@af _ _ _ _ _ (@aw _ _ 8 _ _ _ _ nd rfl (Or.inl rfl) (@az _ _ _ _ _ _ _ _ ej (pv 8) (@aH _ _ _ _ (@aa _ _ _ _ _ (@aq _ _ _ _ _ (@aa _ _ _ _ _ aM (@aa _ _ _ _ _ ag (@aa _ _ _ _ _ (@aq _ _ _ _ _ (@aa _ _ _ _ _ aM ad rfl)) (@aa _ _ _ _ _ (@aq _ _ _ _ _ (@aa _ _ _ _ _ aM ad rfl)) ad rfl) rfl) rfl) rfl)) (@aa _ _ _ _ _ (@aq _ _ _ _ _ (@aa _ _ _ _ _ aM (@aa _ _ _ _ _ aX (@aa _ _ _ _ _ (@aq _ _ _ _ _ (@aa _ _ _ _ _ aM ad rfl)) (@aa _ _ _ _ _ (@aq _ _ _ _ _ (@aa _ _ _ _ _ aM ad rfl)) ad rfl) rfl) rfl) rfl)) (@aa _ _ _ _ _ (@aq _ _ _ _ _ (@aa _ _ _ _ _ aM (@aa _ _ _ _ _ ag (@aa _ _ _ _ _ (@aq _ _ _ _ _ (@aa _ _ _ _ _ aM ad rfl)) ad rfl) rfl) rfl)) ad rfl) rfl) rfl))) rfl (Or.inl rfl)) (@af _ _ _ _ _ (@aV _ _ _ _ (@dq _ _ _ _ _ _ _ _ _ _ _ _ PySem.F.plainAttrs_list PySem.F.slot_list_append PySem.F.type_list_append bI (pv 8) (@aa _ _ _ _ _ (@aq _ _ _ _ _ (@aa _ _ _ _ _ aM (@aa _ _ _ _ _ (@az _ _ _ _ _ _ _ _ aW (@az _ _ _ _ _ _ _ _ bQ (pv 5) (pv 2)) (pv 7)) (@aa _ _ _ _ _ (@aq _ _ _ _ _ (@aa _ _ _ _ _ aM ad rfl)) (@aa _ _ _ _ _ (@aq _ _ _ _ _ (@aa _ _ _ _ _ aM ad rfl)) ad rfl) rfl) rfl) rfl)) ad rfl) rfl rfl rfl rfl rfl) rfl) (@af _ _ _ _ _ (@aL _ _ _ _ _ _ _ _ (PW.pt (bP (@ax _ _ _ _ _ _ _ _ cQ (@aD _ _ _ _ _ _ _ ix_tup (pv 3) ag (fun _ _=>rfl)) (pv 4) (ay _)) (bt (@ax _ _ _ _ _ _ _ _ cQ (@aD _ _ _ _ _ _ _ ix_tup (pv 3) ag (fun _ _=>rfl)) (pv 5) (ay _))))) (@ai _ _ _ (@aV _ _ _ _ (@dq _ _ _ _ _ _ _ _ _ _ _ _ PySem.F.plainAttrs_list PySem.F.slot_list_append PySem.F.type_list_append bI (pv 8) (@aa _ _ _ _ _ (pv 6) ad rfl) rfl rfl rfl rfl rfl) rfl)) av) (@ai _ _ _ (@au _ _ _ _ (@aD _ _ _ _ _ _ _ ix_list (pv 8) (@ar _ _ _ _ _ _ _ _ _ _ DD (hr.mono (by decide)) rfl (@aa _ _ _ _ _ (pv 0) (@aa _ _ _ _ _ (@aJ _ _ _ _ _ _ _ _ _ bn rfl B.len PySem.boot_len (@aa _ _ _ _ _ (pv 8) ad rfl) (by decide) (by decide) rfl rfl) ad rfl) rfl) (by decide) rfl rfl) (fun _ _=>rfl)))))))))))))),?_⟩
 have z4:4096≤sizeLine:=by decide
 have hka:H ka=some (.tup [.int k.w,.int k.h,.int k.wo,.int k.wa,.bl k.tu]):=hka
 refine ao (fun σ' H'=>σ'=[some (.ref p),some (.ref sd),some (.int b),some (.ref ka),some (.int w1),some (.int h1),none,none,none]∧H=H') (fun R hR=>?_) ?_
 ·exact ⟨_,rfl,sd,_,rfl,.inl (SqL.of hsd),rfl,_,_,rfl,_,_,rfl,rfl,hR _ _ ⟨rfl,rfl⟩⟩
 rintro _ _ ⟨rfl,rfl⟩
 refine ao (fun σ' H'=>∃fi:Addr, σ'=[some (.ref p), some (.ref sd), some (.int b), some (.ref ka), some (.int w1), some (.int h1), some (.ref fi), none, none]∧H' fi=some (.tup [.str "piece", .int 0, .bl false, .int 0, .int 0])∧H' ka=some (.tup [.int k.w, .int k.h, .int k.wo, .int k.wa, .bl k.tu])∧PotB H' p∧But p H H') (fun R hR=>?_) ?_
 ·refine ⟨(by show 5≤sizeLine; decide),fun fi hfi=>?_⟩
  obtain ⟨H1,e1,k1,n1,s1,b1,pt1⟩:=fJ (o:=.tup [.str "piece",.int 0,.bl false,.int 0,.int 0]) (But.refl (p:=p) (H:=H)) pt hfi
  rw [show upd H fi _=H1 from e1]
  exact hR _ _ ⟨fi,rfl,k1,s1 _ _ hka,pt1,b1⟩
 rintro _ H1 ⟨fi,rfl,hfi,hka1,pt1,b1⟩
 have npt:∀ {c:Addr} {ys:List V},H1 c=some (.tup ys)→c≠p:=fun {c ys} e z=>by
  obtain ⟨_,_,_,_,_,hp⟩:=pt1
  rw [z,hp] at e; cases e
 refine ao (fun σ' H'=>∃fa:Int, σ'=[some (.ref p), some (.ref sd), some (.int b), some (.ref ka), some (.int w1), some (.int h1), some (.ref fi), some (.int fa), none]∧1≤fa∧H' fi=some (.tup [.str "piece", .int 0, .bl false, .int 0, .int 0])∧H' ka=some (.tup [.int k.w, .int k.h, .int k.wo, .int k.wa, .bl k.tu])∧PotB H' p∧But p H H') (fun R hR=>?_) ?_
 ·refine ⟨_,rfl,_,_,rfl,rfl,⟨by decide,by decide,by decide⟩,p,_,rfl,pt1,(by show (0:Int) < 10 ^ (59:Int).toNat; decide),(by show (10:Int) ^ (59:Int).toNat≤10 ^ 60; decide),fun r H2 r0 r1 pt2 b2=>⟨_,_,rfl,rfl,hR _ _ ⟨_,rfl,by omega,b2 _ _ (npt hfi) hfi,b2 _ _ (npt hka1) hka1,pt2,b1.trans b2⟩⟩⟩
 rintro _ H2 ⟨fa,rfl,fa1,hfi2,hka2,pt2,b2⟩
 refine ao (fun σ' H'=>∃ (so:Addr) (xs:List V), σ'=[some (.ref p), some (.ref sd), some (.int b), some (.ref ka), some (.int w1), some (.int h1), some (.ref fi), some (.int fa), some (.ref so)]∧so≠p∧H so=none∧H' so=some (.lst xs)∧(∀x∈xs, NtV b k w1 h1 H' x)∧xs.length=2∧H' fi=some (.tup [.str "piece", .int 0, .bl false, .int 0, .int 0])∧H' ka=some (.tup [.int k.w, .int k.h, .int k.wo, .int k.wa, .bl k.tu])∧PotB H' p∧But p H H') (fun R hR=>?_) ?_
 ·refine ⟨_,rfl,_,_,rfl,rfl,_,rfl,ka,_,0,_,rfl,rfl,SqT.of hka2,rfl,_,_,rfl,rfl,(by show 5≤sizeLine; decide),fun t21 ht21=>?_⟩
  obtain ⟨G21, e21, k21, s21⟩:∃H', upd H2 t21 (.tup [.str "piece", .int 0, .bl false, .int (w1 + 1 - k.w), .int 0])=H'∧H' t21=some (.tup [.str "piece", .int 0, .bl false, .int (w1 + 1 - k.w), .int 0])∧Same H2 H':=⟨_, rfl, ae, Same.new ht21⟩
  rw [show upd H2 t21 _=G21 from e21]
  refine ⟨_,rfl,_,_,rfl,rfl,_,rfl,ka,_,1,_,rfl,rfl,SqT.of (s21 _ _ (hka2)),rfl,_,_,rfl,rfl,(by show 5≤sizeLine; decide),fun t22 ht22=>?_⟩
  obtain ⟨G22, e22, k22, s22⟩:∃H', upd G21 t22 (.tup [.str "piece", .int 0, .bl false, .int 0, .int (h1 + 1 - k.h)])=H'∧H' t22=some (.tup [.str "piece", .int 0, .bl false, .int 0, .int (h1 + 1 - k.h)])∧Same G21 H':=⟨_, rfl, ae, Same.new ht22⟩
  rw [show upd G21 t22 _=G22 from e22]
  refine ⟨(by show 2≤sizeLine; decide),fun t23 ht23=>?_⟩
  obtain ⟨G23,e23,k23,s23⟩:∃H',upd G22 t23 (.lst [.ref t21,.ref t22])=H'∧H' t23=some (.lst [.ref t21,.ref t22])∧Same G22 H':=⟨_,rfl,ae,Same.new ht23⟩
  rw [show upd G22 t23 _=G23 from e23]
  have nso:t23≠p:=Ne.symm ((pt2.same ((s21).trans s22)).ne ht23)
  refine hR _ _ ⟨t23,_,rfl,nso,sT (fun c o nn e=>(s22 _ _ (s21 _ _ (b2 _ _ nn e)))) nso ht23,(k23),fun x hx=>?_,rfl,(s23 _ _ (s22 _ _ (s21 _ _ (hfi2)))),(s23 _ _ (s22 _ _ (s21 _ _ (hka2)))),pt2.same (((s21).trans s22).trans s23),fun c o nn e=>(s23 _ _ (s22 _ _ (s21 _ _ (b2 _ _ nn e))))⟩
  simp only [List.mem_cons,List.not_mem_nil,or_false] at hx
  rcases hx with rfl | rfl
  ·exact ⟨_,.tup (s23 _ _ (s22 _ _ (k21))) (.cons (.str _) (.cons (.int _) (.cons (.bl _) (.cons (.int _) (.cons (.int _) (.nil)))))),.far (.inl (by omega))⟩
  ·exact ⟨_,.tup (s23 _ _ (k22)) (.cons (.str _) (.cons (.int _) (.cons (.bl _) (.cons (.int _) (.cons (.int _) (.nil)))))),.far (.inr (.inl (by omega)))⟩
 rintro _ Hx ⟨so,xs,rfl,nso,son,hso,ntx,xl,hfi,hka,ptx,bx⟩
 refine ao (fun σ' H'=>∃ (so:Addr) (xs:List V), σ'=[some (.ref p), some (.ref sd), some (.int b), some (.ref ka), some (.int w1), some (.int h1), some (.ref fi), some (.int fa), some (.ref so)]∧so≠p∧H so=none∧H' so=some (.lst xs)∧(∀x∈xs, NtV b k w1 h1 H' x)∧xs.length=5∧H' fi=some (.tup [.str "piece", .int 0, .bl false, .int 0, .int 0])∧H' ka=some (.tup [.int k.w, .int k.h, .int k.wo, .int k.wa, .bl k.tu])∧PotB H' p∧But p H H') (fun R hR=>?_) ?_
 ·refine ⟨_,rfl,?_⟩
  refine ⟨(by show 5≤sizeLine; decide),fun t24 ht24=>?_⟩
  obtain ⟨G24, e24, k24, s24⟩:∃H', upd Hx t24 (.tup [.str "piece", .int 1, .bl false, .int 0, .int 0])=H'∧H' t24=some (.tup [.str "piece", .int 1, .bl false, .int 0, .int 0])∧Same Hx H':=⟨_, rfl, ae, Same.new ht24⟩
  rw [show upd Hx t24 _=G24 from e24]
  refine ⟨(by show 5≤sizeLine; decide),fun t25 ht25=>?_⟩
  obtain ⟨G25, e25, k25, s25⟩:∃H', upd G24 t25 (.tup [.str "piece", .int 0, .int 0, .int 0, .int 0])=H'∧H' t25=some (.tup [.str "piece", .int 0, .int 0, .int 0, .int 0])∧Same G24 H':=⟨_, rfl, ae, Same.new ht25⟩
  rw [show upd G24 t25 _=G25 from e25]
  refine ⟨_,rfl,fa,rfl,(by show 5≤sizeLine; decide),fun t26 ht26=>?_⟩
  obtain ⟨G26, e26, k26, s26⟩:∃H', upd G25 t26 (.tup [.str "piece", .int 0, .bl false, .int (-fa), .int 0])=H'∧H' t26=some (.tup [.str "piece", .int 0, .bl false, .int (-fa), .int 0])∧Same G25 H':=⟨_, rfl, ae, Same.new ht26⟩
  rw [show upd G25 t26 _=G26 from e26]
  refine ⟨(by show 3≤sizeLine; decide),fun t27 ht27=>?_⟩
  obtain ⟨G27,e27,k27,s27⟩:∃H',upd G26 t27 (.lst [.ref t24,.ref t25,.ref t26])=H'∧H' t27=some (.lst [.ref t24,.ref t25,.ref t26])∧Same G26 H':=⟨_,rfl,ae,Same.new ht27⟩
  rw [show upd G26 t27 _=G27 from e27]
  refine ⟨so,t27,_,_,rfl,rfl,(s27 _ _ (s26 _ _ (s25 _ _ (s24 _ _ (hso))))),(k27),(by rw [xl]; show 2 + 3≤sizeLine; decide),fun l2 hl2=>?_⟩
  obtain ⟨Gz,e19,k19,s19⟩:∃H',upd G27 l2 (.lst (xs ++ [.ref t24,.ref t25,.ref t26]))=H'∧H' l2=some (.lst (xs ++ [.ref t24,.ref t25,.ref t26]))∧Same G27 H':=⟨_,rfl,ae,Same.new hl2⟩
  rw [show upd G27 l2 _=Gz from e19]
  have nl2:l2≠p:=Ne.symm ((ptx.same ((((s24).trans s25).trans s26).trans s27)).ne hl2)
  refine hR _ _ ⟨l2,_,rfl,nl2,sT (fun c o nn e=>(s27 _ _ (s26 _ _ (s25 _ _ (s24 _ _ (bx _ _ nn e)))))) nl2 hl2,k19,fun x hx=>?_,by rw [List.length_append,xl]; rfl,s19 _ _ (s27 _ _ (s26 _ _ (s25 _ _ (s24 _ _ (hfi))))),s19 _ _ (s27 _ _ (s26 _ _ (s25 _ _ (s24 _ _ (hka))))),ptx.same (((((s24).trans s25).trans s26).trans s27).trans s19),fun c o nn e=>s19 _ _ (s27 _ _ (s26 _ _ (s25 _ _ (s24 _ _ (bx _ _ nn e)))))⟩
  rcases List.mem_append.mp hx with hx | hx
  ·exact (ntx x hx).keep fun c ys e=>(((((s24).trans s25).trans s26).trans s27).trans s19) _ _ e
  simp only [List.mem_cons,List.not_mem_nil,or_false] at hx
  rcases hx with rfl | rfl | rfl
  ·exact ⟨_,.tup (s19 _ _ (s27 _ _ (s26 _ _ (s25 _ _ (k24))))) (.cons (.str _) (.cons (.int _) (.cons (.bl _) (.cons (.int _) (.cons (.int _) (.nil)))))),.one⟩
  ·exact ⟨_,.tup (s19 _ _ (s27 _ _ (s26 _ _ (k25)))) (.cons (.str _) (.cons (.int _) (.cons (.int _) (.cons (.int _) (.cons (.int _) (.nil)))))),.zero⟩
  ·exact ⟨_,.tup (s19 _ _ (s27 _ _ (k26))) (.cons (.str _) (.cons (.int _) (.cons (.bl _) (.cons (.int _) (.cons (.int _) (.nil)))))),.far (.inr (.inr (.inl (by omega))))⟩
 rintro _ Hx ⟨so,xs,rfl,nso,son,hso,ntx,xl,hfi,hka,ptx,bx⟩
 refine ao (fun σ' H'=>∃ (so:Addr) (xs:List V), σ'=[some (.ref p), some (.ref sd), some (.int b), some (.ref ka), some (.int w1), some (.int h1), some (.ref fi), some (.int fa), some (.ref so)]∧so≠p∧H so=none∧H' so=some (.lst xs)∧(∀x∈xs, NtV b k w1 h1 H' x)∧xs.length=6∧H' fi=some (.tup [.str "piece", .int 0, .bl false, .int 0, .int 0])∧H' ka=some (.tup [.int k.w, .int k.h, .int k.wo, .int k.wa, .bl k.tu])∧PotB H' p∧But p H H') (fun R hR=>?_) ?_
 ·refine ⟨_,rfl,.inl ⟨rfl,_,SqL.of hso⟩,?_⟩
  refine ⟨(by show 4≤sizeLine; decide),fun t29 ht29=>?_⟩
  obtain ⟨G29, e29, k29, s29⟩:∃H', upd Hx t29 (.tup [.str "piece", .int 0, .bl false, .int 0])=H'∧H' t29=some (.tup [.str "piece", .int 0, .bl false, .int 0])∧Same Hx H':=⟨_, rfl, ae, Same.new ht29⟩
  rw [show upd Hx t29 _=G29 from e29]
  refine ⟨so,_,_,rfl,rfl,(s29 _ _ (hso)),(by rw [xl]; show 5 < sizeLine; decide),?_⟩
  obtain ⟨Gz,ez,kz,bz⟩:∃Hq,upd G29 so (.lst (xs ++ [.ref t29]))=Hq∧Hq so=some (.lst (xs ++ [.ref t29]))∧But so G29 Hq:=⟨_,rfl,ae,fun c o nn e=>by rw [am nn]; exact e⟩
  rw [show upd G29 so _=Gz from ez]
  have tk:∀c ys,G29 c=some (.tup ys)→Gz c=some (.tup ys):=fun c ys h=>bz _ _ (fun z=>by rw [z,(s29 _ _ (hso))] at h; cases h) h
  have bs:But p H Gz:=fun c o nn h=>bz _ _ (fun z=>by rw [z,son] at h; cases h) (s29 _ _ (bx _ _ nn h))
  refine hR _ _ ⟨so,_,rfl,nso,son,kz,fun x hx=>?_,by rw [List.length_append,xl]; rfl,tk _ _ (s29 _ _ (hfi)),tk _ _ (s29 _ _ (hka)),(by obtain ⟨x,y,q1,q2,q3,e⟩:=ptx.same (s29); exact ⟨x,y,q1,q2,q3,bz _ _ (Ne.symm nso) e⟩),bs⟩
  rcases List.mem_append.mp hx with hx | hx
  ·exact (ntx x hx).keep fun c ys h=>tk _ _ (s29 _ _ (h))
  ·rw [List.mem_singleton.mp hx]
   exact ⟨_,Td.keep tk (.tup (k29) (.cons (.str _) (.cons (.int _) (.cons (.bl _) (.cons (.int _) (.nil)))))),.few⟩
 rintro _ Hx ⟨so,xs,rfl,nso,son,hso,ntx,xl,hfi,hka,ptx,bx⟩
 refine ao (fun σ' H'=>∃ (so:Addr) (xs:List V), σ'=[some (.ref p), some (.ref sd), some (.int b), some (.ref ka), some (.int w1), some (.int h1), some (.ref fi), some (.int fa), some (.ref so)]∧so≠p∧H so=none∧H' so=some (.lst xs)∧(∀x∈xs, NtV b k w1 h1 H' x)∧xs.length=12∧H' fi=some (.tup [.str "piece", .int 0, .bl false, .int 0, .int 0])∧H' ka=some (.tup [.int k.w, .int k.h, .int k.wo, .int k.wa, .bl k.tu])∧PotB H' p∧But p H H') (fun R hR=>?_) ?_
 ·refine ⟨_,rfl,?_⟩
  refine ⟨(by show 2≤sizeLine; decide),fun t30 ht30=>?_⟩
  obtain ⟨G30, e30, k30, s30⟩:∃H', upd Hx t30 (.tup [.str "rest", .int 0])=H'∧H' t30=some (.tup [.str "rest", .int 0])∧Same Hx H':=⟨_, rfl, ae, Same.new ht30⟩
  rw [show upd Hx t30 _=G30 from e30]
  refine ⟨(by show 0≤sizeLine; decide),fun t31 ht31=>?_⟩
  obtain ⟨G31,e31,k31,s31⟩:∃H',upd G30 t31 (.tup [])=H'∧H' t31=some (.tup [])∧Same G30 H':=⟨_,rfl,ae,Same.new ht31⟩
  rw [show upd G30 t31 _=G31 from e31]
  refine ⟨_,rfl,_,rfl,_,_,rfl,rfl,(by show 1≤sizeLine; decide),fun t32 ht32=>?_⟩
  obtain ⟨G32, e32, k32, s32⟩:∃H', upd G31 t32 (.tup [.str "rest"])=H'∧H' t32=some (.tup [.str "rest"])∧Same G31 H':=⟨_, rfl, ae, Same.new ht32⟩
  rw [show upd G31 t32 _=G32 from e32]
  refine ⟨(by show 1≤sizeLine; decide),fun t33 ht33=>?_⟩
  obtain ⟨G33, e33, k33, s33⟩:∃H', upd G32 t33 (.tup [.str "rest"])=H'∧H' t33=some (.tup [.str "rest"])∧Same G32 H':=⟨_, rfl, ae, Same.new ht33⟩
  rw [show upd G32 t33 _=G33 from e33]
  refine ⟨(by show 4≤sizeLine; decide),fun t34 ht34=>?_⟩
  obtain ⟨G34, e34, k34, s34⟩:∃H', upd G33 t34 (.tup [.str "down", .int (w1 - b), .ref t32, .ref t33])=H'∧H' t34=some (.tup [.str "down", .int (w1 - b), .ref t32, .ref t33])∧Same G33 H':=⟨_, rfl, ae, Same.new ht34⟩
  rw [show upd G33 t34 _=G34 from e34]
  refine ⟨_,rfl,(by show 1≤sizeLine; decide),fun t35 ht35=>?_⟩
  obtain ⟨G35,e35,k35,s35⟩:∃H',upd G34 t35 (.tup [.int 0])=H'∧H' t35=some (.tup [.int 0])∧Same G34 H':=⟨_,rfl,ae,Same.new ht35⟩
  rw [show upd G34 t35 _=G35 from e35]
  refine ⟨fi,t35,_,_,rfl,rfl,SqT.of (s35 _ _ (s34 _ _ (s33 _ _ (s32 _ _ (s31 _ _ (s30 _ _ (hfi))))))),SqT.of (k35),List.cons_ne_nil _ _,(by show 6≤sizeLine; decide),(fun z=>by cases z),fun _ t36 ht36=>?_⟩
  obtain ⟨G36, e36, k36, s36⟩:∃H', upd G35 t36 (.tup ([.str "piece", .int 0, .bl false, .int 0, .int 0] ++ [.int 0]))=H'∧H' t36=some (.tup ([.str "piece", .int 0, .bl false, .int 0, .int 0] ++ [.int 0]))∧Same G35 H':=⟨_, rfl, ae, Same.new ht36⟩
  rw [show upd G35 t36 _=G36 from e36]
  refine ⟨(by show 6≤sizeLine; decide),fun t37 ht37=>?_⟩
  obtain ⟨G37, e37, k37, s37⟩:∃H', upd G36 t37 (.lst [.ref t30, .str "rest", .non, .ref t31, .ref t34, .ref t36])=H'∧H' t37=some (.lst [.ref t30, .str "rest", .non, .ref t31, .ref t34, .ref t36])∧Same G36 H':=⟨_, rfl, ae, Same.new ht37⟩
  rw [show upd G36 t37 _=G37 from e37]
  refine ⟨so,t37,_,_,rfl,rfl,(s37 _ _ (s36 _ _ (s35 _ _ (s34 _ _ (s33 _ _ (s32 _ _ (s31 _ _ (s30 _ _ (hso))))))))),(k37),(by rw [xl]; show 6 + 6≤sizeLine; decide),fun l2 hl2=>?_⟩
  obtain ⟨Gz, e19, k19, s19⟩:∃H', upd G37 l2 (.lst (xs ++ [.ref t30, .str "rest", .non, .ref t31, .ref t34, .ref t36]))=H'∧H' l2=some (.lst (xs ++ [.ref t30, .str "rest", .non, .ref t31, .ref t34, .ref t36]))∧Same G37 H':=⟨_, rfl, ae, Same.new hl2⟩
  rw [show upd G37 l2 _=Gz from e19]
  have nl2:l2≠p:=Ne.symm ((ptx.same ((((((((s30).trans s31).trans s32).trans s33).trans s34).trans s35).trans s36).trans s37)).ne hl2)
  refine hR _ _ ⟨l2,_,rfl,nl2,sT (fun c o nn e=>(s37 _ _ (s36 _ _ (s35 _ _ (s34 _ _ (s33 _ _ (s32 _ _ (s31 _ _ (s30 _ _ (bx _ _ nn e)))))))))) nl2 hl2,k19,fun x hx=>?_,by rw [List.length_append,xl]; rfl,s19 _ _ (s37 _ _ (s36 _ _ (s35 _ _ (s34 _ _ (s33 _ _ (s32 _ _ (s31 _ _ (s30 _ _ (hfi))))))))),s19 _ _ (s37 _ _ (s36 _ _ (s35 _ _ (s34 _ _ (s33 _ _ (s32 _ _ (s31 _ _ (s30 _ _ (hka))))))))),ptx.same (((((((((s30).trans s31).trans s32).trans s33).trans s34).trans s35).trans s36).trans s37).trans s19),fun c o nn e=>s19 _ _ (s37 _ _ (s36 _ _ (s35 _ _ (s34 _ _ (s33 _ _ (s32 _ _ (s31 _ _ (s30 _ _ (bx _ _ nn e)))))))))⟩
  rcases List.mem_append.mp hx with hx | hx
  ·exact (ntx x hx).keep fun c ys e=>(((((((((s30).trans s31).trans s32).trans s33).trans s34).trans s35).trans s36).trans s37).trans s19) _ _ e
  simp only [List.mem_cons,List.not_mem_nil,or_false] at hx
  rcases hx with rfl | rfl | rfl | rfl | rfl | rfl
  ·exact ⟨_,.tup (s19 _ _ (s37 _ _ (s36 _ _ (s35 _ _ (s34 _ _ (s33 _ _ (s32 _ _ (s31 _ _ (k30))))))))) (.cons (.str _) (.cons (.int _) (.nil))),.rest2⟩
  ·exact ⟨_,.str _,.str⟩
  ·exact ⟨_,.non,.non⟩
  ·exact ⟨_,.tup (s19 _ _ (s37 _ _ (s36 _ _ (s35 _ _ (s34 _ _ (s33 _ _ (s32 _ _ (k31)))))))) (.nil),.emp⟩
  ·exact ⟨_,.tup (s19 _ _ (s37 _ _ (s36 _ _ (s35 _ _ (k34))))) (.cons (.str _) (.cons (.int _) (.cons (.tup (s19 _ _ (s37 _ _ (s36 _ _ (s35 _ _ (s34 _ _ (s33 _ _ (k32))))))) (.cons (.str _) .nil)) (.cons (.tup (s19 _ _ (s37 _ _ (s36 _ _ (s35 _ _ (s34 _ _ (k33)))))) (.cons (.str _) .nil)) (.nil))))),.down (.inr (by omega))⟩
  ·exact ⟨_,.tup (s19 _ _ (s37 _ _ (k36))) (.cons (.str _) (.cons (.int _) (.cons (.bl _) (.cons (.int _) (.cons (.int _) (.cons (.int _) (.nil))))))),.more⟩
 rintro _ Hx ⟨so,xs,rfl,nso,son,hso,ntx,xl,hfi,hka,ptx,bx⟩
 refine ao (fun σ' H'=>∃ (so:Addr) (xs:List V), σ'=[some (.ref p), some (.ref sd), some (.int b), some (.ref ka), some (.int w1), some (.int h1), some (.ref fi), some (.int fa), some (.ref so)]∧so≠p∧H so=none∧H' so=some (.lst xs)∧(∀x∈xs, NtV b k w1 h1 H' x)∧xs.length=15∧H' fi=some (.tup [.str "piece", .int 0, .bl false, .int 0, .int 0])∧H' ka=some (.tup [.int k.w, .int k.h, .int k.wo, .int k.wa, .bl k.tu])∧PotB H' p∧But p H H') (fun R hR=>?_) ?_
 ·refine ⟨_,rfl,?_⟩
  refine ⟨(by show 1≤sizeLine; decide),fun t39 ht39=>?_⟩
  obtain ⟨G39, e39, k39, s39⟩:∃H', upd Hx t39 (.tup [.str "rest"])=H'∧H' t39=some (.tup [.str "rest"])∧Same Hx H':=⟨_, rfl, ae, Same.new ht39⟩
  rw [show upd Hx t39 _=G39 from e39]
  refine ⟨(by show 1≤sizeLine; decide),fun t40 ht40=>?_⟩
  obtain ⟨G40, e40, k40, s40⟩:∃H', upd G39 t40 (.tup [.str "rest"])=H'∧H' t40=some (.tup [.str "rest"])∧Same G39 H':=⟨_, rfl, ae, Same.new ht40⟩
  rw [show upd G39 t40 _=G40 from e40]
  refine ⟨(by show 4≤sizeLine; decide),fun t41 ht41=>?_⟩
  obtain ⟨G41, e41, k41, s41⟩:∃H', upd G40 t41 (.tup [.str "across", .int 0, .ref t39, .ref t40])=H'∧H' t41=some (.tup [.str "across", .int 0, .ref t39, .ref t40])∧Same G40 H':=⟨_, rfl, ae, Same.new ht41⟩
  rw [show upd G40 t41 _=G41 from e41]
  refine ⟨(by show 1≤sizeLine; decide),fun t42 ht42=>?_⟩
  obtain ⟨G42, e42, k42, s42⟩:∃H', upd G41 t42 (.tup [.str "rest"])=H'∧H' t42=some (.tup [.str "rest"])∧Same G41 H':=⟨_, rfl, ae, Same.new ht42⟩
  rw [show upd G41 t42 _=G42 from e42]
  refine ⟨(by show 1≤sizeLine; decide),fun t43 ht43=>?_⟩
  obtain ⟨G43, e43, k43, s43⟩:∃H', upd G42 t43 (.tup [.str "rest"])=H'∧H' t43=some (.tup [.str "rest"])∧Same G42 H':=⟨_, rfl, ae, Same.new ht43⟩
  rw [show upd G42 t43 _=G43 from e43]
  refine ⟨(by show 4≤sizeLine; decide),fun t44 ht44=>?_⟩
  obtain ⟨G44, e44, k44, s44⟩:∃H', upd G43 t44 (.tup [.str "down", .bl true, .ref t42, .ref t43])=H'∧H' t44=some (.tup [.str "down", .bl true, .ref t42, .ref t43])∧Same G43 H':=⟨_, rfl, ae, Same.new ht44⟩
  rw [show upd G43 t44 _=G44 from e44]
  refine ⟨(by show 1≤sizeLine; decide),fun t45 ht45=>?_⟩
  obtain ⟨G45, e45, k45, s45⟩:∃H', upd G44 t45 (.tup [.str "rest"])=H'∧H' t45=some (.tup [.str "rest"])∧Same G44 H':=⟨_, rfl, ae, Same.new ht45⟩
  rw [show upd G44 t45 _=G45 from e45]
  refine ⟨(by show 3≤sizeLine; decide),fun t46 ht46=>?_⟩
  obtain ⟨G46, e46, k46, s46⟩:∃H', upd G45 t46 (.tup [.str "up", .int 1, .ref t45])=H'∧H' t46=some (.tup [.str "up", .int 1, .ref t45])∧Same G45 H':=⟨_, rfl, ae, Same.new ht46⟩
  rw [show upd G45 t46 _=G46 from e46]
  refine ⟨(by show 3≤sizeLine; decide),fun t47 ht47=>?_⟩
  obtain ⟨G47,e47,k47,s47⟩:∃H',upd G46 t47 (.lst [.ref t41,.ref t44,.ref t46])=H'∧H' t47=some (.lst [.ref t41,.ref t44,.ref t46])∧Same G46 H':=⟨_,rfl,ae,Same.new ht47⟩
  rw [show upd G46 t47 _=G47 from e47]
  refine ⟨so,t47,_,_,rfl,rfl,(s47 _ _ (s46 _ _ (s45 _ _ (s44 _ _ (s43 _ _ (s42 _ _ (s41 _ _ (s40 _ _ (s39 _ _ (hso)))))))))),(k47),(by rw [xl]; show 12 + 3≤sizeLine; decide),fun l2 hl2=>?_⟩
  obtain ⟨Gz,e19,k19,s19⟩:∃H',upd G47 l2 (.lst (xs ++ [.ref t41,.ref t44,.ref t46]))=H'∧H' l2=some (.lst (xs ++ [.ref t41,.ref t44,.ref t46]))∧Same G47 H':=⟨_,rfl,ae,Same.new hl2⟩
  rw [show upd G47 l2 _=Gz from e19]
  have nl2:l2≠p:=Ne.symm ((ptx.same (((((((((s39).trans s40).trans s41).trans s42).trans s43).trans s44).trans s45).trans s46).trans s47)).ne hl2)
  refine hR _ _ ⟨l2,_,rfl,nl2,sT (fun c o nn e=>(s47 _ _ (s46 _ _ (s45 _ _ (s44 _ _ (s43 _ _ (s42 _ _ (s41 _ _ (s40 _ _ (s39 _ _ (bx _ _ nn e))))))))))) nl2 hl2,k19,fun x hx=>?_,by rw [List.length_append,xl]; rfl,s19 _ _ (s47 _ _ (s46 _ _ (s45 _ _ (s44 _ _ (s43 _ _ (s42 _ _ (s41 _ _ (s40 _ _ (s39 _ _ (hfi)))))))))),s19 _ _ (s47 _ _ (s46 _ _ (s45 _ _ (s44 _ _ (s43 _ _ (s42 _ _ (s41 _ _ (s40 _ _ (s39 _ _ (hka)))))))))),ptx.same ((((((((((s39).trans s40).trans s41).trans s42).trans s43).trans s44).trans s45).trans s46).trans s47).trans s19),fun c o nn e=>s19 _ _ (s47 _ _ (s46 _ _ (s45 _ _ (s44 _ _ (s43 _ _ (s42 _ _ (s41 _ _ (s40 _ _ (s39 _ _ (bx _ _ nn e))))))))))⟩
  rcases List.mem_append.mp hx with hx | hx
  ·exact (ntx x hx).keep fun c ys e=>((((((((((s39).trans s40).trans s41).trans s42).trans s43).trans s44).trans s45).trans s46).trans s47).trans s19) _ _ e
  simp only [List.mem_cons,List.not_mem_nil,or_false] at hx
  rcases hx with rfl | rfl | rfl
  ·exact ⟨_,.tup (s19 _ _ (s47 _ _ (s46 _ _ (s45 _ _ (s44 _ _ (s43 _ _ (s42 _ _ (k41)))))))) (.cons (.str _) (.cons (.int _) (.cons (.tup (s19 _ _ (s47 _ _ (s46 _ _ (s45 _ _ (s44 _ _ (s43 _ _ (s42 _ _ (s41 _ _ (s40 _ _ (k39)))))))))) (.cons (.str _) .nil)) (.cons (.tup (s19 _ _ (s47 _ _ (s46 _ _ (s45 _ _ (s44 _ _ (s43 _ _ (s42 _ _ (s41 _ _ (k40))))))))) (.cons (.str _) .nil)) (.nil))))),.across (.inl (by decide))⟩
  ·exact ⟨_,.tup (s19 _ _ (s47 _ _ (s46 _ _ (s45 _ _ (k44))))) (.cons (.str _) (.cons (.bl _) (.cons (.tup (s19 _ _ (s47 _ _ (s46 _ _ (s45 _ _ (s44 _ _ (s43 _ _ (k42))))))) (.cons (.str _) .nil)) (.cons (.tup (s19 _ _ (s47 _ _ (s46 _ _ (s45 _ _ (s44 _ _ (k43)))))) (.cons (.str _) .nil)) (.nil))))),.downT⟩
  ·exact ⟨_,.tup (s19 _ _ (s47 _ _ (k46))) (.cons (.str _) (.cons (.int _) (.cons (.tup (s19 _ _ (s47 _ _ (s46 _ _ (k45)))) (.cons (.str _) .nil)) (.nil)))),.up⟩
 rintro _ Hx ⟨so,xs,rfl,nso,son,hso,ntx,xl,hfi,hka,ptx,bx⟩
 refine ao (fun σ' H'=>∃ (so:Addr) (xs:List V), σ'=[some (.ref p), some (.ref sd), some (.int b), some (.ref ka), some (.int w1), some (.int h1), some (.ref fi), some (.int fa), some (.ref so)]∧so≠p∧H so=none∧H' so=some (.lst xs)∧(∀x∈xs, NtV b k w1 h1 H' x)∧xs.length=16∧H' fi=some (.tup [.str "piece", .int 0, .bl false, .int 0, .int 0])∧H' ka=some (.tup [.int k.w, .int k.h, .int k.wo, .int k.wa, .bl k.tu])∧PotB H' p∧But p H H') (fun R hR=>?_) ?_
 ·refine ⟨_,rfl,.inl ⟨rfl,_,SqL.of hso⟩,?_⟩
  refine ⟨_,rfl,_,rfl,_,_,rfl,rfl,_,rfl,_,_,rfl,rfl,(by show 1≤sizeLine; decide),fun t49 ht49=>?_⟩
  obtain ⟨G49, e49, k49, s49⟩:∃H', upd Hx t49 (.tup [.str "rest"])=H'∧H' t49=some (.tup [.str "rest"])∧Same Hx H':=⟨_, rfl, ae, Same.new ht49⟩
  rw [show upd Hx t49 _=G49 from e49]
  refine ⟨(by show 1≤sizeLine; decide),fun t50 ht50=>?_⟩
  obtain ⟨G50, e50, k50, s50⟩:∃H', upd G49 t50 (.tup [.str "rest"])=H'∧H' t50=some (.tup [.str "rest"])∧Same G49 H':=⟨_, rfl, ae, Same.new ht50⟩
  rw [show upd G49 t50 _=G50 from e50]
  refine ⟨(by show 4≤sizeLine; decide),fun t51 ht51=>?_⟩
  obtain ⟨G51, e51, k51, s51⟩:∃H', upd G50 t51 (.tup [.str "across", .int (h1 - b + fa), .ref t49, .ref t50])=H'∧H' t51=some (.tup [.str "across", .int (h1 - b + fa), .ref t49, .ref t50])∧Same G50 H':=⟨_, rfl, ae, Same.new ht51⟩
  rw [show upd G50 t51 _=G51 from e51]
  refine ⟨so,_,_,rfl,rfl,(s51 _ _ (s50 _ _ (s49 _ _ (hso)))),(by rw [xl]; show 15 < sizeLine; decide),?_⟩
  obtain ⟨Gz,ez,kz,bz⟩:∃Hq,upd G51 so (.lst (xs ++ [.ref t51]))=Hq∧Hq so=some (.lst (xs ++ [.ref t51]))∧But so G51 Hq:=⟨_,rfl,ae,fun c o nn e=>by rw [am nn]; exact e⟩
  rw [show upd G51 so _=Gz from ez]
  have tk:∀c ys,G51 c=some (.tup ys)→Gz c=some (.tup ys):=fun c ys h=>bz _ _ (fun z=>by rw [z,(s51 _ _ (s50 _ _ (s49 _ _ (hso))))] at h; cases h) h
  have bs:But p H Gz:=fun c o nn h=>bz _ _ (fun z=>by rw [z,son] at h; cases h) (s51 _ _ (s50 _ _ (s49 _ _ (bx _ _ nn h))))
  refine hR _ _ ⟨so,_,rfl,nso,son,kz,fun x hx=>?_,by rw [List.length_append,xl]; rfl,tk _ _ (s51 _ _ (s50 _ _ (s49 _ _ (hfi)))),tk _ _ (s51 _ _ (s50 _ _ (s49 _ _ (hka)))),(by obtain ⟨x,y,q1,q2,q3,e⟩:=ptx.same (((s49).trans s50).trans s51); exact ⟨x,y,q1,q2,q3,bz _ _ (Ne.symm nso) e⟩),bs⟩
  rcases List.mem_append.mp hx with hx | hx
  ·exact (ntx x hx).keep fun c ys h=>tk _ _ (s51 _ _ (s50 _ _ (s49 _ _ (h))))
  ·rw [List.mem_singleton.mp hx]
   exact ⟨_,Td.keep tk (.tup (k51) (.cons (.str _) (.cons (.int _) (.cons (.tup (s51 _ _ (s50 _ _ (k49))) (.cons (.str _) .nil)) (.cons (.tup (s51 _ _ (k50)) (.cons (.str _) .nil)) (.nil)))))),.across (.inr (by omega))⟩
 rintro _ Hx ⟨so,xs,rfl,nso,son,hso,ntx,xl,hfi,hka,ptx,bx⟩
 refine ao (fun σ' H'=>∃ (so:Addr) (xs:List V), σ'=[some (.ref p), some (.ref sd), some (.int b), some (.ref ka), some (.int w1), some (.int h1), some (.ref fi), some (.int fa), some (.ref so)]∧so≠p∧H so=none∧H' so=some (.lst xs)∧(∀x∈xs, NtV b k w1 h1 H' x)∧(xs.length=16∨xs.length=17)∧H' fi=some (.tup [.str "piece", .int 0, .bl false, .int 0, .int 0])∧H' ka=some (.tup [.int k.w, .int k.h, .int k.wo, .int k.wa, .bl k.tu])∧PotB H' p∧But p H H') (fun R hR=>?_) ?_
 ·refine ⟨_,rfl,ka,_,0,_,rfl,rfl,SqT.of hka,rfl,_,rfl,_,_,rfl,rfl,_,rfl,?_⟩
  by_cases c1:w1 < k.w
  ·rw [show decide (w1 < k.w)=true from decide_eq_true c1]
   refine aT (aT ?_)
   refine ⟨_,rfl,.inl ⟨rfl,_,SqL.of hso⟩,_,rfl,?_⟩
   refine ⟨so,_,_,rfl,rfl,(hso),(by rw [xl]; show 16 < sizeLine; decide),?_⟩
   obtain ⟨Gz,ez,kz,bz⟩:∃Hq,upd Hx so (.lst (xs ++ [.ref fi]))=Hq∧Hq so=some (.lst (xs ++ [.ref fi]))∧But so Hx Hq:=⟨_,rfl,ae,fun c o nn e=>by rw [am nn]; exact e⟩
   rw [show upd Hx so _=Gz from ez]
   have tk:∀c ys,Hx c=some (.tup ys)→Gz c=some (.tup ys):=fun c ys h=>bz _ _ (fun z=>by rw [z,(hso)] at h; cases h) h
   have bs:But p H Gz:=fun c o nn h=>bz _ _ (fun z=>by rw [z,son] at h; cases h) (bx _ _ nn h)
   refine hR _ _ ⟨so,_,rfl,nso,son,kz,fun x hx=>?_,.inr (by rw [List.length_append,xl]; rfl),tk _ _ (hfi),tk _ _ (hka),(by obtain ⟨x,y,q1,q2,q3,e⟩:=ptx; exact ⟨x,y,q1,q2,q3,bz _ _ (Ne.symm nso) e⟩),bs⟩
   rcases List.mem_append.mp hx with hx | hx
   ·exact (ntx x hx).keep fun c ys h=>tk _ _ (h)
   ·rw [List.mem_singleton.mp hx]
    exact ⟨_,Td.keep tk (.tup hfi (.cons (.str _) (.cons (.int _) (.cons (.bl _) (.cons (.int _) (.cons (.int _) (.nil))))))),.far (.inl (by omega))⟩
  ·rw [show decide (w1 < k.w)=false from decide_eq_false c1]
   refine aI ⟨_,rfl,ka,_,1,_,rfl,rfl,SqT.of hka,rfl,_,rfl,_,_,rfl,rfl,_,rfl,?_⟩
   by_cases c2:h1 < k.h
   ·rw [show decide (h1 < k.h)=true from decide_eq_true c2]
    refine aT ?_
    refine ⟨_,rfl,.inl ⟨rfl,_,SqL.of hso⟩,_,rfl,?_⟩
    refine ⟨so,_,_,rfl,rfl,(hso),(by rw [xl]; show 16 < sizeLine; decide),?_⟩
    obtain ⟨Gz,ez,kz,bz⟩:∃Hq,upd Hx so (.lst (xs ++ [.ref fi]))=Hq∧Hq so=some (.lst (xs ++ [.ref fi]))∧But so Hx Hq:=⟨_,rfl,ae,fun c o nn e=>by rw [am nn]; exact e⟩
    rw [show upd Hx so _=Gz from ez]
    have tk:∀c ys,Hx c=some (.tup ys)→Gz c=some (.tup ys):=fun c ys h=>bz _ _ (fun z=>by rw [z,(hso)] at h; cases h) h
    have bs:But p H Gz:=fun c o nn h=>bz _ _ (fun z=>by rw [z,son] at h; cases h) (bx _ _ nn h)
    refine hR _ _ ⟨so,_,rfl,nso,son,kz,fun x hx=>?_,.inr (by rw [List.length_append,xl]; rfl),tk _ _ (hfi),tk _ _ (hka),(by obtain ⟨x,y,q1,q2,q3,e⟩:=ptx; exact ⟨x,y,q1,q2,q3,bz _ _ (Ne.symm nso) e⟩),bs⟩
    rcases List.mem_append.mp hx with hx | hx
    ·exact (ntx x hx).keep fun c ys h=>tk _ _ (h)
    ·rw [List.mem_singleton.mp hx]
     exact ⟨_,Td.keep tk (.tup hfi (.cons (.str _) (.cons (.int _) (.cons (.bl _) (.cons (.int _) (.cons (.int _) (.nil))))))),.far (.inr (.inl (by omega)))⟩
   ·rw [show decide (h1 < k.h)=false from decide_eq_false c2]
    exact aI (hR _ _ ⟨so,xs,rfl,nso,son,hso,ntx,.inl xl,hfi,hka,ptx,bx⟩)
 rintro _ Hx ⟨so,xs,rfl,nso,son,hso,ntx,xl,hfi,hka,ptx,bx⟩
 refine ⟨_,rfl,_,rfl,_,rfl,so,_,rfl,.inl (SqL.of hso),p,_,rfl,ptx,by omega,(Int.le_trans (show (xs.length:Int)≤17 by omega) (by decide)),fun z H3 z0 z1 pt3 b3=>?_⟩
 have zi:z.toNat < xs.length:=by omega
 have hat:atI xs z=some xs[z.toNat]:=bh z0 (List.getElem?_eq_getElem zi)
 refine ⟨so,_,_,_,rfl,rfl,SqL.of (b3 _ _ nso hso),hat,q _ H3 ((ntx _ (List.getElem_mem zi)).keep fun c ys e=>b3 _ _ (fun z=>?_) e) pt3 (bx.trans b3)⟩
 obtain ⟨_,_,_,_,_,hp⟩:=ptx
 rw [z,hp] at e; cases e
end
theorem rc {H H':Hp} {a:Addr} {u:HO} (h:Rd H a u) (s:Same H H'):Rd H' a u:=h.imp (s _ _) fun ⟨o,e⟩=>⟨o,s _ _ e⟩
theorem rd {ns:List Int} {lo hi:Option Int} {x:V} {c0:Int} (h:x∈gx (ns.map V.int) lo hi ++ [.int c0]):∃c,x=.int c:=by
 rcases List.mem_append.mp h with h | h
 ·unfold gx at h
  obtain ⟨c,_,e⟩:=List.mem_map.mp (List.mem_of_mem_drop (List.mem_of_mem_take h))
  exact ⟨c,e.symm⟩
 ·exact ⟨c0,List.mem_singleton.mp h⟩
theorem Thg.ty {K:PySem.W.Frag} {p:Addr} {H:Hp} {x:V} (h:Thg p H x):∃T,Ty K H x T:=by
 rcases h with h | ⟨a,rfl,_,⟨xs,h⟩ | ⟨xs,h⟩ | ⟨xs,h⟩⟩
 ·exact (TyS.flat (K:=K) (S:=fun _=>True) (H:=H) h).2
 ·exact ⟨_,Ty.lst h⟩
 ·exact ⟨_,Ty.tup h⟩
 ·exact ⟨_,Ty.dK h⟩
theorem Thg.same {p:Addr} {H H':Hp} {x:V} (s:Same H H') (h:Thg p H x):Thg p H' x:=h.but (Pc.Same.but s)
def dP (n:Int):PyData:=.list [.bool true,.bool (decide (V.int 0=V.int n)),.bool (decide (V.int 1=V.int n)),.bool (decide (V.int 2=V.int n)),.bool (decide (V.int 3=V.int n)),.bool false,.bool false]
theorem bO {K:PySem.W.Frag} {H:Hp} {l:Addr} {n:Int} (h:H l=some (.lst (fO n))):DatV K H (.ref l) (dP n):=.lst (SqL.of h) (.cons (.bl _) (.cons (.bl _) (.cons (.bl _) (.cons (.bl _) (.cons (.bl _) (.cons (.bl _) (.cons (.bl _) .nil)))))))
theorem cr (n:Int):SeqAt.shaped (dP n)=true:=rfl
theorem fQ (n:Int):(!PyData.eqv (dP n) (dP n))=false:=by
 rw [PySem.SeqAt.eqv_refl _ (show PyData.canLay0 (dP n)=true from rfl)]; rfl
theorem vb (b:Int) (ks:List Kd) (p:Int×Int) (k:Nat):dpt (tR b ks p k)≤33:=by
 unfold tR
 split <;> exact kX _ _ _ _ _ _
theorem gX {t:Tr} (h:dpt t≤60) (x:Int):SeqAt.shaped (.tuple [.int x,toD t])=true:=by
 unfold SeqAt.shaped
 rw [show PyData.canLay0 (.tuple [.int x,toD t])=true by
  show (true && (PyData.canLay0 (toD t) && true))=true
  rw [gj]; rfl]
 rw [decide_eq_true (by
  have:=fL t
  show PyData.depthAll [.int x,toD t] + 1≤_
  simp only [PyData.depthAll,PyData.depth]
  omega)]; rfl
section
variable {P:Program} {w:World} {K:PySem.W.Frag} {mg:Str→Option Value} {base:Heap}
def mZ (K:PySem.W.Frag):Sp:=fun vs H Q _=>∃ (a:Addr) (ns:List Int),vs=[.ref a]∧SqL K H a (ns.map V.int)∧ns.length≤63∧∀H',Q (.bl true) H'
theorem sclaw:FnScope ["_law_script","_law_pot_here","_law_blade","_law_kind","_law_shop","_law_good","_law_first","_law_cell","_law_at","_law_turns","_law_tree","_law_which","_law_bad","_law_sides"] ["_law_script"] (defScope jH):=⟨rfl,rfl,rfl,by decide +kernel,rfl,by decide +kernel,by decide +kernel⟩
theorem vc {f C:Addr} {fd:FuncData} (F:Fun K "law" "law" jH f fd) (B:Blt mg) (DP:Dn P w K mg base "_law_pot" ["_law_cell"] 1 (kM)) (DD:Dn P w K mg base "_law_draw" ["_law_pot_here","_law_many"] 1 (dh)) (DG:Dn P w K mg base "_law_great" ["_law_pot_here","_law_many"] 2 (cY)) (DBy:Dn P w K mg base "best_by_turns" ["shop","wide","high","k"] 35 (jR C)) (DNS:Dn P w K mg base "_law_no_side" ["_law_pot_here"] 3 (gT)) (DNT:Dn P w K mg base "_law_no_turns" ["_law_pot_here"] 3 (fP)) (DTr:Dn P w K mg base "_law_no_tree" ["_law_pot_here","_law_sides","_law_blade","_law_kind"] 3 (gW)) (DTo:Dn P w K mg base "_law_told" ["_law_way","_law_shop","_law_sides","_law_thing"] 36 (ji K C)) (DDu:Dn P w K mg base "_law_due" ["_law_which"] 1 (lh)) (DSh:Kn P w K mg base "Shop" C ["self","blade","kinds"] 3 (kH C)):FnOk P w K mg base CX0 37 f fd ["_law_script"] (mZ K):=by
 refine F.ok sclaw (fun vs H Q E h=>?_) (fun cdv A outer s H vs Q E hr h=>?_)
 ·obtain ⟨a,ns,rfl,_⟩:=h
  rfl
 obtain ⟨a,ns,rfl,hS,n63,q⟩:=h
 have nd:=sclaw.nd
 have hu:=hr.units
 refine ⟨_,(@af _ _ _ _ _ (@aw _ _ 1 _ _ _ _ nd rfl (Or.inl rfl) (@ar _ _ _ _ _ _ _ _ _ _ DP (hr.mono (by decide)) rfl (@aa _ _ _ _ _ (@aD _ _ _ _ _ _ _ ix_list (@az _ _ _ _ _ _ _ _ sj (pv 0) (@aH _ _ _ _ (@aa _ _ _ _ _ ag ad rfl))) ag (fun _ _=>rfl)) ad rfl) (by decide) rfl rfl) rfl (Or.inl rfl)) (@af _ _ _ _ _ (@aw _ _ 2 _ _ _ _ nd rfl (Or.inl rfl) (@ar _ _ _ _ _ _ _ _ _ _ DD (hr.mono (by decide)) rfl (@aa _ _ _ _ _ (pv 1) (@aa _ _ _ _ _ ag ad rfl) rfl) (by decide) rfl rfl) rfl (Or.inl rfl)) (@af _ _ _ _ _ (@aw _ _ 3 _ _ _ _ nd rfl (Or.inl rfl) (@aq _ _ _ _ _ (@aa _ _ _ _ _ (@az _ _ _ _ _ _ _ _ aW ag (@ar _ _ _ _ _ _ _ _ _ _ DD (hr.mono (by decide)) rfl (@aa _ _ _ _ _ (pv 1) (@aa _ _ _ _ _ ag ad rfl) rfl) (by decide) rfl rfl)) (@aa _ _ _ _ _ (@az _ _ _ _ _ _ _ _ aW ag (@ar _ _ _ _ _ _ _ _ _ _ DD (hr.mono (by decide)) rfl (@aa _ _ _ _ _ (pv 1) (@aa _ _ _ _ _ ag ad rfl) rfl) (by decide) rfl rfl)) (@aa _ _ _ _ _ (@ar _ _ _ _ _ _ _ _ _ _ DG (hr.mono (by decide)) rfl (@aa _ _ _ _ _ (pv 1) (@aa _ _ _ _ _ (@az _ _ _ _ _ _ _ _ fA ag ag) ad rfl) rfl) (by decide) rfl rfl) (@aa _ _ _ _ _ ag (@aa _ _ _ _ _ (@bR _ _ _ _ _ _ _ _ dA (@ar _ _ _ _ _ _ _ _ _ _ DD (hr.mono (by decide)) rfl (@aa _ _ _ _ _ (pv 1) (@aa _ _ _ _ _ ag ad rfl) rfl) (by decide) rfl rfl) ag (ay _)) ad rfl) rfl) rfl) rfl) rfl)) rfl (Or.inl rfl)) (@af _ _ _ _ _ (@aw _ _ 4 _ _ _ _ nd rfl (Or.inl rfl) (zx DSh (hr.mono (by decide)) rfl (@aa _ _ _ _ _ (pv 2) (@aa _ _ _ _ _ (@aH _ _ _ _ (@aa _ _ _ _ _ (pv 3) ad rfl)) ad rfl) rfl)) rfl (Or.inl rfl)) (@af _ _ _ _ _ (@aw _ _ 5 _ _ _ _ nd rfl (Or.inl rfl) (@aH _ _ _ _ (@aa _ _ _ _ _ (@az _ _ _ _ _ _ _ _ aW ag (@ar _ _ _ _ _ _ _ _ _ _ DD (hr.mono (by decide)) rfl (@aa _ _ _ _ _ (pv 1) (@aa _ _ _ _ _ ag ad rfl) rfl) (by decide) rfl rfl)) (@aa _ _ _ _ _ (@az _ _ _ _ _ _ _ _ aW ag (@ar _ _ _ _ _ _ _ _ _ _ DD (hr.mono (by decide)) rfl (@aa _ _ _ _ _ (pv 1) (@aa _ _ _ _ _ ag ad rfl) rfl) (by decide) rfl rfl)) ad rfl) rfl)) rfl (Or.inl rfl)) (@af _ _ _ _ _ (@aw _ _ 6 _ _ _ _ nd rfl (Or.inl rfl) (@ar _ _ _ _ _ _ _ _ _ _ DBy (hr.mono (by decide)) rfl (@aa _ _ _ _ _ (pv 4) (@aa _ _ _ _ _ (@aD _ _ _ _ _ _ _ ix_list (pv 5) ag (fun _ _=>rfl)) (@aa _ _ _ _ _ (@aD _ _ _ _ _ _ _ ix_list (pv 5) ag (fun _ _=>rfl)) (@aa _ _ _ _ _ ag ad rfl) rfl) rfl) rfl) (by decide) rfl rfl) rfl (Or.inl rfl)) (@af _ _ _ _ _ (@ce _ _ _ _ _ _ _ _ PassesOwn.never rfl (cj (@az _ _ _ _ _ _ _ _ ej (@pM _ _ _ _ _ _ _ _ _ _ rO (pv 0) (my ag) (my ag)) (@aH _ _ _ _ (@aa _ _ _ _ _ ag ad rfl)))) (ak (i:=7) nd rfl (Or.inl rfl)) (@af _ _ _ _ _ (@aw _ _ 1 _ _ _ _ nd rfl (Or.inl rfl) (@ar _ _ _ _ _ _ _ _ _ _ DP (hr.mono (by decide)) rfl (@aa _ _ _ _ _ (pv 7) ad rfl) (by decide) rfl rfl) rfl (Or.inl rfl)) (@af _ _ _ _ _ (@aw _ _ 8 _ _ _ _ nd rfl (Or.inl rfl) (@ar _ _ _ _ _ _ _ _ _ _ DD (hr.mono (by decide)) rfl (@aa _ _ _ _ _ (pv 1) (@aa _ _ _ _ _ ag ad rfl) rfl) (by decide) rfl rfl) rfl (Or.inl rfl)) (@af _ _ _ _ _ (@aw _ _ 9 _ _ _ _ nd rfl (Or.inl rfl) (@ar _ _ _ _ _ _ _ _ _ _ DNT (hr.mono (by decide)) rfl (@aa _ _ _ _ _ (pv 1) ad rfl) (by decide) rfl rfl) rfl (Or.inl rfl)) (@af _ _ _ _ _ (@aw _ _ 10 _ _ _ _ nd rfl (Or.inl rfl) (@ar _ _ _ _ _ _ _ _ _ _ DTr (hr.mono (by decide)) rfl (@aa _ _ _ _ _ (pv 1) (@aa _ _ _ _ _ (pv 5) (@aa _ _ _ _ _ (pv 2) (@aa _ _ _ _ _ (pv 3) ad rfl) rfl) rfl) rfl) (by decide) rfl rfl) rfl (Or.inl rfl)) (@af _ _ _ _ _ (@ce _ _ _ _ _ _ _ _ PassesOwn.never rfl (cj (@aH _ _ _ _ (@aa _ _ _ _ _ (@aq _ _ _ _ _ (@aa _ _ _ _ _ ag (@aa _ _ _ _ _ (@ar _ _ _ _ _ _ _ _ _ _ DNS (hr.mono (by decide)) rfl (@aa _ _ _ _ _ (pv 1) ad rfl) (by decide) rfl rfl) ad rfl) rfl)) (@aa _ _ _ _ _ (@aq _ _ _ _ _ (@aa _ _ _ _ _ ag (@aa _ _ _ _ _ (@az _ _ _ _ _ _ _ _ aW ag (@ar _ _ _ _ _ _ _ _ _ _ DG (hr.mono (by decide)) rfl (@aa _ _ _ _ _ (pv 1) (@aa _ _ _ _ _ (@aD _ _ _ _ _ _ _ ix_list (@aH _ _ _ _ (@aa _ _ _ _ _ ag (@aa _ _ _ _ _ (@az _ _ _ _ _ _ _ _ fA ag ag) ad rfl) rfl)) (@ar _ _ _ _ _ _ _ _ _ _ DD (hr.mono (by decide)) rfl (@aa _ _ _ _ _ (pv 1) (@aa _ _ _ _ _ ag ad rfl) rfl) (by decide) rfl rfl) (fun _ _=>rfl)) ad rfl) rfl) (by decide) rfl rfl)) ad rfl) rfl)) ad rfl) rfl))) (aZ rfl (aj (ak (i:=11) nd rfl (Or.inl rfl)) (aj (ak (i:=12) nd rfl (Or.inl rfl)) aQ))) (@af _ _ _ _ _ (@aw _ _ 13 _ _ _ _ nd rfl (Or.inl rfl) (@aH _ _ _ _ (@aa _ _ _ _ _ (@aD _ _ _ _ _ _ _ ix_list (pv 5) ag (fun _ _=>rfl)) (@aa _ _ _ _ _ (pv 12) ad rfl) rfl)) rfl (Or.inl rfl)) (@af _ _ _ _ _ (@aL _ _ _ _ _ _ _ _ (@ax _ _ _ _ _ _ _ _ dA (pv 8) ag (ay _)) (@ai _ _ _ (@aw _ _ 13 _ _ _ _ nd rfl (Or.inl rfl) (@aH _ _ _ _ (@aa _ _ _ _ _ (pv 12) (@aa _ _ _ _ _ (@aD _ _ _ _ _ _ _ ix_list (pv 5) ag (fun _ _=>rfl)) ad rfl) rfl)) rfl (Or.inl rfl))) av) (@af _ _ _ _ _ (@aL _ _ _ _ _ _ _ _ (PW.pt (bP (@ax _ _ _ _ _ _ _ _ (df hu) (@ar _ _ _ _ _ _ _ _ _ _ DTo hr rfl (@aa _ _ _ _ _ ag (@aa _ _ _ _ _ (pv 4) (@aa _ _ _ _ _ (pv 13) (@aa _ _ _ _ _ ag ad rfl) rfl) rfl) rfl) (by decide) rfl rfl) (@ar _ _ _ _ _ _ _ _ _ _ DDu (hr.mono (by decide)) rfl (@aa _ _ _ _ _ (pv 11) ad rfl) (by decide) rfl rfl) (ay _)) (bt (@ax _ _ _ _ _ _ _ _ (df hu) (@ar _ _ _ _ _ _ _ _ _ _ DTo hr rfl (@aa _ _ _ _ _ ag (@aa _ _ _ _ _ (pv 4) (@aa _ _ _ _ _ (pv 13) (@aa _ _ _ _ _ (pv 9) ad rfl) rfl) rfl) rfl) (by decide) rfl rfl) (@ar _ _ _ _ _ _ _ _ _ _ DDu (hr.mono (by decide)) rfl (@aa _ _ _ _ _ (pv 11) ad rfl) (by decide) rfl rfl) (ay _))))) (@ai _ _ _ (@au _ _ _ _ aX)) av) (@af _ _ _ _ _ (@aL _ _ _ _ _ _ _ _ (PW.pt (iD (@ax _ _ _ _ _ _ _ _ dA (pv 11) ag (ay _)) (gc (@ax _ _ _ _ _ _ _ _ (df hu) (@ar _ _ _ _ _ _ _ _ _ _ DTo hr rfl (@aa _ _ _ _ _ ag (@aa _ _ _ _ _ (pv 4) (@aa _ _ _ _ _ (pv 13) (@aa _ _ _ _ _ (pv 10) ad rfl) rfl) rfl) rfl) (by decide) rfl rfl) (@ar _ _ _ _ _ _ _ _ _ _ DDu (hr.mono (by decide)) rfl (@aa _ _ _ _ _ ag ad rfl) (by decide) rfl rfl) (ay _))))) (@ai _ _ _ (@au _ _ _ _ aX)) av) (@ai _ _ _ (@aL _ _ _ _ _ _ _ _ (PW.pt (iD (@ax _ _ _ _ _ _ _ _ dA (pv 11) ag (ay _)) (gc (@ax _ _ _ _ _ _ _ _ (df hu) (@ar _ _ _ _ _ _ _ _ _ _ DTo hr rfl (@aa _ _ _ _ _ ag (@aa _ _ _ _ _ (pv 4) (@aa _ _ _ _ _ (pv 13) (@aa _ _ _ _ _ (@aq _ _ _ _ _ (@aa _ _ _ _ _ aM ad rfl)) ad rfl) rfl) rfl) rfl) (by decide) rfl rfl) (@aH _ _ _ _ ad) (ay _))))) (@ai _ _ _ (@au _ _ _ _ aX)) av)))))) (by intro _; rfl)) (@af _ _ _ _ _ (@aL _ _ _ _ _ _ _ _ (PW.pt (bP (@ax _ _ _ _ _ _ _ _ (df hu) (@ar _ _ _ _ _ _ _ _ _ _ DTo hr rfl (@aa _ _ _ _ _ ag (@aa _ _ _ _ _ (pv 4) (@aa _ _ _ _ _ (pv 5) (@aa _ _ _ _ _ (pv 9) ad rfl) rfl) rfl) rfl) (by decide) rfl rfl) (@ar _ _ _ _ _ _ _ _ _ _ DDu (hr.mono (by decide)) rfl (@aa _ _ _ _ _ ag ad rfl) (by decide) rfl rfl) (ay _)) (bt (@ax _ _ _ _ _ _ _ _ (df hu) (@ar _ _ _ _ _ _ _ _ _ _ DTo hr rfl (@aa _ _ _ _ _ ag (@aa _ _ _ _ _ (pv 4) (@aa _ _ _ _ _ (pv 5) (@aa _ _ _ _ _ (pv 10) ad rfl) rfl) rfl) rfl) (by decide) rfl rfl) (@ar _ _ _ _ _ _ _ _ _ _ DDu (hr.mono (by decide)) rfl (@aa _ _ _ _ _ ag ad rfl) (by decide) rfl rfl) (ay _))))) (@ai _ _ _ (@au _ _ _ _ aX)) av) (@ai _ _ _ (@aL _ _ _ _ _ _ _ _ (PW.pt (bP (@ax _ _ _ _ _ _ _ _ (df hu) (@ar _ _ _ _ _ _ _ _ _ _ DTo hr rfl (@aa _ _ _ _ _ ag (@aa _ _ _ _ _ (pv 4) (@aa _ _ _ _ _ (@aH _ _ _ _ (@aa _ _ _ _ _ ag (@aa _ _ _ _ _ ag ad rfl) rfl)) (@aa _ _ _ _ _ (pv 9) ad rfl) rfl) rfl) rfl) (by decide) rfl rfl) (@ar _ _ _ _ _ _ _ _ _ _ DDu (hr.mono (by decide)) rfl (@aa _ _ _ _ _ ag ad rfl) (by decide) rfl rfl) (ay _)) (bt (@ax _ _ _ _ _ _ _ _ (df hu) (@ar _ _ _ _ _ _ _ _ _ _ DTo hr rfl (@aa _ _ _ _ _ ag (@aa _ _ _ _ _ (pv 4) (@aa _ _ _ _ _ (pv 5) (@aa _ _ _ _ _ (@aH _ _ _ _ (@aa _ _ _ _ _ aM ad rfl)) ad rfl) rfl) rfl) rfl) (by decide) rfl rfl) (@aH _ _ _ _ ad) (ay _))))) (@ai _ _ _ (@au _ _ _ _ aX)) av)))))))) (by intro _; rfl)) (@af _ _ _ _ _ (@ce _ _ _ _ _ _ _ _ PassesOwn.never rfl (cj (@aH _ _ _ _ (@aa _ _ _ _ _ (@aq _ _ _ _ _ (@aa _ _ _ _ _ (pv 5) (@aa _ _ _ _ _ ag ad rfl) rfl)) (@aa _ _ _ _ _ (@aq _ _ _ _ _ (@aa _ _ _ _ _ (@aH _ _ _ _ (@aa _ _ _ _ _ ag (@aa _ _ _ _ _ ag ad rfl) rfl)) (@aa _ _ _ _ _ ag ad rfl) rfl)) (@aa _ _ _ _ _ (@aq _ _ _ _ _ (@aa _ _ _ _ _ (@aH _ _ _ _ (@aa _ _ _ _ _ ag (@aa _ _ _ _ _ ag ad rfl) rfl)) (@aa _ _ _ _ _ ag ad rfl) rfl)) ad rfl) rfl) rfl))) (aZ rfl (aj (ak (i:=13) nd rfl (Or.inl rfl)) (aj (ak (i:=9) nd rfl (Or.inl rfl)) aQ))) (@ai _ _ _ (@aL _ _ _ _ _ _ _ _ (@ax _ _ _ _ _ _ _ _ (df hu) (@ar _ _ _ _ _ _ _ _ _ _ DTo hr rfl (@aa _ _ _ _ _ ag (@aa _ _ _ _ _ (pv 4) (@aa _ _ _ _ _ (pv 13) (@aa _ _ _ _ _ (pv 9) ad rfl) rfl) rfl) rfl) (by decide) rfl rfl) (@aH _ _ _ _ ad) (ay _)) (@ai _ _ _ (@au _ _ _ _ aX)) av)) (by intro _; rfl)) (@ai _ _ _ (@au _ _ _ _ (@bR _ _ _ _ _ _ _ _ (uz hu) (@ar _ _ _ _ _ _ _ _ _ _ DBy (hr.mono (by decide)) rfl (@aa _ _ _ _ _ (pv 4) (@aa _ _ _ _ _ (@aD _ _ _ _ _ _ _ ix_list (pv 5) ag (fun _ _=>rfl)) (@aa _ _ _ _ _ (@aD _ _ _ _ _ _ _ ix_list (pv 5) ag (fun _ _=>rfl)) (@aa _ _ _ _ _ ag ad rfl) rfl) rfl) rfl) (by decide) rfl rfl) (pv 6) (ay _)))))))))))),?_⟩
 have z4:4096≤sizeLine:=by decide
 have ln:(ns.map V.int).length=ns.length:=List.length_map _
 refine ao (fun σ' H'=>∃p,σ'=[some (.ref a),some (.ref p),none,none,none,none,none,none,none,none,none,none,none,none]∧H p=none∧PotB H' p∧But p H H') (fun R hR=>?_) ?_
 ·refine ⟨_,rfl,(by show 1≤sizeLine; decide),fun u hu=>?_⟩
  obtain ⟨H1,e1,k1,s1⟩:∃H',upd H u (.lst [.int 0])=H'∧H' u=some (.lst [.int 0])∧Same H H':=⟨_,rfl,ae,Same.new hu⟩
  rw [show upd H u _=H1 from e1]
  refine ⟨a,u,_,_,rfl,rfl,hS.imp (fun h=>rc h s1) id,SqL.of k1,(by show _ + 1≤_; omega),fun l hl=>?_⟩
  obtain ⟨H2,e2,k2,s2⟩:∃H',upd H1 l (.lst (ns.map V.int ++ [.int 0]))=H'∧H' l=some (.lst (ns.map V.int ++ [.int 0]))∧Same H1 H':=⟨_,rfl,ae,Same.new hl⟩
  rw [show upd H1 l _=H2 from e2]
  have l0:0 < (ns.map V.int ++ [V.int 0]).length:=by rw [List.length_append]; exact Nat.succ_pos _
  obtain ⟨c,hc⟩:∃c,(ns.map V.int ++ [V.int 0])[0]'l0=V.int c:=by
   rcases List.mem_append.mp (List.getElem_mem l0) with h | h
   ·obtain ⟨c,_,e⟩:=List.mem_map.mp h
    exact ⟨c,e.symm⟩
   ·exact ⟨0,List.mem_singleton.mp h⟩
  exact ⟨l,_,0,_,rfl,rfl,SqL.of k2,bh (Int.le_refl _) (by show (ns.map V.int ++ [V.int 0])[0]? = _; rw [List.getElem?_eq_getElem l0,hc]),c,rfl,fun p H3 hp pt3 s3=>hR _ _ ⟨p,rfl,(s1.trans s2).free hp,pt3,Pc.Same.but (s1.trans (s2.trans s3))⟩⟩
 rintro _ H1 ⟨p,rfl,hp,pt1,b1⟩
 refine ao (fun σ' H'=>∃b:Int,σ'=[some (.ref a),some (.ref p),some (.int b),none,none,none,none,none,none,none,none,none,none,none]∧0≤b∧PotB H' p∧But p H H') (fun R hR=>?_) ?_
 ·exact ⟨_,rfl,p,4,rfl,pt1,by decide,by decide,fun z Hz z0 z1 ptz bz=>hR _ _ ⟨z,rfl,z0,ptz,b1.trans bz⟩⟩
 rintro _ H2 ⟨b,rfl,b0,pt2,b2⟩
 refine ao (fun σ' H'=>∃ (ka:Addr) (k:Kd),σ'=[some (.ref a),some (.ref p),some (.int b),some (.ref ka),none,none,none,none,none,none,none,none,none,none]∧H' ka=some (.tup [.int k.w,.int k.h,.int k.wo,.int k.wa,.bl k.tu])∧Good k∧PotB H' p∧But p H H') (fun R hR=>?_) ?_
 ·refine ⟨_,rfl,p,5,rfl,pt2,by decide,by decide,fun y1 Ha y10 y11 pa ba=>⟨_,_,rfl,rfl,_,rfl,p,5,rfl,pa,by decide,by decide,fun y2 Hb y20 y21 pb bb=>⟨_,_,rfl,rfl,_,rfl,_,_,rfl,rfl,⟨by decide,by decide,by decide⟩,p,_,rfl,pb,(by show (0:Int) < 10 ^ (60:Int).toNat; decide),(by show (10:Int) ^ (60:Int).toNat≤10 ^ 60; decide),fun y3 Hc y30 y31 pc bc=>⟨_,rfl,p,2,rfl,pc,by decide,by decide,fun y4 Hd y40 y41 pd bd=>⟨rfl,(by show 5≤sizeLine; decide),fun t ht=>?_⟩⟩⟩⟩⟩
  have b2d:=b2.trans (ba.trans (bb.trans (bc.trans bd)))
  obtain ⟨H3,e3,k3,n3,s3,b3,pt3⟩:=fJ (o:=.tup [.int (1 + y1),.int (1 + y2),.int y3,.int 0,.bl (decide (V.int y4=V.int 1))]) b2d pd ht
  rw [show upd Hd t _=H3 from e3]
  have e60:(100:Int) < 10 ^ 60:=by decide
  exact hR _ _ ⟨t,⟨1 + y1,1 + y2,y3,0,decide (V.int y4=V.int 1)⟩,rfl,k3,⟨by show 1≤1 + y1; omega,by show 1≤1 + y2; omega,y30,Int.le_refl _,by show 1 + y1 < _; omega,by show 1 + y2 < _; omega,y31,(by show (0:Int) < 10 ^ 60; decide)⟩,pt3,b3⟩
 rintro _ H3 ⟨ka,k,rfl,hka,gk,pt3,b3⟩
 refine ao (fun σ' H'=>∃sh:Addr,σ'=[some (.ref a),some (.ref p),some (.int b),some (.ref ka),some (.ref sh),none,none,none,none,none,none,none,none,none]∧ShopAt C H' sh b [k]∧H' ka=some (.tup [.int k.w,.int k.h,.int k.wo,.int k.wa,.bl k.tu])∧PotB H' p∧But p H H') (fun R hR=>?_) ?_
 ·refine ⟨_,rfl,_,rfl,(by show 1≤sizeLine; decide),fun l2 hl2=>?_⟩
  obtain ⟨H4,e3,k3,s3⟩:∃H',upd H3 l2 (.lst [.ref ka])=H'∧H' l2=some (.lst [.ref ka])∧Same H3 H':=⟨_,rfl,ae,Same.new hl2⟩
  rw [show upd H3 l2 _=H4 from e3]
  refine fun x dx hx hdx ne0=>?_
  have sm:Same H4 (upd (upd H4 dx (.own x)) x (.ins C dx [])):=nX hx hdx
  refine ⟨x,dx,l2,b,[.ref ka],[k],rfl,ae,b0,.inl (sm _ _ k3),.cons (.inl ⟨ka,rfl,sm _ _ (s3 _ _ hka)⟩) .nil,(fun k' hk'=>by rw [List.mem_singleton.mp hk']; exact gk),(by show 1≤1; decide),(by show 1≤8; decide),fun Hb Sb kb=>⟨rfl,?_⟩⟩
  have sb:Same H3 Hb:=fun c o e=>kb c o (ah (s3 _ _ e) hx) (sm _ _ (s3 _ _ e))
  exact hR _ _ ⟨x,rfl,Sb,sb _ _ hka,pt3.same sb,fun c o nn e=>sb _ _ (b3 _ _ nn e)⟩
 rintro _ H4 ⟨sh,rfl,S4,hka4,pt4,b4⟩
 refine ao (fun σ' H'=>∃ (go:Addr) (m n:Nat),σ'=[some (.ref a),some (.ref p),some (.int b),some (.ref ka),some (.ref sh),some (.ref go),none,none,none,none,none,none,none,none]∧1≤m∧m≤4∧1≤n∧n≤4∧H' go=some (.lst [.int (m:Int),.int (n:Int)])∧ShopAt C H' sh b [k]∧H' ka=some (.tup [.int k.w,.int k.h,.int k.wo,.int k.wa,.bl k.tu])∧Same H H') (fun R hR=>?_) ?_
 ·refine ⟨_,rfl,p,4,rfl,pt4,by decide,by decide,fun y1 Ha y10 y11 pa ba=>⟨_,_,rfl,rfl,_,rfl,p,4,rfl,pa,by decide,by decide,fun y2 Hb y20 y21 pb bb=>⟨_,_,rfl,rfl,(by show 2≤sizeLine; decide),fun t ht=>?_⟩⟩⟩
  have b4b:=ba.trans bb
  obtain ⟨H5,e5,k5,n5,s5,b5,pt5⟩:=fJ (o:=.lst [.int (1 + y1),.int (1 + y2)]) b4b pb ht
  rw [show upd Hb t _=H5 from e5]
  have npt:∀ {c:Addr} {o:HO},H4 c=some o→(∀xs,o≠.lst xs)→c≠p:=fun {c o} h hn z=>by
   obtain ⟨_,_,_,_,_,e⟩:=pt4
   rw [z,e] at h
   exact hn _ (Option.some.inj h).symm
  have k5:H5 t=some (.lst [.int (((1 + y1).toNat:Nat):Int),.int (((1 + y2).toNat:Nat):Int)]):=by
   rw [show (((1 + y1).toNat:Nat):Int)=1 + y1 by omega,show (((1 + y2).toNat:Nat):Int)=1 + y2 by omega]; exact k5
  exact hR _ _ ⟨t,(1 + y1).toNat,(1 + y2).toNat,rfl,by omega,by omega,by omega,by omega,k5,S4.keep (fun c xs h=>b5 _ _ (npt h (fun _ z=>by cases z)) h) (fun c C' d fs h=>b5 _ _ (npt h (fun _ z=>by cases z)) h),b5 _ _ (npt hka4 (fun _ z=>by cases z)) hka4,But.same (b4.trans b5) hp⟩
 rintro _ H5 ⟨go,m,n,rfl,m1,m4,n1,n4,hgo5,S5,hka5,s05⟩
 refine ao (fun σ' H'=>∃ (fi:Addr) (fv:V),σ'=[some (.ref a),some (.ref p),some (.int b),some (.ref ka),some (.ref sh),some (.ref go),some (.ref fi),none,none,none,none,none,none,none]∧H' fi=some (.tup [.int (tB b [k] ((m:Int),(n:Int)) 2),fv])∧TrV H' (tR b [k] ((m:Int),(n:Int)) 2) fv∧Same H5 H') (fun R hR=>?_) ?_
 ·exact ⟨_,rfl,_,rfl,go,_,0,_,rfl,rfl,SqL.of hgo5,rfl,_,rfl,go,_,1,_,rfl,rfl,SqL.of hgo5,rfl,sh,b,[k],m,n,2,rfl,S5,(by show 1≤8; decide),b0,m1,by omega,n1,by omega,by decide,fun r v H6 hr hv s6=>hR _ _ ⟨r,v,rfl,hr,hv,s6⟩⟩
 rintro _ H6 ⟨fi,fv,rfl,hfi6,hfv6,s56⟩
 have hS6:SqL K H6 a (ns.map V.int):=hS.imp (fun h=>rc h (s05.trans s56)) id
 refine ao (fun σ' H'=>(∃v1 v7 v8 v9 v10 v11 v12 v13:Option V,σ'=[some (.ref a),v1,some (.int b),some (.ref ka),some (.ref sh),some (.ref go),some (.ref fi),v7,v8,v9,v10,v11,v12,v13])∧Same H6 H') (fun R hR=>?_) ?_
 ·refine ⟨_,rfl,_,rfl,_,rfl,a,_,rfl,hS6,fun u hu=>?_⟩
  obtain ⟨Ha,e1,k1,s1⟩:∃H',upd H6 u (.lst (gx (ns.map V.int) (some 1) (some 21)))=H'∧H' u=some (.lst (gx (ns.map V.int) (some 1) (some 21)))∧Same H6 H':=⟨_,rfl,ae,Same.new hu⟩
  rw [show upd H6 u _=Ha from e1]
  refine ⟨(by show 1≤sizeLine; decide),fun u2 hu2=>?_⟩
  obtain ⟨Hb,e2,k2,s2⟩:∃H',upd Ha u2 (.lst [.int 1])=H'∧H' u2=some (.lst [.int 1])∧Same Ha H':=⟨_,rfl,ae,Same.new hu2⟩
  rw [show upd Ha u2 _=Hb from e2]
  have cl:=fT (ns.map V.int) (some 1) (some 21)
  refine ⟨u,u2,_,_,rfl,rfl,s2 _ _ k1,k2,(by show _ + 1≤_; omega),fun l hl=>?_⟩
  obtain ⟨Hc,e3,k3,s3⟩:∃H',upd Hb l (.lst (gx (ns.map V.int) (some 1) (some 21) ++ [.int 1]))=H'∧H' l=some (.lst (gx (ns.map V.int) (some 1) (some 21) ++ [.int 1]))∧Same Hb H':=⟨_,rfl,ae,Same.new hl⟩
  rw [show upd Hb l _=Hc from e3]
  have s6c:=s1.trans (s2.trans s3)
  refine ⟨l,rfl,⟨_,SqL.of k3⟩,ck (xs:=gx (ns.map V.int) (some 1) (some 21) ++ [.int 1]) (fun i σ' H'=>(∃v1 v7 v8 v9 v10 v11 v12 v13:Option V,σ'=[some (.ref a),v1,some (.int b),some (.ref ka),some (.ref sh),some (.ref go),some (.ref fi),v7,v8,v9,v10,v11,v12,v13])∧Same Hc H') ⟨⟨_,_,_,_,_,_,_,_,rfl⟩,Same.refl _⟩ (fun i σ Hx _ ⟨_,sx⟩=>SqL.of (sx _ _ k3)) ?_ (fun σ Hx ⟨e,sx⟩=>hR _ _ ⟨e,s6c.trans sx⟩)⟩
  rintro i x _ Hx hi ⟨⟨v1,v7,v8,v9,v10,v11,v12,v13,rfl⟩,sx⟩
  obtain ⟨c,rfl⟩:=rd (List.mem_of_getElem? hi)
  have s5x:=s56.trans (s6c.trans sx)
  have hgox:=s5x _ _ hgo5
  have hkax:=s5x _ _ hka5
  refine ao (fun σ' H'=>∃p2:Addr,σ'=[some (.ref a),some (.ref p2),some (.int b),some (.ref ka),some (.ref sh),some (.ref go),some (.ref fi),some (.int c),v8,v9,v10,v11,v12,v13]∧Hx p2=none∧PotB H' p2∧But p2 Hx H') (fun R hR=>?_) ?_
  ·exact ⟨_,rfl,c,rfl,fun p2 Hy hp2 pt2 sy=>hR _ _ ⟨p2,rfl,hp2,pt2,Pc.Same.but sy⟩⟩
  rintro _ Hy ⟨p2,rfl,hp2,pty,by2⟩
  have ngo:go≠p2:=ah hgox hp2
  have nka:ka≠p2:=ah hkax hp2
  refine ao (fun σ' H'=>∃at1:Int,σ'=[some (.ref a),some (.ref p2),some (.int b),some (.ref ka),some (.ref sh),some (.ref go),some (.ref fi),some (.int c),some (.int at1),v9,v10,v11,v12,v13]∧0≤at1∧at1 < 2∧PotB H' p2∧But p2 Hx H') (fun R hR=>?_) ?_
  ·exact ⟨_,rfl,p2,2,rfl,pty,by decide,by decide,fun z Hz z0 z1 ptz bz=>hR _ _ ⟨z,rfl,z0,z1,ptz,by2.trans bz⟩⟩
  rintro _ Ha1 ⟨at1,rfl,at0,at2,pta,ba⟩
  refine ao (fun σ' H'=>∃tv:V,σ'=[some (.ref a),some (.ref p2),some (.int b),some (.ref ka),some (.ref sh),some (.ref go),some (.ref fi),some (.int c),some (.int at1),some tv,v10,v11,v12,v13]∧Thg p2 H' tv∧qX tv∧PotB H' p2∧But p2 Hx H') (fun R hR=>?_) ?_
  ·exact ⟨_,rfl,p2,rfl,pta,fun x Hz tg bk ptz bz=>hR _ _ ⟨x,rfl,tg,bk,ptz,ba.trans bz⟩⟩
  rintro _ Hb1 ⟨tv,rfl,tgb,bkt,ptb,bb⟩
  refine ao (fun σ' H'=>∃xv:V,σ'=[some (.ref a),some (.ref p2),some (.int b),some (.ref ka),some (.ref sh),some (.ref go),some (.ref fi),some (.int c),some (.int at1),some tv,some xv,v11,v12,v13]∧Thg p2 H' tv∧NtV b k m n H' xv∧PotB H' p2∧But p2 Hx H') (fun R hR=>?_) ?_
  ·exact ⟨_,rfl,_,rfl,_,rfl,_,rfl,p2,go,ka,b,m,n,k,rfl,ptb,bb _ _ ngo hgox,bb _ _ nka hkax,b0,by omega,by omega,gk.w,gk.h,fun x Hz nt ptz bz=>hR _ _ ⟨x,rfl,tgb.but bz,nt,ptz,bb.trans bz⟩⟩
  rintro _ Hc1 ⟨xv,rfl,tgc,ntc,ptc,bc⟩
  refine ao (fun σ' H'=>(∃v11 v12 v13:Option V,σ'=[some (.ref a),some (.ref p2),some (.int b),some (.ref ka),some (.ref sh),some (.ref go),some (.ref fi),some (.int c),some (.int at1),some tv,some xv,v11,v12,v13])∧Thg p2 H' tv∧NtV b k m n H' xv∧But p2 Hx H') (fun R hR=>?_) ?_
  ·refine ⟨_,rfl,p2,rfl,ptc,fun x1 Hd1 tg1 wx1 ptd bd=>?_⟩
   refine ⟨(by show 2≤sizeLine; decide),fun t1 ht1=>?_⟩
   obtain ⟨H11,e11,k11,n11,s11,b11,pt11⟩:=fJ (o:=.tup [.int 0,x1]) bd ptd ht1
   rw [show upd Hd1 t1 _=H11 from e11]
   refine ⟨_,rfl,_,_,rfl,rfl,⟨by decide,by decide,by decide⟩,(by show 2≤sizeLine; decide),fun l1 hl1=>?_⟩
   obtain ⟨H12,e12,k12,n12,s12,b12,pt12⟩:=fJ (o:=.lst [.int 1,.int (10 ^ (59:Int).toNat)]) b11 pt11 hl1
   rw [show upd H11 l1 _=H12 from e12]
   refine ⟨_,rfl,p2,2,rfl,pt12,by decide,by decide,fun z H13 z0 z1 pt13 b13=>?_⟩
   obtain ⟨nn,hnn,nn1,nn60⟩:∃nn:Int,atI [V.int 1,V.int (10 ^ (59:Int).toNat)] z=some (.int nn)∧0 < nn∧nn≤10 ^ 60:=by
    rcases (by omega:z=0∨z=1) with rfl | rfl
    ·exact ⟨1,rfl,by decide,by decide⟩
    ·exact ⟨_,rfl,by decide,by decide⟩
   refine ⟨l1,_,_,_,rfl,rfl,SqL.of (b13 _ _ n12 k12),hnn,p2,nn,rfl,pt13,nn1,nn60,fun gr H14 gr0 gr1 pt14 b14=>⟨_,_,rfl,rfl,(by show 2≤sizeLine; decide),fun t2 ht2=>?_⟩⟩
   have bcE:=bc.trans (b12.trans (b13.trans b14))
   obtain ⟨H15,e15,k15,n15,s15,b15,pt15⟩:=fJ (o:=.tup [.int 1,.int (17 + gr)]) bcE pt14 ht2
   rw [show upd H14 t2 _=H15 from e15]
   refine ⟨(by show 2≤sizeLine; decide),fun li hli=>?_⟩
   obtain ⟨H16,e16,k16,n16,s16,b16,pt16⟩:=fJ (o:=.lst [.ref t1,.ref t2]) b15 pt15 hli
   rw [show upd H15 li _=H16 from e16]
   have npt:∀ {c:Addr} {ys:List V},H11 c=some (.tup ys)→c≠p2:=fun {c ys} e z=>by
    obtain ⟨_,_,_,_,_,hp⟩:=pt11
    rw [z,hp] at e; cases e
   have b1116:But p2 H11 H16:=fun c o nn e=>s16 _ _ (s15 _ _ (b14 _ _ nn (b13 _ _ nn (s12 _ _ e))))
   have kt1:=b1116 _ _ (npt k11) k11
   have tgx:Thg p2 H16 x1:=(tg1.but (Pc.Same.but s11)).but b1116
   have b1c:But p2 Hc1 H16:=fun c o nn e=>b1116 _ _ nn (b11 _ _ nn e)
   have tgt:Thg p2 H16 tv:=tgc.but b1c
   have ntt:NtV b k m n H16 xv:=ntc.keep fun c ys e=>b1c _ _ (fun z=>by obtain ⟨_,_,_,_,_,hp⟩:=ptc; rw [z,hp] at e; cases e) e
   have bx16:But p2 Hx H16:=b16
   refine ⟨li,rfl,⟨_,SqL.of k16⟩,ck (xs:=[.ref t1,.ref t2]) (fun i σ' H'=>(∃v11 v12 v13:Option V,σ'=[some (.ref a),some (.ref p2),some (.int b),some (.ref ka),some (.ref sh),some (.ref go),some (.ref fi),some (.int c),some (.int at1),some tv,some xv,v11,v12,v13])∧Same H16 H') ⟨⟨_,_,_,rfl⟩,Same.refl _⟩ (fun i σ Hx _ ⟨_,sx⟩=>SqL.of (sx _ _ k16)) ?_ (fun σ Hx ⟨e,sx⟩=>hR _ _ ⟨e,tgt.same sx,ntt.keep (fun c ys e=>sx _ _ e),fun c o nn e=>sx _ _ (bx16 _ _ nn e)⟩)⟩
   rintro i x _ Hz hi ⟨⟨v11,v12,v13,rfl⟩,sz⟩
   have i2:i < 2:=(List.getElem?_eq_some_iff.mp hi).1
   have hgoz:=sz _ _ (bx16 _ _ ngo hgox)
   have s5z:∀c o,H5 c=some o→Hz c=some o:=fun c o e=>sz _ _ (bx16 _ _ (ah (s5x _ _ e) hp2) (s5x _ _ e))
   have Sz:ShopAt C Hz sh b [k]:=S5.keep (fun c o e=>s5z _ _ e) (fun c C' d fs e=>s5z _ _ e)
   obtain ⟨t,wh,bv,rfl,ht,hbv⟩:∃ (t:Addr) (wh:Int) (bv:V),x=.ref t∧Hz t=some (.tup [.int wh,bv])∧((wh=0∧Thg p2 Hz bv∧aE bv 1=false)∨(wh=1∧∃g:Int,bv=.int g∧17≤g)):=by
    match i,i2 with
    | 0,_=>exact ⟨t1,0,x1,(Option.some.inj hi).symm,sz _ _ kt1,.inl ⟨rfl,tgx.same sz,wx1⟩⟩
    | 1,_=>exact ⟨t2,1,_,(Option.some.inj hi).symm,sz _ _ (s16 _ _ k15),.inr ⟨rfl,_,rfl,by omega⟩⟩
   refine ⟨t,_,rfl,SqT.of ht,rfl,_,_,rfl,_,_,rfl,rfl,?_⟩
   refine ao (fun σ' H'=>∃sd:Addr,σ'=[some (.ref a),some (.ref p2),some (.int b),some (.ref ka),some (.ref sh),some (.ref go),some (.ref fi),some (.int c),some (.int at1),some tv,some xv,some (.int wh),some bv,some (.ref sd)]∧H' sd=some (.lst [.int (m:Int),bv])∧Same Hz H') (fun R hR=>?_) ?_
   ·refine ⟨_,rfl,go,_,0,_,rfl,rfl,SqL.of hgoz,rfl,_,rfl,(by show 2≤sizeLine; decide),fun sd hsd=>?_⟩
    obtain ⟨Hw,e17,k17,s17⟩:∃H',upd Hz sd (.lst [.int (m:Int),bv])=H'∧H' sd=some (.lst [.int (m:Int),bv])∧Same Hz H':=⟨_,rfl,ae,Same.new hsd⟩
    rw [show upd Hz sd _=Hw from e17]
    exact hR _ _ ⟨sd,rfl,k17,s17⟩
   rintro _ Hw ⟨sd,rfl,hsd,szw⟩
   refine ao (fun σ' H'=>∃ (sd:Addr) (wv hv:V),σ'=[some (.ref a),some (.ref p2),some (.int b),some (.ref ka),some (.ref sh),some (.ref go),some (.ref fi),some (.int c),some (.int at1),some tv,some xv,some (.int wh),some bv,some (.ref sd)]∧H' sd=some (.lst [wv,hv])∧((wh=0∧(aE wv 1 && aE hv 1)=false∧(∃T,Ty K H' wv T)∧∃T,Ty K H' hv T)∨(wh=1∧∃w2 h2:Int,wv=.int w2∧hv=.int h2∧1≤w2∧1≤h2∧(16 < w2∨16 < h2)))∧Same Hz H') (fun R hR=>?_) ?_
   ·refine ⟨_,rfl,rfl,_,rfl,?_⟩
    refine cR (fun cc=>?_) (fun cc=>hR _ _ ⟨sd,_,_,rfl,hsd,?_,szw⟩)
    ·refine ⟨_,rfl,_,rfl,go,_,1,_,rfl,rfl,SqL.of (szw _ _ hgoz),rfl,(by show 2≤sizeLine; decide),fun sd2 hsd2=>?_⟩
     obtain ⟨Hv,e18,k18,s18⟩:∃H',upd Hw sd2 (.lst [bv,.int (n:Int)])=H'∧H' sd2=some (.lst [bv,.int (n:Int)])∧Same Hw H':=⟨_,rfl,ae,Same.new hsd2⟩
     rw [show upd Hw sd2 _=Hv from e18]
     refine hR _ _ ⟨sd2,_,_,rfl,k18,?_,szw.trans s18⟩
     rcases hbv with ⟨e,tg,wb⟩ | ⟨e,g,rfl,hg⟩
     ·exact .inl ⟨e,by rw [wb]; rfl,(tg.same (szw.trans s18)).ty,⟨_,Ty.int⟩⟩
     ·exact .inr ⟨e,g,n,rfl,rfl,by omega,by omega,.inl (by omega)⟩
    ·rcases hbv with ⟨e,tg,wb⟩ | ⟨e,g,rfl,hg⟩
     ·exact .inl ⟨e,by rw [wb,Bool.and_false],⟨_,Ty.int⟩,(tg.same szw).ty⟩
     ·exact .inr ⟨e,m,g,rfl,rfl,by omega,by omega,.inr (by omega)⟩
   clear hsd szw
   clear sd Hw
   rintro _ Hw ⟨sd,wv,hv,rfl,hsd,sdf,szw⟩
   have tyT:∀ {Hq:Hp},Same Hw Hq→∃T,Ty K Hq tv T:=fun {Hq} sq=>((tgt.same sz).same (szw.trans sq)).ty
   have dueN:∀ (Hq:Hp) (x:V),Same Hw Hq→(∃T,Ty K Hq x T)→uZ K C Hq 0 sh wv hv x (fO wh):=fun Hq x sq tx=>by
    rcases sdf with ⟨rfl,bad,⟨T1,y1⟩,⟨T2,y2⟩⟩ | ⟨rfl,w2,h2,rfl,rfl,c1,c2,c3⟩
    ·exact .inl ⟨rfl,.inl ⟨0,rfl,⟨_,Ty.same sq y1⟩,⟨_,Ty.same sq y2⟩,tx,.inl ⟨rfl,bad⟩⟩⟩
    ·exact .inl ⟨rfl,.inl ⟨1,rfl,⟨_,Ty.int⟩,⟨_,Ty.int⟩,tx,.inr ⟨w2,h2,rfl,rfl,c1,c2,.inl ⟨rfl,c3⟩⟩⟩⟩
   refine ao (fun σ' H'=>σ'=[some (.ref a),some (.ref p2),some (.int b),some (.ref ka),some (.ref sh),some (.ref go),some (.ref fi),some (.int c),some (.int at1),some tv,some xv,some (.int wh),some bv,some (.ref sd)]∧Same Hw H') (fun R hR=>?_) ?_
   ·refine ⟨_,rfl,_,rfl,0,sh,sd,_,_,(.int 2),fO wh,rfl,hsd,dueN Hw _ (Same.refl _) ⟨_,Ty.int⟩,fun lA HqA hlA hkA sqA=>?_⟩
    refine ⟨_,rfl,wh,rfl,fun mA Hr1 hmA hnA srA=>?_⟩
    refine ⟨dP wh,dP wh,bO (srA _ _ hkA),bO hnA,cr _,cr _,_,rfl,?_⟩
    rw [fQ wh]
    have sA:=sqA.trans srA
    refine aI ?_
    refine ⟨_,rfl,_,rfl,_,rfl,0,sh,sd,_,_,tv,fO wh,rfl,(sA _ _ hsd),dueN Hr1 _ sA (tyT sA),fun lB HqB hlB hkB sqB=>?_⟩
    refine ⟨_,rfl,wh,rfl,fun mB Hr2 hmB hnB srB=>?_⟩
    refine ⟨dP wh,dP wh,bO (srB _ _ hkB),bO hnB,cr _,cr _,_,rfl,?_⟩
    rw [fQ wh]
    exact aI (hR _ _ ⟨rfl,sA.trans (sqB.trans srB)⟩)
   rintro _ Hr ⟨rfl,swr⟩
   have hsdr:=swr _ _ hsd
   have ntr:NtV b k m n Hr xv:=ntt.keep fun c ys e=>swr _ _ (szw _ _ (sz _ _ e))
   refine ao (fun σ' H'=>σ'=[some (.ref a),some (.ref p2),some (.int b),some (.ref ka),some (.ref sh),some (.ref go),some (.ref fi),some (.int c),some (.int at1),some tv,some xv,some (.int wh),some bv,some (.ref sd)]∧Same Hw H') (fun R hR=>?_) ?_
   ·refine ⟨_,rfl,rfl,_,rfl,?_⟩
    refine cR (fun cc=>?_) (fun cc=>aI (hR _ _ ⟨rfl,swr⟩))
    have cc:V.int wh=V.int 0:=of_decide_eq_true cc
    have w00:wh=0:=V.int.inj cc
    rcases sdf with ⟨_,bad,⟨T1,y1⟩,⟨T2,y2⟩⟩ | ⟨e,_⟩
    ·refine ⟨_,rfl,_,rfl,_,rfl,1,sh,sd,_,_,xv,fO 0,rfl,hsdr,.inr ⟨rfl,.inl ⟨rfl,⟨_,Ty.same swr y1⟩,⟨_,Ty.same swr y2⟩,bad⟩⟩,fun lA HqA hlA hkA sqA=>?_⟩
     refine ⟨0,rfl,fun mA Hr2 hmA hnA srA=>?_⟩
     refine ⟨dP 0,dP 0,bO (srA _ _ hkA),bO hnA,cr _,cr _,_,rfl,?_⟩
     rw [fQ 0]
     exact aI (hR _ _ ⟨rfl,swr.trans (sqA.trans srA)⟩)
    ·omega
   clear hsdr ntr swr
   clear Hr
   rintro _ Hr ⟨rfl,swr⟩
   have hsdr:=swr _ _ hsd
   have s5r:∀c o,H5 c=some o→Hr c=some o:=fun c o e=>swr _ _ (szw _ _ (s5z _ _ e))
   have Sr:ShopAt C Hr sh b [k]:=S5.keep (fun c o e=>s5r _ _ e) (fun c C' d fs e=>s5r _ _ e)
   refine ⟨_,rfl,rfl,_,rfl,?_⟩
   refine cR (fun cc=>?_) (fun cc=>aI ⟨⟨_,_,_,rfl⟩,sz.trans (szw.trans swr)⟩)
   have cc:V.int wh=V.int 1:=of_decide_eq_true cc
   have w11:wh=1:=V.int.inj cc
   rcases sdf with ⟨e,_⟩ | ⟨_,w2,h2,rfl,rfl,c1,c2,c3⟩
   ·omega
   refine ⟨_,rfl,_,rfl,(by show 1≤sizeLine; decide),fun rt hrt=>?_⟩
   obtain ⟨Hs, e19, k19, s19⟩:∃H', upd Hr rt (.tup [.str "rest"])=H'∧H' rt=some (.tup [.str "rest"])∧Same Hr H':=⟨_, rfl, ae, Same.new hrt⟩
   rw [show upd Hr rt _=Hs from e19]
   refine ⟨1, sh, sd, _, _, (.ref rt), [], rfl, (s19 _ _ hsdr), .inr ⟨rfl, .inr ⟨p2, b, w2, h2, [k], .tuple [.str "rest"], rfl, rfl, Sr.keep (fun c o e=>s19 _ _ e) (fun c C' d fs e=>s19 _ _ e), c1, c2, .tup k19 (.cons (.str _) .nil), (by decide +kernel), .inr ⟨rfl, .rest, rfl, True.intro, (by decide)⟩⟩⟩, fun lA HqA hlA hkA sqA=>?_⟩
   refine ⟨by decide,fun mA hmA=>?_⟩
   obtain ⟨Hr2,emA,hnA,srA⟩:∃H',upd HqA mA (.lst [])=H'∧H' mA=some (.lst [])∧Same HqA H':=⟨_,rfl,ae,Same.new hmA⟩
   rw [show upd HqA mA _=Hr2 from emA]
   refine ⟨.list [],.list [],.lst (SqL.of (srA _ _ hkA)) .nil,.lst (SqL.of hnA) .nil,by decide +kernel,by decide +kernel,_,rfl,?_⟩
   rw [show (!PyData.eqv (.list []) (.list []))=false by decide +kernel]
   exact aI ⟨⟨_,_,_,rfl⟩,sz.trans (szw.trans (swr.trans (s19.trans (sqA.trans srA))))⟩
  rintro _ Hd1 ⟨⟨v11,v12,v13,rfl⟩,tgd,ntd,bd⟩
  have s5d:Same H5 Hd1:=fun c o e=>bd _ _ (ah (s5x _ _ e) hp2) (s5x _ _ e)
  have Sd:ShopAt C Hd1 sh b [k]:=S5.keep (fun c o e=>s5d _ _ e) (fun c C' d fs e=>s5d _ _ e)
  have dT:∀ {Hq:Hp} (sq:Same Hd1 Hq),uZ K C Hq 1 sh (.int (m:Int)) (.int (n:Int)) xv (fO 3):=fun {Hq} sq=>by
   obtain ⟨d,hd,nt⟩:=ntd.keep fun c ys e=>sq _ _ e
   exact .inr ⟨rfl,.inr ⟨p2,b,m,n,[k],d,rfl,rfl,Sd.keep (fun c o e=>sq _ _ e) (fun c C' d fs e=>sq _ _ e),by omega,by omega,hd.dt,nt.wt,.inl ⟨rfl,nt.no⟩⟩⟩
  refine ao (fun σ' H'=>σ'=[some (.ref a),some (.ref p2),some (.int b),some (.ref ka),some (.ref sh),some (.ref go),some (.ref fi),some (.int c),some (.int at1),some tv,some xv,v11,v12,v13]∧Same Hd1 H') (fun R hR=>?_) ?_
  ·refine ⟨_,rfl,_,rfl,_,rfl,0,sh,go,_,_,tv,fO 2,rfl,(s5d _ _ hgo5),.inl ⟨rfl,.inl ⟨2,rfl,⟨_,Ty.int⟩,⟨_,Ty.int⟩,tgd.ty,.inr ⟨m,n,rfl,rfl,by omega,by omega,.inr ⟨rfl,by omega,by omega,bkt⟩⟩⟩⟩,fun lA HqA hlA hkA sqA=>?_⟩
   refine ⟨2,rfl,fun mA Hr1 hmA hnA srA=>?_⟩
   refine ⟨dP 2,dP 2,bO (srA _ _ hkA),bO hnA,cr _,cr _,_,rfl,?_⟩
   rw [fQ 2]
   have sA:=sqA.trans srA
   refine aI ?_
   refine ⟨_,rfl,_,rfl,_,rfl,1,sh,go,_,_,xv,fO 3,rfl,(sA _ _ (s5d _ _ hgo5)),dT sA,fun lB HqB hlB hkB sqB=>?_⟩
   refine ⟨3,rfl,fun mB Hr2 hmB hnB srB=>?_⟩
   refine ⟨dP 3,dP 3,bO (srB _ _ hkB),bO hnB,cr _,cr _,_,rfl,?_⟩
   rw [fQ 3]
   exact aI (hR _ _ ⟨rfl,sA.trans (sqB.trans srB)⟩)
  rintro _ He1 ⟨rfl,sde⟩
  have s5e:=s5d.trans sde
  have Se:ShopAt C He1 sh b [k]:=S5.keep (fun c o e=>s5e _ _ e) (fun c C' d fs e=>s5e _ _ e)
  have fin:∀ {Hq:Hp},Same He1 Hq→Same Hc Hq:=fun {Hq} sq c o e=>sq _ _ (sde _ _ (bd _ _ (ah (sx _ _ e) hp2) (sx _ _ e)))
  refine ⟨_,rfl,(by show 2≤sizeLine; decide),fun sb hsb=>?_⟩
  obtain ⟨Hf1,e19,k19,s19⟩:∃H',upd He1 sb (.lst [.int 0,.int 17])=H'∧H' sb=some (.lst [.int 0,.int 17])∧Same He1 H':=⟨_,rfl,ae,Same.new hsb⟩
  rw [show upd He1 sb _=Hf1 from e19]
  refine ⟨_,rfl,0,sh,sb,_,_,tv,fO 0,rfl,k19,.inl ⟨rfl,.inl ⟨0,rfl,⟨_,Ty.int⟩,⟨_,Ty.int⟩,((tgd.same sde).same s19).ty,.inl ⟨rfl,rfl⟩⟩⟩,fun lA HqA hlA hkA sqA=>?_⟩
  refine ⟨0,rfl,fun mA Hr1 hmA hnA srA=>?_⟩
  refine ⟨dP 0,dP 0,bO (srA _ _ hkA),bO hnA,cr _,cr _,_,rfl,?_⟩
  rw [fQ 0]
  have sA:=s19.trans (sqA.trans srA)
  refine aI ⟨_,rfl,_,rfl,(by show 1≤sizeLine; decide),fun rt hrt=>?_⟩
  obtain ⟨Hs, e20, k20, s20⟩:∃H', upd Hr1 rt (.lst [.str "rest"])=H'∧H' rt=some (.lst [.str "rest"])∧Same Hr1 H':=⟨_, rfl, ae, Same.new hrt⟩
  rw [show upd Hr1 rt _=Hs from e20]
  have sAs:=sA.trans s20
  have nrt:rt≠go:=fun z=>by
   have e:=sA _ _ (s5e _ _ hgo5)
   rw [← z,hrt] at e; cases e
  refine ⟨1, sh, go, _, _, (.ref rt), [], rfl, (sAs _ _ (s5e _ _ hgo5)), .inr ⟨rfl, .inr ⟨go, b, m, n, [k], .list [.str "rest"], rfl, rfl, Se.keep (fun c o e=>sAs _ _ e) (fun c C' d fs e=>sAs _ _ e), by omega, by omega, .lst nrt k20 (.cons (.str _) .nil), (by decide +kernel), .inr ⟨rfl, .rest, rfl, True.intro, (by decide)⟩⟩⟩, fun lB HqB hlB hkB sqB=>?_⟩
  refine ⟨by decide,fun mB hmB=>?_⟩
  obtain ⟨Hr2,emB,hnB,srB⟩:∃H',upd HqB mB (.lst [])=H'∧H' mB=some (.lst [])∧Same HqB H':=⟨_,rfl,ae,Same.new hmB⟩
  rw [show upd HqB mB _=Hr2 from emB]
  refine ⟨.list [],.list [],.lst (SqL.of (srB _ _ hkB)) .nil,.lst (SqL.of hnB) .nil,by decide +kernel,by decide +kernel,_,rfl,?_⟩
  rw [show (!PyData.eqv (.list []) (.list []))=false by decide +kernel]
  exact aI ⟨⟨_,_,_,_,_,_,_,_,rfl⟩,fin (sAs.trans (sqB.trans srB))⟩
 rintro _ H7 ⟨⟨v1,v7,v8,v9,v10,v11,v12,v13,rfl⟩,s67⟩
 have s57:=s56.trans s67
 refine ao (fun σ' H'=>(∃v1 v7 v8 v9 v10 v11 v12 v13:Option V,σ'=[some (.ref a),v1,some (.int b),some (.ref ka),some (.ref sh),some (.ref go),some (.ref fi),v7,v8,v9,v10,v11,v12,v13])∧Same H7 H') (fun R hR=>?_) ?_
 ·have hgo7:=s57 _ _ hgo5
  refine ⟨_,rfl,(by show 2≤sizeLine; decide),fun t1 ht1=>?_⟩
  obtain ⟨Ha,e1,k1,s1⟩:∃H',upd H7 t1 (.tup [.ref go,.int 32])=H'∧H' t1=some (.tup [.ref go,.int 32])∧Same H7 H':=⟨_,rfl,ae,Same.new ht1⟩
  rw [show upd H7 t1 _=Ha from e1]
  refine ⟨(by show 2≤sizeLine; decide),fun l1 hl1=>?_⟩
  obtain ⟨Hb,e2,k2,s2⟩:∃H',upd Ha l1 (.lst [.int 16,.int 1])=H'∧H' l1=some (.lst [.int 16,.int 1])∧Same Ha H':=⟨_,rfl,ae,Same.new hl1⟩
  rw [show upd Ha l1 _=Hb from e2]
  refine ⟨(by show 2≤sizeLine; decide),fun t2 ht2=>?_⟩
  obtain ⟨Hc,e3,k3,s3⟩:∃H',upd Hb t2 (.tup [.ref l1,.int 0])=H'∧H' t2=some (.tup [.ref l1,.int 0])∧Same Hb H':=⟨_,rfl,ae,Same.new ht2⟩
  rw [show upd Hb t2 _=Hc from e3]
  refine ⟨(by show 2≤sizeLine; decide),fun l2 hl2=>?_⟩
  obtain ⟨Hd,e4,k4,s4⟩:∃H',upd Hc l2 (.lst [.int 1,.int 16])=H'∧H' l2=some (.lst [.int 1,.int 16])∧Same Hc H':=⟨_,rfl,ae,Same.new hl2⟩
  rw [show upd Hc l2 _=Hd from e4]
  refine ⟨(by show 2≤sizeLine; decide),fun t3 ht3=>?_⟩
  obtain ⟨He,e5,k5,s5⟩:∃H',upd Hd t3 (.tup [.ref l2,.int 0])=H'∧H' t3=some (.tup [.ref l2,.int 0])∧Same Hd H':=⟨_,rfl,ae,Same.new ht3⟩
  rw [show upd Hd t3 _=He from e5]
  refine ⟨(by show 3≤sizeLine; decide),fun li hli=>?_⟩
  obtain ⟨Hf,e6,k6,s6⟩:∃H',upd He li (.lst [.ref t1,.ref t2,.ref t3])=H'∧H' li=some (.lst [.ref t1,.ref t2,.ref t3])∧Same He H':=⟨_,rfl,ae,Same.new hli⟩
  rw [show upd He li _=Hf from e6]
  have s7f:=s1.trans (s2.trans (s3.trans (s4.trans (s5.trans s6))))
  refine ⟨li,rfl,⟨_,SqL.of k6⟩,ck (xs:=[.ref t1,.ref t2,.ref t3]) (fun i σ' H'=>(∃v1 v7 v8 v9 v10 v11 v12 v13:Option V,σ'=[some (.ref a),v1,some (.int b),some (.ref ka),some (.ref sh),some (.ref go),some (.ref fi),v7,v8,v9,v10,v11,v12,v13])∧Same Hf H') ⟨⟨_,_,_,_,_,_,_,_,rfl⟩,Same.refl _⟩ (fun i σ Hx _ ⟨_,sx⟩=>SqL.of (sx _ _ k6)) ?_ (fun σ Hx ⟨e,sx⟩=>hR _ _ ⟨e,s7f.trans sx⟩)⟩
  rintro i x _ Hx hi ⟨⟨v1,v7,v8,v9,v10,v11,v12,v13,rfl⟩,sx⟩
  have i3:i < 3:=(List.getElem?_eq_some_iff.mp hi).1
  obtain ⟨t,sd,m',n',kk,rfl,ht,hsd,a1,a2,a3,a4,a5⟩:∃ (t sd:Addr) (m' n' kk:Nat),x=.ref t∧Hx t=some (.tup [.ref sd,.int (kk:Int)])∧Hx sd=some (.lst [.int (m':Int),.int (n':Int)])∧1≤m'∧m'≤16∧1≤n'∧n'≤16∧kk≤32:=by
   match i,i3 with
   | 0,_=>exact ⟨t1,go,m,n,32,(Option.some.inj hi).symm,sx _ _ (s6 _ _ (s5 _ _ (s4 _ _ (s3 _ _ (s2 _ _ k1))))),sx _ _ (s7f _ _ hgo7),m1,by omega,n1,by omega,by decide⟩
   | 1,_=>exact ⟨t2,l1,16,1,0,(Option.some.inj hi).symm,sx _ _ (s6 _ _ (s5 _ _ (s4 _ _ k3))),sx _ _ (s6 _ _ (s5 _ _ (s4 _ _ (s3 _ _ k2)))),by decide,by decide,by decide,by decide,by decide⟩
   | 2,_=>exact ⟨t3,l2,1,16,0,(Option.some.inj hi).symm,sx _ _ (s6 _ _ k5),sx _ _ (s6 _ _ (s5 _ _ k4)),by decide,by decide,by decide,by decide,by decide⟩
  refine ⟨t,_,rfl,SqT.of ht,rfl,_,_,rfl,_,_,rfl,rfl,?_⟩
  have sfx:=s57.trans (s7f.trans sx)
  have Sx:ShopAt C Hx sh b [k]:=S5.keep (fun c o e=>sfx _ _ e) (fun c C' d fs e=>sfx _ _ e)
  refine ⟨_,rfl,_,rfl,_,rfl,0,sh,sd,_,_,_,[],rfl,hsd,.inl ⟨rfl,.inr ⟨rfl,b,[k],m',n',kk,rfl,rfl,rfl,Sx,(by show 1≤8; decide),b0,a1,a2,a3,a4,a5⟩⟩,fun l Hy hl hly sy=>?_⟩
  refine ⟨by decide,fun e he=>?_⟩
  obtain ⟨Hz,e7,k7,s7⟩:∃H',upd Hy e (.lst [])=H'∧H' e=some (.lst [])∧Same Hy H':=⟨_,rfl,ae,Same.new he⟩
  rw [show upd Hy e _=Hz from e7]
  refine ⟨.list [],.list [],.lst (SqL.of (s7 _ _ hly)) .nil,.lst (SqL.of k7) .nil,by decide +kernel,by decide +kernel,_,rfl,?_⟩
  rw [show (!PyData.eqv (.list []) (.list []))=false by decide +kernel]
  exact aI ⟨⟨_,_,_,_,_,_,_,_,rfl⟩,sx.trans (sy.trans s7)⟩
 rintro _ H8 ⟨⟨v1,v7,v8,v9,v10,v11,v12,v13,rfl⟩,s78⟩
 have s68:=s67.trans s78
 have s58:=s57.trans s78
 have hgo8:=s58 _ _ hgo5
 have S8:ShopAt C H8 sh b [k]:=S5.keep (fun c o e=>s58 _ _ e) (fun c C' d fs e=>s58 _ _ e)
 have dp:dpt (tR b [k] ((m:Int),(n:Int)) 2)≤60:=Nat.le_trans (vb _ _ _ _) (by decide)
 refine ⟨_,rfl,_,rfl,go,_,0,_,rfl,rfl,SqL.of hgo8,rfl,_,rfl,go,_,1,_,rfl,rfl,SqL.of hgo8,rfl,sh,b,[k],m,n,2,rfl,S8,(by show 1≤8; decide),b0,m1,by omega,n1,by omega,by decide,fun r v H9 hr hv s9=>?_⟩
 refine ⟨_,rfl,.tuple [.int (tB b [k] ((m:Int),(n:Int)) 2),toD (tR b [k] ((m:Int),(n:Int)) 2)],.tuple [.int (tB b [k] ((m:Int),(n:Int)) 2),toD (tR b [k] ((m:Int),(n:Int)) 2)],.tup (SqT.of hr) (.cons (.int _) (.cons (TrV.dat _ hv) .nil)),.tup (SqT.of (s9 _ _ (s68 _ _ hfi6))) (.cons (.int _) (.cons (TrV.dat _ (TrV.keep (fun c xs e=>(s68.trans s9) _ _ e) _ hfv6)) .nil)),gX dp _,gX dp _,?_⟩
 rw [PySem.SeqAt.eqv_refl _ (by
  show (true && (PyData.canLay0 (toD _) && true))=true
  rw [gj]; rfl)]
 exact q H9
end
theorem gb {α:Type} {us:List α} (h:us.length=1):∃a,us=[a]:=by
 match us,h with
 | [a],_=>exact ⟨a,rfl⟩
theorem fo {α:Type} {us:List α} (h:us.length=2):∃a b,us=[a,b]:=by
 match us,h with
 | [a,b],_=>exact ⟨a,b,rfl⟩
theorem gY {α:Type} {us:List α} (h:us.length=3):∃a b c,us=[a,b,c]:=by
 match us,h with
 | [a,b,c],_=>exact ⟨a,b,c,rfl⟩
theorem ll {α:Type} {us:List α} (h:us.length=4):∃a b c d,us=[a,b,c,d]:=by
 match us,h with
 | [a,b,c,d],_=>exact ⟨a,b,c,d,rfl⟩
theorem Gb {α:Type} {us:List α} (h:us.length=5):∃a b c d e,us=[a,b,c,d,e]:=by
 match us,h with
 | [a,b,c,d,e],_=>exact ⟨a,b,c,d,e,rfl⟩
abbrev DI (K:PySem.W.Frag) (n:Str) (st:Stmt) (f:Addr):Prop:=∃ (od an:Option Addr) (sl:Array (Option Value)) (oc kV dc pm cd ct:Value),PySem.W.nsIn K mainGlobals n=some (some (.ref f))∧K.lookup f=some ⟨oc,od,.func (PySem.W.fnOf n n (defArgs st) (defBody st) (defScope st) .none kV dc pm an cd ct),sl⟩∧PySem.W.codeIn K cd n=true∧PySem.W.keepIn K (.ref f)=true
abbrev MI (K:PySem.W.Frag) (C:Addr) (n q:Str) (st:Stmt) (f:Addr):Prop:=∃ (od an:Option Addr) (sl:Array (Option Value)) (oc kV dc pm cd ct:Value),PySem.W.findIn K (.ref C) n=some (some (.ref f))∧PySem.W.isFn K (.ref f)=true∧K.lookup f=some ⟨oc,od,.func (PySem.W.fnOf n q (defArgs st) (defBody st) (defScope st) .none kV dc pm an cd ct),sl⟩∧PySem.W.codeIn K cd q=true∧PySem.W.keepIn K (.ref f)=true
theorem diM {K:PySem.W.Frag} {n:Str} {st:Stmt} {f:Addr} {od an:Option Addr} {sl:Array (Option Value)} {oc kV dc pm cd ct:Value} (a:PySem.W.nsIn K mainGlobals n=some (some (.ref f))) (l:K.lookup f=some ⟨oc,od,.func (PySem.W.fnOf n n (defArgs st) (defBody st) (defScope st) .none kV dc pm an cd ct),sl⟩) (c:PySem.W.codeIn K cd n=true) (k:PySem.W.keepIn K (.ref f)=true):DI K n st f:=⟨_,_,_,_,_,_,_,_,_,a,l,c,k⟩
theorem miM {K:PySem.W.Frag} {C:Addr} {n q:Str} {st:Stmt} {f:Addr} {od an:Option Addr} {sl:Array (Option Value)} {oc kV dc pm cd ct:Value} (a:PySem.W.findIn K (.ref C) n=some (some (.ref f))) (i:PySem.W.isFn K (.ref f)=true) (l:K.lookup f=some ⟨oc,od,.func (PySem.W.fnOf n q (defArgs st) (defBody st) (defScope st) .none kV dc pm an cd ct),sl⟩) (c:PySem.W.codeIn K cd q=true) (k:PySem.W.keepIn K (.ref f)=true):MI K C n q st f:=⟨_,_,_,_,_,_,_,_,_,a,i,l,c,k⟩
theorem Gc {α:Type} {us:List α} (h:us.length=6):∃a b c d e f,us=[a,b,c,d,e,f]:=by
 match us,h with
 | [a,b,c,d,e,f],_=>exact ⟨a,b,c,d,e,f,rfl⟩
theorem ED {α:Type} {us:List α} (h:us.length=7):∃a b c d e f g,us=[a,b,c,d,e,f,g]:=by
 match us,h with
 | [a,b,c,d,e,f,g],_=>exact ⟨a,b,c,d,e,f,g,rfl⟩
open PySem.W in
theorem all_mk {l:OpenLaw} {w:World} {K:Frag} {h:Heap} {mg:Str→Option Value} {fa f0 f1 f2 f3 f4 f5 f6 f7 f8 f9 f10 f11 f12 f13 f14 f15 f16 f17 f18 f19 f20 f21 f22 f23 f24 f25 f26 f27 f28 f29 f30 f31 f32 C fm0 fm1 fm2 fm3 fm4 fm5 xWAYS xPlateError xNoPlate xTooLarge xNoNumber xNoTree xNoBlade xNoKind xNoKinds xNoLaying xNoLying xNoTable xNoTelling xNoText xNoWeights:Addr} (X:K.In h) (G:h.Ns mainGlobals mg) (hfa:mg "law" = some (.ref fa))
  {tc0:Tok} {tc1:Tok} {tc2:Tok} {tc3:Tok} {tc4:Tok} {tc5:Tok} {tc6:Tok} {tc7:Tok} {tc8:Tok} {tc9:Tok} {tc10:Tok}
  (d0:DI K "is_whole" gI f0)
  (d1:DI K "is_truth" gJ f1)
  (d2:DI K "is_row" qu f2)
  (d3:DI K "is_kind" eW f3)
  (d4:DI K "can_lie_turned" eX f4)
  (d5:DI K "check_plate" bE f5)
  (d6:DI K "check_sides" bG f6)
  (d7:DI K "lies_in" di f7)
  (d8:DI K "lyings_in" cz f8)
  (d9:DI K "parts_up_to" cg f9)
  (d10:DI K "cut_parts" cU f10)
  (d11:DI K "cuts_of" cL f11)
  (d12:DI K "best_leaf" cV f12)
  (d13:DI K "cuts_by_turns" bY f13)
  (d14:DI K "best_step" cW f14)
  (d15:DI K "tree_by_steps" bp f15)
  (d16:DI K "best_by_turns" bq f16)
  (d17:DI K "begins_with" cn f17)
  (d18:DI K "is_cut" gK f18)
  (d19:DI K "is_leaf" eV f19)
  (d20:DI K "spots_behind" bV f20)
  (d21:DI K "is_tree" dj f21)
  (d22:DI K "check_tree" bo f22)
  (d23:DI K "turns_of" bX f23)
  (d24:DI K "_law_pot" qv f24)
  (d25:DI K "_law_draw" jF f25)
  (d26:DI K "_law_great" gL f26)
  (d27:DI K "_law_told" jG f27)
  (d28:DI K "_law_due" nM f28)
  (d29:DI K "_law_no_side" eY f29)
  (d30:DI K "_law_no_turns" dM f30)
  (d31:DI K "_law_no_tree" eZ f31)
  (d32:DI K "law" jH f32)
  (aC:nsIn K mainGlobals "Shop" = some (some (.ref C)))
  (dm0:MI K C "__init__" "Shop.__init__" cA fm0)
  (dm1:MI K C "blade" "Shop.blade" cG fm1)
  (dm2:MI K C "kinds" "Shop.kinds" cH fm2)
  (dm3:MI K C "lyings" "Shop.lyings" cq fm3)
  (dm4:MI K C "is_lying" "Shop.is_lying" bZ fm4)
  (dm5:MI K C "sides" "Shop.sides" cI fm5)
  (pg:plainGet K C Str.empty=true)
  (hd:hasDictIn K C=true)
  (po:plainOver K C=true)
  (sa:findIn K (.ref C) "__setattr__" = some (some (.builtin "object.__setattr__")))
  (mk:makesIn K C=true)
  (kc:keepIn K (.ref C)=true)
  (n0:findIn K (.ref C) "blade_width" = some none)
  (n1:findIn K (.ref C) "kind_rows" = some none)
  (eWAYS:nsIn K mainGlobals "WAYS" = some (some (.ref xWAYS)))
  (ePlateError:nsIn K mainGlobals "PlateError" = some (some (.ref xPlateError)))
  (eNoPlate:nsIn K mainGlobals "NoPlate" = some (some (.ref xNoPlate)))
  (eTooLarge:nsIn K mainGlobals "TooLarge" = some (some (.ref xTooLarge)))
  (eNoNumber:nsIn K mainGlobals "NoNumber" = some (some (.ref xNoNumber)))
  (eNoTree:nsIn K mainGlobals "NoTree" = some (some (.ref xNoTree)))
  (eNoBlade:nsIn K mainGlobals "NoBlade" = some (some (.ref xNoBlade)))
  (eNoKind:nsIn K mainGlobals "NoKind" = some (some (.ref xNoKind)))
  (eNoKinds:nsIn K mainGlobals "NoKinds" = some (some (.ref xNoKinds)))
  (eNoLaying:nsIn K mainGlobals "NoLaying" = some (some (.ref xNoLaying)))
  (eNoLying:nsIn K mainGlobals "NoLying" = some (some (.ref xNoLying)))
  (eNoTable:nsIn K mainGlobals "NoTable" = some (some (.ref xNoTable)))
  (eNoTelling:nsIn K mainGlobals "NoTelling" = some (some (.ref xNoTelling)))
  (eNoText:nsIn K mainGlobals "NoText" = some (some (.ref xNoText)))
  (eNoWeights:nsIn K mainGlobals "NoWeights" = some (some (.ref xNoWeights)))
  (lWAYS:∃ (o:Obj) (its:Array Value) (n:Nat),K.lookup xWAYS=some o∧o.cls=.type "tuple" ∧ o.data=.seq its n∧its.size≤sizeLine∧Vals [.str "down",.str "across"] its.toList)
  (cPlateError:excIn K xPlateError L2.bmVE "ValueError.__new__" = true)
  (cNoPlate:excIn K xNoPlate L2.bmVE "ValueError.__new__" = true)
  (cTooLarge:excIn K xTooLarge L2.bmVE "ValueError.__new__" = true)
  (cNoNumber:excIn K xNoNumber L2.bmVE "ValueError.__new__" = true)
  (cNoTree:excIn K xNoTree L2.bmVE "ValueError.__new__" = true)
  (cNoBlade:excIn K xNoBlade L2.bmVE "ValueError.__new__" = true)
  (cNoKind:excIn K xNoKind L2.bmVE "ValueError.__new__" = true)
  (cNoKinds:excIn K xNoKinds L2.bmVE "ValueError.__new__" = true)
  (cNoLaying:excIn K xNoLaying L2.bmVE "ValueError.__new__" = true)
  (cNoLying:excIn K xNoLying L2.bmVE "ValueError.__new__" = true)
  (cNoTable:excIn K xNoTable L2.bmVE "ValueError.__new__" = true)
  (cNoTelling:excIn K xNoTelling L2.bmVE "ValueError.__new__" = true)
  (cNoText:excIn K xNoText L2.bmVE "ValueError.__new__" = true)
  (cNoWeights:excIn K xNoWeights L2.bmVE "ValueError.__new__" = true)
  (sNoPlatePlateError:subIn K (.ref xNoPlate) (.ref xPlateError)=some true)
  (sNoPlateNoPlate:subIn K (.ref xNoPlate) (.ref xNoPlate)=some true)
  (sNoPlateTooLarge:subIn K (.ref xNoPlate) (.ref xTooLarge)=some false)
  (sNoPlateNoNumber:subIn K (.ref xNoPlate) (.ref xNoNumber)=some false)
  (sNoPlateNoTree:subIn K (.ref xNoPlate) (.ref xNoTree)=some false)
  (sNoPlateNoBlade:subIn K (.ref xNoPlate) (.ref xNoBlade)=some false)
  (sNoPlateNoKind:subIn K (.ref xNoPlate) (.ref xNoKind)=some false)
  (sNoPlateNoKinds:subIn K (.ref xNoPlate) (.ref xNoKinds)=some false)
  (sNoPlateNoLaying:subIn K (.ref xNoPlate) (.ref xNoLaying)=some false)
  (sNoPlateNoLying:subIn K (.ref xNoPlate) (.ref xNoLying)=some false)
  (sNoPlateNoTable:subIn K (.ref xNoPlate) (.ref xNoTable)=some false)
  (sNoPlateNoTelling:subIn K (.ref xNoPlate) (.ref xNoTelling)=some false)
  (sNoPlateNoText:subIn K (.ref xNoPlate) (.ref xNoText)=some false)
  (sNoPlateNoWeights:subIn K (.ref xNoPlate) (.ref xNoWeights)=some false)
  (vNoPlate:subIn K (.ref xNoPlate) (.type "ValueError")=some true)
  (kaNoPlate:findIn K (.ref xNoPlate) "__class__" = some (some (.builtin "object.__class__")))
  (kbNoPlate:findIn K (.ref xNoPlate) "__getattribute__" = some (some (.builtin "BaseException.__getattribute__")))
  (kcNoPlate:findIn K (.ref xNoPlate) "__getattr__" = some none)
  (kdNoPlate:subIn K (.ref xNoPlate) (.type "BaseException")=some true)
  (keNoPlate:subIn K (.ref xNoPlate) (.type "object")=some true)
  (sTooLargePlateError:subIn K (.ref xTooLarge) (.ref xPlateError)=some true)
  (sTooLargeNoPlate:subIn K (.ref xTooLarge) (.ref xNoPlate)=some false)
  (sTooLargeTooLarge:subIn K (.ref xTooLarge) (.ref xTooLarge)=some true)
  (sTooLargeNoNumber:subIn K (.ref xTooLarge) (.ref xNoNumber)=some false)
  (sTooLargeNoTree:subIn K (.ref xTooLarge) (.ref xNoTree)=some false)
  (sTooLargeNoBlade:subIn K (.ref xTooLarge) (.ref xNoBlade)=some false)
  (sTooLargeNoKind:subIn K (.ref xTooLarge) (.ref xNoKind)=some false)
  (sTooLargeNoKinds:subIn K (.ref xTooLarge) (.ref xNoKinds)=some false)
  (sTooLargeNoLaying:subIn K (.ref xTooLarge) (.ref xNoLaying)=some false)
  (sTooLargeNoLying:subIn K (.ref xTooLarge) (.ref xNoLying)=some false)
  (sTooLargeNoTable:subIn K (.ref xTooLarge) (.ref xNoTable)=some false)
  (sTooLargeNoTelling:subIn K (.ref xTooLarge) (.ref xNoTelling)=some false)
  (sTooLargeNoText:subIn K (.ref xTooLarge) (.ref xNoText)=some false)
  (sTooLargeNoWeights:subIn K (.ref xTooLarge) (.ref xNoWeights)=some false)
  (vTooLarge:subIn K (.ref xTooLarge) (.type "ValueError")=some true)
  (kaTooLarge:findIn K (.ref xTooLarge) "__class__" = some (some (.builtin "object.__class__")))
  (kbTooLarge:findIn K (.ref xTooLarge) "__getattribute__" = some (some (.builtin "BaseException.__getattribute__")))
  (kcTooLarge:findIn K (.ref xTooLarge) "__getattr__" = some none)
  (kdTooLarge:subIn K (.ref xTooLarge) (.type "BaseException")=some true)
  (keTooLarge:subIn K (.ref xTooLarge) (.type "object")=some true)
  (sNoNumberPlateError:subIn K (.ref xNoNumber) (.ref xPlateError)=some true)
  (sNoNumberNoPlate:subIn K (.ref xNoNumber) (.ref xNoPlate)=some false)
  (sNoNumberTooLarge:subIn K (.ref xNoNumber) (.ref xTooLarge)=some false)
  (sNoNumberNoNumber:subIn K (.ref xNoNumber) (.ref xNoNumber)=some true)
  (sNoNumberNoTree:subIn K (.ref xNoNumber) (.ref xNoTree)=some false)
  (sNoNumberNoBlade:subIn K (.ref xNoNumber) (.ref xNoBlade)=some false)
  (sNoNumberNoKind:subIn K (.ref xNoNumber) (.ref xNoKind)=some false)
  (sNoNumberNoKinds:subIn K (.ref xNoNumber) (.ref xNoKinds)=some false)
  (sNoNumberNoLaying:subIn K (.ref xNoNumber) (.ref xNoLaying)=some false)
  (sNoNumberNoLying:subIn K (.ref xNoNumber) (.ref xNoLying)=some false)
  (sNoNumberNoTable:subIn K (.ref xNoNumber) (.ref xNoTable)=some false)
  (sNoNumberNoTelling:subIn K (.ref xNoNumber) (.ref xNoTelling)=some false)
  (sNoNumberNoText:subIn K (.ref xNoNumber) (.ref xNoText)=some false)
  (sNoNumberNoWeights:subIn K (.ref xNoNumber) (.ref xNoWeights)=some false)
  (vNoNumber:subIn K (.ref xNoNumber) (.type "ValueError")=some true)
  (kaNoNumber:findIn K (.ref xNoNumber) "__class__" = some (some (.builtin "object.__class__")))
  (kbNoNumber:findIn K (.ref xNoNumber) "__getattribute__" = some (some (.builtin "BaseException.__getattribute__")))
  (kcNoNumber:findIn K (.ref xNoNumber) "__getattr__" = some none)
  (kdNoNumber:subIn K (.ref xNoNumber) (.type "BaseException")=some true)
  (keNoNumber:subIn K (.ref xNoNumber) (.type "object")=some true)
  (sNoTreePlateError:subIn K (.ref xNoTree) (.ref xPlateError)=some true)
  (sNoTreeNoPlate:subIn K (.ref xNoTree) (.ref xNoPlate)=some false)
  (sNoTreeTooLarge:subIn K (.ref xNoTree) (.ref xTooLarge)=some false)
  (sNoTreeNoNumber:subIn K (.ref xNoTree) (.ref xNoNumber)=some false)
  (sNoTreeNoTree:subIn K (.ref xNoTree) (.ref xNoTree)=some true)
  (sNoTreeNoBlade:subIn K (.ref xNoTree) (.ref xNoBlade)=some false)
  (sNoTreeNoKind:subIn K (.ref xNoTree) (.ref xNoKind)=some false)
  (sNoTreeNoKinds:subIn K (.ref xNoTree) (.ref xNoKinds)=some false)
  (sNoTreeNoLaying:subIn K (.ref xNoTree) (.ref xNoLaying)=some false)
  (sNoTreeNoLying:subIn K (.ref xNoTree) (.ref xNoLying)=some false)
  (sNoTreeNoTable:subIn K (.ref xNoTree) (.ref xNoTable)=some false)
  (sNoTreeNoTelling:subIn K (.ref xNoTree) (.ref xNoTelling)=some false)
  (sNoTreeNoText:subIn K (.ref xNoTree) (.ref xNoText)=some false)
  (sNoTreeNoWeights:subIn K (.ref xNoTree) (.ref xNoWeights)=some false)
  (vNoTree:subIn K (.ref xNoTree) (.type "ValueError")=some true)
  (kaNoTree:findIn K (.ref xNoTree) "__class__" = some (some (.builtin "object.__class__")))
  (kbNoTree:findIn K (.ref xNoTree) "__getattribute__" = some (some (.builtin "BaseException.__getattribute__")))
  (kcNoTree:findIn K (.ref xNoTree) "__getattr__" = some none)
  (kdNoTree:subIn K (.ref xNoTree) (.type "BaseException")=some true)
  (keNoTree:subIn K (.ref xNoTree) (.type "object")=some true)
  (bPlateError:subIn K (.ref xPlateError) (.type "BaseException")=some true)
  (z0:nsIn K mainGlobals "isinstance" = some none)
  (z1:nsIn K mainGlobals "int" = some none)
  (z2:nsIn K mainGlobals "bool" = some none)
  (z3:nsIn K mainGlobals "list" = some none)
  (z4:nsIn K mainGlobals "tuple" = some none)
  (z5:nsIn K mainGlobals "len" = some none)
  (z6:nsIn K mainGlobals "range" = some none)
  (z7:nsIn K mainGlobals "max" = some none)
  (z8:nsIn K mainGlobals "min" = some none)
  (z9:nsIn K mainGlobals "abs" = some none)
  (z10:nsIn K mainGlobals "divmod" = some none)
  (z11:nsIn K mainGlobals "sum" = some none)
  (z12:nsIn K mainGlobals "sorted" = some none)
  (z13:nsIn K mainGlobals "all" = some none)
  (z14:nsIn K mainGlobals "repr" = some none)
  (z15:nsIn K mainGlobals "zip" = some none)
  (z16:nsIn K mainGlobals "enumerate" = some none)
  (z17:nsIn K mainGlobals "str" = some none)
  (z18:nsIn K mainGlobals "ValueError" = some none)
  (uc0:nsIn K mainGlobals "MOST_KINDS" = some (some (.int 8 tc0)))
  (uc1:nsIn K mainGlobals "THINGS_OF_A_KIND" = some (some (.int 5 tc1)))
  (uc2:nsIn K mainGlobals "DOWN" = some (some (.str "down" tc2)))
  (uc3:nsIn K mainGlobals "REST" = some (some (.str "rest" tc3)))
  (uc4:nsIn K mainGlobals "PIECE" = some (some (.str "piece" tc4)))
  (uc5:nsIn K mainGlobals "ACROSS" = some (some (.str "across" tc5)))
  (uc6:nsIn K mainGlobals "MOST_SIDE" = some (some (.int 16 tc6)))
  (uc7:nsIn K mainGlobals "MOST_TURNS" = some (some (.int 32 tc7)))
  (uc8:nsIn K mainGlobals "THINGS_OF_A_REST" = some (some (.int 1 tc8)))
  (uc9:nsIn K mainGlobals "THINGS_OF_A_PIECE" = some (some (.int 5 tc9)))
  (uc10:nsIn K mainGlobals "THINGS_OF_A_CUT" = some (some (.int 4 tc10))) :
  ∃fd:FuncData,(∀ (s:Shared) (v:Value),BindsTo s fd ⟨[v],[]⟩ [("_law_script",v)])∧∀base:Heap,K.In base→base.Ns mainGlobals mg→FnOk l.prog w K mg base CX0 37 fa fd ["_law_script"] (mZ K):=by
 obtain ⟨_,_,_,_,_,_,_,_,_,a0,l0,c0,k0⟩:=d0
 obtain ⟨_,_,_,_,_,_,_,_,_,a1,l1,c1,k1⟩:=d1
 obtain ⟨_,_,_,_,_,_,_,_,_,a2,l2,c2,k2⟩:=d2
 obtain ⟨_,_,_,_,_,_,_,_,_,a3,l3,c3,k3⟩:=d3
 obtain ⟨_,_,_,_,_,_,_,_,_,a4,l4,c4,k4⟩:=d4
 obtain ⟨_,_,_,_,_,_,_,_,_,a5,l5,c5,k5⟩:=d5
 obtain ⟨_,_,_,_,_,_,_,_,_,a6,l6,c6,k6⟩:=d6
 obtain ⟨_,_,_,_,_,_,_,_,_,a7,l7,c7,k7⟩:=d7
 obtain ⟨_,_,_,_,_,_,_,_,_,a8,l8,c8,k8⟩:=d8
 obtain ⟨_,_,_,_,_,_,_,_,_,a9,l9,c9,k9⟩:=d9
 obtain ⟨_,_,_,_,_,_,_,_,_,a10,l10,c10,k10⟩:=d10
 obtain ⟨_,_,_,_,_,_,_,_,_,a11,l11,c11,k11⟩:=d11
 obtain ⟨_,_,_,_,_,_,_,_,_,a12,l12,c12,k12⟩:=d12
 obtain ⟨_,_,_,_,_,_,_,_,_,a13,l13,c13,k13⟩:=d13
 obtain ⟨_,_,_,_,_,_,_,_,_,a14,l14,c14,k14⟩:=d14
 obtain ⟨_,_,_,_,_,_,_,_,_,a15,l15,c15,k15⟩:=d15
 obtain ⟨_,_,_,_,_,_,_,_,_,a16,l16,c16,k16⟩:=d16
 obtain ⟨_,_,_,_,_,_,_,_,_,a17,l17,c17,k17⟩:=d17
 obtain ⟨_,_,_,_,_,_,_,_,_,a18,l18,c18,k18⟩:=d18
 obtain ⟨_,_,_,_,_,_,_,_,_,a19,l19,c19,k19⟩:=d19
 obtain ⟨_,_,_,_,_,_,_,_,_,a20,l20,c20,k20⟩:=d20
 obtain ⟨_,_,_,_,_,_,_,_,_,a21,l21,c21,k21⟩:=d21
 obtain ⟨_,_,_,_,_,_,_,_,_,a22,l22,c22,k22⟩:=d22
 obtain ⟨_,_,_,_,_,_,_,_,_,a23,l23,c23,k23⟩:=d23
 obtain ⟨_,_,_,_,_,_,_,_,_,a24,l24,c24,k24⟩:=d24
 obtain ⟨_,_,_,_,_,_,_,_,_,a25,l25,c25,k25⟩:=d25
 obtain ⟨_,_,_,_,_,_,_,_,_,a26,l26,c26,k26⟩:=d26
 obtain ⟨_,_,_,_,_,_,_,_,_,a27,l27,c27,k27⟩:=d27
 obtain ⟨_,_,_,_,_,_,_,_,_,a28,l28,c28,k28⟩:=d28
 obtain ⟨_,_,_,_,_,_,_,_,_,a29,l29,c29,k29⟩:=d29
 obtain ⟨_,_,_,_,_,_,_,_,_,a30,l30,c30,k30⟩:=d30
 obtain ⟨_,_,_,_,_,_,_,_,_,a31,l31,c31,k31⟩:=d31
 obtain ⟨_,an,_,_,kV,dc,pm,cd,ct,a32,l32,c32,k32⟩:=d32
 obtain ⟨_,_,_,_,_,_,_,_,_,am0,im0,lm0,cm0,km0⟩:=dm0
 obtain ⟨_,_,_,_,_,_,_,_,_,am1,im1,lm1,cm1,km1⟩:=dm1
 obtain ⟨_,_,_,_,_,_,_,_,_,am2,im2,lm2,cm2,km2⟩:=dm2
 obtain ⟨_,_,_,_,_,_,_,_,_,am3,im3,lm3,cm3,km3⟩:=dm3
 obtain ⟨_,_,_,_,_,_,_,_,_,am4,im4,lm4,cm4,km4⟩:=dm4
 obtain ⟨_,_,_,_,_,_,_,_,_,am5,im5,lm5,cm5,km5⟩:=dm5
 have e:=hfa.symm.trans (mg_of X G a32)
 cases e
 have F0:=aF (st:=gI) l0 c0 k0
 have b0:=F0.binds (ps:=["thing","least"]) fun _ _ _ _ _ _ us hl=>by obtain ⟨_,_,rfl⟩:=fo hl; rfl
 have F1:=aF (st:=gJ) l1 c1 k1
 have b1:=F1.binds (ps:=["thing"]) fun _ _ _ _ _ _ us hl=>by obtain ⟨_,rfl⟩:=gb hl; rfl
 have F2:=aF (st:=qu) l2 c2 k2
 have b2:=F2.binds (ps:=["thing"]) fun _ _ _ _ _ _ us hl=>by obtain ⟨_,rfl⟩:=gb hl; rfl
 have F3:=aF (st:=eW) l3 c3 k3
 have b3:=F3.binds (ps:=["thing"]) fun _ _ _ _ _ _ us hl=>by obtain ⟨_,rfl⟩:=gb hl; rfl
 have F4:=aF (st:=eX) l4 c4 k4
 have b4:=F4.binds (ps:=["kind"]) fun _ _ _ _ _ _ us hl=>by obtain ⟨_,rfl⟩:=gb hl; rfl
 have F5:=aF (st:=bE) l5 c5 k5
 have b5:=F5.binds (ps:=["wide","high"]) fun _ _ _ _ _ _ us hl=>by obtain ⟨_,_,rfl⟩:=fo hl; rfl
 have F6:=aF (st:=bG) l6 c6 k6
 have b6:=F6.binds (ps:=["wide","high","most"]) fun _ _ _ _ _ _ us hl=>by obtain ⟨_,_,_,rfl⟩:=gY hl; rfl
 have F7:=aF (st:=di) l7 c7 k7
 have b7:=F7.binds (ps:=["shop","wide","high","kind","turned","x","y"]) fun _ _ _ _ _ _ us hl=>by obtain ⟨_,_,_,_,_,_,_,rfl⟩:=ED hl; rfl
 have F8:=aF (st:=cz) l8 c8 k8
 have b8:=F8.binds (ps:=["shop","part"]) fun _ _ _ _ _ _ us hl=>by obtain ⟨_,_,rfl⟩:=fo hl; rfl
 have F9:=aF (st:=cg) l9 c9 k9
 have b9:=F9.binds (ps:=["wide","high"]) fun _ _ _ _ _ _ us hl=>by obtain ⟨_,_,rfl⟩:=fo hl; rfl
 have F10:=aF (st:=cU) l10 c10 k10
 have b10:=F10.binds (ps:=["blade","part","way","p"]) fun _ _ _ _ _ _ us hl=>by obtain ⟨_,_,_,_,rfl⟩:=ll hl; rfl
 have F11:=aF (st:=cL) l11 c11 k11
 have b11:=F11.binds (ps:=["blade","part"]) fun _ _ _ _ _ _ us hl=>by obtain ⟨_,_,rfl⟩:=fo hl; rfl
 have F12:=aF (st:=cV) l12 c12 k12
 have b12:=F12.binds (ps:=["shop","part"]) fun _ _ _ _ _ _ us hl=>by obtain ⟨_,_,rfl⟩:=fo hl; rfl
 have F13:=aF (st:=bY) l13 c13 k13
 have b13:=F13.binds (ps:=["cuts","way_ahead","left"]) fun _ _ _ _ _ _ us hl=>by obtain ⟨_,_,_,rfl⟩:=gY hl; rfl
 have F14:=aF (st:=cW) l14 c14 k14
 have b14:=F14.binds (ps:=["leaf_found","cuts","worths"]) fun _ _ _ _ _ _ us hl=>by obtain ⟨_,_,_,rfl⟩:=gY hl; rfl
 have F15:=aF (st:=bp) l15 c15 k15
 have b15:=F15.binds (ps:=["steps","key"]) fun _ _ _ _ _ _ us hl=>by obtain ⟨_,_,rfl⟩:=fo hl; rfl
 have F16:=aF (st:=bq) l16 c16 k16
 have b16:=F16.binds (ps:=["shop","wide","high","k"]) fun _ _ _ _ _ _ us hl=>by obtain ⟨_,_,_,_,rfl⟩:=ll hl; rfl
 have F17:=aF (st:=cn) l17 c17 k17
 have b17:=F17.binds (ps:=["thing","word","many"]) fun _ _ _ _ _ _ us hl=>by obtain ⟨_,_,_,rfl⟩:=gY hl; rfl
 have F18:=aF (st:=gK) l18 c18 k18
 have b18:=F18.binds (ps:=["blade","spot"]) fun _ _ _ _ _ _ us hl=>by obtain ⟨_,_,rfl⟩:=fo hl; rfl
 have F19:=aF (st:=eV) l19 c19 k19
 have b19:=F19.binds (ps:=["shop","spot"]) fun _ _ _ _ _ _ us hl=>by obtain ⟨_,_,rfl⟩:=fo hl; rfl
 have F20:=aF (st:=bV) l20 c20 k20
 have b20:=F20.binds (ps:=["blade","spot"]) fun _ _ _ _ _ _ us hl=>by obtain ⟨_,_,rfl⟩:=fo hl; rfl
 have F21:=aF (st:=dj) l21 c21 k21
 have b21:=F21.binds (ps:=["shop","wide","high","thing"]) fun _ _ _ _ _ _ us hl=>by obtain ⟨_,_,_,_,rfl⟩:=ll hl; rfl
 have F22:=aF (st:=bo) l22 c22 k22
 have b22:=F22.binds (ps:=["shop","wide","high","thing"]) fun _ _ _ _ _ _ us hl=>by obtain ⟨_,_,_,_,rfl⟩:=ll hl; rfl
 have F23:=aF (st:=bX) l23 c23 k23
 have b23:=F23.binds (ps:=["shop","wide","high","tree"]) fun _ _ _ _ _ _ us hl=>by obtain ⟨_,_,_,_,rfl⟩:=ll hl; rfl
 have F24:=aF (st:=qv) l24 c24 k24
 have b24:=F24.binds (ps:=["_law_cell"]) fun _ _ _ _ _ _ us hl=>by obtain ⟨_,rfl⟩:=gb hl; rfl
 have F25:=aF (st:=jF) l25 c25 k25
 have b25:=F25.binds (ps:=["_law_pot_here","_law_many"]) fun _ _ _ _ _ _ us hl=>by obtain ⟨_,_,rfl⟩:=fo hl; rfl
 have F26:=aF (st:=gL) l26 c26 k26
 have b26:=F26.binds (ps:=["_law_pot_here","_law_many"]) fun _ _ _ _ _ _ us hl=>by obtain ⟨_,_,rfl⟩:=fo hl; rfl
 have F27:=aF (st:=jG) l27 c27 k27
 have b27:=F27.binds (ps:=["_law_way","_law_shop","_law_sides","_law_thing"]) fun _ _ _ _ _ _ us hl=>by obtain ⟨_,_,_,_,rfl⟩:=ll hl; rfl
 have F28:=aF (st:=nM) l28 c28 k28
 have b28:=F28.binds (ps:=["_law_which"]) fun _ _ _ _ _ _ us hl=>by obtain ⟨_,rfl⟩:=gb hl; rfl
 have F29:=aF (st:=eY) l29 c29 k29
 have b29:=F29.binds (ps:=["_law_pot_here"]) fun _ _ _ _ _ _ us hl=>by obtain ⟨_,rfl⟩:=gb hl; rfl
 have F30:=aF (st:=dM) l30 c30 k30
 have b30:=F30.binds (ps:=["_law_pot_here"]) fun _ _ _ _ _ _ us hl=>by obtain ⟨_,rfl⟩:=gb hl; rfl
 have F31:=aF (st:=eZ) l31 c31 k31
 have b31:=F31.binds (ps:=["_law_pot_here","_law_sides","_law_blade","_law_kind"]) fun _ _ _ _ _ _ us hl=>by obtain ⟨_,_,_,_,rfl⟩:=ll hl; rfl
 have F32:=aF (st:=jH) l32 c32 k32
 have b32:=F32.binds (ps:=["_law_script"]) fun _ _ _ _ _ _ us hl=>by obtain ⟨_,rfl⟩:=gb hl; rfl
 have Fm0:=aF (st:=cA) lm0 cm0 km0
 have bm0:=Fm0.binds (ps:=["self","blade","kinds"]) fun _ _ _ _ _ _ us hl=>by obtain ⟨_,_,_,rfl⟩:=gY hl; rfl
 have Fm1:=aF (st:=cG) lm1 cm1 km1
 have bm1:=Fm1.binds (ps:=["self"]) fun _ _ _ _ _ _ us hl=>by obtain ⟨_,rfl⟩:=gb hl; rfl
 have Fm2:=aF (st:=cH) lm2 cm2 km2
 have bm2:=Fm2.binds (ps:=["self"]) fun _ _ _ _ _ _ us hl=>by obtain ⟨_,rfl⟩:=gb hl; rfl
 have Fm3:=aF (st:=cq) lm3 cm3 km3
 have bm3:=Fm3.binds (ps:=["self"]) fun _ _ _ _ _ _ us hl=>by obtain ⟨_,rfl⟩:=gb hl; rfl
 have Fm4:=aF (st:=bZ) lm4 cm4 km4
 have bm4:=Fm4.binds (ps:=["self","kind","turned"]) fun _ _ _ _ _ _ us hl=>by obtain ⟨_,_,_,rfl⟩:=gY hl; rfl
 have Fm5:=aF (st:=cI) lm5 cm5 km5
 have bm5:=Fm5.binds (ps:=["self","kind","turned"]) fun _ _ _ _ _ _ us hl=>by obtain ⟨_,_,_,rfl⟩:=gY hl; rfl
 have y0:=mg_none_of X G z0
 have y1:=mg_none_of X G z1
 have y2:=mg_none_of X G z2
 have y3:=mg_none_of X G z3
 have y4:=mg_none_of X G z4
 have y5:=mg_none_of X G z5
 have y6:=mg_none_of X G z6
 have y7:=mg_none_of X G z7
 have y8:=mg_none_of X G z8
 have y9:=mg_none_of X G z9
 have y10:=mg_none_of X G z10
 have y11:=mg_none_of X G z11
 have y12:=mg_none_of X G z12
 have y13:=mg_none_of X G z13
 have y14:=mg_none_of X G z14
 have y15:=mg_none_of X G z15
 have y16:=mg_none_of X G z16
 have y17:=mg_none_of X G z17
 have y18:=mg_none_of X G z18
 have gWAYS:=mg_of X G eWAYS
 have gPlateError:=mg_of X G ePlateError
 have gNoPlate:=mg_of X G eNoPlate
 have gTooLarge:=mg_of X G eTooLarge
 have gNoNumber:=mg_of X G eNoNumber
 have gNoTree:=mg_of X G eNoTree
 have gNoBlade:=mg_of X G eNoBlade
 have gNoKind:=mg_of X G eNoKind
 have gNoKinds:=mg_of X G eNoKinds
 have gNoLaying:=mg_of X G eNoLaying
 have gNoLying:=mg_of X G eNoLying
 have gNoTable:=mg_of X G eNoTable
 have gNoTelling:=mg_of X G eNoTelling
 have gNoText:=mg_of X G eNoText
 have gNoWeights:=mg_of X G eNoWeights
 have u0:=mg_of X G uc0
 have u1:=mg_of X G uc1
 have u2:=mg_of X G uc2
 have u3:=mg_of X G uc3
 have u4:=mg_of X G uc4
 have u5:=mg_of X G uc5
 have u6:=mg_of X G uc6
 have u7:=mg_of X G uc7
 have u8:=mg_of X G uc8
 have u9:=mg_of X G uc9
 have u10:=mg_of X G uc10
 have q0:=mg_of X G a0
 have q1:=mg_of X G a1
 have q2:=mg_of X G a2
 have q3:=mg_of X G a3
 have q4:=mg_of X G a4
 have q5:=mg_of X G a5
 have q6:=mg_of X G a6
 have q7:=mg_of X G a7
 have q8:=mg_of X G a8
 have q9:=mg_of X G a9
 have q10:=mg_of X G a10
 have q11:=mg_of X G a11
 have q12:=mg_of X G a12
 have q13:=mg_of X G a13
 have q14:=mg_of X G a14
 have q15:=mg_of X G a15
 have q16:=mg_of X G a16
 have q17:=mg_of X G a17
 have q18:=mg_of X G a18
 have q19:=mg_of X G a19
 have q20:=mg_of X G a20
 have q21:=mg_of X G a21
 have q22:=mg_of X G a22
 have q23:=mg_of X G a23
 have q24:=mg_of X G a24
 have q25:=mg_of X G a25
 have q26:=mg_of X G a26
 have q27:=mg_of X G a27
 have q28:=mg_of X G a28
 have q29:=mg_of X G a29
 have q30:=mg_of X G a30
 have q31:=mg_of X G a31
 have q32:=mg_of X G a32
 have qC:=mg_of X G aC
 refine ⟨fnOf "law" "law" (defArgs jH) (defBody jH) (defScope jH) .none kV dc pm an cd ct,fun s v=>.of_eq rfl,fun base _ _=>?_⟩
 have B:Blt mg:=⟨y0,y1,y2,y3,y4,y5,y6,y7,y8,y9,y10,y11,y12,y13,y14,y15,y16,⟨_,u0⟩,⟨_,u1⟩⟩
 have T:ShopTxt K C:=⟨⟨pg,hd,po,sa⟩,n0,n1⟩
 have ZB:BeC K mg xWAYS:=⟨⟨_,u2⟩,⟨_,u3⟩,⟨_,u4⟩,⟨_,u5⟩,⟨_,u6⟩,gWAYS,fun H=>.inr lWAYS⟩
 have Z:TrC K mg xWAYS:=⟨⟨_,u2⟩,⟨_,u3⟩,⟨_,u4⟩,⟨_,u8⟩,⟨_,u9⟩,⟨_,u10⟩,gWAYS,fun H=>.inr lWAYS⟩
 have D0:Dn l.prog w K mg base "is_whole" ["thing","least"] 1 (bN K):=⟨_,_,qw F0 B,b0,k0,q0⟩
 have D1:Dn l.prog w K mg base "is_truth" ["thing"] 1 (gf K):=⟨_,_,qx F1 B,b1,k1,q1⟩
 have D2:Dn l.prog w K mg base "is_row" ["thing"] 1 (jv K):=⟨_,_,uR F2 B,b2,k2,q2⟩
 have D3:Dn l.prog w K mg base "is_kind" ["thing"] 2 (eI K):=⟨_,_,nN F3 B D0 D1 D2,b3,k3,q3⟩
 have D4:Dn l.prog w K mg base "can_lie_turned" ["kind"] 1 (eJ K):=⟨_,_,nO F4,b4,k4,q4⟩
 have MB:Mn l.prog w K mg base C "blade" ["self"] 1 (gh C):=⟨_,_,qy Fm1 T,bm1,⟨am1,im1,km1⟩⟩
 have MK:Mn l.prog w K mg base C "kinds" ["self"] 1 (iN C):=⟨_,_,qz Fm2 T y3,bm2,⟨am2,im2,km2⟩⟩
 have ML:Mn l.prog w K mg base C "lyings" ["self"] 2 (gF C):=⟨_,_,nP Fm3 T y16 D4,bm3,⟨am3,im3,km3⟩⟩
 have MI:Mn l.prog w K mg base C "is_lying" ["self","kind","turned"] 2 (cT K C):=⟨_,_,kP Fm4 B T D0 D1 D4,bm4,⟨am4,im4,km4⟩⟩
 have MS:MnX l.prog w K mg base C "sides" ["self","kind","turned"] 3 (gi K C xNoLying):=⟨_,_,qD Fm5 T MI gNoLying cNoLying,bm5,⟨am5,im5,km5⟩⟩
 have DS:Kn l.prog w K mg base "Shop" C ["self","blade","kinds"] 3 (kH C):=⟨_,_,⟨mk,am0,im0,kc⟩,su Fm0 B T D0 D2 D3,bm0,qC⟩
 have D5:Dn l.prog w K mg base "check_plate" ["wide","high"] 2 (sH):=⟨_,_,nV F5 D0,b5,k5,q5⟩
 have D6:Dn l.prog w K mg base "check_sides" ["wide","high","most"] 1 (uU):=⟨_,_,nY F6,b6,k6,q6⟩
 have D7:Dn l.prog w K mg base "lies_in" ["shop","wide","high","kind","turned","x","y"] 4 (kS C):=⟨_,_,sJ F7 T D0 MI MS,b7,k7,q7⟩
 have D8:Dn l.prog w K mg base "lyings_in" ["shop","part"] 5 (kT C):=⟨_,_,sL F8 T ML D7,b8,k8,q8⟩
 have D9:Dn l.prog w K mg base "parts_up_to" ["wide","high"] 1 (je):=⟨_,_,qK F9 B,b9,k9,q9⟩
 have D10:Dn l.prog w K mg base "cut_parts" ["blade","part","way","p"] 1 (fc):=⟨_,_,nS F10 Z,b10,k10,q10⟩
 have D11:Dn l.prog w K mg base "cuts_of" ["blade","part"] 2 (kU):=⟨_,_,sM F11 B ZB D10,b11,k11,q11⟩
 have D12:Dn l.prog w K mg base "best_leaf" ["shop","part"] 6 (jf C):=⟨_,_,qN F12 ZB T MK D8,b12,k12,q12⟩
 have D13:Dn l.prog w K mg base "cuts_by_turns" ["cuts","way_ahead","left"] 1 (qT):=⟨_,_,uV F13,b13,k13,q13⟩
 have D14:Dn l.prog w K mg base "best_step" ["leaf_found","cuts","worths"] 1 (jg l.prog w):=⟨_,_,oi F14,b14,k14,q14⟩
 have D15:Dn l.prog w K mg base "tree_by_steps" ["steps","key"] 34 (dO l.prog w 33):=⟨_,_,jS F15 ZB (fun n h=>⟨_,_,h,b15,k15,q15⟩) 33,b15,k15,q15⟩
 have D16:Dn l.prog w K mg base "best_by_turns" ["shop","wide","high","k"] 35 (jR C):=⟨_,_,qV F16 ZB B ⟨_,u7⟩ T MB D0 D5 D6 D9 D11 D12 D13 D14 D15,b16,k16,q16⟩
 have D7:Dn l.prog w K mg base "lies_in" ["shop","wide","high","kind","turned","x","y"] 4 (jc K C):=⟨_,_,qF F7 T D0 MI MS,b7,k7,q7⟩
 have D17:Dn l.prog w K mg base "begins_with" ["thing","word","many"] 2 (fb):=⟨_,_,nR F17 B y17 D2,b17,k17,q17⟩
 have D18:Dn l.prog w K mg base "is_cut" ["blade","spot"] 3 (qG):=⟨_,_,uT F18 Z D17 D0,b18,k18,q18⟩
 have D19:Dn l.prog w K mg base "is_leaf" ["shop","spot"] 5 (kQ C):=⟨_,_,sE F19 Z D17 D7,b19,k19,q19⟩
 have D20:Dn l.prog w K mg base "spots_behind" ["blade","spot"] 2 (gM):=⟨_,_,nT F20 Z D10,b20,k20,q20⟩
 have D21:Dn l.prog w K mg base "is_tree" ["shop","wide","high","thing"] 6 (fg C):=⟨_,_,nW F21 T MB D5 D18 D19 D20,b21,k21,q21⟩
 have D22:Dn l.prog w K mg base "check_tree" ["shop","wide","high","thing"] 7 (gR C):=⟨_,_,oq F22 D21,b22,k22,q22⟩
 have XCP:L2.DnX l.prog w K mg base "check_plate" ["wide","high"] 2 (mV K xNoPlate):=⟨_,_,kZ F5 gNoPlate cNoPlate D0,b5,k5,q5⟩
 have XCS:L2.DnX l.prog w K mg base "check_sides" ["wide","high","most"] 1 (qW xTooLarge):=⟨_,_,lb F6 gTooLarge cTooLarge,b6,k6,q6⟩
 have XCT:L2.DnX l.prog w K mg base "check_tree" ["shop","wide","high","thing"] 7 (fN C xNoTree):=⟨_,_,lg F22 gNoTree cNoTree D21,b22,k22,q22⟩
 have XIP:L2.DnX l.prog w K mg base "is_tree" ["shop","wide","high","thing"] 3 (dm K xNoPlate):=⟨_,_,lc F21 XCP,b21,k21,q21⟩
 have XCQ:L2.DnX l.prog w K mg base "check_tree" ["shop","wide","high","thing"] 4 (dm K xNoPlate):=⟨_,_,le F22 XIP,b22,k22,q22⟩
 have XBY:L2.DnX l.prog w K mg base "best_by_turns" ["shop","wide","high","k"] 35 (fun vs H Q E=>jR C vs H Q E∨kY K xNoPlate xTooLarge xNoNumber vs H Q E):=⟨_,_,FnOk.or (FnOk.weak (qV F16 ZB B ⟨_,u7⟩ T MB D0 D5 D6 D9 D11 D12 D13 D14 D15)) (FnOk.mono (sQ F16 ⟨_,u6⟩ ⟨_,u7⟩ gNoNumber cNoNumber D0 XCP XCS) (by decide)),b16,k16,q16⟩
 have XTU:L2.DnX l.prog w K mg base "turns_of" ["shop","wide","high","tree"] 8 (fun vs H Q E=>jh C vs H Q E∨(gS C xNoTree vs H Q E∨dm K xNoPlate vs H Q E)):=⟨_,_,FnOk.or (FnOk.weak (qY F23 B Z D22)) (FnOk.or (ot F23 B Z XCT) (FnOk.mono (om F23 XCQ) (by decide))),b23,k23,q23⟩
 have ZC:Cl mg xNoPlate xTooLarge xNoNumber xNoTree xNoBlade xNoKind xNoKinds xNoLaying xNoLying xNoTable xNoTelling xNoText xNoWeights:=⟨gNoPlate,gTooLarge,gNoNumber,gNoTree,gNoBlade,gNoKind,gNoKinds,gNoLaying,gNoLying,gNoTable,gNoTelling,gNoText,gNoWeights,y18⟩
 have XNoPlate:ExK K xNoPlate:=⟨kaNoPlate,kbNoPlate,kcNoPlate,kdNoPlate,keNoPlate,(eK cNoPlate).1⟩
 have Y0:Ec K xPlateError xNoPlate xNoPlate xTooLarge xNoNumber xNoTree xNoBlade xNoKind xNoKinds xNoLaying xNoLying xNoTable xNoTelling xNoText xNoWeights 0:=⟨XNoPlate,eL,(aA sNoPlateNoPlate cTooLarge sNoPlateTooLarge),(aA sNoPlateNoPlate cNoNumber sNoPlateNoNumber),(aA sNoPlateNoPlate cNoTree sNoPlateNoTree),iV vNoPlate,(ap (aA sNoPlateNoPlate cNoBlade sNoPlateNoBlade) (ap (aA sNoPlateNoPlate cNoKind sNoPlateNoKind) (ap (aA sNoPlateNoPlate cNoKinds sNoPlateNoKinds) (ap (aA sNoPlateNoPlate cNoLaying sNoPlateNoLaying) (ap (aA sNoPlateNoPlate cNoLying sNoPlateNoLying) bD))))),(ap (aA sNoPlateNoPlate cNoTable sNoPlateNoTable) (ap (aA sNoPlateNoPlate cNoTelling sNoPlateNoTelling) (ap (aA sNoPlateNoPlate cNoText sNoPlateNoText) (ap (aA sNoPlateNoPlate cNoWeights sNoPlateNoWeights) bD)))),iW cPlateError bPlateError sNoPlatePlateError⟩
 have XTooLarge:ExK K xTooLarge:=⟨kaTooLarge,kbTooLarge,kcTooLarge,kdTooLarge,keTooLarge,(eK cTooLarge).1⟩
 have Y1:Ec K xPlateError xTooLarge xNoPlate xTooLarge xNoNumber xNoTree xNoBlade xNoKind xNoKinds xNoLaying xNoLying xNoTable xNoTelling xNoText xNoWeights 1:=⟨XTooLarge,(aA sTooLargeTooLarge cNoPlate sTooLargeNoPlate),eL,(aA sTooLargeTooLarge cNoNumber sTooLargeNoNumber),(aA sTooLargeTooLarge cNoTree sTooLargeNoTree),iV vTooLarge,(ap (aA sTooLargeTooLarge cNoBlade sTooLargeNoBlade) (ap (aA sTooLargeTooLarge cNoKind sTooLargeNoKind) (ap (aA sTooLargeTooLarge cNoKinds sTooLargeNoKinds) (ap (aA sTooLargeTooLarge cNoLaying sTooLargeNoLaying) (ap (aA sTooLargeTooLarge cNoLying sTooLargeNoLying) bD))))),(ap (aA sTooLargeTooLarge cNoTable sTooLargeNoTable) (ap (aA sTooLargeTooLarge cNoTelling sTooLargeNoTelling) (ap (aA sTooLargeTooLarge cNoText sTooLargeNoText) (ap (aA sTooLargeTooLarge cNoWeights sTooLargeNoWeights) bD)))),iW cPlateError bPlateError sTooLargePlateError⟩
 have XNoNumber:ExK K xNoNumber:=⟨kaNoNumber,kbNoNumber,kcNoNumber,kdNoNumber,keNoNumber,(eK cNoNumber).1⟩
 have Y2:Ec K xPlateError xNoNumber xNoPlate xTooLarge xNoNumber xNoTree xNoBlade xNoKind xNoKinds xNoLaying xNoLying xNoTable xNoTelling xNoText xNoWeights 2:=⟨XNoNumber,(aA sNoNumberNoNumber cNoPlate sNoNumberNoPlate),(aA sNoNumberNoNumber cTooLarge sNoNumberTooLarge),eL,(aA sNoNumberNoNumber cNoTree sNoNumberNoTree),iV vNoNumber,(ap (aA sNoNumberNoNumber cNoBlade sNoNumberNoBlade) (ap (aA sNoNumberNoNumber cNoKind sNoNumberNoKind) (ap (aA sNoNumberNoNumber cNoKinds sNoNumberNoKinds) (ap (aA sNoNumberNoNumber cNoLaying sNoNumberNoLaying) (ap (aA sNoNumberNoNumber cNoLying sNoNumberNoLying) bD))))),(ap (aA sNoNumberNoNumber cNoTable sNoNumberNoTable) (ap (aA sNoNumberNoNumber cNoTelling sNoNumberNoTelling) (ap (aA sNoNumberNoNumber cNoText sNoNumberNoText) (ap (aA sNoNumberNoNumber cNoWeights sNoNumberNoWeights) bD)))),iW cPlateError bPlateError sNoNumberPlateError⟩
 have XNoTree:ExK K xNoTree:=⟨kaNoTree,kbNoTree,kcNoTree,kdNoTree,keNoTree,(eK cNoTree).1⟩
 have Y3:Ec K xPlateError xNoTree xNoPlate xTooLarge xNoNumber xNoTree xNoBlade xNoKind xNoKinds xNoLaying xNoLying xNoTable xNoTelling xNoText xNoWeights 3:=⟨XNoTree,(aA sNoTreeNoTree cNoPlate sNoTreeNoPlate),(aA sNoTreeNoTree cTooLarge sNoTreeTooLarge),(aA sNoTreeNoTree cNoNumber sNoTreeNoNumber),eL,iV vNoTree,(ap (aA sNoTreeNoTree cNoBlade sNoTreeNoBlade) (ap (aA sNoTreeNoTree cNoKind sNoTreeNoKind) (ap (aA sNoTreeNoTree cNoKinds sNoTreeNoKinds) (ap (aA sNoTreeNoTree cNoLaying sNoTreeNoLaying) (ap (aA sNoTreeNoTree cNoLying sNoTreeNoLying) bD))))),(ap (aA sNoTreeNoTree cNoTable sNoTreeNoTable) (ap (aA sNoTreeNoTree cNoTelling sNoTreeNoTelling) (ap (aA sNoTreeNoTree cNoText sNoTreeNoText) (ap (aA sNoTreeNoTree cNoWeights sNoTreeNoWeights) bD)))),iW cPlateError bPlateError sNoTreePlateError⟩
 have D24:Dn l.prog w K mg base "_law_pot" ["_law_cell"] 1 (kM):=⟨_,_,uX F24 B,b24,k24,q24⟩
 have D25:Dn l.prog w K mg base "_law_draw" ["_law_pot_here","_law_many"] 1 (dh):=⟨_,_,sR F25 B,b25,k25,q25⟩
 have D26:Dn l.prog w K mg base "_law_great" ["_law_pot_here","_law_many"] 2 (cY):=⟨_,_,ou F26 B D25,b26,k26,q26⟩
 have D27:Dn l.prog w K mg base "_law_told" ["_law_way","_law_shop","_law_sides","_law_thing"] 36 (ji K C):=⟨_,_,qZ F27 B ZC Y0 Y1 Y2 Y3 gPlateError XBY XTU,b27,k27,q27⟩
 have D28:Dn l.prog w K mg base "_law_due" ["_law_which"] 1 (lh):=⟨_,_,sS F28 B,b28,k28,q28⟩
 have D29:Dn l.prog w K mg base "_law_no_side" ["_law_pot_here"] 3 (gT):=⟨_,_,ow F29 B D25 D26,b29,k29,q29⟩
 have D30:Dn l.prog w K mg base "_law_no_turns" ["_law_pot_here"] 3 (fP):=⟨_,_,lj F30 B D25 D26,b30,k30,q30⟩
 have D31:Dn l.prog w K mg base "_law_no_tree" ["_law_pot_here","_law_sides","_law_blade","_law_kind"] 3 (gW):=⟨_,_,ox F31 B D25 D26,b31,k31,q31⟩
 exact vc F32 B D24 D25 D26 D16 D29 D30 D31 D27 D28 DS
theorem walk {l:PySem.W.OpenLaw} {q:Program} {loose:List Str} {XP:(Str→Option Value)→Heap→Prop} {YP:World→Heap→Prop} {d:DefRec} {K:Params→PySem.W.Frag} (hn:l.most=some 63) (hdf:d.params.defaults=[])
  (hY:∀ (w:World) (h:Heap),YP w h→(K w.params).In h)
  (F:∀ (w:World) (mg:Str→Option Value) (fa:Addr) (h:Heap),(K w.params).In h→h.Ns mainGlobals mg→mg d.name=some (.ref fa) →
   ∃fd:FuncData,(∀ (s:Shared) (u:Value),BindsTo s fd ⟨[u],[]⟩ [("_law_script",u)])∧∀base:Heap,(K w.params).In base→base.Ns mainGlobals mg→FnOk l.prog w (K w.params) mg base CX0 37 fa fd ["_law_script"] (mZ (K w.params))) :
  PySem.W.WalkO q loose XP YP l.row.toRowW d [] (fun f vs=>PySem.call f vs) :=
 L2.walk_of (n:=63) (k:=37) (x := "_law_script") (CX:=fun _=>CX0) (sp:=fun w=>mZ (K w.params)) hn (by decide) hdf ⟨rfl,by decide,by decide,rfl⟩ hY F (fun _ _ a ns hl _ hS=>⟨a,ns,rfl,hS,hl,fun _=>rfl⟩) fun _ _ _ _ _ z=>z
end Pc
namespace Pc
open PySem L2
section
open PySem.W
noncomputable def kE (P:Params) (n:Str) (t:Nat) (v:Value):DictEntry:=⟨PyData.keyHash P n,.str n t,v⟩
noncomputable def kO3 (P:Params):Obj:=⟨(.type "dict"),none,(.dict #[kE P "__name__" 165 (.str "law_platecuts_k55_refused_turns" 801),kE P "__doc__" 166 .none,kE P "__package__" 167 .none,kE P "__loader__" 168 (.builtin "__main__.__loader__#opaque"),kE P "__spec__" 169 .none,kE P "__annotations__" 170 (.ref 6),kE P "__builtins__" 171 (.ref 4),kE P "__file__" 173 (.str "/claim/cut.py" 172),kE P "__cached__" 174 .none,kE P "PlateError" 206 (.ref 24),kE P "NoBlade" 222 (.ref 37),kE P "NoKinds" 238 (.ref 49),kE P "NoKind" 254 (.ref 61),kE P "NoLying" 270 (.ref 73),kE P "NoText" 286 (.ref 85),kE P "NoPlate" 302 (.ref 97),kE P "NoTree" 318 (.ref 109),kE P "NoLaying" 334 (.ref 121),kE P "TooLarge" 350 (.ref 133),kE P "NoTable" 366 (.ref 145),kE P "NoNumber" 382 (.ref 157),kE P "NoWeights" 398 (.ref 169),kE P "NoTelling" 414 (.ref 181),kE P "is_whole" 424 (.ref 190),kE P "is_truth" 431 (.ref 197),kE P "is_row" 438 (.ref 204),kE P "check_plate" 446 (.ref 211),kE P "check_sides" 455 (.ref 218),kE P "DOWN" 459 (.str "down" 458),kE P "ACROSS" 461 (.str "across" 460),kE P "WAYS" 462 (.ref 219),kE P "lies_in" 477 (.ref 226),kE P "lyings_in" 483 (.ref 231),kE P "cut_parts" 495 (.ref 238),kE P "cuts_of" 501 (.ref 243),kE P "parts_up_to" 507 (.ref 248),kE P "REST" 511 (.str "rest" 510),kE P "PIECE" 513 (.str "piece" 512),kE P "THINGS_OF_A_REST" 515 (.int 1 514),kE P "THINGS_OF_A_PIECE" 517 (.int 5 516),kE P "THINGS_OF_A_CUT" 519 (.int 4 518),kE P "begins_with" 528 (.ref 255),kE P "is_cut" 539 (.ref 262),kE P "is_leaf" 552 (.ref 269),kE P "spots_behind" 576 (.ref 276),kE P "is_tree" 589 (.ref 283),kE P "check_tree" 599 (.ref 290),kE P "MOST_SIDE" 603 (.int 16 602),kE P "best_leaf" 616 (.ref 297),kE P "best_step" 629 (.ref 304),kE P "tree_by_steps" 642 (.ref 311),kE P "MOST_TURNS" 646 (.int 32 645),kE P "turns_of" 662 (.ref 318),kE P "cuts_by_turns" 677 (.ref 325),kE P "best_by_turns" 698 (.ref 332),kE P "MOST_KINDS" 702 (.int 8 701),kE P "THINGS_OF_A_KIND" 704 (.int 5 703),kE P "is_kind" 716 (.ref 339),kE P "can_lie_turned" 723 (.ref 346),kE P "Shop" 800 (.ref 401),kE P "_law_pot" 809 (.ref 412),kE P "_law_draw" 818 (.ref 419),kE P "_law_great" 828 (.ref 426),kE P "_law_told" 840 (.ref 433),kE P "_law_due" 846 (.ref 438),kE P "_law_no_side" 855 (.ref 445),kE P "_law_no_turns" 864 (.ref 452),kE P "_law_no_tree" 879 (.ref 459),kE P "law" 899 (.ref 466)] 69),#[]⟩
noncomputable def EE (P:Params):Obj:=⟨(.type "dict"),none,(.dict #[kE P "__module__" 196 (.str "platecuts.errors" 187),kE P "__firstlineno__" 200 (.int 2 199),kE P "__static_attributes__" 201 (.ref 22),kE P "__weakref__" 203 (.ref 25),kE P "__doc__" 204 .none] 3),#[]⟩
noncomputable def EF (P:Params):Obj:=⟨(.type "type"),none,(.cls ⟨"PlateError",[.type "ValueError"],[.ref 24,.type "ValueError",.type "Exception",.type "BaseException",.type "object"],23,"PlateError",true,[],[.ref 37,.ref 49,.ref 61,.ref 73,.ref 85,.ref 97,.ref 109,.ref 121,.ref 133,.ref 145,.ref 157,.ref 169,.ref 181],false,none,false⟩),#[some (.ref 15),none,some (.str "PlateError" 189),some (.str "PlateError" 197),some (.builtin "ValueError.__new__"),some (.bool true)]⟩
noncomputable def gk0 (x0 x1 x2 x3 x4 x5 x6:Nat)(P:Params):Obj:=⟨(.type "dict"),none,(.dict #[kE P "__module__" x0 (.str "platecuts.errors" 187),kE P "__firstlineno__" x1 (.int x2 x3),kE P "__static_attributes__" x4 (.ref x5),kE P "__doc__" x6 .none] 2),#[]⟩
noncomputable def EG:=gk0 214 218 4 217 219 35 220
noncomputable def gk1 (x0:Str)(x1 x2 x3 x4 x5:Nat)(P:Params):Obj:=⟨(.type "type"),none,(.cls ⟨x0,[.ref 24],[.ref x1,.ref 24,.type "ValueError",.type "Exception",.type "BaseException",.type "object"],x2,x0,true,[],[],false,none,false⟩),#[some (.ref x3),none,some (.str x0 x4),some (.str x0 x5),some (.builtin "ValueError.__new__"),some (.bool true)]⟩
noncomputable def EH:=gk1 "NoBlade" 37 36 28 207 215
noncomputable def EI:=gk0 230 234 6 233 235 47 236
noncomputable def EJ:=gk1 "NoKinds" 49 48 40 223 231
noncomputable def EK:=gk0 246 250 8 249 251 59 252
noncomputable def EL:=gk1 "NoKind" 61 60 52 239 247
noncomputable def EM:=gk0 262 266 10 265 267 71 268
noncomputable def EN:=gk1 "NoLying" 73 72 64 255 263
noncomputable def EO:=gk0 278 282 12 281 283 83 284
noncomputable def EQ:=gk1 "NoText" 85 84 76 271 279
noncomputable def ER:=gk0 294 298 14 297 299 95 300
noncomputable def ES:=gk1 "NoPlate" 97 96 88 287 295
noncomputable def zM:=gk0 310 314 16 313 315 107 316
noncomputable def zN:=gk1 "NoTree" 109 108 100 303 311
noncomputable def zO:=gk0 326 330 18 329 331 119 332
noncomputable def zP:=gk1 "NoLaying" 121 120 112 319 327
noncomputable def zQ:=gk0 342 346 20 345 347 131 348
noncomputable def zR:=gk1 "TooLarge" 133 132 124 335 343
noncomputable def zS:=gk0 358 362 22 361 363 143 364
noncomputable def zT:=gk1 "NoTable" 145 144 136 351 359
noncomputable def zU:=gk0 374 378 24 377 379 155 380
noncomputable def zV:=gk1 "NoNumber" 157 156 148 367 375
noncomputable def zW:=gk0 390 394 26 393 395 167 396
noncomputable def zX:=gk1 "NoWeights" 169 168 160 383 391
noncomputable def zY:=gk0 406 410 28 409 411 179 412
noncomputable def zZ:=gk1 "NoTelling" 181 180 172 399 407
noncomputable def gk2 (x0:Str)(x1:Nat)(x2:Str)(x3 x4 x5 x6 x7 x8 x9 x10 x11 x12 x13:Nat)(P:Params):Obj:=⟨(.type "code"),none,(.fields #[.str x0 x1,.str x2 x3,.str "/claim/cut.py" x4,.int x5 0,.int x6 0,.int 0 0,.int 0 0,.int 3 0,.ref x7,.bool true,.int 181 0,.ref x8,.none,.ref x9,.ref x10,.ref x11,.int x12 0,.int x5 0,.str "/claim/cut.py" x13]),#[]⟩
noncomputable def Aa:=gk2 "is_whole" 417 "is_whole" 418 419 31 2 184 185 186 187 188 422 423
noncomputable def gk3 (x0 x1:Str)(x2:Stmt)(x3:Str)(x4 x5:Nat)(P:Params):Obj:=⟨(.type "function"),none,(.func (fnOf x0 x1 (defArgs x2) (defBody x2) (defScope x2) .none .none .none (.str x3 x4) none (.ref x5) .none)),#[]⟩
noncomputable def Ab:=gk3 "is_whole" "is_whole" gI "platecuts.checks" 415 189
noncomputable def Ac:=gk2 "is_truth" 425 "is_truth" 426 427 33 1 191 192 193 194 195 429 430
noncomputable def Ad:=gk3 "is_truth" "is_truth" gJ "platecuts.checks" 415 196
noncomputable def Ae:=gk2 "is_row" 432 "is_row" 433 434 35 1 198 199 200 201 202 436 437
noncomputable def Af:=gk3 "is_row" "is_row" qu "platecuts.checks" 415 203
noncomputable def Ag:=gk2 "check_plate" 439 "check_plate" 440 441 37 2 205 206 207 208 209 444 445
noncomputable def Ah:=gk3 "check_plate" "check_plate" bE "platecuts.checks" 415 210
noncomputable def Ai:=gk2 "check_sides" 447 "check_sides" 448 449 40 3 212 213 214 215 216 453 454
noncomputable def Aj:=gk3 "check_sides" "check_sides" bG "platecuts.checks" 415 217
noncomputable def Ak (P:Params):Obj:=⟨(.type "tuple"),none,(.seq #[.str "down" 458,.str "across" 460] 0),#[]⟩
noncomputable def Al:=gk2 "lies_in" 463 "lies_in" 464 465 47 7 220 221 222 223 224 475 476
noncomputable def Am:=gk3 "lies_in" "lies_in" di "platecuts.parts" 456 225
noncomputable def gk4 (x0:Str)(x1:Nat)(x2:Str)(x3 x4 x5 x6 x7 x8 x9 x10 x11:Nat)(P:Params):Obj:=⟨(.type "code"),none,(.fields #[.str x0 x1,.str x2 x3,.str "/claim/cut.py" x4,.int x5 0,.int x6 0,.int 0 0,.int 0 0,.int 3 0,.ref x7,.bool true,.int 181 0,.ref x8,.none,.none,.none,.ref x9,.int x10 0,.int x5 0,.str "/claim/cut.py" x11]),#[]⟩
noncomputable def An:=gk4 "lyings_in" 478 "lyings_in" 479 480 52 2 227 228 229 481 482
noncomputable def Ao:=gk3 "lyings_in" "lyings_in" cz "platecuts.parts" 456 230
noncomputable def Ap:=gk2 "cut_parts" 484 "cut_parts" 485 486 55 4 232 233 234 235 236 493 494
noncomputable def Aq:=gk3 "cut_parts" "cut_parts" cU "platecuts.parts" 456 237
noncomputable def Ar:=gk4 "cuts_of" 496 "cuts_of" 497 498 60 2 239 240 241 499 500
noncomputable def As:=gk3 "cuts_of" "cuts_of" cL "platecuts.parts" 456 242
noncomputable def At:=gk4 "parts_up_to" 502 "parts_up_to" 503 504 64 2 244 245 246 505 506
noncomputable def Au:=gk3 "parts_up_to" "parts_up_to" cg "platecuts.parts" 456 247
noncomputable def Av:=gk2 "begins_with" 520 "begins_with" 521 522 72 3 249 250 251 252 253 526 527
noncomputable def Aw:=gk3 "begins_with" "begins_with" cn "platecuts.trees" 508 254
noncomputable def Ax:=gk2 "is_cut" 529 "is_cut" 530 531 76 2 256 257 258 259 260 537 538
noncomputable def Ay:=gk3 "is_cut" "is_cut" gK "platecuts.trees" 508 261
noncomputable def Az:=gk2 "is_leaf" 540 "is_leaf" 541 542 83 2 263 264 265 266 267 550 551
noncomputable def AA:=gk3 "is_leaf" "is_leaf" eV "platecuts.trees" 508 268
noncomputable def AB:=gk2 "spots_behind" 553 "spots_behind" 554 555 88 2 270 271 272 273 274 574 575
noncomputable def AC:=gk3 "spots_behind" "spots_behind" bV "platecuts.trees" 508 275
noncomputable def AD:=gk2 "is_tree" 577 "is_tree" 578 579 95 4 277 278 279 280 281 587 588
noncomputable def AE:=gk3 "is_tree" "is_tree" dj "platecuts.trees" 508 282
noncomputable def AF:=gk2 "check_tree" 590 "check_tree" 591 592 106 4 284 285 286 287 288 597 598
noncomputable def AG:=gk3 "check_tree" "check_tree" bo "platecuts.trees" 508 289
noncomputable def AH:=gk2 "best_leaf" 604 "best_leaf" 605 606 111 2 291 292 293 294 295 614 615
noncomputable def AI:=gk3 "best_leaf" "best_leaf" cV "platecuts.best" 600 296
noncomputable def AJ:=gk2 "best_step" 617 "best_step" 618 619 118 3 298 299 300 301 302 627 628
noncomputable def AK:=gk3 "best_step" "best_step" cW "platecuts.best" 600 303
noncomputable def AL:=gk2 "tree_by_steps" 630 "tree_by_steps" 631 632 125 2 305 306 307 308 309 640 641
noncomputable def AM:=gk3 "tree_by_steps" "tree_by_steps" bp "platecuts.best" 600 310
noncomputable def AN:=gk2 "turns_of" 647 "turns_of" 648 649 133 4 312 313 314 315 316 660 661
noncomputable def AO:=gk3 "turns_of" "turns_of" bX "platecuts.turning" 643 317
noncomputable def AQ:=gk2 "cuts_by_turns" 663 "cuts_by_turns" 664 665 146 3 319 320 321 322 323 675 676
noncomputable def AR:=gk3 "cuts_by_turns" "cuts_by_turns" bY "platecuts.turning" 643 324
noncomputable def AS:=gk2 "best_by_turns" 678 "best_by_turns" 679 680 153 4 326 327 328 329 330 696 697
noncomputable def AT:=gk3 "best_by_turns" "best_by_turns" bq "platecuts.turning" 643 331
noncomputable def AU:=gk2 "is_kind" 705 "is_kind" 706 707 176 1 333 334 335 336 337 714 715
noncomputable def AV:=gk3 "is_kind" "is_kind" eW "platecuts.shops" 699 338
noncomputable def AW:=gk2 "can_lie_turned" 717 "can_lie_turned" 718 719 183 1 340 341 342 343 344 721 722
noncomputable def AX:=gk3 "can_lie_turned" "can_lie_turned" eX "platecuts.shops" 699 345
noncomputable def AY:=gk4 "__init__" 736 "Shop.__init__" 737 738 187 3 354 355 356 739 740
noncomputable def AZ:=gk3 "__init__" "Shop.__init__" cA "platecuts.shops" 699 357
noncomputable def Ba:=gk2 "blade" 742 "Shop.blade" 743 744 198 1 359 360 361 362 363 746 747
noncomputable def Bb:=gk3 "blade" "Shop.blade" cG "platecuts.shops" 699 364
noncomputable def Bc:=gk2 "kinds" 749 "Shop.kinds" 750 751 201 1 366 367 368 369 370 753 754
noncomputable def Bd:=gk3 "kinds" "Shop.kinds" cH "platecuts.shops" 699 371
noncomputable def Be:=gk4 "wanted" 756 "Shop.wanted" 757 758 204 1 373 374 375 759 760
noncomputable def Bf:=gk3 "wanted" "Shop.wanted" jE "platecuts.shops" 699 376
noncomputable def Bg:=gk2 "lyings" 762 "Shop.lyings" 763 764 207 1 378 379 380 381 382 769 770
noncomputable def Bh:=gk3 "lyings" "Shop.lyings" cq "platecuts.shops" 699 383
noncomputable def Bi:=gk2 "is_lying" 772 "Shop.is_lying" 773 774 215 3 385 386 387 388 389 778 779
noncomputable def Bj:=gk3 "is_lying" "Shop.is_lying" bZ "platecuts.shops" 699 390
noncomputable def Bk:=gk2 "sides" 781 "Shop.sides" 782 783 220 3 392 393 394 395 396 788 789
noncomputable def Bl:=gk3 "sides" "Shop.sides" cI "platecuts.shops" 699 397
noncomputable def Bm (P:Params):Obj:=⟨(.type "dict"),none,(.dict #[kE P "__module__" 731 (.str "platecuts.shops" 699),kE P "__firstlineno__" 735 (.int 185 734),kE P "__init__" 741 (.ref 358),kE P "blade" 748 (.ref 365),kE P "kinds" 755 (.ref 372),kE P "wanted" 761 (.ref 377),kE P "lyings" 771 (.ref 384),kE P "is_lying" 780 (.ref 391),kE P "sides" 790 (.ref 398),kE P "__static_attributes__" 793 (.ref 399),kE P "__dict__" 795 (.ref 402),kE P "__weakref__" 797 (.ref 403),kE P "__doc__" 798 .none] 4),#[]⟩
noncomputable def Bn (P:Params):Obj:=⟨(.type "type"),none,(.cls ⟨"Shop",[.type "object"],[.ref 401,.type "object"],400,"Shop",true,[],[],false,none,false⟩),#[none,none,some (.str "Shop" 724),some (.str "Shop" 732),some (.builtin "object.__new__"),some (.bool true)]⟩
noncomputable def Bo:=gk2 "_law_pot" 803 "_law_pot" 804 805 228 1 406 407 408 409 410 807 808
noncomputable def Bp:=gk3 "_law_pot" "_law_pot" qv "law_platecuts_k55_refused_turns" 801 411
noncomputable def Bq:=gk2 "_law_draw" 810 "_law_draw" 811 812 230 2 413 414 415 416 417 816 817
noncomputable def Br:=gk3 "_law_draw" "_law_draw" jF "law_platecuts_k55_refused_turns" 801 418
noncomputable def Bs:=gk2 "_law_great" 819 "_law_great" 820 821 237 2 420 421 422 423 424 826 827
noncomputable def Bt:=gk3 "_law_great" "_law_great" gL "law_platecuts_k55_refused_turns" 801 425
noncomputable def Bu:=gk2 "_law_told" 829 "_law_told" 830 831 244 4 427 428 429 430 431 838 839
noncomputable def Bv:=gk3 "_law_told" "_law_told" jG "law_platecuts_k55_refused_turns" 801 432
noncomputable def Bw:=gk4 "_law_due" 841 "_law_due" 842 843 257 1 434 435 436 844 845
noncomputable def Bx:=gk3 "_law_due" "_law_due" nM "law_platecuts_k55_refused_turns" 801 437
noncomputable def By:=gk2 "_law_no_side" 847 "_law_no_side" 848 849 259 1 439 440 441 442 443 853 854
noncomputable def Bz:=gk3 "_law_no_side" "_law_no_side" eY "law_platecuts_k55_refused_turns" 801 444
noncomputable def BA:=gk2 "_law_no_turns" 856 "_law_no_turns" 857 858 263 1 446 447 448 449 450 862 863
noncomputable def BB:=gk3 "_law_no_turns" "_law_no_turns" dM "law_platecuts_k55_refused_turns" 801 451
noncomputable def BC:=gk2 "_law_no_tree" 865 "_law_no_tree" 866 867 267 4 453 454 455 456 457 877 878
noncomputable def BD:=gk3 "_law_no_tree" "_law_no_tree" eZ "law_platecuts_k55_refused_turns" 801 458
noncomputable def BE:=gk2 "law" 880 "law" 881 882 280 1 460 461 462 463 464 897 898
noncomputable def BF:=gk3 "law" "law" jH "law_platecuts_k55_refused_turns" 801 465
noncomputable def kK:Params→Frag:=fun P=>(nat_lit 3,kO3 P) :: (nat_lit 23,EE P) :: (nat_lit 24,EF P) :: (nat_lit 36,EG P) :: (nat_lit 37,EH P) :: (nat_lit 48,EI P) :: (nat_lit 49,EJ P) :: (nat_lit 60,EK P) :: (nat_lit 61,EL P) :: (nat_lit 72,EM P) :: (nat_lit 73,EN P) :: (nat_lit 84,EO P) :: (nat_lit 85,EQ P) :: (nat_lit 96,ER P) :: (nat_lit 97,ES P) :: (nat_lit 108,zM P) :: (nat_lit 109,zN P) :: (nat_lit 120,zO P) :: (nat_lit 121,zP P) :: (nat_lit 132,zQ P) :: (nat_lit 133,zR P) :: (nat_lit 144,zS P) :: (nat_lit 145,zT P) :: (nat_lit 156,zU P) :: (nat_lit 157,zV P) :: (nat_lit 168,zW P) :: (nat_lit 169,zX P) :: (nat_lit 180,zY P) :: (nat_lit 181,zZ P) :: (nat_lit 189,Aa P) :: (nat_lit 190,Ab P) :: (nat_lit 196,Ac P) :: (nat_lit 197,Ad P) :: (nat_lit 203,Ae P) :: (nat_lit 204,Af P) :: (nat_lit 210,Ag P) :: (nat_lit 211,Ah P) :: (nat_lit 217,Ai P) :: (nat_lit 218,Aj P) :: (nat_lit 219,Ak P) :: (nat_lit 225,Al P) :: (nat_lit 226,Am P) :: (nat_lit 230,An P) :: (nat_lit 231,Ao P) :: (nat_lit 237,Ap P) :: (nat_lit 238,Aq P) :: (nat_lit 242,Ar P) :: (nat_lit 243,As P) :: (nat_lit 247,At P) :: (nat_lit 248,Au P) :: (nat_lit 254,Av P) :: (nat_lit 255,Aw P) :: (nat_lit 261,Ax P) :: (nat_lit 262,Ay P) :: (nat_lit 268,Az P) :: (nat_lit 269,AA P) :: (nat_lit 275,AB P) :: (nat_lit 276,AC P) :: (nat_lit 282,AD P) :: (nat_lit 283,AE P) :: (nat_lit 289,AF P) :: (nat_lit 290,AG P) :: (nat_lit 296,AH P) :: (nat_lit 297,AI P) :: (nat_lit 303,AJ P) :: (nat_lit 304,AK P) :: (nat_lit 310,AL P) :: (nat_lit 311,AM P) :: (nat_lit 317,AN P) :: (nat_lit 318,AO P) :: (nat_lit 324,AQ P) :: (nat_lit 325,AR P) :: (nat_lit 331,AS P) :: (nat_lit 332,AT P) :: (nat_lit 338,AU P) :: (nat_lit 339,AV P) :: (nat_lit 345,AW P) :: (nat_lit 346,AX P) :: (nat_lit 357,AY P) :: (nat_lit 358,AZ P) :: (nat_lit 364,Ba P) :: (nat_lit 365,Bb P) :: (nat_lit 371,Bc P) :: (nat_lit 372,Bd P) :: (nat_lit 376,Be P) :: (nat_lit 377,Bf P) :: (nat_lit 383,Bg P) :: (nat_lit 384,Bh P) :: (nat_lit 390,Bi P) :: (nat_lit 391,Bj P) :: (nat_lit 397,Bk P) :: (nat_lit 398,Bl P) :: (nat_lit 400,Bm P) :: (nat_lit 401,Bn P) :: (nat_lit 411,Bo P) :: (nat_lit 412,Bp P) :: (nat_lit 418,Bq P) :: (nat_lit 419,Br P) :: (nat_lit 425,Bs P) :: (nat_lit 426,Bt P) :: (nat_lit 432,Bu P) :: (nat_lit 433,Bv P) :: (nat_lit 437,Bw P) :: (nat_lit 438,Bx P) :: (nat_lit 444,By P) :: (nat_lit 445,Bz P) :: (nat_lit 451,BA P) :: (nat_lit 452,BB P) :: (nat_lit 458,BC P) :: (nat_lit 459,BD P) :: (nat_lit 465,BE P) :: (nat_lit 466,BF P) :: []
end
end Pc
set_option maxHeartbeats 0
lay_quick PySem.Challenge.pw_platecuts_k55_refused_turns
namespace Hd
open PySem PySem.W
noncomputable def S0:Str:=⟨⟨[95,95,110,97,109,101,95,95]⟩⟩
noncomputable def S2:Str:=⟨⟨[95,95,100,111,99,95,95]⟩⟩
noncomputable def S3:Str:=⟨⟨[95,95,112,97,99,107,97,103,101,95,95]⟩⟩
noncomputable def S4:Str:=⟨⟨[95,95,108,111,97,100,101,114,95,95]⟩⟩
noncomputable def S5:Str:=⟨⟨[95,95,115,112,101,99,95,95]⟩⟩
noncomputable def ET:Str:=⟨⟨[95,95,109,97,105,110,95,95]⟩⟩
noncomputable def vd:Str:=⟨⟨[95,95,97,110,110,111,116,97,116,105,111,110,115,95,95]⟩⟩
noncomputable def ve:Str:=⟨⟨[95,95,98,117,105,108,116,105,110,115,95,95]⟩⟩
noncomputable def vf:Str:=⟨⟨[95,95,102,105,108,101,95,95]⟩⟩
noncomputable def jj:Str:=⟨⟨[47,99,108,97,105,109,47,99,117,116,46,112,121]⟩⟩
noncomputable def vg:Str:=⟨⟨[95,95,99,97,99,104,101,100,95,95]⟩⟩
noncomputable def EU:Str:=⟨⟨[60,109,111,100,117,108,101,62]⟩⟩
noncomputable def dw:Str:=⟨⟨[112,108,97,116,101,99,117,116,115,46,101,114,114,111,114,115]⟩⟩
noncomputable def fq:Str:=⟨⟨[80,108,97,116,101,69,114,114,111,114]⟩⟩
noncomputable def lm:Str:=⟨⟨[78,111,66,108,97,100,101]⟩⟩
noncomputable def lp:Str:=⟨⟨[78,111,75,105,110,100,115]⟩⟩
noncomputable def lq:Str:=⟨⟨[78,111,75,105,110,100]⟩⟩
noncomputable def lr:Str:=⟨⟨[78,111,76,121,105,110,103]⟩⟩
noncomputable def ls:Str:=⟨⟨[78,111,84,101,120,116]⟩⟩
noncomputable def lw:Str:=⟨⟨[78,111,80,108,97,116,101]⟩⟩
noncomputable def lC:Str:=⟨⟨[78,111,84,114,101,101]⟩⟩
noncomputable def lD:Str:=⟨⟨[78,111,76,97,121,105,110,103]⟩⟩
noncomputable def re:Str:=⟨⟨[95,95,109,111,100,117,108,101,95,95]⟩⟩
noncomputable def BG:Str:=⟨⟨[95,95,113,117,97,108,110,97,109,101,95,95]⟩⟩
noncomputable def rf:Str:=⟨⟨[95,95,102,105,114,115,116,108,105,110,101,110,111,95,95]⟩⟩
noncomputable def rg:Str:=⟨⟨[95,95,115,116,97,116,105,99,95,97,116,116,114,105,98,117,116,101,115,95,95]⟩⟩
noncomputable def vh:Str:=⟨⟨[95,95,119,101,97,107,114,101,102,95,95]⟩⟩
noncomputable def lE:Str:=⟨⟨[112,108,97,116,101,99,117,116,115,46,115,104,111,112,115]⟩⟩
noncomputable def oy:Str:=⟨⟨[84,111,111,76,97,114,103,101]⟩⟩
noncomputable def oz:Str:=⟨⟨[78,111,84,97,98,108,101]⟩⟩
noncomputable def oA:Str:=⟨⟨[78,111,78,117,109,98,101,114]⟩⟩
noncomputable def oB:Str:=⟨⟨[78,111,87,101,105,103,104,116,115]⟩⟩
noncomputable def oC:Str:=⟨⟨[78,111,84,101,108,108,105,110,103]⟩⟩
noncomputable def lF:Str:=⟨⟨[105,115,95,119,104,111,108,101]⟩⟩
noncomputable def lG:Str:=⟨⟨[105,115,95,116,114,117,116,104]⟩⟩
noncomputable def lH:Str:=⟨⟨[105,115,95,114,111,119]⟩⟩
noncomputable def lI:Str:=⟨⟨[99,104,101,99,107,95,112,108,97,116,101]⟩⟩
noncomputable def lJ:Str:=⟨⟨[99,104,101,99,107,95,115,105,100,101,115]⟩⟩
noncomputable def vi:Str:=⟨⟨[68,79,87,78]⟩⟩
noncomputable def vj:Str:=⟨⟨[100,111,119,110]⟩⟩
noncomputable def vk:Str:=⟨⟨[65,67,82,79,83,83]⟩⟩
noncomputable def vm:Str:=⟨⟨[97,99,114,111,115,115]⟩⟩
noncomputable def vn:Str:=⟨⟨[87,65,89,83]⟩⟩
noncomputable def lK:Str:=⟨⟨[108,105,101,115,95,105,110]⟩⟩
noncomputable def lL:Str:=⟨⟨[108,121,105,110,103,115,95,105,110]⟩⟩
noncomputable def lM:Str:=⟨⟨[99,117,116,95,112,97,114,116,115]⟩⟩
noncomputable def lN:Str:=⟨⟨[99,117,116,115,95,111,102]⟩⟩
noncomputable def lO:Str:=⟨⟨[112,97,114,116,115,95,117,112,95,116,111]⟩⟩
noncomputable def vo:Str:=⟨⟨[82,69,83,84]⟩⟩
noncomputable def BH:Str:=⟨⟨[114,101,115,116]⟩⟩
noncomputable def vp:Str:=⟨⟨[80,73,69,67,69]⟩⟩
noncomputable def BI:Str:=⟨⟨[112,105,101,99,101]⟩⟩
noncomputable def vq:Str:=⟨⟨[84,72,73,78,71,83,95,79,70,95,65,95,82,69,83,84]⟩⟩
noncomputable def vt:Str:=⟨⟨[84,72,73,78,71,83,95,79,70,95,65,95,80,73,69,67,69]⟩⟩
noncomputable def vw:Str:=⟨⟨[84,72,73,78,71,83,95,79,70,95,65,95,67,85,84]⟩⟩
noncomputable def lP:Str:=⟨⟨[98,101,103,105,110,115,95,119,105,116,104]⟩⟩
noncomputable def lQ:Str:=⟨⟨[105,115,95,99,117,116]⟩⟩
noncomputable def lR:Str:=⟨⟨[105,115,95,108,101,97,102]⟩⟩
noncomputable def lS:Str:=⟨⟨[115,112,111,116,115,95,98,101,104,105,110,100]⟩⟩
noncomputable def lT:Str:=⟨⟨[105,115,95,116,114,101,101]⟩⟩
noncomputable def lU:Str:=⟨⟨[99,104,101,99,107,95,116,114,101,101]⟩⟩
noncomputable def vy:Str:=⟨⟨[77,79,83,84,95,83,73,68,69]⟩⟩
noncomputable def lV:Str:=⟨⟨[98,101,115,116,95,108,101,97,102]⟩⟩
noncomputable def lW:Str:=⟨⟨[98,101,115,116,95,115,116,101,112]⟩⟩
noncomputable def lX:Str:=⟨⟨[116,114,101,101,95,98,121,95,115,116,101,112,115]⟩⟩
noncomputable def vz:Str:=⟨⟨[77,79,83,84,95,84,85,82,78,83]⟩⟩
noncomputable def lY:Str:=⟨⟨[116,117,114,110,115,95,111,102]⟩⟩
noncomputable def lZ:Str:=⟨⟨[99,117,116,115,95,98,121,95,116,117,114,110,115]⟩⟩
noncomputable def ma:Str:=⟨⟨[98,101,115,116,95,98,121,95,116,117,114,110,115]⟩⟩
noncomputable def vA:Str:=⟨⟨[77,79,83,84,95,75,73,78,68,83]⟩⟩
noncomputable def vB:Str:=⟨⟨[84,72,73,78,71,83,95,79,70,95,65,95,75,73,78,68]⟩⟩
noncomputable def md:Str:=⟨⟨[105,115,95,107,105,110,100]⟩⟩
noncomputable def mf:Str:=⟨⟨[116,104,105,110,103]⟩⟩
noncomputable def EV:Str:=⟨⟨[108,101,97,115,116]⟩⟩
noncomputable def rh:Str:=⟨⟨[112,108,97,116,101,99,117,116,115,46,99,104,101,99,107,115]⟩⟩
noncomputable def gZ:Str:=⟨⟨[119,105,100,101]⟩⟩
noncomputable def hG:Str:=⟨⟨[104,105,103,104]⟩⟩
noncomputable def BJ:Str:=⟨⟨[109,111,115,116]⟩⟩
noncomputable def mh:Str:=⟨⟨[115,104,111,112]⟩⟩
noncomputable def oE:Str:=⟨⟨[107,105,110,100]⟩⟩
noncomputable def sU:Str:=⟨⟨[116,117,114,110,101,100]⟩⟩
noncomputable def vC:Str:=⟨⟨[120]⟩⟩
noncomputable def vD:Str:=⟨⟨[121]⟩⟩
noncomputable def EW:Str:=⟨⟨[112,105,101,99,101,95,119,105,100,101]⟩⟩
noncomputable def EX:Str:=⟨⟨[112,105,101,99,101,95,104,105,103,104]⟩⟩
noncomputable def rj:Str:=⟨⟨[112,108,97,116,101,99,117,116,115,46,112,97,114,116,115]⟩⟩
noncomputable def jk:Str:=⟨⟨[98,108,97,100,101]⟩⟩
noncomputable def vE:Str:=⟨⟨[112,97,114,116]⟩⟩
noncomputable def mi:Str:=⟨⟨[119,97,121]⟩⟩
noncomputable def sV:Str:=⟨⟨[112]⟩⟩
noncomputable def EY:Str:=⟨⟨[119,111,114,100]⟩⟩
noncomputable def EZ:Str:=⟨⟨[109,97,110,121]⟩⟩
noncomputable def oF:Str:=⟨⟨[112,108,97,116,101,99,117,116,115,46,116,114,101,101,115]⟩⟩
noncomputable def sW:Str:=⟨⟨[115,112,111,116]⟩⟩
noncomputable def sX:Str:=⟨⟨[116,114,101,101]⟩⟩
noncomputable def Fa:Str:=⟨⟨[115,105,100,101]⟩⟩
noncomputable def vF:Str:=⟨⟨[102,105,114,115,116]⟩⟩
noncomputable def vG:Str:=⟨⟨[115,101,99,111,110,100]⟩⟩
noncomputable def Fb:Str:=⟨⟨[119,105,100,101,95,97,104,101,97,100]⟩⟩
noncomputable def Fc:Str:=⟨⟨[104,105,103,104,95,97,104,101,97,100]⟩⟩
noncomputable def Fd:Str:=⟨⟨[119,105,100,101,95,98,101,104,105,110,100]⟩⟩
noncomputable def Fe:Str:=⟨⟨[104,105,103,104,95,98,101,104,105,110,100]⟩⟩
noncomputable def sY:Str:=⟨⟨[115,116,101,112]⟩⟩
noncomputable def Ff:Str:=⟨⟨[102,97,114,95,120]⟩⟩
noncomputable def Fg:Str:=⟨⟨[102,97,114,95,121]⟩⟩
noncomputable def BK:Str:=⟨⟨[119,97,105,116,105,110,103]⟩⟩
noncomputable def tj:Str:=⟨⟨[119,111,114,116,104]⟩⟩
noncomputable def Fh:Str:=⟨⟨[108,101,97,102]⟩⟩
noncomputable def oG:Str:=⟨⟨[107,105,110,100,115]⟩⟩
noncomputable def vH:Str:=⟨⟨[112,108,97,116,101,99,117,116,115,46,98,101,115,116]⟩⟩
noncomputable def BL:Str:=⟨⟨[108,101,97,102,95,102,111,117,110,100]⟩⟩
noncomputable def vI:Str:=⟨⟨[99,117,116,115]⟩⟩
noncomputable def BM:Str:=⟨⟨[119,111,114,116,104,115]⟩⟩
noncomputable def Fi:Str:=⟨⟨[99,117,116]⟩⟩
noncomputable def Fj:Str:=⟨⟨[116,111,103,101,116,104,101,114]⟩⟩
noncomputable def BN:Str:=⟨⟨[115,116,101,112,115]⟩⟩
noncomputable def BO:Str:=⟨⟨[107,101,121]⟩⟩
noncomputable def Fk:Str:=⟨⟨[112,97,114,116,95,116,114,101,101]⟩⟩
noncomputable def BP:Str:=⟨⟨[119,97,121,95,97,104,101,97,100]⟩⟩
noncomputable def BQ:Str:=⟨⟨[116,117,114,110,115]⟩⟩
noncomputable def vJ:Str:=⟨⟨[112,108,97,116,101,99,117,116,115,46,116,117,114,110,105,110,103]⟩⟩
noncomputable def BR:Str:=⟨⟨[108,101,102,116]⟩⟩
noncomputable def Fl:Str:=⟨⟨[97,108,108,111,119,101,100]⟩⟩
noncomputable def Fm:Str:=⟨⟨[115,116,105,108,108,95,108,101,102,116]⟩⟩
noncomputable def Fn:Str:=⟨⟨[107]⟩⟩
noncomputable def Fo:Str:=⟨⟨[111,116,104,101,114]⟩⟩
noncomputable def oH:Str:=⟨⟨[119,97,110,116,101,100]⟩⟩
noncomputable def hW:Str:=⟨⟨[108,97,119,95,112,108,97,116,101,99,117,116,115,95,107,53,53,95,114,101,102,117,115,101,100,95,116,117,114,110,115]⟩⟩
noncomputable def oI:Str:=⟨⟨[99,97,110,95,108,105,101,95,116,117,114,110,101,100]⟩⟩
noncomputable def jT:Str:=⟨⟨[83,104,111,112]⟩⟩
noncomputable def oJ:Str:=⟨⟨[95,108,97,119,95,112,111,116]⟩⟩
noncomputable def oK:Str:=⟨⟨[95,108,97,119,95,100,114,97,119]⟩⟩
noncomputable def oM:Str:=⟨⟨[95,108,97,119,95,103,114,101,97,116]⟩⟩
noncomputable def oN:Str:=⟨⟨[95,108,97,119,95,116,111,108,100]⟩⟩
noncomputable def oO:Str:=⟨⟨[95,108,97,119,95,100,117,101]⟩⟩
noncomputable def oP:Str:=⟨⟨[95,108,97,119,95,110,111,95,115,105,100,101]⟩⟩
noncomputable def oQ:Str:=⟨⟨[95,108,97,119,95,110,111,95,116,117,114,110,115]⟩⟩
noncomputable def oR:Str:=⟨⟨[95,108,97,119,95,110,111,95,116,114,101,101]⟩⟩
noncomputable def rm:Str:=⟨⟨[108,97,119]⟩⟩
noncomputable def rn:Str:=⟨⟨[95,95,105,110,105,116,95,95]⟩⟩
noncomputable def rp:Str:=⟨⟨[108,121,105,110,103,115]⟩⟩
noncomputable def rq:Str:=⟨⟨[105,115,95,108,121,105,110,103]⟩⟩
noncomputable def rz:Str:=⟨⟨[115,105,100,101,115]⟩⟩
noncomputable def vK:Str:=⟨⟨[83,104,111,112,46,95,95,105,110,105,116,95,95]⟩⟩
noncomputable def rA:Str:=⟨⟨[115,101,108,102]⟩⟩
noncomputable def vL:Str:=⟨⟨[83,104,111,112,46,98,108,97,100,101]⟩⟩
noncomputable def vM:Str:=⟨⟨[83,104,111,112,46,107,105,110,100,115]⟩⟩
noncomputable def vN:Str:=⟨⟨[83,104,111,112,46,119,97,110,116,101,100]⟩⟩
noncomputable def Fp:Str:=⟨⟨[116,111,108,100]⟩⟩
noncomputable def Fq:Str:=⟨⟨[110,117,109,98,101,114]⟩⟩
noncomputable def vO:Str:=⟨⟨[83,104,111,112,46,108,121,105,110,103,115]⟩⟩
noncomputable def vP:Str:=⟨⟨[83,104,111,112,46,105,115,95,108,121,105,110,103]⟩⟩
noncomputable def Fs:Str:=⟨⟨[114,111,119]⟩⟩
noncomputable def vQ:Str:=⟨⟨[83,104,111,112,46,115,105,100,101,115]⟩⟩
noncomputable def Ft:Str:=⟨⟨[98,108,97,100,101,95,119,105,100,116,104]⟩⟩
noncomputable def Fu:Str:=⟨⟨[107,105,110,100,95,114,111,119,115]⟩⟩
noncomputable def BS:Str:=⟨⟨[95,95,100,105,99,116,95,95]⟩⟩
noncomputable def BU:Str:=⟨⟨[95,108,97,119,95,99,101,108,108]⟩⟩
noncomputable def oS:Str:=⟨⟨[95,108,97,119,95,112,111,116,95,104,101,114,101]⟩⟩
noncomputable def BV:Str:=⟨⟨[95,108,97,119,95,109,97,110,121]⟩⟩
noncomputable def Fv:Str:=⟨⟨[95,108,97,119,95,110,117,109,98,101,114]⟩⟩
noncomputable def Fw:Str:=⟨⟨[95,108,97,119,95,102,111,117,110,100]⟩⟩
noncomputable def Fx:Str:=⟨⟨[95,108,97,119,95,107]⟩⟩
noncomputable def Fy:Str:=⟨⟨[95,108,97,119,95,119,97,121]⟩⟩
noncomputable def BW:Str:=⟨⟨[95,108,97,119,95,115,104,111,112]⟩⟩
noncomputable def vR:Str:=⟨⟨[95,108,97,119,95,115,105,100,101,115]⟩⟩
noncomputable def Fz:Str:=⟨⟨[95,108,97,119,95,116,104,105,110,103]⟩⟩
noncomputable def FA:Str:=⟨⟨[95,108,97,119,95,116,111,108,100,95,104,101,114,101]⟩⟩
noncomputable def FB:Str:=⟨⟨[101]⟩⟩
noncomputable def vS:Str:=⟨⟨[95,108,97,119,95,102,97,114]⟩⟩
noncomputable def vT:Str:=⟨⟨[95,108,97,119,95,115,111,109,101]⟩⟩
noncomputable def BX:Str:=⟨⟨[95,108,97,119,95,98,108,97,100,101]⟩⟩
noncomputable def BY:Str:=⟨⟨[95,108,97,119,95,107,105,110,100]⟩⟩
noncomputable def FC:Str:=⟨⟨[95,108,97,119,95,119,105,100,101]⟩⟩
noncomputable def FD:Str:=⟨⟨[95,108,97,119,95,104,105,103,104]⟩⟩
noncomputable def FE:Str:=⟨⟨[95,108,97,119,95,102,105,116]⟩⟩
noncomputable def FF:Str:=⟨⟨[95,108,97,119,95,115,99,114,105,112,116]⟩⟩
noncomputable def FG:Str:=⟨⟨[95,108,97,119,95,103,111,111,100]⟩⟩
noncomputable def FH:Str:=⟨⟨[95,108,97,119,95,102,105,114,115,116]⟩⟩
noncomputable def FI:Str:=⟨⟨[95,108,97,119,95,97,116]⟩⟩
noncomputable def FJ:Str:=⟨⟨[95,108,97,119,95,116,117,114,110,115]⟩⟩
noncomputable def FK:Str:=⟨⟨[95,108,97,119,95,116,114,101,101]⟩⟩
noncomputable def FL:Str:=⟨⟨[95,108,97,119,95,119,104,105,99,104]⟩⟩
noncomputable def FM:Str:=⟨⟨[95,108,97,119,95,98,97,100]⟩⟩
noncomputable abbrev HK:Hook:=kHook Pc.kK [nat_lit 3,nat_lit 23,nat_lit 24,nat_lit 36,nat_lit 37,nat_lit 48,nat_lit 49,nat_lit 60,nat_lit 61,nat_lit 72,nat_lit 73,nat_lit 84,nat_lit 85,nat_lit 96,nat_lit 97,nat_lit 108,nat_lit 109,nat_lit 120,nat_lit 121,nat_lit 132,nat_lit 133,nat_lit 144,nat_lit 145,nat_lit 156,nat_lit 157,nat_lit 168,nat_lit 169,nat_lit 180,nat_lit 181,nat_lit 189,nat_lit 190,nat_lit 196,nat_lit 197,nat_lit 203,nat_lit 204,nat_lit 210,nat_lit 211,nat_lit 217,nat_lit 218,nat_lit 219,nat_lit 225,nat_lit 226,nat_lit 230,nat_lit 231,nat_lit 237,nat_lit 238,nat_lit 242,nat_lit 243,nat_lit 247,nat_lit 248,nat_lit 254,nat_lit 255,nat_lit 261,nat_lit 262,nat_lit 268,nat_lit 269,nat_lit 275,nat_lit 276,nat_lit 282,nat_lit 283,nat_lit 289,nat_lit 290,nat_lit 296,nat_lit 297,nat_lit 303,nat_lit 304,nat_lit 310,nat_lit 311,nat_lit 317,nat_lit 318,nat_lit 324,nat_lit 325,nat_lit 331,nat_lit 332,nat_lit 338,nat_lit 339,nat_lit 345,nat_lit 346,nat_lit 357,nat_lit 358,nat_lit 364,nat_lit 365,nat_lit 371,nat_lit 372,nat_lit 376,nat_lit 377,nat_lit 383,nat_lit 384,nat_lit 390,nat_lit 391,nat_lit 397,nat_lit 398,nat_lit 400,nat_lit 401,nat_lit 411,nat_lit 412,nat_lit 418,nat_lit 419,nat_lit 425,nat_lit 426,nat_lit 432,nat_lit 433,nat_lit 437,nat_lit 438,nat_lit 444,nat_lit 445,nat_lit 451,nat_lit 452,nat_lit 458,nat_lit 459,nat_lit 465,nat_lit 466] (fun _=>by kernel_rfl)
noncomputable abbrev pt:Program:=PySem.W.Fast.tw2942821067377066523
theorem pt_eq:PySem.Challenge.pw_platecuts_k55_refused_turns=pt:=PySem.W.Fast.te2942821067377066523
noncomputable def tp (i:Nat):Stmt:=pt.main.body.getD i (.Pass ⟨0,0,0,0⟩)
noncomputable abbrev f (o:Params→Obj) (l r:Params→BT):Params→BT:=fun P=>.node (o P) (l P) (r P)
noncomputable abbrev z:Params→BT:=fun _=>.nil
noncomputable abbrev e (P:Params) (n:Str) (t:Nat) (v:Value):DictEntry:=⟨PyData.keyHash P n,.str n t,v⟩
noncomputable abbrev m0:Nat:=nat_lit 11
noncomputable abbrev an:Option Value:=(some (.ref 6))
noncomputable abbrev en:Env:={ scope:=pt.main.scope,locals:=mainNs,globals:=mainNs,cells:=[],code:=(.ref 13),frame:=some 14 }
noncomputable abbrev cE:Code:=.body (behindTheImports pt) en
noncomputable abbrev qP:Pos:=⟨0,0,0,0⟩
noncomputable abbrev B:List Frame:=[topFrame qP]
noncomputable abbrev L0:=SL.s14018661285674007319x4
noncomputable abbrev L1:=SL.s11665532747177232413x24
noncomputable abbrev L2:=SL.s15183661809925369436x15
noncomputable abbrev L3:=SL.s13915890719876406383x10
noncomputable abbrev L4:=SL.s13459172003223722735x3
noncomputable abbrev L5:=SL.s10557405761357834076x3
noncomputable abbrev L6:=SL.s4233737765568776869x3
noncomputable abbrev L7:=SL.s2508922471967985374x5
noncomputable abbrev L8:=SL.s15574269061696679450x3
noncomputable abbrev L9:=SL.s6016482663378992977x10
noncomputable abbrev L10:=SL.s5596568736180474577x8
noncomputable abbrev L11:=SL.s2839554839881490554x3
noncomputable abbrev L12:=SL.s725004073602090463x7
noncomputable abbrev L13:=SL.s9436932552931045734x7
noncomputable abbrev L14:=SL.s2754603736356183583x3
noncomputable abbrev L15:=SL.s15185746759980889043x6
noncomputable abbrev L16:=SL.s8192189862530294059x4
noncomputable abbrev L17:=SL.s7038307821325472102x4
noncomputable abbrev L18:=SL.s5662562618415449548x6
noncomputable abbrev L19:=SL.s15281542589158584767x7
noncomputable abbrev L20:=SL.s17651547275483570877x7
noncomputable abbrev L21:=SL.s4036449017235975746x7
noncomputable abbrev L22:=SL.s8879979712987360175x4
noncomputable abbrev L23:=SL.s1801250619170735830x3
noncomputable abbrev L24:=SL.s17659931425627118568x2
noncomputable abbrev L25:=SL.s6063217899685152688x5
noncomputable abbrev L26:=SL.s8008927332132565319x10
noncomputable abbrev L27:=SL.s3544116645089599534x10
noncomputable abbrev L28:=SL.s13761710972054866084x4
noncomputable abbrev L29:=SL.s12896375587409280029x5
noncomputable abbrev L30:=SL.s13014049009108672802x3
noncomputable abbrev L31:=SL.s13935586738268321596x6
noncomputable abbrev L32:=SL.s8200498257699607233x3
noncomputable abbrev L33:=SL.s14114244577727609259x3
noncomputable abbrev L34:=SL.s1499430450269397089x4
noncomputable abbrev L35:=SL.s8755793994789770505x5
noncomputable abbrev L36:=SL.s15725212667919936108x3
noncomputable abbrev L37:=SL.s15791221867095933363x3
noncomputable abbrev L38:=SL.s81309575031448614x3
noncomputable abbrev L39:=SL.s8069831620301644142x5
noncomputable abbrev L40:=SL.s10061844253413749634x4
noncomputable abbrev L41:=SL.s9496514870978017513x5
noncomputable abbrev L42:=SL.s8899691144933366716x7
noncomputable abbrev L43:=SL.s15201008993051130160x6
noncomputable abbrev L44:=SL.s741896355592496720x3
noncomputable abbrev L45:=SL.s17925004256654032244x4
noncomputable abbrev L46:=SL.s11695548795398191787x4
noncomputable abbrev L47:=SL.s4156966113859768872x10
noncomputable abbrev L48:=SL.s9501651726347032510x9
noncomputable abbrev L49:=SL.s15722918466584999320x5
noncomputable abbrev L50:=SL.s591115383303110208x11
noncomputable abbrev L51:=SL.s15721156781594690315x7
noncomputable abbrev L52:=SL.s14340494229221121180x9
noncomputable abbrev L53:=SL.s13429844117177748173x6
noncomputable abbrev L54:=SL.s16463266125957815391x5
noncomputable abbrev L55:=SL.s4922535414793169389x9
noncomputable abbrev L56:=SL.s8101838861749082086x8
noncomputable abbrev L57:=SL.s7066276694103001551x3
noncomputable abbrev L58:=SL.s9222952809800978799x4
noncomputable abbrev L59:=SL.s462964344163437139x3
noncomputable abbrev L60:=SL.s2742458400755230247x6
noncomputable abbrev L61:=SL.s1438033511350832697x5
noncomputable abbrev L62:=SL.s14365286008749172514x8
noncomputable abbrev L63:=SL.s3642769012341782148x3
noncomputable abbrev L64:=SL.s4674234679698826739x5
noncomputable abbrev L65:=SL.s16656946322747308186x12
noncomputable abbrev L66:=SL.s10796804682411823810x3
noncomputable abbrev L67:=SL.s4290257624100764138x5
noncomputable abbrev L68:=SL.s2766695959194262286x5
noncomputable abbrev L69:=SL.s17162191345867700912x4
noncomputable abbrev L70:=SL.s14339709457334898076x3
noncomputable abbrev L71:=SL.s4278001404047624695x13
noncomputable abbrev L72:=SL.s6585700554429387442x18
noncomputable abbrev L73:=SL.s5946037652744460706x9
noncomputable abbrev L74:=SL.s7410770068591931388x13
noncomputable abbrev L75:=SL.s11817881795495490833x17
noncomputable abbrev L76:=SL.s15679963881808890155x10
noncomputable abbrev L77:=SL.s3871700062485845797x15
noncomputable abbrev L78:=SL.s7689518266570723881x14
noncomputable abbrev L79:=SL.s9001593270443806431x14
noncomputable abbrev L80:=SL.s6882542574934516792x11
noncomputable abbrev L81:=SL.s14403400214490484960x8
noncomputable abbrev L82:=SL.s14457978657717015782x11
noncomputable abbrev L83:=SL.s1753610191782819921x11
noncomputable abbrev L84:=SL.s14119380538032626715x11
noncomputable abbrev L85:=SL.s11437920000406562045x9
noncomputable abbrev L86:=SL.s10852414792293593619x7
noncomputable abbrev L87:=SL.s14816307405966870543x14
noncomputable abbrev L88:=SL.s8682627914449686677x12
noncomputable abbrev L89:=SL.s4428170145600203450x18
noncomputable abbrev L90:=SL.s5991306692159431302x13
noncomputable abbrev L91:=SL.s16067994140765818257x11
noncomputable abbrev L92:=SL.s2327743974964600596x11
noncomputable abbrev L93:=SL.s2804747833354056582x9
noncomputable abbrev L94:=SL.s6070975301684473832x10
noncomputable abbrev L95:=SL.s14270485950484850486x7
noncomputable abbrev L96:=SL.s12041534306414923332x18
noncomputable abbrev L97:=SL.s2531307568338490285x13
noncomputable abbrev L98:=SL.s631175304937289666x17
noncomputable abbrev L99:=SL.s5144983644357021410x12
noncomputable abbrev Gd:=SL.s18039099521571816885x18
noncomputable abbrev Ge:=SL.s6011586214260557989x15
noncomputable abbrev Gf:=SL.s5430567037509283100x13
noncomputable abbrev Gg:=SL.s8117915138073963741x13
noncomputable abbrev Gh:=SL.s3423317712779056401x25
noncomputable abbrev Gi:=SL.s2007317383269046180x15
noncomputable abbrev Gj:=SL.s17481586968713580700x14
noncomputable abbrev Gk:=SL.s2450899226349176912x13
noncomputable abbrev Gm:=SL.s16626165730633575011x14
noncomputable abbrev Gn:=SL.s14288496050688921416x11
noncomputable abbrev Go:=SL.s5735081916595925998x15
noncomputable abbrev Gp:=SL.s3865607918536308442x17
noncomputable abbrev Gq:=SL.s13337502604062700212x15
noncomputable abbrev Gr:=SL.s13114017843053701147x15
noncomputable abbrev Gs:=SL.s17467278006356818441x17
noncomputable abbrev Gu:=SL.s17722149559621369488x16
noncomputable abbrev Gv:=SL.s7855274175708717672x17
noncomputable abbrev Gw:=SL.s13351283678309829046x18
noncomputable abbrev Gx:=SL.s6668348653404991179x15
noncomputable abbrev Gy:=SL.s12913350958174193794x18
noncomputable abbrev GA:=SL.s16115879512475548326x12
noncomputable abbrev GB:=SL.s15920661018069861047x16
noncomputable abbrev GC:=SL.s10779130036587390575x21
noncomputable abbrev GD:=SL.s7801419657504700863x10
noncomputable abbrev GE:=SL.s1688129525768580628x8
noncomputable abbrev GF:=SL.s1031832959479892071x19
noncomputable abbrev GG:=SL.s8991790508128307865x19
noncomputable abbrev GH:=SL.s14539662485746970245x23
noncomputable abbrev GI:=SL.s11643622729373238714x14
noncomputable abbrev GJ:=SL.s3386828779285465597x17
noncomputable abbrev GK:=SL.s13042696260734638735x12
noncomputable abbrev GL:=SL.s18239426817015966623x15
noncomputable abbrev GM:=SL.s1270395311379034370x22
noncomputable abbrev GN:=SL.s10696252587037064777x22
noncomputable abbrev GO:=SL.s7852717498200857586x20
noncomputable abbrev GP:=SL.s6377248116197321094x8
noncomputable abbrev GQ:=SL.s3834378056692298002x18
noncomputable abbrev GR:=SL.s17586630440231065808x18
noncomputable abbrev GS:=SL.s15234114252648025395x21
noncomputable abbrev GT:=SL.s8496462677383758984x14
noncomputable abbrev GU:=SL.s16789243406116112673x4
noncomputable abbrev GV:=SL.s14400166428656793546x20
noncomputable abbrev GW:=SL.s5857708277339239366x20
noncomputable abbrev GX:=SL.s7804999707787243718x20
noncomputable abbrev vU:=SL.s7097527257260152453x26
noncomputable abbrev GY:=SL.s6658869562736209489x6
noncomputable abbrev vV:=SL.s5856160107412720595x4
noncomputable abbrev FN:=SL.s658472552662922059x5
noncomputable abbrev sZ (w:World) (os:OsState):Shared:=⟨boot_heap w.params,Array.mk [],boot_drawn,boot_toks,os⟩
noncomputable def o11 (P:Params):Obj:=⟨(.type L68),none,(.seq #[] 0),#[]⟩
noncomputable def o12 (P:Params):Obj:=⟨.none,none,(.fields #[]),#[]⟩
noncomputable def g0 (x0:Str)(x1 x2 x3:Nat)(P:Params):Obj:=⟨(.type vV),none,(.fields #[.str x0 x1,.str x0 (x1+1),.str jj (x1+2),.int x2 0,.int 0 0,.int 0 0,.int 0 0,.int 0 0,.ref x3,.bool false,.int 181 0,.ref (x3+1),.none,.none,.none,.none,.int (x1+3) 0,.int x2 0,.str jj (x1+4)]),#[]⟩
noncomputable def o13:=g0 EU 182 1 11
noncomputable def g1 (x0 x1:Nat)(x2:Str)(x3:Nat)(P:Params):Obj:=⟨(.type FN),none,.plain,#[some (.ref x0),some (.ref 3),some (.ref x1),none,some (.str x2 x3),none,some (.ref 0)]⟩
noncomputable def o14:=g1 13 3 ET 164
noncomputable def hA (P:Params):Heap:=⟨⟨[boot_o_0 P,boot_o_1 P,boot_o_2 P,boot_o_3 P,boot_o_4 P,boot_o_5 P,boot_o_6 P,boot_o_7 P,boot_o_8 P,boot_o_9 P,boot_o_10 P,o11 P,o12 P,o13 P,o14 P]⟩,{ }⟩
noncomputable abbrev sA (w:World) (os:OsState):Shared:=⟨hA w.params,(Array.mk []),⟨0,0,0,0⟩,187,os⟩
noncomputable abbrev pA:Pos:=⟨0,0,0,0⟩
theorem pre (w:World):(fun os=>topGo treeTable pt w m0 an 12 (sZ w os) (topStub pt))=fun os=>some (sA w os,(⟨denote treeTable cE,cE,pA,B⟩:Thread)):=by
 rw [PySem.W.Fast.te15667345088766844465,PySem.W.Fast.te14364793385576792824,PySem.W.Fast.te11892475500146522536]; kernel_rfl
noncomputable def tB:Params→BT:=(f boot_o_0 (f boot_o_1 (f boot_o_3 (f boot_o_7 z z) (f o11 z z)) (f boot_o_5 (f boot_o_9 z z) (f o13 z z))) (f boot_o_2 (f boot_o_4 (f boot_o_8 z z) (f o12 z z)) (f boot_o_6 (f boot_o_10 z z) (f o14 z z))))
noncomputable abbrev sB (w:World) (os:OsState):SharedT:=⟨tB w.params,15,{ },(Array.mk []),⟨0,0,0,0⟩,187,os⟩
noncomputable abbrev pB:Pos:=⟨0,0,0,0⟩
theorem blk (w:World):(fun os=>segRun treeTable pt w m0 an 1 1 (sA w os) ⟨(blockStart (behindTheImports pt) en).wrap (fun _=>doneF .next) deadEnd id id,cE,pA,B⟩)=fun os=>some (.next,(sB w os).abs,cE,pB):=by
 rw [PySem.W.Fast.te14374325043358763698,PySem.W.Fast.te14364793385576792824,PySem.W.Fast.te1066825118222455980]; kernel_rfl
noncomputable def FO (P:Params):Obj:=⟨(.type L0),none,(.dict #[e P S0 165 (.str dw 187),e P S2 166 .none,e P S3 167 .none,e P S4 168 (.builtin vU),e P S5 169 .none,e P vd 170 (.ref 6),e P ve 171 (.ref 4),e P vf 173 (.str jj 172),e P vg 174 .none,e P fq 206 (.ref 24),e P lm 222 (.ref 37),e P lp 238 (.ref 49),e P lq 254 (.ref 61),e P lr 270 (.ref 73),e P ls 286 (.ref 85),e P lw 302 (.ref 97),e P lC 318 (.ref 109),e P lD 334 (.ref 121)] 18),#[]⟩
noncomputable def BZ (P:Params):Obj:=⟨.none,none,(.fields #[.int 2 0,.int 0 0,.ref 20,.int 4 0,.int 0 0,.ref 33,.int 6 0,.int 0 0,.ref 45,.int 8 0,.int 0 0,.ref 57,.int 10 0,.int 0 0,.ref 69,.int 12 0,.int 0 0,.ref 81,.int 14 0,.int 0 0,.ref 93,.int 16 0,.int 0 0,.ref 105,.int 18 0,.int 0 0,.ref 117]),#[]⟩
noncomputable def o15 (P:Params):Obj:=⟨(.type L68),none,(.seq #[.type L94] 0),#[]⟩
noncomputable abbrev Ca:=SL.s11030030927630378310x26
noncomputable abbrev FP:=SL.s10062305145149207511x16
noncomputable def o16 (P:Params):Obj:=⟨(.type Ca),none,(.fields #[.builtin FP,.type L69]),#[]⟩
noncomputable def g2 (x0:Nat)(x1:Str)(x2 x3:Nat)(P:Params):Obj:=⟨(.type L0),none,(.dict #[e P re x0 (.str dw 187),e P BG (x0+2) (.str x1 (x0+1)),e P rf (x0+4) (.int x2 (x0+3)),e P rg (x0+5) (.ref x3)] 4),#[]⟩
noncomputable def o17:=g2 196 fq 2 22
noncomputable def o20:=g0 fq 191 2 18
noncomputable def o21:=g1 20 17 dw 187
noncomputable def o23 (P:Params):Obj:=⟨(.type L0),none,(.dict #[e P re 196 (.str dw 187),e P rf 200 (.int 2 199),e P rg 201 (.ref 22),e P vh 203 (.ref 25),e P S2 204 .none] 3),#[]⟩
noncomputable abbrev vW:=SL.s4209523147560561109x18
noncomputable def o24 (P:Params):Obj:=⟨(.type L69),none,(.cls ⟨fq,[.type L94],[.ref 24,.type L94,.type L73,.type L71,.type L60],23,fq,true,[],[.ref 37,.ref 49,.ref 61,.ref 73,.ref 85,.ref 97,.ref 109,.ref 121],false,none,false⟩),#[some (.ref 15),none,some (.str fq 189),some (.str fq 197),some (.builtin vW),some (.bool true)]⟩
noncomputable abbrev Cb:=SL.s14755015743595814543x17
noncomputable abbrev FQ:=SL.s10220274742760427390x26
noncomputable def g3 (x0 x1:Nat)(P:Params):Obj:=⟨(.type Cb),none,(.fields #[.str vh x0,.ref x1,.builtin FQ,.none]),#[]⟩
noncomputable def o25:=g3 202 24
noncomputable def g4 (x0:Nat)(P:Params):Obj:=⟨(.type L67),none,(.fields #[.ref x0,.ref x0,.ref x0]),#[]⟩
noncomputable def o26:=g4 24
noncomputable abbrev FR:=SL.s4860613602091757760x24
noncomputable def g5 (x0:Nat)(P:Params):Obj:=⟨(.type Ca),none,(.fields #[.builtin FR,.ref x0]),#[]⟩
noncomputable def o27:=g5 24
noncomputable def o28 (P:Params):Obj:=⟨(.type L68),none,(.seq #[.ref 24] 0),#[]⟩
noncomputable def o30:=g2 214 lm 4 35
noncomputable def o33:=g0 lm 209 4 31
noncomputable def o34:=g1 33 30 dw 187
noncomputable def g6 (x0 x1 x2:Nat)(P:Params):Obj:=⟨(.type L0),none,(.dict #[e P re x0 (.str dw 187),e P rf (x0+4) (.int x1 (x0+3)),e P rg (x0+5) (.ref x2),e P S2 (x0+6) .none] 2),#[]⟩
noncomputable def o36:=g6 214 4 35
noncomputable def g7 (x0:Str)(x1 x2 x3 x4:Nat)(P:Params):Obj:=⟨(.type L69),none,(.cls ⟨x0,[.ref 24],[.ref x1,.ref 24,.type L94,.type L73,.type L71,.type L60],x2,x0,true,[],[],false,none,false⟩),#[some (.ref x3),none,some (.str x0 x4),some (.str x0 (x4+8)),some (.builtin vW),some (.bool true)]⟩
noncomputable def o37:=g7 lm 37 36 28 207
noncomputable def o38:=g4 37
noncomputable def o39:=g5 37
noncomputable def o42:=g2 230 lp 6 47
noncomputable def o45:=g0 lp 225 6 43
noncomputable def o46:=g1 45 42 dw 187
noncomputable def o48:=g6 230 6 47
noncomputable def o49:=g7 lp 49 48 40 223
noncomputable def o50:=g4 49
noncomputable def o51:=g5 49
noncomputable def o54:=g2 246 lq 8 59
noncomputable def o57:=g0 lq 241 8 55
noncomputable def o58:=g1 57 54 dw 187
noncomputable def o60:=g6 246 8 59
noncomputable def o61:=g7 lq 61 60 52 239
noncomputable def o62:=g4 61
noncomputable def o63:=g5 61
noncomputable def o66:=g2 262 lr 10 71
noncomputable def o69:=g0 lr 257 10 67
noncomputable def o70:=g1 69 66 dw 187
noncomputable def o72:=g6 262 10 71
noncomputable def o73:=g7 lr 73 72 64 255
noncomputable def o74:=g4 73
noncomputable def o75:=g5 73
noncomputable def o78:=g2 278 ls 12 83
noncomputable def o81:=g0 ls 273 12 79
noncomputable def o82:=g1 81 78 dw 187
noncomputable def o84:=g6 278 12 83
noncomputable def o85:=g7 ls 85 84 76 271
noncomputable def o86:=g4 85
noncomputable def o87:=g5 85
noncomputable def o90:=g2 294 lw 14 95
noncomputable def o93:=g0 lw 289 14 91
noncomputable def o94:=g1 93 90 dw 187
noncomputable def o96:=g6 294 14 95
noncomputable def o97:=g7 lw 97 96 88 287
noncomputable def o98:=g4 97
noncomputable def o99:=g5 97
noncomputable def tm:=g2 310 lC 16 107
noncomputable def tq:=g0 lC 305 16 103
noncomputable def tD:=g1 105 102 dw 187
noncomputable def tE:=g6 310 16 107
noncomputable def tG:=g7 lC 109 108 100 303
noncomputable def tH:=g4 109
noncomputable def tI:=g5 109
noncomputable def tJ:=g2 326 lD 18 119
noncomputable def tK:=g0 lD 321 18 115
noncomputable def tL:=g1 117 114 dw 187
noncomputable def tM:=g6 326 18 119
noncomputable def tN:=g7 lD 121 120 112 319
noncomputable def tO:=g4 121
noncomputable def tP:=g5 121
noncomputable def t0:Params→BT:=(f boot_o_0 (f boot_o_1 (f FO (f boot_o_7 (f o15 (f o11 (f o63 z z) (f o11 z z)) (f o11 (f o11 z z) (f tI z z))) (f o23 (f o39 (f o11 z z) (f o11 z z)) (f o11 (f o87 z z) (f o11 z z)))) (f o11 (f o12 (f o11 (f o11 z z) (f o99 z z)) (f o51 (f o11 z z) (f o11 z z))) (f o27 (f o11 (f o75 z z) (f o11 z z)) (f o11 (f o11 z z) (f tP z z))))) (f boot_o_5 (f boot_o_9 (f o17 (f o33 (f o16 z z) (f o97 z z)) (f o49 (f o81 z z) (f o16 z z))) (f o25 (f o16 (f o73 z z) (f tq z z)) (f o57 (f o16 z z) (f tN z z)))) (f o13 (f o21 (f o37 (f o69 z z) (f o16 z z)) (f o16 (f o85 z z) (f tK z z))) (f o16 (f o45 (f o16 z z) (f tG z z)) (f o61 (f o93 z z) z))))) (f boot_o_2 (f boot_o_4 (f boot_o_8 (f o16 (f o12 (f o28 z z) (f o96 z z)) (f o48 (f o12 z z) (f o28 z z))) (f o24 (f o28 (f o72 z z) (f o12 z z)) (f o12 (f o28 z z) (f tM z z)))) (f BZ (f o20 (f o36 (f o12 z z) (f o28 z z)) (f o28 (f o84 z z) (f o12 z z))) (f o28 (f o12 (f o28 z z) (f tE z z)) (f o60 (f o12 z z) z)))) (f boot_o_6 (f boot_o_10 (f o11 (f o34 (f o66 z z) (f o98 z z)) (f o50 (f o82 z z) (f tJ z z))) (f o26 (f o42 (f o74 z z) (f tD z z)) (f o58 (f o90 z z) (f tO z z)))) (f o14 (f o11 (f o38 (f o70 z z) (f tm z z)) (f o54 (f o86 z z) (f tL z z))) (f o30 (f o46 (f o78 z z) (f tH z z)) (f o62 (f o94 z z) z))))))
noncomputable abbrev s0 (w:World) (os:OsState):SharedT:=⟨t0 w.params,124,{ },(Array.mk []),⟨0,0,0,0⟩,335,os⟩
noncomputable abbrev p0:Pos:=⟨18,0,19,8⟩
noncomputable abbrev st0:List Stmt:=(pt.main.body.drop 0).take 10
theorem q0 (w:World):(fun os=>segRunT treeTable pt w m0 an 1 1900 (sB w os) ⟨(execs st0 en).wrap doneF deadEnd id id,cE,pB,B⟩)=fun os=>some (.next,s0 w os,cE,p0):=by
 rw [PySem.W.Fast.te10110043849684766642,PySem.W.Fast.te14364793385576792824,PySem.W.Fast.te12563942051412417395]; kernel_rfl
noncomputable def FS (P:Params):Obj:=⟨(.type L0),none,(.dict #[e P S0 165 (.str lE 699),e P S2 166 .none,e P S3 167 .none,e P S4 168 (.builtin vU),e P S5 169 .none,e P vd 170 (.ref 6),e P ve 171 (.ref 4),e P vf 173 (.str jj 172),e P vg 174 .none,e P fq 206 (.ref 24),e P lm 222 (.ref 37),e P lp 238 (.ref 49),e P lq 254 (.ref 61),e P lr 270 (.ref 73),e P ls 286 (.ref 85),e P lw 302 (.ref 97),e P lC 318 (.ref 109),e P lD 334 (.ref 121),e P oy 350 (.ref 133),e P oz 366 (.ref 145),e P oA 382 (.ref 157),e P oB 398 (.ref 169),e P oC 414 (.ref 181),e P lF 424 (.ref 190),e P lG 431 (.ref 197),e P lH 438 (.ref 204),e P lI 446 (.ref 211),e P lJ 455 (.ref 218),e P vi 459 (.str vj 458),e P vk 461 (.str vm 460),e P vn 462 (.ref 219),e P lK 477 (.ref 226),e P lL 483 (.ref 231),e P lM 495 (.ref 238),e P lN 501 (.ref 243),e P lO 507 (.ref 248),e P vo 511 (.str BH 510),e P vp 513 (.str BI 512),e P vq 515 (.int 1 514),e P vt 517 (.int 5 516),e P vw 519 (.int 4 518),e P lP 528 (.ref 255),e P lQ 539 (.ref 262),e P lR 552 (.ref 269),e P lS 576 (.ref 276),e P lT 589 (.ref 283),e P lU 599 (.ref 290),e P vy 603 (.int 16 602),e P lV 616 (.ref 297),e P lW 629 (.ref 304),e P lX 642 (.ref 311),e P vz 646 (.int 32 645),e P lY 662 (.ref 318),e P lZ 677 (.ref 325),e P ma 698 (.ref 332),e P vA 702 (.int 8 701),e P vB 704 (.int 5 703),e P md 716 (.ref 339)] 58),#[]⟩
noncomputable def Cc (P:Params):Obj:=⟨.none,none,(.fields #[.int 2 0,.int 0 0,.ref 20,.int 4 0,.int 0 0,.ref 33,.int 6 0,.int 0 0,.ref 45,.int 8 0,.int 0 0,.ref 57,.int 10 0,.int 0 0,.ref 69,.int 12 0,.int 0 0,.ref 81,.int 14 0,.int 0 0,.ref 93,.int 16 0,.int 0 0,.ref 105,.int 18 0,.int 0 0,.ref 117,.int 20 0,.int 0 0,.ref 129,.int 22 0,.int 0 0,.ref 141,.int 24 0,.int 0 0,.ref 153,.int 26 0,.int 0 0,.ref 165,.int 28 0,.int 0 0,.ref 177,.int 31 0,.int 0 0,.ref 189,.int 33 0,.int 0 0,.ref 196,.int 35 0,.int 0 0,.ref 203,.int 37 0,.int 0 0,.ref 210,.int 40 0,.int 0 0,.ref 217,.int 47 0,.int 0 0,.ref 225,.int 52 0,.int 0 0,.ref 230,.int 55 0,.int 0 0,.ref 237,.int 60 0,.int 0 0,.ref 242,.int 64 0,.int 0 0,.ref 247,.int 72 0,.int 0 0,.ref 254,.int 76 0,.int 0 0,.ref 261,.int 83 0,.int 0 0,.ref 268,.int 88 0,.int 0 0,.ref 275,.int 95 0,.int 0 0,.ref 282,.int 106 0,.int 0 0,.ref 289,.int 111 0,.int 0 0,.ref 296,.int 118 0,.int 0 0,.ref 303,.int 125 0,.int 0 0,.ref 310,.int 133 0,.int 0 0,.ref 317,.int 146 0,.int 0 0,.ref 324,.int 153 0,.int 0 0,.ref 331,.int 176 0,.int 0 0,.ref 338]),#[]⟩
noncomputable def rB (P:Params):Obj:=⟨(.type L69),none,(.cls ⟨fq,[.type L94],[.ref 24,.type L94,.type L73,.type L71,.type L60],23,fq,true,[],[.ref 37,.ref 49,.ref 61,.ref 73,.ref 85,.ref 97,.ref 109,.ref 121,.ref 133,.ref 145,.ref 157,.ref 169,.ref 181],false,none,false⟩),#[some (.ref 15),none,some (.str fq 189),some (.str fq 197),some (.builtin vW),some (.bool true)]⟩
noncomputable def vX:=g2 342 oy 20 131
noncomputable def vY:=g0 oy 337 20 127
noncomputable def vZ:=g1 129 126 dw 187
noncomputable def wc:=g6 342 20 131
noncomputable def wd:=g7 oy 133 132 124 335
noncomputable def we:=g4 133
noncomputable def wf:=g5 133
noncomputable def wg:=g2 358 oz 22 143
noncomputable def wj:=g0 oz 353 22 139
noncomputable def wk:=g1 141 138 dw 187
noncomputable def wm:=g6 358 22 143
noncomputable def wr:=g7 oz 145 144 136 351
noncomputable def wu:=g4 145
noncomputable def ww:=g5 145
noncomputable def wx:=g2 374 oA 24 155
noncomputable def wz:=g0 oA 369 24 151
noncomputable def wA:=g1 153 150 dw 187
noncomputable def wB:=g6 374 24 155
noncomputable def wC:=g7 oA 157 156 148 367
noncomputable def wD:=g4 157
noncomputable def wE:=g5 157
noncomputable def wF:=g2 390 oB 26 167
noncomputable def wG:=g0 oB 385 26 163
noncomputable def wH:=g1 165 162 dw 187
noncomputable def wI:=g6 390 26 167
noncomputable def wJ:=g7 oB 169 168 160 383
noncomputable def wK:=g4 169
noncomputable def wL:=g5 169
noncomputable def wM:=g2 406 oC 28 179
noncomputable def wN:=g0 oC 401 28 175
noncomputable def wO:=g1 177 174 dw 187
noncomputable def wP:=g6 406 28 179
noncomputable def wQ:=g7 oC 181 180 172 399
noncomputable def wR:=g4 181
noncomputable def wT:=g5 181
noncomputable def g8 (x0:Str)(x1:Nat)(x2:Str)(x3:Nat)(P:Params):Obj:=⟨(.type L68),none,(.seq #[.str x0 x1,.str x2 x3] 0),#[]⟩
noncomputable def wU:=g8 mf 420 EV 421
noncomputable def g9 (x0:Str)(x1:Nat)(P:Params):Obj:=⟨.none,none,(.func ⟨x0,x0,L2.defArgs (tp x1),(.stmts (L2.defBody (tp x1))),L2.defScope (tp x1),0,[],.none,.none,.none,.none,none,.none,.none,0⟩),#[]⟩
noncomputable def wV:=g9 lF 16
noncomputable def g10 (x0:Str)(x1:Nat)(x2:Str)(x3 x4 x5 x6:Nat)(P:Params):Obj:=⟨(.type vV),none,(.fields #[.str x0 x1,.str x2 (x1+1),.str jj (x1+2),.int x3 0,.int x4 0,.int 0 0,.int 0 0,.int 3 0,.ref x5,.bool true,.int 181 0,.ref (x5+1),.none,.ref (x5+2),.ref (x5+3),.ref (x5+4),.int x6 0,.int x3 0,.str jj (x6+1)]),#[]⟩
noncomputable def wW:=g10 lF 417 lF 31 2 184 422
noncomputable abbrev Cd:=SL.s7174869446012820540x8
noncomputable def g11 (x0:Str)(x1:Nat)(x2:Str)(x3 x4:Nat)(P:Params):Obj:=⟨(.type Cd),none,(.func ⟨x0,x0,L2.defArgs (tp x1),(.stmts (L2.defBody (tp x1))),L2.defScope (tp x1),3,[],.none,.none,.none,.str x2 x3,none,.ref x4,.none,0⟩),#[]⟩
noncomputable def wX:=g11 lF 16 rh 415 189
noncomputable def g12 (x0:Str)(x1:Nat)(P:Params):Obj:=⟨(.type L68),none,(.seq #[.str x0 x1] 0),#[]⟩
noncomputable def wY:=g12 mf 428
noncomputable def wZ:=g9 lG 17
noncomputable def xa:=g10 lG 425 lG 33 1 191 429
noncomputable def xb:=g11 lG 17 rh 415 196
noncomputable def xc:=g12 mf 435
noncomputable def xf:=g9 lH 18
noncomputable def xg:=g10 lH 432 lH 35 1 198 436
noncomputable def xh:=g11 lH 18 rh 415 203
noncomputable def xi:=g8 gZ 442 hG 443
noncomputable def xj:=g9 lI 19
noncomputable def xk:=g10 lI 439 lI 37 2 205 444
noncomputable def xn:=g11 lI 19 rh 415 210
noncomputable def g13 (x0:Str)(x1:Nat)(x2 x3:Str)(P:Params):Obj:=⟨(.type L68),none,(.seq #[.str x0 x1,.str x2 (x1+1),.str x3 (x1+2)] 0),#[]⟩
noncomputable def xo:=g13 gZ 450 hG BJ
noncomputable def xq:=g9 lJ 20
noncomputable def xt:=g10 lJ 447 lJ 40 3 212 453
noncomputable def xu:=g11 lJ 20 rh 415 217
noncomputable def xw:=g8 vj 458 vm 460
noncomputable def g14 (x0:Str)(x1:Nat)(x2 x3 x4 x5 x6 x7 x8 x9:Str)(P:Params):Obj:=⟨(.type L68),none,(.seq #[.str x0 x1,.str x2 (x1+1),.str x3 (x1+2),.str x4 (x1+3),.str x5 (x1+4),.str x6 (x1+5),.str x7 (x1+6),.str x8 (x1+7),.str x9 (x1+8)] 0),#[]⟩
noncomputable def xx:=g14 mh 466 gZ hG oE sU vC vD EW EX
noncomputable def xy:=g9 lK 25
noncomputable def xz:=g10 lK 463 lK 47 7 220 475
noncomputable def xA:=g11 lK 25 rj 456 225
noncomputable def xB:=g9 lL 26
noncomputable def g15 (x0:Str)(x1:Nat)(x2:Str)(x3 x4 x5:Nat)(P:Params):Obj:=⟨(.type vV),none,(.fields #[.str x0 x1,.str x2 (x1+1),.str jj (x1+2),.int x3 0,.int x4 0,.int 0 0,.int 0 0,.int 3 0,.ref x5,.bool true,.int 181 0,.ref (x5+1),.none,.none,.none,.ref (x5+2),.int (x1+3) 0,.int x3 0,.str jj (x1+4)]),#[]⟩
noncomputable def xC:=g15 lL 478 lL 52 2 227
noncomputable def xD:=g11 lL 26 rj 456 230
noncomputable def g16 (x0:Str)(x1:Nat)(x2 x3 x4 x5 x6:Str)(P:Params):Obj:=⟨(.type L68),none,(.seq #[.str x0 x1,.str x2 (x1+1),.str x3 (x1+2),.str x4 (x1+3),.str x5 (x1+4),.str x6 (x1+5)] 0),#[]⟩
noncomputable def xE:=g16 jk 487 vE mi sV gZ hG
noncomputable def xF:=g9 lM 27
noncomputable def xG:=g10 lM 484 lM 55 4 232 493
noncomputable def xH:=g11 lM 27 rj 456 237
noncomputable def xI:=g9 lN 28
noncomputable def xJ:=g15 lN 496 lN 60 2 239
noncomputable def xK:=g11 lN 28 rj 456 242
noncomputable def xL:=g9 lO 29
noncomputable def xM:=g15 lO 502 lO 64 2 244
noncomputable def xN:=g11 lO 29 rj 456 247
noncomputable def xO:=g13 mf 523 EY EZ
noncomputable def xP:=g9 lP 36
noncomputable def xQ:=g10 lP 520 lP 72 3 249 526
noncomputable def xR:=g11 lP 36 oF 508 254
noncomputable def xS (P:Params):Obj:=⟨(.type L68),none,(.seq #[.str jk 532,.str sW 533,.str sX 534,.str mi 535,.str Fa 536] 0),#[]⟩
noncomputable def xT:=g9 lQ 37
noncomputable def xU:=g10 lQ 529 lQ 76 2 256 537
noncomputable def xV:=g11 lQ 37 oF 508 261
noncomputable def g17 (x0:Str)(x1:Nat)(x2 x3 x4 x5 x6 x7:Str)(P:Params):Obj:=⟨(.type L68),none,(.seq #[.str x0 x1,.str x2 (x1+1),.str x3 (x1+2),.str x4 (x1+3),.str x5 (x1+4),.str x6 (x1+5),.str x7 (x1+6)] 0),#[]⟩
noncomputable def xW:=g17 mh 543 sW vC vD gZ hG sX
noncomputable def xX:=g9 lR 38
noncomputable def xY:=g10 lR 540 lR 83 2 263 550
noncomputable def xZ:=g11 lR 38 oF 508 268
noncomputable def ya (P:Params):Obj:=⟨(.type L68),none,(.seq #[.str jk 556,.str sW 557,.str vC 558,.str vD 559,.str gZ 560,.str hG 561,.str sX 562,.str mi 563,.str sV 564,.str vF 565,.str vG 566,.str Fb 567,.str Fc 568,.str Fd 569,.str Fe 570,.str sY 571,.str Ff 572,.str Fg 573] 0),#[]⟩
noncomputable def yb:=g9 lS 39
noncomputable def yc:=g10 lS 553 lS 88 2 270 574
noncomputable def yd:=g11 lS 39 oF 508 275
noncomputable def ye:=g17 mh 580 gZ hG mf jk BK sW
noncomputable def yf:=g9 lT 40
noncomputable def yg:=g10 lT 577 lT 95 4 277 587
noncomputable def yh:=g11 lT 40 oF 508 282
noncomputable def g18 (x0:Str)(x1:Nat)(x2 x3 x4:Str)(P:Params):Obj:=⟨(.type L68),none,(.seq #[.str x0 x1,.str x2 (x1+1),.str x3 (x1+2),.str x4 (x1+3)] 0),#[]⟩
noncomputable def yi:=g18 mh 593 gZ hG mf
noncomputable def yj:=g9 lU 41
noncomputable def yk:=g10 lU 590 lU 106 4 284 597
noncomputable def ym:=g11 lU 41 oF 508 289
noncomputable def yn:=g17 mh 607 vE tj Fh oG oE sU
noncomputable def yo:=g9 lV 44
noncomputable def yp:=g10 lV 604 lV 111 2 291 614
noncomputable def yq:=g11 lV 44 vH 600 296
noncomputable def yr:=g17 BL 620 vI BM tj sY Fi Fj
noncomputable def yt:=g9 lW 45
noncomputable def yu:=g10 lW 617 lW 118 3 298 627
noncomputable def yw:=g11 lW 45 vH 600 303
noncomputable def yx:=g17 BN 633 BO sY mi sV vF vG
noncomputable def yy:=g9 lX 46
noncomputable def yz:=g10 lX 630 lX 125 2 305 640
noncomputable def yA:=g11 lX 46 vH 600 310
noncomputable def yB (P:Params):Obj:=⟨(.type L68),none,(.seq #[.str mh 650,.str gZ 651,.str hG 652,.str sX 653,.str BJ 654,.str BK 655,.str Fk 656,.str BP 657,.str BQ 658,.str mi 659] 0),#[]⟩
noncomputable def yC:=g9 lY 49
noncomputable def yD:=g10 lY 647 lY 133 4 312 660
noncomputable def yE:=g11 lY 49 vJ 643 317
noncomputable def yF:=g14 vI 666 BP BR Fl mi sV vF vG Fm
noncomputable def yG:=g9 lZ 50
noncomputable def yH:=g10 lZ 663 lZ 146 3 319 675
noncomputable def yI:=g11 lZ 50 vJ 643 324
noncomputable def yJ (P:Params):Obj:=⟨(.type L68),none,(.seq #[.str mh 681,.str gZ 682,.str hG 683,.str Fn 684,.str BM 685,.str BN 686,.str vE 687,.str BL 688,.str vI 689,.str BR 690,.str mi 691,.str tj 692,.str sY 693,.str BO 694,.str Fo 695] 0),#[]⟩
noncomputable def yK:=g9 ma 51
noncomputable def yL:=g10 ma 678 ma 153 4 326 696
noncomputable def yM:=g11 ma 51 vJ 643 331
noncomputable def yN:=g16 mf 708 gZ hG tj oH BQ
noncomputable def yO:=g9 md 55
noncomputable def yP:=g10 md 705 md 176 1 333 714
noncomputable def yQ:=g11 md 55 lE 699 338
noncomputable def t1:Params→BT:=(f boot_o_0 (f boot_o_1 (f FS (f boot_o_7 (f o15 (f o11 (f o63 (f o11 (f xR z z) z) (f o11 (f o11 z z) z)) (f o11 (f wE (f o11 z z) z) (f o11 z z))) (f o11 (f o11 (f o11 (f o12 z z) z) (f xi (f yN z z) z)) (f tI (f o11 (f yu z z) z) (f o11 z z)))) (f o23 (f o39 (f o11 (f wf (f o11 z z) z) (f o12 (f o12 z z) z)) (f o11 (f o11 (f yo z z) z) (f xD z z))) (f o11 (f o87 (f o11 (f ye z z) z) (f o11 z z)) (f o11 (f wT (f yA z z) z) (f xM z z))))) (f o11 (f o12 (f o11 (f o11 (f o11 (f o11 z z) z) (f wZ (f yG z z) z)) (f o99 (f o11 (f o11 z z) z) (f o11 z z))) (f o51 (f o11 (f ww (f yc z z) z) (f xn (f yQ z z) z)) (f o11 (f o11 (f yx z z) z) (f xK z z)))) (f o27 (f o11 (f o75 (f o11 (f xX z z) z) (f xg (f yL z z) z)) (f o11 (f wL (f o12 z z) z) (f o11 z z))) (f o11 (f o11 (f o11 (f yh z z) z) (f xw z z)) (f tP (f o11 (f o11 z z) z) (f xO z z)))))) (f boot_o_5 (f boot_o_9 (f o17 (f o33 (f o16 (f vY (f o12 z z) z) (f wY (f yF z z) z)) (f o97 (f o16 (f yk z z) z) (f xz z z))) (f o49 (f o81 (f wr (f o11 z z) z) (f xj (f yO z z) z)) (f o16 (f wN (f o11 z z) z) (f xI z z)))) (f o25 (f o16 (f o73 (f o16 (f xW z z) z) (f o11 (f o11 z z) z)) (f tq (f wJ (f yq z z) z) (f o12 z z))) (f o57 (f o16 (f wz (f yf z z) z) (f xt z z)) (f tN (f o12 (f o12 z z) z) (f o11 z z))))) (f o13 (f o21 (f o37 (f o69 (f wd (f xU z z) z) (f xb (f yI z z) z)) (f o16 (f wG (f yn z z) z) (f xB z z))) (f o16 (f o85 (f o16 (f o11 z z) z) (f o12 z z)) (f tK (f wQ (f yy z z) z) (f o12 z z)))) (f o16 (f o45 (f o16 (f wj (f xZ z z) z) (f o11 (f o11 z z) z)) (f tG (f o16 (f o11 z z) z) (f xG z z))) (f o61 (f o93 (f wC (f o12 z z) z) (f o12 z z)) (f o16 (f wW (f yD z z) z) (f xP z z))))))) (f boot_o_2 (f boot_o_4 (f boot_o_8 (f o16 (f o12 (f o28 (f o12 (f o11 z z) z) (f o12 (f o12 z z) z)) (f o96 (f o28 (f yj z z) z) (f xy z z))) (f o48 (f o12 (f wm (f ya z z) z) (f o11 (f o11 z z) z)) (f o28 (f o12 (f yw z z) z) (f o12 z z)))) (f rB (f o28 (f o72 (f o28 (f o12 z z) z) (f xc (f yJ z z) z)) (f o12 (f wI (f yp z z) z) (f o11 z z))) (f o12 (f o28 (f o12 (f o11 z z) z) (f xq z z)) (f tM (f o11 (f o11 z z) z) (f xN z z))))) (f Cc (f o20 (f o36 (f o12 (f wc (f xT z z) z) (f xa (f yH z z) z)) (f o28 (f o12 (f o12 z z) z) (f o12 z z))) (f o28 (f o84 (f o28 (f yd z z) z) (f o11 z z)) (f o12 (f wP (f o11 z z) z) (f o11 z z)))) (f o28 (f o12 (f o28 (f o12 (f xY z z) z) (f xh (f yM z z) z)) (f tE (f o28 (f yr z z) z) (f xF z z))) (f o60 (f o12 (f wB (f o11 z z) z) (f o11 z z)) (f o28 (f wV (f yC z z) z) (f o11 z z)))))) (f boot_o_6 (f boot_o_10 (f o11 (f o34 (f o66 (f vZ (f xS z z) z) (f o11 (f o11 z z) z)) (f o98 (f wF (f ym z z) z) (f xA z z))) (f o50 (f o82 (f wu (f yb z z) z) (f xk (f yP z z) z)) (f tJ (f wO (f o12 z z) z) (f xJ z z)))) (f o26 (f o42 (f o74 (f wg (f o11 z z) z) (f xf (f yK z z) z)) (f tD (f wK (f o11 z z) z) (f xE z z))) (f o58 (f o90 (f wA (f yg z z) z) (f xu z z)) (f tO (f wU (f yB z z) z) (f o12 z z))))) (f o14 (f o11 (f o38 (f o70 (f we (f xV z z) z) (f o11 (f o11 z z) z)) (f tm (f wH (f o11 z z) z) (f xC z z))) (f o54 (f o86 (f wx (f o12 z z) z) (f xo z z)) (f tL (f wR (f yz z z) z) (f xL z z)))) (f o30 (f o46 (f o78 (f wk (f o11 z z) z) (f o12 (f o12 z z) z)) (f tH (f wM (f yt z z) z) (f xH z z))) (f o62 (f o94 (f wD (f yi z z) z) (f xx z z)) (f vX (f wX (f yE z z) z) (f xQ z z))))))))
noncomputable abbrev s1 (w:World) (os:OsState):SharedT:=⟨t1 w.params,340,{ },(Array.mk []),⟨0,0,0,0⟩,717,os⟩
noncomputable abbrev p1:Pos:=⟨176,0,182,73⟩
noncomputable abbrev st1:List Stmt:=(pt.main.body.drop 10).take 46
theorem q1 (w:World):(fun os=>segRunT treeTable pt w m0 an 1 2000 (s0 w os) ⟨(execs st1 en).wrap doneF deadEnd id id,cE,p0,B⟩)=fun os=>some (.next,s1 w os,cE,p1):=by
 rw [PySem.W.Fast.te10110043849684766642,PySem.W.Fast.te14364793385576792824,PySem.W.Fast.te12563942051412417395]; kernel_rfl
noncomputable def Ce (P:Params):Obj:=⟨(.type L0),none,(.dict #[e P S0 165 (.str hW 801),e P S2 166 .none,e P S3 167 .none,e P S4 168 (.builtin vU),e P S5 169 .none,e P vd 170 (.ref 6),e P ve 171 (.ref 4),e P vf 173 (.str jj 172),e P vg 174 .none,e P fq 206 (.ref 24),e P lm 222 (.ref 37),e P lp 238 (.ref 49),e P lq 254 (.ref 61),e P lr 270 (.ref 73),e P ls 286 (.ref 85),e P lw 302 (.ref 97),e P lC 318 (.ref 109),e P lD 334 (.ref 121),e P oy 350 (.ref 133),e P oz 366 (.ref 145),e P oA 382 (.ref 157),e P oB 398 (.ref 169),e P oC 414 (.ref 181),e P lF 424 (.ref 190),e P lG 431 (.ref 197),e P lH 438 (.ref 204),e P lI 446 (.ref 211),e P lJ 455 (.ref 218),e P vi 459 (.str vj 458),e P vk 461 (.str vm 460),e P vn 462 (.ref 219),e P lK 477 (.ref 226),e P lL 483 (.ref 231),e P lM 495 (.ref 238),e P lN 501 (.ref 243),e P lO 507 (.ref 248),e P vo 511 (.str BH 510),e P vp 513 (.str BI 512),e P vq 515 (.int 1 514),e P vt 517 (.int 5 516),e P vw 519 (.int 4 518),e P lP 528 (.ref 255),e P lQ 539 (.ref 262),e P lR 552 (.ref 269),e P lS 576 (.ref 276),e P lT 589 (.ref 283),e P lU 599 (.ref 290),e P vy 603 (.int 16 602),e P lV 616 (.ref 297),e P lW 629 (.ref 304),e P lX 642 (.ref 311),e P vz 646 (.int 32 645),e P lY 662 (.ref 318),e P lZ 677 (.ref 325),e P ma 698 (.ref 332),e P vA 702 (.int 8 701),e P vB 704 (.int 5 703),e P md 716 (.ref 339),e P oI 723 (.ref 346),e P jT 800 (.ref 401),e P oJ 809 (.ref 412),e P oK 818 (.ref 419),e P oM 828 (.ref 426),e P oN 840 (.ref 433),e P oO 846 (.ref 438),e P oP 855 (.ref 445),e P oQ 864 (.ref 452),e P oR 879 (.ref 459),e P rm 899 (.ref 466)] 69),#[]⟩
noncomputable def ug (P:Params):Obj:=⟨.none,none,(.fields #[.int 2 0,.int 0 0,.ref 20,.int 4 0,.int 0 0,.ref 33,.int 6 0,.int 0 0,.ref 45,.int 8 0,.int 0 0,.ref 57,.int 10 0,.int 0 0,.ref 69,.int 12 0,.int 0 0,.ref 81,.int 14 0,.int 0 0,.ref 93,.int 16 0,.int 0 0,.ref 105,.int 18 0,.int 0 0,.ref 117,.int 20 0,.int 0 0,.ref 129,.int 22 0,.int 0 0,.ref 141,.int 24 0,.int 0 0,.ref 153,.int 26 0,.int 0 0,.ref 165,.int 28 0,.int 0 0,.ref 177,.int 31 0,.int 0 0,.ref 189,.int 33 0,.int 0 0,.ref 196,.int 35 0,.int 0 0,.ref 203,.int 37 0,.int 0 0,.ref 210,.int 40 0,.int 0 0,.ref 217,.int 47 0,.int 0 0,.ref 225,.int 52 0,.int 0 0,.ref 230,.int 55 0,.int 0 0,.ref 237,.int 60 0,.int 0 0,.ref 242,.int 64 0,.int 0 0,.ref 247,.int 72 0,.int 0 0,.ref 254,.int 76 0,.int 0 0,.ref 261,.int 83 0,.int 0 0,.ref 268,.int 88 0,.int 0 0,.ref 275,.int 95 0,.int 0 0,.ref 282,.int 106 0,.int 0 0,.ref 289,.int 111 0,.int 0 0,.ref 296,.int 118 0,.int 0 0,.ref 303,.int 125 0,.int 0 0,.ref 310,.int 133 0,.int 0 0,.ref 317,.int 146 0,.int 0 0,.ref 324,.int 153 0,.int 0 0,.ref 331,.int 176 0,.int 0 0,.ref 338,.int 183 0,.int 0 0,.ref 345,.int 185 0,.int 0 0,.ref 352,.int 228 0,.int 0 0,.ref 411,.int 230 0,.int 0 0,.ref 418,.int 237 0,.int 0 0,.ref 425,.int 244 0,.int 0 0,.ref 432,.int 257 0,.int 0 0,.ref 437,.int 259 0,.int 0 0,.ref 444,.int 263 0,.int 0 0,.ref 451,.int 267 0,.int 0 0,.ref 458,.int 280 0,.int 0 0,.ref 465]),#[]⟩
noncomputable def Cf:=g12 oE 720
noncomputable def Cg:=g9 oI 56
noncomputable def Ch:=g10 oI 717 oI 183 1 340 721
noncomputable def Ci:=g11 oI 56 lE 699 345
noncomputable def Cj (P:Params):Obj:=⟨(.type L0),none,(.dict #[e P re 731 (.str lE 699),e P BG 733 (.str jT 732),e P rf 735 (.int 185 734),e P rn 741 (.ref 358),e P jk 748 (.ref 365),e P oG 755 (.ref 372),e P oH 761 (.ref 377),e P rp 771 (.ref 384),e P rq 780 (.ref 391),e P rz 790 (.ref 398),e P rg 793 (.ref 399)] 11),#[]⟩
noncomputable def Ck (P:Params):Obj:=⟨.none,none,(.fields #[.int 187 0,.int 4 0,.ref 357,.int 198 0,.int 4 0,.ref 364,.int 201 0,.int 4 0,.ref 371,.int 204 0,.int 4 0,.ref 376,.int 207 0,.int 4 0,.ref 383,.int 215 0,.int 4 0,.ref 390,.int 220 0,.int 4 0,.ref 397]),#[]⟩
noncomputable def Cm:=g0 jT 726 185 350
noncomputable def Cn:=g1 352 349 lE 699
noncomputable def g19 (x0 x1:Str)(x2:Nat)(P:Params):Obj:=⟨.none,none,(.func ⟨x0,x1,L2.defArgs (L2.inClass (tp 57) x2),(.stmts (L2.defBody (L2.inClass (tp 57) x2))),L2.defScope (L2.inClass (tp 57) x2),0,[],.none,.none,.none,.none,none,.none,.none,0⟩),#[]⟩
noncomputable def Co:=g19 rn vK 0
noncomputable def Cp:=g15 rn 736 vK 187 3 354
noncomputable def g20 (x0 x1:Str)(x2 x3:Nat)(P:Params):Obj:=⟨(.type Cd),none,(.func ⟨x0,x1,L2.defArgs (L2.inClass (tp 57) x2),(.stmts (L2.defBody (L2.inClass (tp 57) x2))),L2.defScope (L2.inClass (tp 57) x2),3,[],.none,.none,.none,.str lE 699,none,.ref x3,.none,0⟩),#[]⟩
noncomputable def Cq:=g20 rn vK 0 357
noncomputable def Cr:=g12 rA 745
noncomputable def Cs:=g19 jk vL 1
noncomputable def Ct:=g10 jk 742 vL 198 1 359 746
noncomputable def Cu:=g20 jk vL 1 364
noncomputable def Cv:=g12 rA 752
noncomputable def Cw:=g19 oG vM 2
noncomputable def Cy:=g10 oG 749 vM 201 1 366 753
noncomputable def Cz:=g20 oG vM 2 371
noncomputable def CA:=g19 oH vN 3
noncomputable def CB:=g15 oH 756 vN 204 1 373
noncomputable def CC:=g20 oH vN 3 376
noncomputable def CD:=g18 rA 765 Fp Fq oE
noncomputable def CF:=g19 rp vO 4
noncomputable def CG:=g10 rp 762 vO 207 1 378 769
noncomputable def CI:=g20 rp vO 4 383
noncomputable def CJ:=g13 rA 775 oE sU
noncomputable def CK:=g19 rq vP 5
noncomputable def CL:=g10 rq 772 vP 215 3 385 778
noncomputable def CM:=g20 rq vP 5 390
noncomputable def CN:=g18 rA 784 oE sU Fs
noncomputable def CO:=g19 rz vQ 6
noncomputable def CP:=g10 rz 781 vQ 220 3 392 788
noncomputable def CQ:=g20 rz vQ 6 397
noncomputable def CS:=g8 Ft 791 Fu 792
noncomputable def CT (P:Params):Obj:=⟨(.type L0),none,(.dict #[e P re 731 (.str lE 699),e P rf 735 (.int 185 734),e P rn 741 (.ref 358),e P jk 748 (.ref 365),e P oG 755 (.ref 372),e P oH 761 (.ref 377),e P rp 771 (.ref 384),e P rq 780 (.ref 391),e P rz 790 (.ref 398),e P rg 793 (.ref 399),e P BS 795 (.ref 402),e P vh 797 (.ref 403),e P S2 798 .none] 4),#[]⟩
noncomputable abbrev FT:=SL.s11443829558043349243x14
noncomputable def CU (P:Params):Obj:=⟨(.type L69),none,(.cls ⟨jT,[.type L60],[.ref 401,.type L60],400,jT,true,[],[],false,none,false⟩),#[none,none,some (.str jT 724),some (.str jT 732),some (.builtin FT),some (.bool true)]⟩
noncomputable abbrev FU:=SL.s6511155373996960695x17
noncomputable abbrev FV:=SL.s12411053484034534018x21
noncomputable def CV (P:Params):Obj:=⟨(.type Cb),none,(.fields #[.str BS 794,.ref 401,.builtin FU,.builtin FV]),#[]⟩
noncomputable def CW:=g3 796 401
noncomputable def CY:=g4 401
noncomputable def CZ:=g5 401
noncomputable def Da:=g12 BU 806
noncomputable def Db:=g9 oJ 59
noncomputable def Dc:=g10 oJ 803 oJ 228 1 406 807
noncomputable def Dd:=g11 oJ 59 hW 801 411
noncomputable def De:=g13 oS 813 BV Fv
noncomputable def Df:=g9 oK 60
noncomputable def Dg:=g10 oK 810 oK 230 2 413 816
noncomputable def Dh:=g11 oK 60 hW 801 418
noncomputable def Di:=g18 oS 822 BV Fw Fx
noncomputable def Dj:=g9 oM 61
noncomputable def Dk:=g10 oM 819 oM 237 2 420 826
noncomputable def Dl:=g11 oM 61 hW 801 425
noncomputable def Dm:=g16 Fy 832 BW vR Fz FA FB
noncomputable def Do:=g9 oN 62
noncomputable def Dp:=g10 oN 829 oN 244 4 427 838
noncomputable def Dq:=g11 oN 62 hW 801 432
noncomputable def Dr:=g9 oO 63
noncomputable def Ds:=g15 oO 841 oO 257 1 434
noncomputable def Du:=g11 oO 63 hW 801 437
noncomputable def Dv:=g13 oS 850 vS vT
noncomputable def Dw:=g9 oP 64
noncomputable def Dx:=g10 oP 847 oP 259 1 439 853
noncomputable def Dy:=g11 oP 64 hW 801 444
noncomputable def Dz:=g13 oS 859 vS vT
noncomputable def DA:=g9 oQ 65
noncomputable def DE:=g10 oQ 856 oQ 263 1 446 862
noncomputable def DH:=g11 oQ 65 hW 801 451
noncomputable def DJ:=g14 oS 868 vR BX BY FC FD FE vS vT
noncomputable def DM:=g9 oR 66
noncomputable def DN:=g10 oR 865 oR 267 4 453 877
noncomputable def DO:=g11 oR 66 hW 801 458
noncomputable def DQ (P:Params):Obj:=⟨(.type L68),none,(.seq #[.str FF 883,.str oS 884,.str BX 885,.str BY 886,.str BW 887,.str FG 888,.str FH 889,.str BU 890,.str FI 891,.str FJ 892,.str FK 893,.str FL 894,.str FM 895,.str vR 896] 0),#[]⟩
noncomputable def DV:=g9 rm 67
noncomputable def DX:=g10 rm 880 rm 280 1 460 897
noncomputable def DY:=g11 rm 67 hW 801 465
noncomputable def t2:Params→BT:=(f boot_o_0 (f boot_o_1 (f Ce (f boot_o_7 (f o15 (f o11 (f o63 (f o11 (f xR z z) (f CG z z)) (f o11 (f o11 z z) (f o12 z z))) (f o11 (f wE (f o11 z z) (f De z z)) (f o11 (f Ck z z) z))) (f o11 (f o11 (f o11 (f o12 z z) (f CS z z)) (f xi (f yN z z) (f o11 z z))) (f tI (f o11 (f yu z z) (f Do z z)) (f o11 (f o12 z z) z)))) (f o23 (f o39 (f o11 (f wf (f o11 z z) (f CM z z)) (f o12 (f o12 z z) (f DJ z z))) (f o11 (f o11 (f yo z z) (f o11 z z)) (f xD (f o11 z z) z))) (f o11 (f o87 (f o11 (f ye z z) (f o12 z z)) (f o11 (f o11 z z) z)) (f o11 (f wT (f yA z z) (f o11 z z)) (f xM (f CA z z) z))))) (f o11 (f o12 (f o11 (f o11 (f o11 (f o11 z z) (f CJ z z)) (f wZ (f yG z z) (f DE z z))) (f o99 (f o11 (f o11 z z) (f Dh z z)) (f o11 (f o12 z z) z))) (f o51 (f o11 (f ww (f yc z z) (f CW z z)) (f xn (f yQ z z) z)) (f o11 (f o11 (f yx z z) (f o12 z z)) (f xK (f Cy z z) z)))) (f o27 (f o11 (f o75 (f o11 (f xX z z) (f o11 z z)) (f xg (f yL z z) (f DO z z))) (f o11 (f wL (f o12 z z) (f o11 z z)) (f o11 (f Cs z z) z))) (f o11 (f o11 (f o11 (f yh z z) (f Dc z z)) (f xw (f o11 z z) z)) (f tP (f o11 (f o11 z z) (f Dw z z)) (f xO (f o12 z z) z)))))) (f boot_o_5 (f boot_o_9 (f o17 (f o33 (f o16 (f vY (f o12 z z) (f o11 z z)) (f wY (f yF z z) (f o11 z z))) (f o97 (f o16 (f yk z z) (f Df z z)) (f xz (f Cn z z) z))) (f o49 (f o81 (f wr (f o11 z z) (f CU z z)) (f xj (f yO z z) (f DX z z))) (f o16 (f wN (f o11 z z) (f Dq z z)) (f xI (f o11 z z) z)))) (f o25 (f o16 (f o73 (f o16 (f xW z z) (f o12 z z)) (f o11 (f o11 z z) (f DM z z))) (f tq (f wJ (f yq z z) (f Dk z z)) (f o12 (f Cr z z) z))) (f o57 (f o16 (f wz (f yf z z) (f o11 z z)) (f xt (f Ch z z) z)) (f tN (f o12 (f o12 z z) (f Dv z z)) (f o11 (f CC z z) z))))) (f o13 (f o21 (f o37 (f o69 (f wd (f xU z z) (f CK z z)) (f xb (f yI z z) (f o11 z z))) (f o16 (f wG (f yn z z) (f o12 z z)) (f xB (f Cp z z) z))) (f o16 (f o85 (f o16 (f o11 z z) (f CZ z z)) (f o12 (f o12 z z) z)) (f tK (f wQ (f yy z z) (f Ds z z)) (f o12 (f o11 z z) z)))) (f o16 (f o45 (f o16 (f wj (f xZ z z) (f CP z z)) (f o11 (f o11 z z) (f o12 z z))) (f tG (f o16 (f o11 z z) (f Dm z z)) (f xG (f Cu z z) z))) (f o61 (f o93 (f wC (f o12 z z) (f o11 z z)) (f o12 (f Cj z z) z)) (f o16 (f wW (f yD z z) (f Dy z z)) (f xP (f o11 z z) z))))))) (f boot_o_2 (f boot_o_4 (f boot_o_8 (f o16 (f o12 (f o28 (f o12 (f o11 z z) (f CI z z)) (f o12 (f o12 z z) (f Dz z z))) (f o96 (f o28 (f yj z z) (f o11 z z)) (f xy (f Cm z z) z))) (f o48 (f o12 (f wm (f ya z z) (f CT z z)) (f o11 (f o11 z z) (f DV z z))) (f o28 (f o12 (f yw z z) (f Dp z z)) (f o12 (f Cv z z) z)))) (f rB (f o28 (f o72 (f o28 (f o12 z z) (f o11 z z)) (f xc (f yJ z z) (f o11 z z))) (f o12 (f wI (f yp z z) (f Dj z z)) (f o11 (f o12 z z) z))) (f o12 (f o28 (f o12 (f o11 z z) (f Da z z)) (f xq (f Cg z z) z)) (f tM (f o11 (f o11 z z) (f o12 z z)) (f xN (f CB z z) z))))) (f ug (f o20 (f o36 (f o12 (f wc (f xT z z) (f o11 z z)) (f xa (f yH z z) (f DH z z))) (f o28 (f o12 (f o12 z z) (f o11 z z)) (f o12 (f Co z z) z))) (f o28 (f o84 (f o28 (f yd z z) (f CY z z)) (f o11 (f o11 z z) z)) (f o12 (f wP (f o11 z z) (f Dr z z)) (f o11 (f Cz z z) z)))) (f o28 (f o12 (f o28 (f o12 (f xY z z) (f CO z z)) (f xh (f yM z z) (f o11 z z))) (f tE (f o28 (f yr z z) (f o12 z z)) (f xF (f Ct z z) z))) (f o60 (f o12 (f wB (f o11 z z) (f Dd z z)) (f o11 (f o16 z z) z)) (f o28 (f wV (f yC z z) (f Dx z z)) (f o11 (f CD z z) z)))))) (f boot_o_6 (f boot_o_10 (f o11 (f o34 (f o66 (f vZ (f xS z z) (f o12 z z)) (f o11 (f o11 z z) (f DA z z))) (f o98 (f wF (f ym z z) (f Dg z z)) (f xA (f o11 z z) z))) (f o50 (f o82 (f wu (f yb z z) (f CV z z)) (f xk (f yP z z) (f DY z z))) (f tJ (f wO (f o12 z z) (f o11 z z)) (f xJ (f Cw z z) z)))) (f o26 (f o42 (f o74 (f wg (f o11 z z) (f CN z z)) (f xf (f yK z z) (f DN z z))) (f tD (f wK (f o11 z z) (f Dl z z)) (f xE (f o11 z z) z))) (f o58 (f o90 (f wA (f yg z z) (f Db z z)) (f xu (f Ci z z) z)) (f tO (f wU (f yB z z) (f o11 z z)) (f o12 (f o11 z z) z))))) (f o14 (f o11 (f o38 (f o70 (f we (f xV z z) (f CL z z)) (f o11 (f o11 z z) (f o12 z z))) (f tm (f wH (f o11 z z) (f Di z z)) (f xC (f Cq z z) z))) (f o54 (f o86 (f wx (f o12 z z) (f o11 z z)) (f xo (f Cf z z) z)) (f tL (f wR (f yz z z) (f Du z z)) (f xL (f o12 z z) z)))) (f o30 (f o46 (f o78 (f wk (f o11 z z) (f CQ z z)) (f o12 (f o12 z z) (f DQ z z))) (f tH (f wM (f yt z z) (f o11 z z)) (f xH (f o11 z z) z))) (f o62 (f o94 (f wD (f yi z z) (f o12 z z)) (f xx (f o11 z z) z)) (f vX (f wX (f yE z z) (f o11 z z)) (f xQ (f CF z z) z))))))))
noncomputable abbrev s2 (w:World) (os:OsState):SharedT:=⟨t2 w.params,467,{ },(Array.mk []),⟨0,0,0,0⟩,900,os⟩
noncomputable abbrev p2:Pos:=⟨280,0,309,80⟩
noncomputable abbrev st2:List Stmt:=(pt.main.body.drop 56).take 12
theorem q2 (w:World):(fun os=>segRunT treeTable pt w m0 an 1 742 (s1 w os) ⟨(execs st2 en).wrap doneF deadEnd id id,cE,p1,B⟩)=fun os=>some (.next,s2 w os,cE,p2):=by
 rw [PySem.W.Fast.te10110043849684766642,PySem.W.Fast.te14364793385576792824,PySem.W.Fast.te12563942051412417395]; kernel_rfl
noncomputable def hF (P:Params):Heap:=⟨⟨[boot_o_0 P,boot_o_1 P,boot_o_2 P,Ce P,boot_o_4 P,boot_o_5 P,boot_o_6 P,boot_o_7 P,boot_o_8 P,boot_o_9 P,boot_o_10 P,o11 P,ug P,o13 P,o14 P,o15 P,o16 P,o17 P,o11 P,o12 P,o20 P,o21 P,o11 P,o23 P,rB P,o25 P,o26 P,o27 P,o28 P,o16 P,o30 P,o11 P,o12 P,o33 P,o34 P,o11 P,o36 P,o37 P,o38 P,o39 P,o28 P,o16 P,o42 P,o11 P,o12 P,o45 P,o46 P,o11 P,o48 P,o49 P,o50 P,o51 P,o28 P,o16 P,o54 P,o11 P,o12 P,o57 P,o58 P,o11 P,o60 P,o61 P,o62 P,o63 P,o28 P,o16 P,o66 P,o11 P,o12 P,o69 P,o70 P,o11 P,o72 P,o73 P,o74 P,o75 P,o28 P,o16 P,o78 P,o11 P,o12 P,o81 P,o82 P,o11 P,o84 P,o85 P,o86 P,o87 P,o28 P,o16 P,o90 P,o11 P,o12 P,o93 P,o94 P,o11 P,o96 P,o97 P,o98 P,o99 P,o28 P,o16 P,tm P,o11 P,o12 P,tq P,tD P,o11 P,tE P,tG P,tH P,tI P,o28 P,o16 P,tJ P,o11 P,o12 P,tK P,tL P,o11 P,tM P,tN P,tO P,tP P,o28 P,o16 P,vX P,o11 P,o12 P,vY P,vZ P,o11 P,wc P,wd P,we P,wf P,o28 P,o16 P,wg P,o11 P,o12 P,wj P,wk P,o11 P,wm P,wr P,wu P,ww P,o28 P,o16 P,wx P,o11 P,o12 P,wz P,wA P,o11 P,wB P,wC P,wD P,wE P,o28 P,o16 P,wF P,o11 P,o12 P,wG P,wH P,o11 P,wI P,wJ P,wK P,wL P,o28 P,o16 P,wM P,o11 P,o12 P,wN P,wO P,o11 P,wP P,wQ P,wR P,wT P,o11 P,o12 P,wU P,o11 P,wV P,wW P,wX P,o11 P,o12 P,wY P,o11 P,wZ P,xa P,xb P,o11 P,o12 P,xc P,o11 P,xf P,xg P,xh P,o11 P,o12 P,xi P,o11 P,xj P,xk P,xn P,o11 P,o12 P,xo P,o11 P,xq P,xt P,xu P,xw P,o11 P,o12 P,xx P,o11 P,xy P,xz P,xA P,o11 P,o12 P,xB P,xC P,xD P,o11 P,o12 P,xE P,o11 P,xF P,xG P,xH P,o11 P,o12 P,xI P,xJ P,xK P,o11 P,o12 P,xL P,xM P,xN P,o11 P,o12 P,xO P,o11 P,xP P,xQ P,xR P,o11 P,o12 P,xS P,o11 P,xT P,xU P,xV P,o11 P,o12 P,xW P,o11 P,xX P,xY P,xZ P,o11 P,o12 P,ya P,o11 P,yb P,yc P,yd P,o11 P,o12 P,ye P,o11 P,yf P,yg P,yh P,o11 P,o12 P,yi P,o11 P,yj P,yk P,ym P,o11 P,o12 P,yn P,o11 P,yo P,yp P,yq P,o11 P,o12 P,yr P,o11 P,yt P,yu P,yw P,o11 P,o12 P,yx P,o11 P,yy P,yz P,yA P,o11 P,o12 P,yB P,o11 P,yC P,yD P,yE P,o11 P,o12 P,yF P,o11 P,yG P,yH P,yI P,o11 P,o12 P,yJ P,o11 P,yK P,yL P,yM P,o11 P,o12 P,yN P,o11 P,yO P,yP P,yQ P,o11 P,o12 P,Cf P,o11 P,Cg P,Ch P,Ci P,o11 P,o16 P,Cj P,o11 P,Ck P,Cm P,Cn P,o11 P,o12 P,Co P,Cp P,Cq P,o11 P,o12 P,Cr P,o11 P,Cs P,Ct P,Cu P,o11 P,o12 P,Cv P,o11 P,Cw P,Cy P,Cz P,o11 P,o12 P,CA P,CB P,CC P,o11 P,o12 P,CD P,o11 P,CF P,CG P,CI P,o11 P,o12 P,CJ P,o11 P,CK P,CL P,CM P,o11 P,o12 P,CN P,o11 P,CO P,CP P,CQ P,CS P,CT P,CU P,CV P,CW P,CY P,CZ P,o11 P,o12 P,Da P,o11 P,Db P,Dc P,Dd P,o11 P,o12 P,De P,o11 P,Df P,Dg P,Dh P,o11 P,o12 P,Di P,o11 P,Dj P,Dk P,Dl P,o11 P,o12 P,Dm P,o11 P,Do P,Dp P,Dq P,o11 P,o12 P,Dr P,Ds P,Du P,o11 P,o12 P,Dv P,o11 P,Dw P,Dx P,Dy P,o11 P,o12 P,Dz P,o11 P,DA P,DE P,DH P,o11 P,o12 P,DJ P,o11 P,DM P,DN P,DO P,o11 P,o12 P,DQ P,o11 P,DV P,DX P,DY P]⟩,{ }⟩
noncomputable abbrev sF (w:World) (os:OsState):Shared:=⟨hF w.params,(Array.mk []),⟨0,0,0,0⟩,900,os⟩
theorem fin (w:World):(fun os=>topRun treeTable pt w m0 an 2 (s2 w os).abs ⟨doneF .next,cE,p2,B⟩)=fun os=>some (sF w os):=by
 rw [PySem.W.Fast.te14082659384304107361,PySem.W.Fast.te14364793385576792824]; kernel_rfl
theorem tQ:behindTheImports pt=st0 ++ (st1 ++ (st2 ++ ([]))):=by kernel_rfl
noncomputable abbrev MM:Nat:=12 + (1 + (1900 + (2000 + (742 + 2))))
theorem yR (w:World) (os:OsState):topRun treeTable pt w m0 an MM (sZ w os) (topStub pt)=some (sF w os) :=
 go_top (congrFun (pre w) os) (piece_block (congrFun (blk w) os) (tQ ▸ (piece_app (l:=st0) (segRun_of (congrFun (q0 w) os)) (piece_app (l:=st1) (segRun_of (congrFun (q1 w) os)) (piece_app (l:=st2) (segRun_of (congrFun (q2 w) os)) (piece_nil (congrFun (fin w) os)))))))
noncomputable def loose:List Str:=[fq,lm,lp,lq,lr,ls,lw,lC,lD,oy,oz,oA,oB,oC,lF,lG,lH,lI,lJ,vi,vk,vn,lK,lL,lM,lN,lO,vo,vp,vq,vt,vw,lP,lQ,lR,lS,lT,lU,vy,lV,lW,lX,vz,lY,lZ,ma,vA,vB,md,oI,jT,oJ,oK,oM,oN,oO,oP,oQ,oR]
noncomputable abbrev NN:Nat:=9404
noncomputable abbrev q:Program:=view pt [67]
noncomputable abbrev Xt:Shared→Bool:=fun s=>xlAt q [] s && recOk [] s
theorem size (w:World):((boot_heap w.params).isNs mainGlobals && (Array.mk []:Array GenState).size == 0,(boot_heap w.params).objs.size,(boot_heap w.params).nsMap mainGlobals "__annotations__")=(true,m0,an):=by
 rw [PySem.W.Fast.te8920871248978507458]; kernel_rfl
theorem DZ (w:World):(fun os=>((staticsOk (importedModules pt.main.body) (boot_heap w.params) (hF w.params) && namesBound pt (hF w.params) && gensDone (sF w os) && laidKept (boot_heap w.params) (hF w.params)),openSeen q loose (importedModules pt.main.body) Xt true (sF w os),HK.obs (sF w os)))=fun _=>(true,openGood q loose,HK.val w):=by
 rw [PySem.W.Fast.te4187177175401517315,PySem.W.Fast.te5923862056798008813]; kernel_rfl
theorem left:LeftO pt q loose Xt HK.obs HK.val NN true:=LeftO.of_pieces (boot_open (by kernel_rfl) (by decide) (fun s=>rfl)) size yR (by decide) DZ
end Hd
open PySem PySem.W PyProof.Rows
set_option maxRecDepth 100000 in
set_option maxHeartbeats 0 in
theorem PySem.Challenge.cw_platecuts_k55_refused_turns_holds : PySem.Challenge.rw_platecuts_k55_refused_turns.Holds := by
 w_on; o_law
 refine holds_open (q:=view PySem.Challenge.pw_platecuts_k55_refused_turns [67]) (loose:=Hd.loose) (Xt:=fun s=>xlAt (view PySem.Challenge.pw_platecuts_k55_refused_turns [67]) [] s && recOk [] s) (XP:=XL (view PySem.Challenge.pw_platecuts_k55_refused_turns [67]) []) (Yf:=Hook.obs Hd.HK) (Ya:=Hook.val Hd.HK) (YP:=InK Pc.kK) (N:=Hd.NN) ?hl (Hook.of Hd.HK) (Hook.keeps Hd.HK) (fun s e=>xl_of s (Bool.and_eq_true_iff.mp e).1) XL.keeps (by rfl) (by rfl) (by rfl) (fun s e=>recFacts_of (Bool.and_eq_true_iff.mp e).2) (by rfl) (by first | assumption | decide +kernel) (by decide +kernel) ⟨rfl,rfl,rfl,rfl,rfl,by decide +kernel⟩ ?hw ?hc
 case hl=>exact Hd.pt_eq ▸ Hd.left
 case hw=>w_witness2
 k_fill
 refine Pc.walk (l:=PySem.Challenge.rw_platecuts_k55_refused_turns) rfl rfl (fun w h Y=>Y) ?F
 case F =>
  intro w mg fa h KX G hmg
  refine' Pc.all_mk KX G hmg ?d0 ?d1 ?d2 ?d3 ?d4 ?d5 ?d6 ?d7 ?d8 ?d9 ?d10 ?d11 ?d12 ?d13 ?d14 ?d15 ?d16 ?d17 ?d18 ?d19 ?d20 ?d21 ?d22 ?d23 ?d24 ?d25 ?d26 ?d27 ?d28 ?d29 ?d30 ?d31 ?d32 ?aC ?dm0 ?dm1 ?dm2 ?dm3 ?dm4 ?dm5 ?pg ?hd ?po ?sa ?mk ?kc ?n0 ?n1 ?eWAYS ?ePlateError ?eNoPlate ?eTooLarge ?eNoNumber ?eNoTree ?eNoBlade ?eNoKind ?eNoKinds ?eNoLaying ?eNoLying ?eNoTable ?eNoTelling ?eNoText ?eNoWeights ?lWAYS ?cPlateError ?cNoPlate ?cTooLarge ?cNoNumber ?cNoTree ?cNoBlade ?cNoKind ?cNoKinds ?cNoLaying ?cNoLying ?cNoTable ?cNoTelling ?cNoText ?cNoWeights ?sNoPlatePlateError ?sNoPlateNoPlate ?sNoPlateTooLarge ?sNoPlateNoNumber ?sNoPlateNoTree ?sNoPlateNoBlade ?sNoPlateNoKind ?sNoPlateNoKinds ?sNoPlateNoLaying ?sNoPlateNoLying ?sNoPlateNoTable ?sNoPlateNoTelling ?sNoPlateNoText ?sNoPlateNoWeights ?vNoPlate ?kaNoPlate ?kbNoPlate ?kcNoPlate ?kdNoPlate ?keNoPlate ?sTooLargePlateError ?sTooLargeNoPlate ?sTooLargeTooLarge ?sTooLargeNoNumber ?sTooLargeNoTree ?sTooLargeNoBlade ?sTooLargeNoKind ?sTooLargeNoKinds ?sTooLargeNoLaying ?sTooLargeNoLying ?sTooLargeNoTable ?sTooLargeNoTelling ?sTooLargeNoText ?sTooLargeNoWeights ?vTooLarge ?kaTooLarge ?kbTooLarge ?kcTooLarge ?kdTooLarge ?keTooLarge ?sNoNumberPlateError ?sNoNumberNoPlate ?sNoNumberTooLarge ?sNoNumberNoNumber ?sNoNumberNoTree ?sNoNumberNoBlade ?sNoNumberNoKind ?sNoNumberNoKinds ?sNoNumberNoLaying ?sNoNumberNoLying ?sNoNumberNoTable ?sNoNumberNoTelling ?sNoNumberNoText ?sNoNumberNoWeights ?vNoNumber ?kaNoNumber ?kbNoNumber ?kcNoNumber ?kdNoNumber ?keNoNumber ?sNoTreePlateError ?sNoTreeNoPlate ?sNoTreeTooLarge ?sNoTreeNoNumber ?sNoTreeNoTree ?sNoTreeNoBlade ?sNoTreeNoKind ?sNoTreeNoKinds ?sNoTreeNoLaying ?sNoTreeNoLying ?sNoTreeNoTable ?sNoTreeNoTelling ?sNoTreeNoText ?sNoTreeNoWeights ?vNoTree ?kaNoTree ?kbNoTree ?kcNoTree ?kdNoTree ?keNoTree ?bPlateError ?z0 ?z1 ?z2 ?z3 ?z4 ?z5 ?z6 ?z7 ?z8 ?z9 ?z10 ?z11 ?z12 ?z13 ?z14 ?z15 ?z16 ?z17 ?z18 ?uc0 ?uc1 ?uc2 ?uc3 ?uc4 ?uc5 ?uc6 ?uc7 ?uc8 ?uc9 ?uc10
  (case d0 | d1 | d2 | d3 | d4 | d5 | d6 | d7 | d8 | d9 | d10 | d11 | d12 | d13 | d14 | d15 | d16 | d17 | d18 | d19 | d20 | d21 | d22 | d23 | d24 | d25 | d26 | d27 | d28 | d29 | d30 | d31 | d32=>refine' Pc.diM ?a ?l ?c ?k; (case a=>k_is); (case l=>k_is); (case c=>k_is); (case k=>k_is))
  (case aC=>k_is)
  (case dm0 | dm1 | dm2 | dm3 | dm4 | dm5=>refine' Pc.miM ?a ?i ?l ?c ?k; (case a=>k_is); (case i=>k_is); (case l=>k_is); (case c=>k_is); (case k=>k_is))
  (case pg | hd | po | sa | mk | kc | n0 | n1 | eWAYS | ePlateError | eNoPlate | eTooLarge | eNoNumber | eNoTree | eNoBlade | eNoKind | eNoKinds | eNoLaying | eNoLying | eNoTable | eNoTelling | eNoText | eNoWeights=>k_is)
  (case lWAYS=>exact ⟨_,_,_,rfl,rfl,rfl,by decide,.cons ⟨_,rfl⟩ (.cons ⟨_,rfl⟩ .nil)⟩)
  (case cPlateError | cNoPlate | cTooLarge | cNoNumber | cNoTree | cNoBlade | cNoKind | cNoKinds | cNoLaying | cNoLying | cNoTable | cNoTelling | cNoText | cNoWeights=>k_exc)
  (case sNoPlatePlateError | sNoPlateNoPlate | sNoPlateTooLarge | sNoPlateNoNumber | sNoPlateNoTree | sNoPlateNoBlade | sNoPlateNoKind | sNoPlateNoKinds | sNoPlateNoLaying | sNoPlateNoLying | sNoPlateNoTable | sNoPlateNoTelling | sNoPlateNoText | sNoPlateNoWeights | vNoPlate | kaNoPlate | kbNoPlate | kcNoPlate | kdNoPlate | keNoPlate | sTooLargePlateError | sTooLargeNoPlate | sTooLargeTooLarge | sTooLargeNoNumber | sTooLargeNoTree | sTooLargeNoBlade | sTooLargeNoKind | sTooLargeNoKinds | sTooLargeNoLaying | sTooLargeNoLying | sTooLargeNoTable | sTooLargeNoTelling | sTooLargeNoText | sTooLargeNoWeights | vTooLarge | kaTooLarge | kbTooLarge | kcTooLarge | kdTooLarge | keTooLarge | sNoNumberPlateError | sNoNumberNoPlate | sNoNumberTooLarge | sNoNumberNoNumber | sNoNumberNoTree | sNoNumberNoBlade | sNoNumberNoKind | sNoNumberNoKinds | sNoNumberNoLaying | sNoNumberNoLying | sNoNumberNoTable | sNoNumberNoTelling | sNoNumberNoText | sNoNumberNoWeights | vNoNumber | kaNoNumber | kbNoNumber | kcNoNumber | kdNoNumber | keNoNumber | sNoTreePlateError | sNoTreeNoPlate | sNoTreeTooLarge | sNoTreeNoNumber | sNoTreeNoTree | sNoTreeNoBlade | sNoTreeNoKind | sNoTreeNoKinds | sNoTreeNoLaying | sNoTreeNoLying | sNoTreeNoTable | sNoTreeNoTelling | sNoTreeNoText | sNoTreeNoWeights | vNoTree | kaNoTree | kbNoTree | kcNoTree | kdNoTree | keNoTree | bPlateError | z0 | z1 | z2 | z3 | z4 | z5 | z6 | z7 | z8 | z9 | z10 | z11 | z12 | z13 | z14 | z15 | z16 | z17 | z18 | uc0 | uc1 | uc2 | uc3 | uc4 | uc5 | uc6 | uc7 | uc8 | uc9 | uc10=>k_is)