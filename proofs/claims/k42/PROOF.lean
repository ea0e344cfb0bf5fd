import PyProof.Rows.All
import Wide.All
import OpenK.AllK
import Wide.FinOn
import Lean
import PyProof.EqAt
import PyProof.EqKinds
import PyProof.TupleCall
import PyProof.Draws
import PyProof.WalksMore
import PyProof.EnumMake
import PyProof.ReprRoads
import PyProof.Rows.SortWalk
import PyProof.Rows.SumAny
import PyProof.FitsBits
import KE.KSortTup
import PyProof.ListRange
import PyProof.Rows.SeqMore
import PyProof.LongRange
import PySem.Challenge.RW_platecuts_k42_whole_tree_worth_so
set_option Elab.async false
set_option linter.all false
set_option maxRecDepth 100000
namespace L2
open PySem PySem.Spec PyProof.Rows
abbrev Key:=Sum Int Str
def im:Key→Value→Bool
 | .inl k,v=>Value.isInt k v
 | .inr x,v=>Value.isStrOf x v
def DN (w:World):Key→Int
 | .inl k=>hashInt k
 | .inr x=>hashStr w x
theorem bd:∀ {k:Key} {v:Value},im k v=true→(∃i t,k=Sum.inl i∧v=Value.int i t)∨(∃x t,k=Sum.inr x∧v=Value.str x t)
 | .inl i,v,h=>by
  obtain ⟨t,e⟩:=Value.isInt_shape (k:=i) (v:=v) h
  exact .inl ⟨i,t,rfl,e⟩
 | .inr x,v,h=>by
  obtain ⟨t,e⟩:=Value.isStrOf_shape (x:=x) (v:=v) h
  exact .inr ⟨x,t,rfl,e⟩
theorem nw (i:Int) (t:Tok):im (.inl i) (.int i t)=true:=by simp [im,Value.isInt]
theorem ny (x:Str) (t:Tok):im (.inr x) (.str x t)=true:=by simp [im,Value.isStrOf]
theorem uA (a b:Int):decide ((Sum.inl a:Key)=Sum.inl b)=(a == b):=by
 by_cases e:a=b
 ·subst e; simp
 ·have h:¬ (Sum.inl a:Key)=Sum.inl b:=fun q=>e (Sum.inl.inj q)
  rw [decide_eq_false h]
  exact (beq_eq_false_iff_ne.mpr e).symm
theorem uB (a b:Str):decide ((Sum.inr a:Key)=Sum.inr b)=decide (a=b):=by
 by_cases e:a=b
 ·subst e; simp
 ·have h:¬ (Sum.inr a:Key)=Sum.inr b:=fun q=>e (Sum.inr.inj q)
  rw [decide_eq_false h,decide_eq_false e]
theorem uC (a:Int) (b:Str):decide ((Sum.inl a:Key)=Sum.inr b)=false:=decide_eq_false (fun q=>nomatch q)
theorem uD (a:Str) (b:Int):decide ((Sum.inr a:Key)=Sum.inl b)=false:=decide_eq_false (fun q=>nomatch q)
def br (prog:Program) (w:World):PySem.KeyKind prog w Key where
 is:=im
 hash:=DN w
 inj:=fun v a b ha hb=>by
  rcases bd ha with ⟨i,t,rfl,rfl⟩ | ⟨x,t,rfl,rfl⟩
  ·rcases bd hb with ⟨j,u,rfl,e⟩ | ⟨y,u,rfl,e⟩
   ·injection e with e1 _; rw [e1]
   ·exact nomatch e
  ·rcases bd hb with ⟨j,u,rfl,e⟩ | ⟨y,u,rfl,e⟩
   ·exact nomatch e
   ·injection e with e1 _; rw [e1]
 byValue:=fun k v h=>by
  rcases bd h with ⟨i,t,rfl,rfl⟩ | ⟨x,t,rfl,rfl⟩ <;> rfl
 pyHash:=fun hv h=>by
  rcases bd hv with ⟨i,t,rfl,rfl⟩ | ⟨x,t,rfl,rfl⟩
  ·exact wpAny_pyHash_int h
  ·exact wpAny_pyHash_str h
 eqBool:=fun hu hv h=>by
  rcases bd hu with ⟨i,t,rfl,rfl⟩ | ⟨x,t,rfl,rfl⟩
  ·rcases bd hv with ⟨j,u,rfl,rfl⟩ | ⟨y,u,rfl,rfl⟩
   ·rw [uA] at h; exact wpAny_eqBool_int h
   ·rw [uC] at h; exact SeqAt.EqAt.int_str i t y u _ _ _ _ h
  ·rcases bd hv with ⟨j,u,rfl,rfl⟩ | ⟨y,u,rfl,rfl⟩
   ·rw [uD] at h; exact SeqAt.EqAt.str_int x t j u _ _ _ _ h
   ·rw [uB] at h; exact wpAny_eqBool_str h
 «strs» := fun k x t v h=>by
  rcases bd h with ⟨i,u,rfl,e⟩ | ⟨y,u,rfl,e⟩
  ·exact nomatch e
  ·injection e with e1 _
   subst e1
   cases v <;> rfl
theorem jx (prog:Program) (w:World) (i:Int) (t:Tok):(br prog w).is (.inl i) (.int i t)=true:=nw i t
theorem jy (prog:Program) (w:World) (x:Str) (t:Tok):(br prog w).is (.inr x) (.str x t)=true:=ny x t
end L2
namespace L2
open PySem PySem.Spec PyProof.Rows
inductive V where
 | non | bl (b:Bool) | int (i:Int) | str (x:Str) | byt (b:Array UInt8) | flt (b:UInt64) | ref (a:Addr) | ty (n:String)
 deriving DecidableEq
def RelV:V→Value→Prop
 | .non,u=>u=Value.none
 | .bl b,u=>u=Value.bool b
 | .int i,u=>∃t,u=Value.int i t
 | .str x,u=>∃t,u=Value.str x t
 | .byt b,u=>∃t,u=Value.bytes b t
 | .flt b,u=>∃t,u=Value.float b t
 | .ref a,u=>u=Value.ref a
 | .ty n,u=>u=Value.type n
abbrev Vals:List V→List Value→Prop:=Paired RelV
theorem Vals.length {xs:List V} {us:List Value} (r:Vals xs us):xs.length=us.length:=Paired.length r
theorem Vals.get:∀ {xs:List V} {us:List Value} {i:Nat} {x:V},Vals xs us→xs[i]? = some x→∃u,us[i]? = some u∧RelV x u
 | _,_,_,_,.nil,e=>by simp at e
 | _,_,0,_,.cons r _,e=>by simp at e; subst e; exact ⟨_,rfl,r⟩
 | _,_,i + 1,x,.cons _ t,e=>by
  obtain ⟨u,h1,h2⟩:=Vals.get (i:=i) (x:=x) t (by simpa using e)
  exact ⟨u,by simpa using h1,h2⟩
theorem Vals.set {x:V} {u:Value} (r:RelV x u):∀ {xs:List V} {us:List Value} (i:Nat),Vals xs us→Vals (xs.set i x) (us.set i u)
 | _,_,_,.nil=>.nil
 | _,_,0,.cons _ t=>.cons r t
 | _,_,i + 1,.cons q t=>.cons q (Vals.set r i t)
theorem Vals.append:∀ {xs ys:List V} {us ws:List Value},Vals xs us→Vals ys ws→Vals (xs ++ ys) (us ++ ws)
 | _,_,_,_,.nil,s=>s
 | _,_,_,_,.cons r t,s=>.cons r (Vals.append t s)
theorem Vals.take:∀ {xs:List V} {us:List Value} (n:Nat),Vals xs us→Vals (xs.take n) (us.take n)
 | _,_,0,_=>.nil
 | _,_,_ + 1,.nil=>.nil
 | _,_,n + 1,.cons r t=>.cons r (Vals.take n t)
theorem Vals.drop:∀ {xs:List V} {us:List Value} (n:Nat),Vals xs us→Vals (xs.drop n) (us.drop n)
 | _,_,0,r=>r
 | _,_,_ + 1,.nil=>.nil
 | _,_,n + 1,.cons _ t=>Vals.drop n t
def RelO:Option V→Option Value→Prop
 | some v,some u=>RelV v u
 | none,none=>True
 | _,_=>False
def KV {κ:Type}:List (κ×V)→List (κ×Value)→Prop:=Paired fun (p:κ×V) (q:κ×Value)=>p.1=q.1∧RelV p.2 q.2
def kV:Key→V
 | .inl i=>.int i
 | .inr x=>.str x
inductive HO where
 | lst (xs:List V)
 | tup (xs:List V)
 | dK (kvs:List (Key×V)) | dT (kvs:List (List Key×V))
 | set (S:Int→Bool) (n:Nat)
 | ins (C dx:Addr) (fs:List (Str×V))
 | own (x:Addr)
 | xd (fs:List (Str×V))
 | met (f x:Addr)
 | rng (lo hi:Int)
 | frz (o:Obj) (u:HO)
 | tbl (ps:Array Value)
 | ext (φ:Heap→Prop)
abbrev Hp:=Addr→Option HO
def upd (H:Hp) (a:Addr) (o:HO):Hp:=fun b=>if b=a then some o else H b
theorem af {H:Hp} {a:Addr} {o:HO}:upd H a o a=some o:=by unfold upd; rw [if_pos rfl]
theorem aj {H:Hp} {a b:Addr} {o:HO} (h:b≠a):upd H a o b=H b:=by unfold upd; rw [if_neg h]
theorem wX {H:Hp} {a b:Addr} {o u:HO} (h:H a=some o) (h':H b=some u) (d:o≠u):a≠b:=by
 intro e; subst e; rw [h] at h'; exact d (Option.some.inj h')
theorem am {H:Hp} {a b:Addr} {o:HO} (h:H a=some o) (h':H b=none):a≠b:=by
 intro e; subst e; rw [h] at h'; cases h'
section
variable (P:Program) (w:World)
def ObjOk (H:Hp) (h:Heap) (a:Addr):HO→Prop
 | .lst xs=>xs.length≤sizeLine∧∃ (its:List Value) (n:Nat),Vals xs its∧h.get? a=some { cls:=.type "list",data:=.seq its.toArray n }
 | .tup xs=>xs.length≤sizeLine∧∃its:List Value,Vals xs its∧IsTup h a its.toArray
 | .dK kvs=>kvs.length≤sizeLine∧(a == sysModules)=false∧∃vs,KV kvs vs∧h.DictOf (br P w) a vs
 | .dT kvs=>kvs.length≤sizeLine∧(a == sysModules)=false∧∃xs:List (List Key×Addr×Value),
   Paired (fun (p:List Key×V) (q:List Key×Addr×Value)=>p.1=q.1∧H q.2.1=some (.tup (p.1.map kV))∧RelV p.2 q.2.2) kvs xs ∧
   ∃o es ep,h.get? a=some o∧o.ExactDict∧o.data=.dict es ep∧es.toList=xs.map (entryOfKey (tupleKind (br P w)))∧(xs.map (·.1)).Nodup
 | .set S n=>h.SetOf (intKind P w) a S n
 | .ins C dx fs=>H dx=some (.own a)∧fs.length≤1000∧dx≠a∧h.get? a=some (PySem.W.instObj C dx) ∧
   ∃mA,h.Ns1 dx mA∧(∀f,RelO (fs.lookup f) (mA f))∧PySem.Within mA (fs.map (·.1))
 | .own _=>∃o,h.get? a=some o
 | .xd fs=>∃mA,h.Ns1 a mA∧∀f,RelO (fs.lookup f) (mA f)
 | .rng lo hi=>∃t u v,h.get? a=some { cls:=.type "range",data:=.fields #[.int lo t,.int hi u,.int 1 v] }
 | .frz o u=>h.get? a=some o∧ObjOk H h a u
 | .tbl ps=>h.get? a=some { cls:=.none,data:=.fields ps }
 | .met f x=>h.get? a=some (PySem.W.methodObj (.ref f) (.ref x))
 | .ext φ=>φ h∧(∃o,h.get? a=some o)∧∀h1 h2:Heap,φ h1→(∀o,h1.get? a=some o→h2.get? a=some o)→φ h2
def HOk (H:Hp) (h:Heap):Prop:=∀a o,H a=some o→ObjOk P w H h a o
end
section
variable {P:Program} {w:World} {H H':Hp} {h h':Heap} {a:Addr} {o:HO}
theorem ObjOk.lt (x:ObjOk P w H h a o):a < h.objs.size:=by
 cases o with
 | lst xs=>obtain ⟨_,_,_,_,e⟩:=x; exact Heap.lt_size e
 | tup xs=>obtain ⟨_,_,_,p⟩:=x; exact p.lt
 | dK kvs=>obtain ⟨_,_,_,_,o,_,_,e,_⟩:=x; exact Heap.lt_size e
 | dT kvs=>obtain ⟨_,_,_,_,o,_,_,e,_⟩:=x; exact Heap.lt_size e
 | set S n=>obtain ⟨o,_,_,_,e,_⟩:=x; exact Heap.lt_size e
 | ins C dx fs=>obtain ⟨_,_,_,e,_⟩:=x; exact Heap.lt_size e
 | own y=>obtain ⟨_,e⟩:=x; exact Heap.lt_size e
 | xd fs=>obtain ⟨_,⟨_,_,_,e,_⟩,_⟩:=x; exact Heap.lt_size e
 | rng lo hi=>obtain ⟨_,_,_,e⟩:=x; exact Heap.lt_size e
 | frz ob u=>obtain ⟨e,_⟩:=x; exact Heap.lt_size e
 | tbl ps=>exact Heap.lt_size (show h.get? a=some _ from x)
 | met f y=>exact Heap.lt_size (show h.get? a=some _ from x)
 | ext φ=>obtain ⟨_,⟨_,e⟩,_⟩:=x; exact Heap.lt_size e
theorem Paired.mapP {α β:Type} {F G:α→β→Prop}:∀ {l₁:List α} {l₂:List β},Paired F l₁ l₂→(∀a b,F a b→G a b)→Paired G l₁ l₂
 | _,_,.nil,_=>.nil
 | _,_,.cons r t,f=>.cons (f _ _ r) (Paired.mapP t f)
theorem ObjOk.stay (x:ObjOk P w H h a o) (k:∀b u,(b=a∨H b=some (.own a))→h.get? b=some u→h'.get? b=some u)
  (ho:∀b,H b=some (.own a)→H' b=some (.own a)) (ht:∀b xs,H b=some (.tup xs)→H' b=some (.tup xs)):ObjOk P w H' h' a o:=by
 induction o with
 | lst xs=>obtain ⟨z,its,n,r,e⟩:=x; exact ⟨z,its,n,r,k _ _ (.inl rfl) e⟩
 | tup xs=>obtain ⟨z,its,r,ob,e,c⟩:=x; exact ⟨z,its,r,ob,k _ _ (.inl rfl) e,c⟩
 | dK kvs=>obtain ⟨z,y,vs,r,ob,es,ep,e,c⟩:=x; exact ⟨z,y,vs,r,ob,es,ep,k _ _ (.inl rfl) e,c⟩
 | dT kvs =>
  obtain ⟨z,y,xs,r,ob,es,ep,e,c⟩:=x
  exact ⟨z,y,xs,Paired.mapP r fun p q z=>⟨z.1,ht _ _ z.2.1,z.2.2⟩,ob,es,ep,k _ _ (.inl rfl) e,c⟩
 | set S n=>obtain ⟨ob,es,ep,t,e,c⟩:=x; exact ⟨ob,es,ep,t,k _ _ (.inl rfl) e,c⟩
 | ins C dx fs =>
  obtain ⟨d,z,ne,e,mA,⟨od,es,ep,e2,c⟩,r⟩:=x
  exact ⟨ho _ d,z,ne,k _ _ (.inl rfl) e,mA,⟨od,es,ep,k _ _ (.inr d) e2,c⟩,r⟩
 | own y=>obtain ⟨ob,e⟩:=x; exact ⟨ob,k _ _ (.inl rfl) e⟩
 | xd fs=>obtain ⟨mA,⟨od,es,ep,e,c⟩,r⟩:=x; exact ⟨mA,⟨od,es,ep,k _ _ (.inl rfl) e,c⟩,r⟩
 | rng lo hi=>obtain ⟨t,u,v,e⟩:=x; exact ⟨t,u,v,k _ _ (.inl rfl) e⟩
 | frz ob u ih=>obtain ⟨e,q⟩:=x; exact ⟨k _ _ (.inl rfl) e,ih q⟩
 | tbl ps =>
  have e:h.get? a=some { cls:=.none,data:=.fields ps }:=x
  show h'.get? a=some { cls:=.none,data:=.fields ps }
  exact k a _ (.inl rfl) e
 | met f y =>
  have e:h.get? a=some (PySem.W.methodObj (.ref f) (.ref y)):=x
  show h'.get? a=some (PySem.W.methodObj (.ref f) (.ref y))
  exact k a _ (.inl rfl) e
 | ext φ=>obtain ⟨p,⟨o,e⟩,st⟩:=x; exact ⟨st _ _ p fun o q=>k _ _ (.inl rfl) q,⟨o,k _ _ (.inl rfl) e⟩,st⟩
theorem HOk.lt (x:HOk P w H h) (e:H a=some o):a < h.objs.size:=(x a o e).lt
theorem HOk.fresh (x:HOk P w H h) (e:h.objs.size≤a):H a=none:=by
 cases q:H a with
 | none=>rfl
 | some u=>exact absurd (Nat.lt_of_lt_of_le (x.lt q) e) (Nat.lt_irrefl _)
theorem HOk.kept (x:HOk P w H h) (k:∀b u,h.get? b=some u→h'.get? b=some u):HOk P w H h':=fun a o e =>
 (x a o e).stay (fun b u _ q=>k b u q) (fun _ q=>q) fun _ _ q=>q
theorem HOk.laid (x:HOk P w H h) (k:∀b u,h.get? b=some u→h'.get? b=some u) (hp:h.objs.size≤a) (new:ObjOk P w (upd H a o) h' a o):HOk P w (upd H a o) h':=fun b u e=>by
 have hn:=x.fresh hp
 by_cases hb:b=a
 ·subst hb; rw [af] at e; cases e; exact new
 ·rw [aj hb] at e
  exact (x b u e).stay (fun c v _ q=>k c v q) (fun c q=>by rw [aj (am q hn)]; exact q) fun c xs q=>by rw [aj (am q hn)]; exact q
end
def Rd (H:Hp) (a:Addr) (u:HO):Prop:=H a=some u∨∃o,H a=some (.frz o u)
theorem Rd.ok {P:Program} {w:World} {H:Hp} {h:Heap} {a:Addr} {u:HO} (r:Rd H a u) (x:HOk P w H h):ObjOk P w H h a u:=by
 rcases r with r | ⟨o,r⟩
 ·exact x a u r
 ·obtain ⟨_,q⟩:=x a _ r
  exact q
def Mut:Option HO→Prop
 | some (.lst _)=>True
 | some (.dK _)=>True
 | some (.dT _)=>True
 | some (.set _ _)=>True
 | some (.ins _ _ _)=>True
 | some (.ext _)=>True
 | _=>False
section
variable {P:Program} {w:World} {H:Hp} {h h':Heap} {x e:Addr} {o':HO}
theorem HOk.write (ok:HOk P w H h) (mu:Mut (H x)) (he:e=x∨H e=some (.own x)) (k:∀b u,b≠e→h.get? b=some u→h'.get? b=some u) (heo:∃u,h'.get? e=some u)
  (new:ObjOk P w (upd H x o') h' x o'):HOk P w (upd H x o') h':=fun b u q=>by
 have nown:∀c y,H c=some (.own y)→c≠x:=fun c y r z=>by subst z; rw [r] at mu; exact mu
 have ntup:∀c xs,H c=some (.tup xs)→c≠x:=fun c xs r z=>by subst z; rw [r] at mu; exact mu
 by_cases hb:b=x
 ·subst hb; rw [af] at q; cases q; exact new
 ·rw [aj hb] at q
  by_cases hbe:b=e
  ·have q':H b=some (.own x):=by
    rcases he with z | z
    ·exact absurd (hbe.trans z) hb
    ·rw [hbe]; exact z
   rw [q] at q'; cases q'
   obtain ⟨v,hv⟩:=heo
   exact ⟨v,by rw [hbe]; exact hv⟩
  ·refine (ok b u q).stay (fun c v hc r=>k c v ?_ r) (fun c r=>by rw [aj (nown c b r)]; exact r) fun c xs r=>by rw [aj (ntup c xs r)]; exact r
   rcases hc with rfl | hc
   ·exact hbe
   ·rintro rfl
    rcases he with z | z
    ·exact nown c b hc z
    ·rw [hc] at z; cases z; exact hb rfl
end
structure Un (fs ex:List Addr) (H H':Hp) (h h':Heap):Prop where
 keep:∀b o,h.get? b=some o→H b=none→b∉fs→b∉ex→h'.get? b=some o
 slot:∀b o,h.get? b=some o→H b=none→b∈fs→b∉ex→∃sl,h'.get? b=some { o with slots:=sl }
 free:∀b o,h.get? b=some o→H b=none→b∉ex→H' b=none
 there:∀b o,h.get? b=some o→b∉ex→∃o',h'.get? b=some o'
 tups:∀b xs,H b=some (.tup xs)→H' b=some (.tup xs)
 frzs:∀b o u,H b=some (.frz o u)→H' b=some (.frz o u)
 tbls:∀b ps,H b=some (.tbl ps)→∃more,H' b=some (.tbl (ps ++ more))
section
variable {fs fs' ex ex':List Addr} {H H1 H2:Hp} {h h1 h2 h':Heap} {a x e:Addr} {o:HO}
theorem Un.any (u:Un fs ex H H1 h h1) {b:Addr} {ob:Obj} (q:h.get? b=some ob) (n:H b=none) (hx:b∉ex):∃sl,h1.get? b=some { ob with slots:=sl }:=by
 by_cases hb:b∈fs
 ·exact u.slot b ob q n hb hx
 ·exact ⟨ob.slots,u.keep b ob q n hb hx⟩
theorem Un.kept (k:∀b u,h.get? b=some u→h'.get? b=some u):Un fs ex H H h h' :=
 ⟨fun b ob q _ _ _=>k b ob q,fun b ob q _ _ _=>⟨ob.slots,k b ob q⟩,fun _ _ _ n _=>n,fun b ob q _=>⟨ob,k b ob q⟩,fun _ _ q=>q,fun _ _ _ q=>q,fun _ ps q=>⟨#[],by rw [q]; simp⟩⟩
theorem Un.refl:Un fs ex H H h h:=Un.kept fun _ _ q=>q
theorem Un.laid (k:∀b u,h.get? b=some u→h'.get? b=some u) (hp:h.objs.size≤a) (hn:H a=none):Un fs ex H (upd H a o) h h' where
 keep:=fun b u q _ _ _=>k b u q
 slot:=fun b u q _ _ _=>⟨u.slots,k b u q⟩
 free:=fun b u q n _=>by rw [aj (Nat.ne_of_lt (Nat.lt_of_lt_of_le (Heap.lt_size q) hp))]; exact n
 there:=fun b u q _=>⟨u,k b u q⟩
 tups:=fun b xs q=>by rw [aj (am q hn)]; exact q
 frzs:=fun b u xs q=>by rw [aj (am q hn)]; exact q
 tbls:=fun b ps q=>⟨#[],by rw [aj (am q hn),q]; simp⟩
theorem Un.write (mu:Mut (H x)) (he:e=x∨H e=some (.own x)) (k:∀b u,b≠e→h.get? b=some u→h'.get? b=some u) (heo:∃u,h'.get? e=some u):Un fs ex H (upd H x o) h h':=by
 have hx:∀b,H b=none→b≠x:=fun b n z=>by subst z; rw [n] at mu; exact mu
 have hb:∀b,H b=none→b≠e:=fun b n z=>by
  subst z
  rcases he with r | r
  ·exact hx b n r
  ·rw [n] at r; cases r
 have hm:∀b u,H b=some u→¬ Mut (some u)→b≠x:=fun b u q nm z=>by subst z; rw [q] at mu; exact nm mu
 refine ⟨fun b u q n _ _=>k b u (hb b n) q,fun b u q n _ _=>⟨u.slots,k b u (hb b n) q⟩,fun b u q n _=>by rw [aj (hx b n)]; exact n,fun b u q _=>?_,
  fun b xs q=>by rw [aj (hm b _ q fun z=>z)]; exact q,fun b u xs q=>by rw [aj (hm b _ q fun z=>z)]; exact q,fun b ps q=>⟨#[],by rw [aj (hm b _ q fun z=>z),q]; simp⟩⟩
 by_cases hbe:b=e
 ·subst hbe; exact heo
 ·exact ⟨u,k b u hbe q⟩
end
def trk (h:Heap) (H:Hp):List Addr:=(List.range h.objs.size).filter fun a=>(H a).isSome
def iS (h:Heap) (H:Hp):Heap:=PySem.W.hideAll h (trk h H)
theorem nz (h:Heap) (H:Hp):(iS h H).objs.size=h.objs.size:=PySem.W.hideAll_size _ _
theorem qe {h:Heap} {H:Hp} {b:Addr} {o:Obj} (e:h.get? b=some o) (n:H b=none):(iS h H).get? b=some o :=
 PySem.W.hideAll_get _ e fun hm=>by
  have q:(H b).isSome=true:=(List.mem_filter.mp hm).2
  rw [n] at q; simp at q
theorem sC {h:Heap} {H:Hp} {b:Addr} {o:Obj} (e:(iS h H).get? b=some o):h.get? b=some o∧H b=none:=by
 have e':h.get? b=some o:=PySem.W.of_hideAll (trk h H) e
 refine ⟨e',?_⟩
 cases q:H b with
 | none=>rfl
 | some x =>
  have hm:b∈trk h H:=List.mem_filter.mpr ⟨List.mem_range.mpr (Heap.lt_size e'),by simp [q]⟩
  have z:(iS h H).get? b=none:=PySem.W.hideAll_none (trk h H) hm
  rw [z] at e; cases e
def sD (g h:Heap) (L:Addr):List (Addr×Obj):=(List.range h.objs.size).filterMap fun a=>if a=L∨(g.get? a).isSome=true then none else (h.get? a).map fun o=>(a,o)
def rest (g h:Heap) (L d:Addr):List (Addr×Obj):=(sD g h L).filter fun p=>decide (p.1≠d)
end L2
namespace L2
open PySem PySem.Spec PyProof.Rows
structure Mod (K:PySem.W.Frag) (mg:Str→Option Value) (base:Heap):Prop where
 kin:K.In base
 glob:base.Ns mainGlobals mg
 blt:∃mb,base.Ns builtinsNs mb∧∀x:Str,x ≠ "__name__" → mb x=bootBuiltins x
 nolimit:base.NoLimit
/-- the context: a def's body (or a comprehension's block) running. base: fixed through the aQ law; s₀,H₀: the entry; outer: the frames whose slots others may change (a def's callers); stack: all frames that run;
   ex: iterators that were made ahead of the entry and are walked here (a comprehension's); fn: the names whose cells were made at the entry (a def: all; a comprehension's block: its own); calm: not within an except suite; pn: pins that every state bears; xe: what is wanted of an exception that leaves the code -/
structure Cx where
 prog:Program
 w:World
 K:PySem.W.Frag
 mg:Str→Option Value
 base:Heap
 A:Around
 N:List Str
 s₀:Shared
 H₀:Hp
 env:Env
 outer:List Env
 stack:List Env
 ex:List Addr
 fn:Str→Bool
 calm:Bool
 pn:List (Addr×Obj)
 xe:Value→Shared→Prop
def frs (l:List Env):List Addr:=l.filterMap (·.frame)
abbrev Cx.fs (X:Cx):List Addr:=frs X.outer
def Vis (sc:Scope) (x:Str):Prop:=sc.names.lookup x=some .local∨sc.names.lookup x=some .cell∨sc.names.lookup x=some .free
def Loc (sc:Scope) (x:Str):Prop:=sc.names.lookup x=some .local∨sc.names.lookup x=some .cell
def DO (env:Env) (h:Heap) (m:Str→Option Value) (x:Str) (u:Value):Prop :=
 (env.kindOf x=some .local∧m x=some u)∨((env.kindOf x=some .cell∨env.kindOf x=some .free)∧∃c,env.cells.lookup x=some c∧h.IsCell c (some u))
structure Cx.Ok (X:Cx):Prop where
 mod:Mod X.K X.mg X.base
 kind:X.env.scope.kind=.function
 glob:X.env.globals=mainGlobals
 blt:X.env.builtins=builtinsNs
 above:X.s₀.heap.objs.size≤X.env.locals
 inj:∀x y c,X.env.cells.lookup x=some c→X.env.cells.lookup y=some c→x=y
 has:∀x,(X.env.kindOf x=some .cell∨X.env.kindOf x=some .free)→∃c,X.env.cells.lookup x=some c
 cab:∀x c,X.fn x=true→X.env.cells.lookup x=some c→X.s₀.heap.objs.size≤c
 hd:X.calm=true→X.A.handled=none
 frames:X.A.frames=some X.stack
 stk:X.stack=X.outer∨(X.stack=X.env :: X.outer∧X.env.frame=some X.env.locals)
 exf:∀b∈X.ex,b≠X.env.locals∧∀x c,X.env.cells.lookup x=some c→c≠b
 bs:∀b o,X.base.get? b=some o→X.s₀.heap.get? b=some o∧X.H₀ b=none
 bsz:X.base.objs.size≤X.s₀.heap.objs.size
 noex:∀b o,X.base.get? b=some o→b∉X.ex
 exfs:∀b∈X.ex,b∉X.fs
 funs:X.s₀.heap.FunFrames X.base X.outer
 frf:∀b∈X.fs,X.H₀ b=none
structure Inv (X:Cx) (pins:List (Addr×Obj)) (σ:List (Option V)) (H:Hp) (s:Shared):Prop where
 ok:X.Ok
 os:s.os=X.s₀.os
 bare:AllBare s.gens
 base:Un X.fs X.ex X.H₀ H X.s₀.heap s.heap
 loc:∃m,s.heap.Ns X.env.locals m∧∀ (i:Nat) (x:Str) (v:V),X.N[i]? = some x→σ[i]? = some (some v)→Vis X.env.scope x→∃u,RelV v u∧DO X.env s.heap m x u
 cell:∀x c,X.env.cells.lookup x=some c→∃v,s.heap.IsCell c v
 free:H X.env.locals=none
 freeC:∀x c,X.env.cells.lookup x=some c→H c=none
 pin:∀p∈X.pn ++ pins,s.heap.get? p.1=some p.2∧H p.1=none∧p.1≠X.env.locals∧p.1∉X.fs∧∀v,p.2.data≠.cell v
 hok:HOk X.prog X.w H s.heap
 len:σ.length=X.N.length
section
variable {X:Cx} {pins:List (Addr×Obj)} {σ:List (Option V)} {H H':Hp} {s:Shared} {h':Heap}
theorem Cx.Ok.nofr (ok:X.Ok) {b:Addr} {o:Obj} (e:X.base.get? b=some o):b∉X.fs:=fun hb=>by
 have:=(ok.funs.mem hb).1
 rw [e] at this; cases this
theorem Inv.bs (I:Inv X pins σ H s):∀b o,X.base.get? b=some o→s.heap.get? b=some o∧H b=none:=fun b o e =>
 ⟨I.base.keep b o (I.ok.bs b o e).1 (I.ok.bs b o e).2 (I.ok.nofr e) (I.ok.noex b o e),I.base.free b o (I.ok.bs b o e).1 (I.ok.bs b o e).2 (I.ok.noex b o e)⟩
theorem Inv.bk (I:Inv X pins σ H s):∀b o,X.base.get? b=some o→s.heap.get? b=some o:=fun b o e=>(I.bs b o e).1
theorem Inv.mod (I:Inv X pins σ H s):Mod X.K X.mg X.base:=I.ok.mod
theorem Inv.kIn (I:Inv X pins σ H s):X.K.In s.heap:=I.ok.mod.kin.keeps I.bk
theorem Inv.fr (I:Inv X pins σ H s):∃m,Fr X.base X.env.locals s.heap m :=
 let ⟨m,hn,_⟩:=I.loc
 ⟨m,hn,I.bk,Nat.le_trans I.ok.bsz I.ok.above⟩
theorem Inv.lt (I:Inv X pins σ H s):X.env.locals < s.heap.objs.size:=let ⟨_,hn,_⟩:=I.loc; hn.lt
theorem Inv.sz (I:Inv X pins σ H s):X.s₀.heap.objs.size≤s.heap.objs.size:=Nat.le_trans I.ok.above (Nat.le_of_lt I.lt)
theorem Inv.nofs (I:Inv X pins σ H s) {a:Addr} (h:s.heap.objs.size≤a):a∉X.fs:=fun hb=>by
 obtain ⟨_,o,ho,_⟩:=I.ok.funs.mem hb
 exact absurd (Nat.lt_of_lt_of_le (Heap.lt_size ho) (Nat.le_trans I.sz h)) (Nat.lt_irrefl _)
theorem Inv.cne (I:Inv X pins σ H s):∀x c,X.env.cells.lookup x=some c→c≠X.env.locals:=fun x c e z=>by
 obtain ⟨v,o,ho,hd⟩:=I.cell x c e
 obtain ⟨m,⟨o',es,ep,ho',hd',_⟩,_⟩:=I.loc
 rw [z,ho'] at ho; cases ho; rw [hd'] at hd; cases hd
theorem Inv.funs (I:Inv X pins σ H s):s.heap.FunFrames X.base X.outer:=by
 have all:∀ (l:List Env),(∀b∈frs l,b∈X.fs)→X.s₀.heap.FunFrames X.base l→s.heap.FunFrames X.base l:=by
  intro l
  induction l with
  | nil=>intro _ _; trivial
  | cons env r ih =>
   intro hs hl
   obtain ⟨hk,⟨L,o,hf,hn,ho,hd⟩,hr⟩:=hl
   have hL:L∈X.fs:=hs L (by unfold frs; rw [List.filterMap_cons,hf]; exact List.mem_cons_self)
   obtain ⟨sl,e⟩:=I.base.slot L o ho (I.ok.frf L hL) hL fun z=>I.ok.exfs L z hL
   exact ⟨hk,⟨L,_,hf,hn,e,hd⟩,ih (fun b hb=>hs b (by unfold frs; rw [List.filterMap_cons,hf]; exact List.mem_cons_of_mem _ hb)) hr⟩
 exact all X.outer (fun _ hb=>hb) I.ok.funs
theorem Inv.stack (I:Inv X pins σ H s):s.heap.FunFrames X.base X.stack:=by
 rcases I.ok.stk with e | ⟨e,hf⟩
 ·rw [e]; exact I.funs
 ·rw [e]
  obtain ⟨m,hn,_⟩:=I.loc
  refine .cons (by rw [I.ok.kind]; decide) hf hn ?_ I.funs
  exact Heap.get?_none_of_le (Nat.le_trans I.ok.bsz I.ok.above)
theorem Inv.stkSub (I:Inv X pins σ H s):∀b∈frs X.stack,b∈X.env.locals :: X.fs:=fun b hb=>by
 rcases I.ok.stk with e | ⟨e,hf⟩
 ·rw [e] at hb; exact List.mem_cons_of_mem _ hb
 ·rw [e] at hb
  unfold frs at hb
  rw [List.filterMap_cons,hf] at hb
  exact hb
theorem Inv.stkFree (I:Inv X pins σ H s):∀b∈frs X.stack,H b=none:=fun b hb=>by
 rcases List.mem_cons.mp (I.stkSub b hb) with e | hb
 ·rw [e]; exact I.free
 ·obtain ⟨_,o,ho,_⟩:=I.ok.funs.mem hb
  exact I.base.free b o ho (I.ok.frf b hb) fun z=>I.ok.exfs b z hb
theorem Inv.step {g':Array GenState} {t':Nat} {d':Drawn} {ch:List Addr} (I:Inv X pins σ H s)
  (hch:∀b∈ch,(b∈X.ex∨X.s₀.heap.objs.size≤b)∧b≠X.env.locals∧(∀x c,X.env.cells.lookup x=some c→c≠b)∧∀p∈X.pn ++ pins,p.1≠b)
  (keep:∀b o,b≠X.env.locals→b∉X.fs→b∉ch→s.heap.get? b=some o→H b=none→h'.get? b=some o)
  (slot:∀b o,b≠X.env.locals→b∈X.fs→b∉ch→s.heap.get? b=some o→H b=none→∃sl,h'.get? b=some { o with slots:=sl }) (free:∀b o,b∉ch→s.heap.get? b=some o→H b=none→H' b=none)
  (there:∀b o,b∉ch→s.heap.get? b=some o→∃o',h'.get? b=some o')
  (tups:∀b xs,H b=some (.tup xs)→H' b=some (.tup xs)) (frzs:∀b o u,H b=some (.frz o u)→H' b=some (.frz o u)) (tbls:∀b ps,H b=some (.tbl ps)→∃more,H' b=some (.tbl (ps ++ more)))
  (ns:∀m,s.heap.Ns X.env.locals m→h'.Ns X.env.locals m) (hok:HOk X.prog X.w H' h') (hg:AllBare g') :
  Inv X pins σ H' { s with heap:=h',gens:=g',drawn:=d',toks:=t' }:=by
 have neL:∀b o,X.s₀.heap.get? b=some o→b≠X.env.locals:=fun b o e=>Nat.ne_of_lt (Nat.lt_of_lt_of_le (Heap.lt_size e) I.ok.above)
 have neC:∀b o,X.s₀.heap.get? b=some o→b∉X.ex→b∉ch:=fun b o e hx hb=>by
  rcases (hch b hb).1 with z | z
  ·exact hx z
  ·exact absurd (Nat.lt_of_lt_of_le (Heap.lt_size e) z) (Nat.lt_irrefl _)
 have cellK:∀x c,X.env.cells.lookup x=some c→∀v,s.heap.IsCell c v→h'.IsCell c v:=fun x c e v ⟨o,ho,hd⟩=>by
  have nch:c∉ch:=fun z=>(hch c z).2.2.1 x c e rfl
  by_cases hc:c∈X.fs
  ·obtain ⟨sl,q⟩:=slot c o (I.cne x c e) hc nch ho (I.freeC x c e)
   exact ⟨_,q,hd⟩
  ·exact ⟨o,keep c o (I.cne x c e) hc nch ho (I.freeC x c e),hd⟩
 refine ⟨I.ok,I.os,hg,⟨fun b o e n hb hx=>?_,fun b o e n hb hx=>?_,fun b o e n hx=>?_,fun b o e hx=>?_,fun b xs e=>tups b xs (I.base.tups b xs e),fun b o xs e=>frzs b o xs (I.base.frzs b o xs e),fun b ps e=>?_⟩,?_,fun x c e=>?_,?_,fun x c e=>?_,fun p hp=>?_,hok,I.len⟩
 ·exact keep b o (neL b o e) hb (neC b o e hx) (I.base.keep b o e n hb hx) (I.base.free b o e n hx)
 ·obtain ⟨sl,e1⟩:=I.base.slot b o e n hb hx
  obtain ⟨sl',e2⟩:=slot b _ (neL b o e) hb (neC b o e hx) e1 (I.base.free b o e n hx)
  exact ⟨sl',e2⟩
 ·obtain ⟨o',e1⟩:=I.base.there b o e hx
  exact free b o' (neC b o e hx) e1 (I.base.free b o e n hx)
 ·obtain ⟨o',e1⟩:=I.base.there b o e hx
  exact there b o' (neC b o e hx) e1
 ·obtain ⟨m1,e1⟩:=I.base.tbls b ps e
  obtain ⟨m2,e2⟩:=tbls b _ e1
  exact ⟨m1 ++ m2,by rw [e2,Array.append_assoc]⟩
 ·obtain ⟨m,hn,hl⟩:=I.loc
  refine ⟨m,ns m hn,fun i x v e1 e2 e3=>?_⟩
  obtain ⟨u,r,l⟩:=hl i x v e1 e2 e3
  refine ⟨u,r,?_⟩
  rcases l with l | ⟨k,c,e,z⟩
  ·exact .inl l
  ·exact .inr ⟨k,c,e,cellK x c e _ z⟩
 ·obtain ⟨v,z⟩:=I.cell x c e
  exact ⟨v,cellK x c e v z⟩
 ·obtain ⟨m,⟨o,_,_,ho,_⟩,_⟩:=I.loc
  exact free _ o (fun z=>(hch _ z).2.1 rfl) ho I.free
 ·obtain ⟨v,o,ho,hd⟩:=I.cell x c e
  exact free c o (fun z=>(hch c z).2.2.1 x c e rfl) ho (I.freeC x c e)
 ·obtain ⟨e,n,ne,nf,d⟩:=I.pin p hp
  have nch:p.1∉ch:=fun z=>(hch p.1 z).2.2.2 p hp rfl
  exact ⟨keep p.1 p.2 ne nf nch e n,free p.1 p.2 nch e n,ne,nf,d⟩
theorem Inv.un {t':Nat} (I:Inv X pins σ H s) (u:Un X.fs [] H H' s.heap h') (hok:HOk X.prog X.w H' h'):Inv X pins σ H' { s with heap:=h',toks:=t' }:=by
 obtain ⟨m,⟨o,es,ep,ho,r⟩,_⟩:=id I.loc
 obtain ⟨sl,hL⟩:=u.any ho I.free (by simp)
 exact I.step (g':=s.gens) (d':=s.drawn) (ch:=[]) (fun _ z=>nomatch z) (fun b o _ hb _ e n=>u.keep b o e n hb (by simp)) (fun b o _ hb _ e n=>u.slot b o e n hb (by simp)) (fun b o _ e n=>u.free b o e n (by simp)) (fun b o _ e=>u.there b o e (by simp)) u.tups u.frzs u.tbls (fun m' hm=>by
  obtain ⟨o',es',ep',ho',r'⟩:=hm
  rw [ho] at ho'; cases ho'
  exact ⟨_,es',ep',hL,r'⟩) hok I.bare
theorem Inv.call {g':Array GenState} {t':Nat} {d':Drawn} {ch:List Addr} (I:Inv X pins σ H s) (u:Un (frs X.stack) ch H H' s.heap h') (hok:HOk X.prog X.w H' h') (hg:AllBare g')
  (hch:∀b∈ch,(b∈X.ex∨X.s₀.heap.objs.size≤b)∧b≠X.env.locals∧(∀x c,X.env.cells.lookup x=some c→c≠b)∧∀p∈X.pn ++ pins,p.1≠b) :
  Inv X pins σ H' { s with heap:=h',gens:=g',drawn:=d',toks:=t' }:=by
 obtain ⟨m,⟨o,es,ep,ho,r⟩,_⟩:=id I.loc
 obtain ⟨sl,hL⟩:=u.any ho I.free fun z=>(hch _ z).2.1 rfl
 exact I.step (ch:=ch) hch (fun b o hL hb hc e n=>u.keep b o e n (fun z=>(List.mem_cons.mp (I.stkSub b z)).elim hL hb) hc) (fun b o _ _ hc e n=>u.any e n hc) (fun b o hc e n=>u.free b o e n hc) (fun b o hc e=>u.there b o e hc) u.tups u.frzs u.tbls (fun m' hm=>by
  obtain ⟨o',es',ep',ho',r'⟩:=hm
  rw [ho] at ho'; cases ho'
  exact ⟨_,es',ep',hL,r'⟩) hok hg
theorem Inv.turned {t':Nat} {it:Addr} (I:Inv X pins σ H s) (k:∀b o,b≠it→s.heap.get? b=some o→h'.get? b=some o) (hn:H it=none) (hL:it≠X.env.locals)
  (h1:it∈X.ex∨X.s₀.heap.objs.size≤it) (h2:∀x c,X.env.cells.lookup x=some c→c≠it) (h3:∀p∈X.pn ++ pins,p.1≠it):Inv X pins σ H { s with heap:=h',toks:=t' }:=by
 have nit:∀b u,H b=some u→b≠it:=fun b u e z=>by rw [z,hn] at e; cases e
 refine I.step (g':=s.gens) (d':=s.drawn) (ch:=[it]) (fun b hb=>?_) (fun b o _ _ hc e _=>k b o (fun z=>hc (by simp [z])) e) (fun b o _ _ hc e _=>⟨o.slots,k b o (fun z=>hc (by simp [z])) e⟩) (fun _ _ _ _ n=>n)
  (fun b o hc e=>⟨o,k b o (fun z=>hc (by simp [z])) e⟩) (fun _ _ e=>e) (fun _ _ _ e=>e) (fun b ps e=>⟨#[],by rw [e]; simp⟩) (fun m hm=>?_) (fun b u e=>?_) I.bare
 ·have e:b=it:=by simpa using hb
  subst e
  exact ⟨h1,hL,h2,h3⟩
 ·obtain ⟨o,es,ep,ho,r⟩:=hm
  exact ⟨o,es,ep,k _ o (Ne.symm hL) ho,r⟩
 ·refine (I.hok b u e).stay (fun c v hc q=>k c v ?_ q) (fun _ q=>q) fun _ _ q=>q
  rcases hc with z | z
  ·rw [z]; exact nit b u e
  ·exact nit c _ z
theorem Inv.tok (I:Inv X pins σ H s) (t:Nat):Inv X pins σ H { s with toks:=t }:=I.un (h':=s.heap) (t':=t) Un.refl I.hok
theorem Inv.kept {t':Nat} (I:Inv X pins σ H s) (k:∀b u,s.heap.get? b=some u→h'.get? b=some u):Inv X pins σ H { s with heap:=h',toks:=t' }:=I.un (Un.kept k) (I.hok.kept k)
theorem Inv.laid {a:Addr} {o:HO} {t':Nat} (I:Inv X pins σ H s) (k:∀b u,s.heap.get? b=some u→h'.get? b=some u) (hp:s.heap.objs.size≤a) (new:ObjOk X.prog X.w (upd H a o) h' a o) :
  Inv X pins σ (upd H a o) { s with heap:=h',toks:=t' }:=I.un (Un.laid k hp (I.hok.fresh hp)) (I.hok.laid k hp new)
theorem Inv.write {x e:Addr} {o:HO} {t':Nat} (I:Inv X pins σ H s) (mu:Mut (H x)) (he:e=x∨H e=some (.own x)) (k:∀b u,b≠e→s.heap.get? b=some u→h'.get? b=some u) (heo:∃u,h'.get? e=some u)
  (new:ObjOk X.prog X.w (upd H x o) h' x o):Inv X pins σ (upd H x o) { s with heap:=h',toks:=t' }:=I.un (Un.write mu he k heo) (I.hok.write mu he k heo new)
theorem Inv.weak {σ':List (Option V)} (I:Inv X pins σ H s) (hl:σ'.length=σ.length) (w:∀ (i:Nat) v,σ'[i]? = some (some v)→σ[i]? = some (some v)):Inv X pins σ' H s :=
 ⟨I.ok,I.os,I.bare,I.base,let ⟨m,hn,hl'⟩:=I.loc; ⟨m,hn,fun i x v e1 e2 e3=>hl' i x v e1 (w i v e2) e3⟩,I.cell,I.free,I.freeC,I.pin,I.hok,hl.trans I.len⟩
theorem Inv.pins_of {pins':List (Addr×Obj)} (I:Inv X pins σ H s) (h:∀p∈pins',s.heap.get? p.1=some p.2∧H p.1=none∧p.1≠X.env.locals∧p.1∉X.fs∧∀v,p.2.data≠.cell v):Inv X pins' σ H s :=
 ⟨I.ok,I.os,I.bare,I.base,I.loc,I.cell,I.free,I.freeC,fun p hp=>(List.mem_append.mp hp).elim (fun z=>I.pin p (List.mem_append_left _ z)) (h p),I.hok,I.len⟩
theorem jz {N:List Str} (hN:N.Nodup) {i j:Nat} {x:Str} (a:N[i]? = some x) (b:N[j]? = some x):i=j:=by
 obtain ⟨h1,e1⟩:=List.getElem?_eq_some_iff.mp a
 obtain ⟨h2,e2⟩:=List.getElem?_eq_some_iff.mp b
 exact (List.getElem_inj hN).mp (e1.trans e2.symm)
theorem io {M:Model} {A:Around} {E:Value→Shared→Prop} {i:Nat} {x:Str} {v:V} {u:Value} {Q:Unit→Shared→Prop} (I:Inv X pins σ H s) (hN:X.N.Nodup) (hi:X.N[i]? = some x) (hx:Loc X.env.scope x) (r:RelV v u)
  (h:∀s',Inv X pins (σ.set i (some v)) H s'→(∃a,Heap.SameBut a s.heap s'.heap∧(a=X.env.locals∨X.env.cells.lookup x=some a))→Q () s') (hf:X.fn x=true∨X.env.scope.names.lookup x=some .local:=by first | exact .inl rfl | exact .inr rfl | assumption):wpAny M A (storeName X.env x u) Q E s:=by
 obtain ⟨m,hn,hl⟩:=id I.loc
 have hcls:(X.env.scope.kind == .class || (X.env.scope.kind == .module && X.env.locals != X.env.globals))=false:=by rw [I.ok.kind]; rfl
 have hiσ:i < σ.length:=by rw [I.len]; exact (List.getElem?_eq_some_iff.mp hi).1
 have cne:=I.cne
 have tracked:∀ {a:Addr} {h':Heap},(∃o,s.heap.get? a=some o∧H a=none)→Heap.SameBut a s.heap h'→HOk X.prog X.w H h':=fun {a h'} ha hs b ob e=>by
  obtain ⟨_,_,hfree⟩:=ha
  refine (I.hok b ob e).stay (fun c w' hc q=>(hs.2 c ?_).trans q) (fun _ q=>q) fun _ _ q=>q
  rintro rfl
  rcases hc with rfl | hc
  ·rw [hfree] at e; cases e
  ·rw [hfree] at hc; cases hc
 rcases hx with hk | hk
 ·refine wpAny_storeName_local hk hn (fun h' hn' hs=>?_) hcls
  obtain ⟨oL,_,_,hoL,_⟩:=id hn
  refine h _ ⟨I.ok,I.os,I.bare,⟨fun b o e n hb hx=>?_,fun b o e n hb hx=>?_,I.base.free,fun b o e hx=>?_,I.base.tups,I.base.frzs,I.base.tbls⟩,⟨_,hn',fun j y v' e1 e2 e3=>?_⟩,fun y c e=>?_,I.free,I.freeC,fun p hp=>?_,tracked ⟨oL,hoL,I.free⟩ hs,by simpa using I.len⟩ ⟨_,hs,.inl rfl⟩
  ·exact (hs.2 b (Nat.ne_of_lt (Nat.lt_of_lt_of_le (Heap.lt_size e) I.ok.above))).trans (I.base.keep b o e n hb hx)
  ·obtain ⟨sl,e1⟩:=I.base.slot b o e n hb hx
   exact ⟨sl,(hs.2 b (Nat.ne_of_lt (Nat.lt_of_lt_of_le (Heap.lt_size e) I.ok.above))).trans e1⟩
  ·obtain ⟨o',e1⟩:=I.base.there b o e hx
   exact ⟨o',(hs.2 b (Nat.ne_of_lt (Nat.lt_of_lt_of_le (Heap.lt_size e) I.ok.above))).trans e1⟩
  ·by_cases hj:j=i
   ·subst hj
    rw [hi] at e1; cases e1
    rw [List.getElem?_set_self hiσ] at e2
    cases e2
    exact ⟨u,r,.inl ⟨hk,by simp⟩⟩
   ·rw [List.getElem?_set_ne (Ne.symm hj)] at e2
    obtain ⟨u',r',q⟩:=hl j y v' e1 e2 e3
    refine ⟨u',r',?_⟩
    rcases q with ⟨k,e⟩ | ⟨k,c,e,z⟩
    ·refine .inl ⟨k,?_⟩
     have:y≠x:=fun e=>hj (jz hN e1 (e ▸ hi))
     simp [this,e]
    ·exact .inr ⟨k,c,e,z.sameBut hs (cne y c e)⟩
  ·obtain ⟨w',z⟩:=I.cell y c e
   exact ⟨w',z.sameBut hs (cne y c e)⟩
  ·obtain ⟨e,n,ne,nf,d⟩:=I.pin p hp
   exact ⟨(hs.2 p.1 ne).trans e,n,ne,nf,d⟩
 ·have hfn:X.fn x=true:=by
   rcases hf with z | z
   ·exact z
   ·rw [z] at hk; cases hk
  obtain ⟨c,hc⟩:=I.ok.has x (.inl hk)
  obtain ⟨w',z⟩:=I.cell x c hc
  refine wpAny_storeName_cell I.ok.kind hk hc z (fun h' hc' hs=>?_)
  obtain ⟨oc,hoc,hocd⟩:=id z
  refine h { s with heap:=h' } ⟨I.ok,I.os,I.bare,⟨fun b o e n hb hx=>?_,fun b o e n hb hx=>?_,I.base.free,fun b o e hx=>?_,I.base.tups,I.base.frzs,I.base.tbls⟩,⟨m,hn.sameBut hs (Ne.symm (cne x c hc)),fun j y v' e1 e2 e3=>?_⟩,fun y c' e=>?_,I.free,I.freeC,fun p hp=>?_,tracked ⟨oc,hoc,I.freeC x c hc⟩ hs,by simpa using I.len⟩ ⟨c,hs,.inr hc⟩
  ·exact (hs.2 b (Nat.ne_of_lt (Nat.lt_of_lt_of_le (Heap.lt_size e) (I.ok.cab x c hfn hc)))).trans (I.base.keep b o e n hb hx)
  ·obtain ⟨sl,e1⟩:=I.base.slot b o e n hb hx
   exact ⟨sl,(hs.2 b (Nat.ne_of_lt (Nat.lt_of_lt_of_le (Heap.lt_size e) (I.ok.cab x c hfn hc)))).trans e1⟩
  ·obtain ⟨o',e1⟩:=I.base.there b o e hx
   exact ⟨o',(hs.2 b (Nat.ne_of_lt (Nat.lt_of_lt_of_le (Heap.lt_size e) (I.ok.cab x c hfn hc)))).trans e1⟩
  ·by_cases hj:j=i
   ·subst hj
    rw [hi] at e1; cases e1
    rw [List.getElem?_set_self hiσ] at e2
    cases e2
    exact ⟨u,r,.inr ⟨.inl hk,c,hc,hc'⟩⟩
   ·rw [List.getElem?_set_ne (Ne.symm hj)] at e2
    obtain ⟨u',r',q⟩:=hl j y v' e1 e2 e3
    refine ⟨u',r',?_⟩
    rcases q with q | ⟨k,c',e,z'⟩
    ·exact .inl q
    ·refine .inr ⟨k,c',e,z'.sameBut hs ?_⟩
     rintro rfl
     exact hj (jz hN e1 (I.ok.inj _ _ _ e hc ▸ hi))
  ·by_cases hcc:c'=c
   ·subst hcc; exact ⟨_,hc'⟩
   ·obtain ⟨w2,z2⟩:=I.cell y c' e
    exact ⟨w2,z2.sameBut hs hcc⟩
  ·obtain ⟨e,n,ne,nf,d⟩:=I.pin p hp
   refine ⟨(hs.2 p.1 ?_).trans e,n,ne,nf,d⟩
   intro q
   rw [q,hoc] at e
   have q':oc=p.2:=Option.some.inj e
   exact d w' (by rw [← q']; exact hocd)
theorem eC {M:Model} {A:Around} {E:Value→Shared→Prop} {i:Nat} {x:Str} {v:V} {u:Value} {Q:Unit→Shared→Prop} (I:Inv X pins σ H s) (hN:X.N.Nodup) (hi:X.N[i]? = some x) (hx:Loc X.env.scope x) (r:RelV v u)
  (h:∀s',Inv X pins (σ.set i (some v)) H s'→Q () s') (hf:X.fn x=true∨X.env.scope.names.lookup x=some .local:=by first | exact .inl rfl | exact .inr rfl | assumption):wpAny M A (storeName X.env x u) Q E s :=
 io I hN hi hx r (fun s' I' _=>h s' I') hf
theorem Inv.call' {s':Shared} {ch:List Addr} (I:Inv X pins σ H s) (ho:s'.os=s.os) (u:Un (frs X.stack) ch H H' s.heap s'.heap) (hok:HOk X.prog X.w H' s'.heap) (hg:AllBare s'.gens)
  (hch:∀b∈ch,(b∈X.ex∨X.s₀.heap.objs.size≤b)∧b≠X.env.locals∧(∀x c,X.env.cells.lookup x=some c→c≠b)∧∀p∈X.pn ++ pins,p.1≠b):Inv X pins σ H' s':=by
 obtain ⟨h',g',d',t',o'⟩:=s'
 have e:o'=s.os:=ho
 subst e
 exact I.call (g':=g') (t':=t') (d':=d') u hok hg hch
end
abbrev XK:=Value→Option Addr→Hp→Prop
abbrev St:=List (Option V)
abbrev VK:=V→Hp→Prop
abbrev TE:=St→Hp→VK→Prop
abbrev TT:=St→Hp→(Bool→Hp→Prop)→Prop
abbrev TA:=St→Hp→(List V→Hp→Prop)→Prop
structure Ends where
 nx:St→Hp→Prop
 rt:VK
 bk:St→Hp→Prop:=fun _ _=>False
 ct:St→Hp→Prop:=fun _ _=>False
abbrev TS:=Ends→St→Hp→Prop
def EP (X:Cx) (pins:List (Addr×Obj)) (σ:St) (Q:VK) (u:Value) (s':Shared):Prop:=∃v H',Inv X pins σ H' s'∧RelV v u∧Q v H'
def TP (X:Cx) (pins:List (Addr×Obj)) (σ:St) (Q:Bool→Hp→Prop) (b:Bool) (s':Shared):Prop:=∃H',Inv X pins σ H' s'∧Q b H'
def AP (X:Cx) (pins:List (Addr×Obj)) (σ:St) (Q:List V→Hp→Prop) (us:List Value) (s':Shared):Prop:=∃vs H',Inv X pins σ H' s'∧Vals vs us∧Q vs H'
def SP (X:Cx) (pins:List (Addr×Obj)) (D:Ends) (f:Flow) (s':Shared):Prop :=
 match f with
 | .next=>∃σ' H',Inv X pins σ' H' s'∧D.nx σ' H'
 | .brk=>∃σ' H',Inv X pins σ' H' s'∧D.bk σ' H'
 | .cont=>∃σ' H',Inv X pins σ' H' s'∧D.ct σ' H'
 | .ret u=>∃v σ' H',Inv X pins σ' H' s'∧RelV v u∧D.rt v H'
def PE (X:Cx) (e:Expr) (t:TE):Prop :=
 ∀ (pins:List (Addr×Obj)) (s:Shared) (σ:St) (H:Hp) (Q:VK),Inv X pins σ H s→t σ H Q→wpAny (model X.prog X.w) X.A (eval e X.env) (EP X pins σ Q) X.xe s
def PT (X:Cx) (e:Expr) (t:TT):Prop :=
 ∀ (pins:List (Addr×Obj)) (s:Shared) (σ:St) (H:Hp) (Q:Bool→Hp→Prop),Inv X pins σ H s→t σ H Q→wpAny (model X.prog X.w) X.A (isTrue e X.env (eval e X.env)) (TP X pins σ Q) X.xe s
def PW (X:Cx) (e:Expr) (t:TT):Prop :=
 ∀ (aQ:Sem Value) (pins:List (Addr×Obj)) (s:Shared) (σ:St) (H:Hp) (Q:Bool→Hp→Prop),Inv X pins σ H s→t σ H Q→wpAny (model X.prog X.w) X.A (isTrue e X.env aQ) (TP X pins σ Q) X.xe s
theorem PW.pt {X:Cx} {e:Expr} {t:TT} (h:PW X e t):PT X e t:=h _
def PA (X:Cx) (es:List Expr) (t:TA):Prop :=
 ∀ (pos:Pos) (pins:List (Addr×Obj)) (s:Shared) (σ:St) (H:Hp) (Q:List V→Hp→Prop),Inv X pins σ H s→t σ H Q→wpAny (model X.prog X.w) X.A (spliced (backTo pos (starEach es X.env))) (AP X pins σ Q) X.xe s
def PS (X:Cx) (st:Stmt) (t:TS):Prop :=
 ∀ (pins:List (Addr×Obj)) (s:Shared) (σ:St) (H:Hp) (D:Ends),Inv X pins σ H s→t D σ H→wpAny (model X.prog X.w) X.A (exec st X.env) (SP X pins D) X.xe s
def PSs (X:Cx) (st:List Stmt) (t:TS):Prop :=
 ∀ (pins:List (Addr×Obj)) (s:Shared) (σ:St) (H:Hp) (D:Ends),Inv X pins σ H s→t D σ H→wpAny (model X.prog X.w) X.A (execs st X.env) (SP X pins D) X.xe s
theorem thn {α:Type} {t:Sem α} {Q Q':α→Shared→Prop} {M:Model} {A:Around} {E:Value→Shared→Prop} {s:Shared} (h:wpAny M A t Q E s) (hQ:∀a s,Q a s→Q' a s):wpAny M A t Q' E s:=wpAny_mono h hQ fun _ _ x=>x
end L2
namespace L2
open PySem PySem.Spec PyProof.Rows
section
variable {X:Cx}
theorem bin {a b:Expr} {ta tb:TE} (ha:PE X a ta) (hb:PE X b tb) {pins:List (Addr×Obj)} {s:Shared} {σ:St} {H:Hp} {R:V→V→Hp→Prop} (I:Inv X pins σ H s) (h:ta σ H fun x H1=>tb σ H1 fun y H2=>R x y H2)
  {α:Type} {Q:α→Shared→Prop} {f:Value→Value→Sem α}
  (hf:∀v u s2 x y H2,Inv X pins σ H2 s2→RelV x v→RelV y u→R x y H2→wpAny (model X.prog X.w) X.A (f v u) Q X.xe s2) :
  wpAny (model X.prog X.w) X.A (eval a X.env) (fun v s₁=>wpAny (model X.prog X.w) X.A (eval b X.env) (fun u s₂=>wpAny (model X.prog X.w) X.A (f v u) Q X.xe s₂) X.xe s₁) X.xe s:=by
 refine thn (ha pins s σ H _ I h) fun v s1 ⟨x,H1,I1,r1,q1⟩=>?_
 refine thn (hb pins s1 σ H1 _ I1 q1) fun u s2 ⟨y,H2,I2,r2,q2⟩=>?_
 exact hf v u s2 x y H2 I2 r1 r2 q2
def sE (i:Nat):TE:=fun σ H Q=>∃v,σ[i]? = some (some v)∧Q v H
def tC (v:V):TE:=fun _ H Q=>Q v H
theorem uE {i:Nat} {x:Str} {pos:Pos} (hN:X.N[i]? = some x) (hv:Vis X.env.scope x) (hd:(x == ("__debug__" : Str))=false:=by decide) (hcd:(x == ("__classdict__" : Str))=false:=by decide):PE X (.Name x pos) (sE i):=by
 intro pins s σ H Q I h
 obtain ⟨v,e,h⟩:=h
 obtain ⟨m,hn,hl⟩:=I.loc
 obtain ⟨u,r,l⟩:=hl i x v hN e hv
 have fin:EP X pins σ Q u s:=⟨v,H,I,r,h⟩
 rcases l with ⟨hk,hm⟩ | ⟨hk,c,hc,hcell⟩
 ·exact wpAny_Name (wpAny_loadName_local I.ok.kind hk hn hm fin) hd
 ·rcases hk with hk | hk
  ·exact wpAny_Name (wpAny_loadName_cell I.ok.kind hk hc hcell fin) hd
  ·exact wpAny_Name (wpAny_loadName_free I.ok.kind hk hc hcell fin hcd) hd
theorem ad {i j pos}:PE X (.Constant (.int i) j pos) (tC (.int i)):=fun _ _ _ H _ I h=>wpAny_Constant_int ⟨.int i,H,I.tok _,⟨_,rfl⟩,h⟩
theorem bQ {b j pos}:PE X (.Constant (.bool b) j pos) (tC (.bl b)):=fun _ _ _ H _ I h=>Constant_bool ⟨.bl b,H,I,rfl,h⟩
theorem fD {x j pos}:PE X (.Constant (.str x) j pos) (tC (.str x)):=fun _ _ _ H _ I h=>Calls.Constant_str ⟨.str x,H,I.tok _,⟨_,rfl⟩,h⟩
def Gl (X:Cx) (x:Str):Prop:=X.env.kindOf x=some .globalImplicit
theorem iT {E:Value→Shared→Prop} {pins:List (Addr×Obj)} {s:Shared} {σ:St} {H:Hp} {x:Str} {u:Value} {pos:Pos} {Q:Value→Shared→Prop} (I:Inv X pins σ H s) (hg:Gl X x) (hm:X.mg x=some u) (h:Q u s)
  (hd:(x == ("__debug__" : Str))=false:=by decide):wpAny (model X.prog X.w) X.A (eval (.Name x pos) X.env) Q E s :=
 Calls.Name_function_global I.ok.kind hg (Calls.loadGlobal_global (by rw [I.ok.glob]; exact I.mod.glob.keeps I.bk) hm h) hd
theorem dC {E:Value→Shared→Prop} {pins:List (Addr×Obj)} {s:Shared} {σ:St} {H:Hp} {x:Str} {u:Value} {pos:Pos} {Q:Value→Shared→Prop} (I:Inv X pins σ H s) (hg:Gl X x) (hm:X.mg x=none) (hv:bootBuiltins x=some u) (h:Q u s)
  (hn:x ≠ "__name__" := by decide) (hd:(x == ("__debug__" : Str))=false:=by decide):wpAny (model X.prog X.w) X.A (eval (.Name x pos) X.env) Q E s:=by
 obtain ⟨mb,h1,h2⟩:=I.mod.blt
 exact Calls.Name_function_global I.ok.kind hg (Calls.loadGlobal_builtin (by rw [I.ok.glob]; exact I.mod.glob.keeps I.bk) hm (by rw [I.ok.blt]; exact h1.keeps I.bk) ((h2 x hn).trans hv) h) hd
theorem aR {x:Str} {v:V} {u:Value} {pos:Pos} (hg:Gl X x) (hm:X.mg x=some u) (r:RelV v u) (hd:(x == ("__debug__" : Str))=false:=by decide):PE X (.Name x pos) (tC v) :=
 fun _ _ _ H _ I h=>iT I hg hm ⟨v,H,I,r,h⟩ hd
theorem bE {x:Str} {v:V} {u:Value} {pos:Pos} (hg:Gl X x) (hm:X.mg x=none) (hv:bootBuiltins x=some u) (r:RelV v u) (hn:x ≠ "__name__" := by decide) (hd:(x == ("__debug__" : Str))=false:=by decide):PE X (.Name x pos) (tC v) :=
 fun _ _ _ H _ I h=>dC I hg hm hv ⟨v,H,I,r,h⟩ hn hd
variable {a b:Expr} {ta tb:TE} {pos:Pos}
def PC (X:Cx) (op:CmpOp) (a b:Expr) (t:TE):Prop :=
 ∀ (pins:List (Addr×Obj)) (s:Shared) (σ:St) (H:Hp) (Q:VK),Inv X pins σ H s→t σ H Q →
  wpAny (model X.prog X.w) X.A (eval a X.env) (fun v s₁=>wpAny (model X.prog X.w) X.A (eval b X.env) (fun u s₂=>wpAny (model X.prog X.w) X.A (compareOp op v u) (EP X pins σ Q) X.xe s₂) X.xe s₁) X.xe s
def tB (t:TE):TT:=fun σ H Q=>t σ H fun x H1=>∃c,x=.bl c∧Q c H1
theorem DQ {op:CmpOp} {t:TE} (h:PC X op a b t) (h1:behindInMarks op b=false:=by first | exact nobehind _ (by decide) (by decide) | rfl):PT X (.Compare a [op] [b] pos) (tB t):=by
 intro pins s σ H Q I hw
 refine wpAny_isTrue_Compare1 (thn (h pins s σ H _ I hw) fun v s1 h1=>thn h1 fun u s2 h2=>thn h2 fun c s3 ⟨x,H1,I1,r1,q1⟩=>?_) h1
 obtain ⟨d,rfl,q⟩:=q1
 cases r1
 exact wpAny_truthy_bool ⟨H1,I1,q⟩
theorem aE {e:Expr} {t:TE} (h:PE X e t) (he:∀aQ,isTrue e X.env aQ=(do let v←aQ; standAt e.pos; holding [v] (truthy v)):=by intro _; rfl):PT X e (tB t):=by
 intro pins s σ H Q I hw
 refine isTrue_plain (thn (h pins s σ H _ I hw) fun v s1 ⟨x,H1,I1,r1,q1⟩=>?_) (he _)
 obtain ⟨d,rfl,q⟩:=q1
 cases r1
 exact wpAny_truthy_bool ⟨H1,I1,q⟩
variable {tA tB':TT} {rest:List Expr}
def DV (t u:TT):TT:=fun σ H Q=>t σ H fun c H1=>if c=true then u σ H1 Q else Q false H1
def tOr (t u:TT):TT:=fun σ H Q=>t σ H fun c H1=>if c=true then Q true H1 else u σ H1 Q
def DX (t:TT):TT:=fun σ H Q=>t σ H fun c H1=>Q (!c) H1
theorem mr (ha:PT X a tA):PW X (.BoolOp .And [a] pos) tA:=by
 intro wh pins s σ H Q I h
 refine isTrue_and (thn (ha pins s σ H Q I h) fun c s1 e=>?_)
 cases c with
 | true=>exact isTrue_and_nil e
 | false=>exact e
theorem bo (ha:PT X a tA):PW X (.BoolOp .Or [a] pos) tA:=by
 intro wh pins s σ H Q I h
 refine isTrue_or (thn (ha pins s σ H Q I h) fun c s1 e=>?_)
 cases c with
 | false=>exact isTrue_or_nil e
 | true=>exact e
theorem qg (ha:PT X a tA) (hb:PW X (.BoolOp .And (b :: rest) pos) tB'):PW X (.BoolOp .And (a :: b :: rest) pos) (DV tA tB'):=by
 intro wh pins s σ H Q I h
 refine isTrue_and (thn (ha pins s σ H _ I h) fun c s1 ⟨H1,I1,q1⟩=>?_)
 cases c with
 | true=>exact hb wh pins s1 σ H1 Q I1 q1
 | false=>exact ⟨H1,I1,q1⟩
theorem bh (ha:PT X a tA) (hb:PW X (.BoolOp .Or (b :: rest) pos) tB'):PW X (.BoolOp .Or (a :: b :: rest) pos) (tOr tA tB'):=by
 intro wh pins s σ H Q I h
 refine isTrue_or (thn (ha pins s σ H _ I h) fun c s1 ⟨H1,I1,q1⟩=>?_)
 cases c with
 | true=>exact ⟨H1,I1,q1⟩
 | false=>exact hb wh pins s1 σ H1 Q I1 q1
theorem aL (ha:PT X a tA):PT X (.UnaryOp .Not a pos) (DX tA):=by
 intro pins s σ H Q I h
 exact isTrue_not (ha pins s σ H (fun c H1=>Q (!c) H1) I h)
def wY (ta tb:TE):TE:=fun σ H Q=>ta σ H fun x H1=>∃c,x=.bl c∧if c=true then tb σ H1 Q else Q (.bl false) H1
def DY (ta tb:TE):TE:=fun σ H Q=>ta σ H fun x H1=>∃c,x=.bl c∧if c=true then Q (.bl true) H1 else tb σ H1 Q
def wZ (ta:TE):TE:=fun σ H Q=>ta σ H fun x H1=>∃c,x=.bl c∧Q (.bl (!c)) H1
theorem dj {op} {t:TE} (h:PE X a t):PE X (.BoolOp op [a] pos) t:=fun pins s σ H Q I hw=>BoolOp_one (h pins s σ H Q I hw)
theorem cx (ha:PE X a ta) (hb:PE X (.BoolOp .And (b :: rest) pos) tb):PE X (.BoolOp .And (a :: b :: rest) pos) (wY ta tb):=by
 intro pins s σ H Q I h
 refine BoolOp_and (thn (ha pins s σ H _ I h) fun v s1 ⟨x,H1,I1,r1,q1⟩=>?_)
 obtain ⟨c,rfl,q1⟩:=q1
 cases r1
 refine wpAny_truthy_bool ?_
 cases c with
 | true=>exact hb pins s1 σ H1 Q I1 q1
 | false=>exact ⟨.bl false,H1,I1,rfl,q1⟩
theorem xa (ha:PE X a ta) (hb:PE X (.BoolOp .Or (b :: rest) pos) tb):PE X (.BoolOp .Or (a :: b :: rest) pos) (DY ta tb):=by
 intro pins s σ H Q I h
 refine BoolOp_or (thn (ha pins s σ H _ I h) fun v s1 ⟨x,H1,I1,r1,q1⟩=>?_)
 obtain ⟨c,rfl,q1⟩:=q1
 cases r1
 refine wpAny_truthy_bool ?_
 cases c with
 | false=>exact hb pins s1 σ H1 Q I1 q1
 | true=>exact ⟨.bl true,H1,I1,rfl,q1⟩
theorem kQ (ha:PE X a ta):PE X (.UnaryOp .Not a pos) (wZ ta):=by
 intro pins s σ H Q I h
 refine UnaryOp_ (thn (ha pins s σ H _ I h) fun v s1 ⟨x,H1,I1,r1,q1⟩=>?_)
 obtain ⟨c,rfl,q1⟩:=q1
 cases r1
 exact not_of (wpAny_truthy_bool ⟨.bl (!c),H1,I1,rfl,q1⟩)
def tIf (t:TT) (ta tb:TE):TE:=fun σ H Q=>t σ H fun c H1=>if c=true then ta σ H1 Q else tb σ H1 Q
theorem gs {c:Expr} (hc:PT X c tA) (ha:PE X a ta) (hb:PE X b tb):PE X (.IfExp c a b pos) (tIf tA ta tb):=by
 intro pins s σ H Q I h
 refine wpAny_IfExp (thn (hc pins s σ H _ I h) fun d s1 ⟨H1,I1,q1⟩=>?_)
 cases d with
 | true=>exact ha pins s1 σ H1 Q I1 q1
 | false=>exact hb pins s1 σ H1 Q I1 q1
end
end L2
namespace L2
open PySem PySem.Spec PyProof.Rows
def SqL (K:PySem.W.Frag) (H:Hp) (a:Addr) (xs:List V):Prop :=
 Rd H a (.lst xs) ∨
  ∃ (o:Obj) (its:Array Value) (n:Nat),K.lookup a=some o∧o.cls=.type "list" ∧ o.dict=none∧o.data=.seq its n∧its.size≤sizeLine∧Vals xs its.toList
def SqT (K:PySem.W.Frag) (H:Hp) (a:Addr) (xs:List V):Prop :=
 Rd H a (.tup xs) ∨
  ∃ (o:Obj) (its:Array Value) (n:Nat),K.lookup a=some o∧o.cls=.type "tuple" ∧ o.data=.seq its n∧its.size≤sizeLine∧Vals xs its.toList
def DZ:Value→Option V
 | .none=>some .non
 | .bool b=>some (.bl b)
 | .int i _=>some (.int i)
 | .str x _=>some (.str x)
 | .bytes b _=>some (.byt b)
 | .float b _=>some (.flt b)
 | .ref a=>some (.ref a)
 | .type n=>some (.ty n)
 | _=>none
theorem RelV.abs {x:V} {u:Value} (r:RelV x u):DZ u=some x:=by
 cases x with
 | non=>cases r; rfl
 | bl _=>cases r; rfl
 | int _=>obtain ⟨t,rfl⟩:=r; rfl
 | str _=>obtain ⟨t,rfl⟩:=r; rfl
 | byt _=>obtain ⟨t,rfl⟩:=r; rfl
 | flt _=>obtain ⟨t,rfl⟩:=r; rfl
 | ref _=>cases r; rfl
 | ty _=>cases r; rfl
theorem RelV.inj {x y:V} {u:Value} (r:RelV x u) (q:RelV y u):x=y:=Option.some.inj (r.abs.symm.trans q.abs)
theorem Vals.inj:∀ {xs ys:List V} {us:List Value},Vals xs us→Vals ys us→xs=ys
 | _,_,_,.nil,.nil=>rfl
 | _,_,_,.cons r t,.cons r' t'=>by rw [r.inj r',Vals.inj t t']
section
variable {X:Cx} {pins:List (Addr×Obj)} {σ:St} {H:Hp} {s:Shared} {a:Addr} {xs ys:List V}
theorem SqL.of {K:PySem.W.Frag} (h:H a=some (.lst xs)):SqL K H a xs:=.inl (.inl h)
theorem SqT.of {K:PySem.W.Frag} (h:H a=some (.tup xs)):SqT K H a xs:=.inl (.inl h)
theorem Inv.list (I:Inv X pins σ H s) (h:SqL X.K H a xs):∃its:List Value,Vals xs its∧PlainL s.heap a its.toArray∧xs.length≤sizeLine:=by
 rcases h with h | ⟨o,its,n,hk,hc,hd,hs,hz,r⟩
 ·obtain ⟨z,its,n,r,e⟩:=h.ok I.hok
  exact ⟨its,r,⟨_,n,e,rfl,rfl,rfl⟩,z⟩
 ·refine ⟨its.toList,r,⟨o,n,I.kIn a o hk,hc,hd,by simpa using hs⟩,?_⟩
  have e:=r.length
  simp only [Array.length_toList] at e
  omega
theorem Inv.tuple (I:Inv X pins σ H s) (h:SqT X.K H a xs):∃its:List Value,Vals xs its∧IsTup s.heap a its.toArray∧xs.length≤sizeLine:=by
 rcases h with h | ⟨o,its,n,hk,hc,hs,hz,r⟩
 ·obtain ⟨z,its,r,p⟩:=h.ok I.hok
  exact ⟨its,r,p,z⟩
 ·refine ⟨its.toList,r,⟨o,I.kIn a o hk,hc,n,by simpa using hs⟩,?_⟩
  have e:=r.length
  simp only [Array.length_toList] at e
  omega
theorem Inv.list_inj (I:Inv X pins σ H s) (h:SqL X.K H a xs) (h':SqL X.K H a ys):xs=ys:=by
 obtain ⟨its,r,⟨o,n,e,_,_,d⟩,_⟩:=I.list h
 obtain ⟨its',r',⟨o',n',e',_,_,d'⟩,_⟩:=I.list h'
 rw [e] at e'; cases e'
 rw [d] at d'
 injection d' with d1 _
 have:its=its':=by simpa using congrArg Array.toList d1
 subst this
 exact r.inj r'
theorem Inv.tuple_inj (I:Inv X pins σ H s) (h:SqT X.K H a xs) (h':SqT X.K H a ys):xs=ys:=by
 obtain ⟨its,r,⟨o,e,_,n,d⟩,_⟩:=I.tuple h
 obtain ⟨its',r',⟨o',e',_,n',d'⟩,_⟩:=I.tuple h'
 rw [e] at e'; cases e'
 rw [d] at d'
 injection d' with d1 _
 have:its=its':=by simpa using congrArg Array.toList d1
 subst this
 exact r.inj r'
end
abbrev Cx.wish (X:Cx) (E:Value→Shared→Prop):Cx:={ X with xe:=E }
abbrev Cx.nox (X:Cx):Cx:=X.wish fun _ _=>False
theorem Cx.Ok.wish {X:Cx} (ok:X.Ok) (E:Value→Shared→Prop):(X.wish E).Ok :=
 ⟨ok.mod,ok.kind,ok.glob,ok.blt,ok.above,ok.inj,ok.has,ok.cab,ok.hd,ok.frames,ok.stk,ok.exf,ok.bs,ok.bsz,ok.noex,ok.exfs,ok.funs,ok.frf⟩
theorem Cx.Ok.unwish {X:Cx} {E:Value→Shared→Prop} (ok:(X.wish E).Ok):X.Ok :=
 ⟨ok.mod,ok.kind,ok.glob,ok.blt,ok.above,ok.inj,ok.has,ok.cab,ok.hd,ok.frames,ok.stk,ok.exf,ok.bs,ok.bsz,ok.noex,ok.exfs,ok.funs,ok.frf⟩
section
variable {X:Cx} {pins:List (Addr×Obj)} {σ:St} {H:Hp} {s:Shared} {E:Value→Shared→Prop}
theorem Inv.wish (I:Inv X pins σ H s) (E:Value→Shared→Prop):Inv (X.wish E) pins σ H s:=⟨I.ok.wish E,I.os,I.bare,I.base,I.loc,I.cell,I.free,I.freeC,I.pin,I.hok,I.len⟩
theorem Inv.unwish (I:Inv (X.wish E) pins σ H s):Inv X pins σ H s:=⟨I.ok.unwish,I.os,I.bare,I.base,I.loc,I.cell,I.free,I.freeC,I.pin,I.hok,I.len⟩
theorem SP.unwish {D:Ends} {f:Flow} {s':Shared} (h:SP (X.wish E) pins D f s'):SP X pins D f s':=by
 cases f with
 | next=>obtain ⟨σ',H',I,q⟩:=h; exact ⟨σ',H',I.unwish,q⟩
 | brk=>obtain ⟨σ',H',I,q⟩:=h; exact ⟨σ',H',I.unwish,q⟩
 | cont=>obtain ⟨σ',H',I,q⟩:=h; exact ⟨σ',H',I.unwish,q⟩
 | ret u=>obtain ⟨v,σ',H',I,r,q⟩:=h; exact ⟨v,σ',H',I.unwish,r,q⟩
theorem PSs.nox {st:List Stmt} {t:TS} (h:PSs X.nox st t):PSs X st t:=fun pins s σ H D I hw =>
 wpAny_mono (h pins s σ H D (I.wish _) hw) (fun _ _ q=>q.unwish) fun _ _ z=>False.elim z
end
section
variable {X:Cx} {st:Stmt} {rest:List Stmt} {t u:TS} {e:Expr} {te:TE} {pos:Pos}
def xb:TS:=fun D σ H=>D.nx σ H
def xc (t u:TS):TS:=fun D σ H=>t { D with nx:=u D } σ H
theorem au:PSs X [] xb:=fun _ _ σ H _ I h=>wpAny_execs_nil ⟨σ,H,I,h⟩
theorem ae (h1:PS X st t) (h2:PSs X rest u):PSs X (st :: rest) (xc t u):=by
 intro pins s σ H D I h
 refine wpAny_execs_cons (thn (h1 pins s σ H { D with nx:=u D } I h) fun f s1 q=>?_)
 cases f with
 | next =>
  obtain ⟨σ',H',I',q⟩:=q
  exact h2 pins s1 σ' H' D I' q
 | ret v=>exact q
 | brk=>exact q
 | cont=>exact q
theorem ag (h1:PS X st t):PSs X [st] t:=by
 intro pins s σ H D I h
 refine wpAny_execs_cons (thn (h1 pins s σ H D I h) fun f s1 q=>?_)
 cases f with
 | next=>exact wpAny_execs_nil q
 | ret v=>exact q
 | brk=>exact q
 | cont=>exact q
theorem Inv.quiet {pins:List (Addr×Obj)} {σ:St} {H:Hp} {s:Shared} (I:Inv X pins σ H s):interactive X.env=false:=by simp [interactive,I.ok.kind]
def xf (te:TE):TS:=fun D σ H=>te σ H fun _ H1=>D.nx σ H1
theorem bG (he:PE X e te) (hs:swapsWith e none pos.line X.env=pure false:=by rfl):PS X (.Expr e pos) (xf te):=by
 intro pins s σ H D I h
 exact wpAny_Expr_any (thn (he pins s σ H _ I h) fun v s1 ⟨x,H1,I1,r1,q1⟩=>⟨σ,H1,I1,q1⟩) I.quiet hs
def Ea (te:TE):TS:=fun D σ H=>te σ H D.rt
theorem aq (he:PE X e te):PS X (.Return (some e) pos) (Ea te):=by
 intro pins s σ H D I h
 exact wpAny_Return_some (thn (he pins s σ H _ I h) fun v s1 ⟨x,H1,I1,r1,q1⟩=>⟨x,σ,H1,I1,r1,q1⟩)
def Eb (c:TT) (t u:TS):TS:=fun D σ H=>c σ H fun b H1=>if b=true then t D σ H1 else u D σ H1
theorem aH {c:Expr} {a b:List Stmt} {tc:TT} (hc:PT X c tc) (ha:PSs X a t) (hb:PSs X b u):PS X (.If c a b pos) (Eb tc t u):=by
 intro pins s σ H D I h
 refine wpAny_If (thn (hc pins s σ H _ I h) fun d s1 ⟨H1,I1,q1⟩=>?_)
 cases d with
 | true=>exact ha pins s1 σ H1 D I1 q1
 | false=>exact hb pins s1 σ H1 D I1 q1
def qh:TS:=fun _ _ _=>False
theorem eD:PS X st qh:=fun _ _ _ _ _ _ h=>h.elim
theorem fE {sts:List Stmt}:PSs X sts qh:=fun _ _ _ _ _ _ h=>h.elim
end
abbrev TG:=V→St→Hp→(St→Hp→Prop)→Prop
abbrev TGs:=List V→St→Hp→(St→Hp→Prop)→Prop
def PG (X:Cx) (target:Expr) (t:TG):Prop :=
 ∀ (pins:List (Addr×Obj)) (s:Shared) (σ:St) (H:Hp) (v:V) (u:Value) (Q:St→Hp→Prop),Inv X pins σ H s→RelV v u→t v σ H Q →
  wpAny (model X.prog X.w) X.A (assign target X.env u) (fun _ s'=>∃σ' H',Inv X pins σ' H' s'∧Q σ' H') X.xe s
def PGs (X:Cx) (ts:List Expr) (t:TGs):Prop :=
 ∀ (pins:List (Addr×Obj)) (s:Shared) (σ:St) (H:Hp) (vs:List V) (us:List Value) (Q:St→Hp→Prop),Inv X pins σ H s→Vals vs us→t vs σ H Q →
  wpAny (model X.prog X.w) X.A (assignInOrder ((assignEach ts X.env).map (·.2)) us) (fun _ s'=>∃σ' H',Inv X pins σ' H' s'∧Q σ' H') X.xe s
abbrev qi:=V→V→V→Hp→(Hp→Prop)→Prop
def uF (X:Cx) (t:qi):Prop :=
 ∀ (pins:List (Addr×Obj)) (s:Shared) (σ:St) (H:Hp) (o i v:V) (ov iv u:Value) (Q:Hp→Prop),Inv X pins σ H s→RelV o ov→RelV i iv→RelV v u→t o i v H Q →
  wpAny (model X.prog X.w) X.A (setItem ov iv u) (fun _ s'=>∃H',Inv X pins σ H' s'∧Q H') X.xe s
abbrev TIp:=V→V→Hp→VK→Prop
def PIp (X:Cx) (op:Operator) (t:TIp):Prop :=
 ∀ (pins:List (Addr×Obj)) (s:Shared) (σ:St) (H:Hp) (x y:V) (v u:Value) (Q:VK),Inv X pins σ H s→RelV x v→RelV y u→t x y H Q →
  wpAny (model X.prog X.w) X.A (inplaceOp op v u) (EP X pins σ Q) X.xe s
section
variable {X:Cx} {pos:Pos}
def fQ (i:Nat):TG:=fun v σ H Q=>Q (σ.set i (some v)) H
theorem ai {i:Nat} {x:Str} (hN:X.N.Nodup) (hi:X.N[i]? = some x) (hx:Loc X.env.scope x) (hf:X.fn x=true∨X.env.scope.names.lookup x=some .local:=by first | exact .inl rfl | exact .inr rfl | assumption):PG X (.Name x pos) (fQ i):=by
 intro pins s σ H v u Q I r h
 exact wpAny_assign_Name (eC I hN hi hx r (fun s' I'=>⟨_,H,I',h⟩) hf)
def uG:TGs:=fun vs σ H Q=>vs=[]∧Q σ H
def ip (t:TG) (u:TGs):TGs:=fun vs σ H Q=>∃v r,vs=v :: r∧t v σ H fun σ' H'=>u r σ' H' Q
theorem aK:PGs X [] uG:=by
 intro pins s σ H vs us Q I r h
 obtain ⟨e,h⟩:=h
 subst e
 cases r
 exact assignInOrder_nil ⟨σ,H,I,h⟩
theorem ah {e:Expr} {es:List Expr} {t:TG} {u:TGs} (h1:PG X e t) (h2:PGs X es u)
  (hs:(assignEach (e :: es) X.env).map (·.2)=assign e X.env :: (assignEach es X.env).map (·.2):=by rfl):PGs X (e :: es) (ip t u):=by
 intro pins s σ H vs us Q I r h
 obtain ⟨v,vr,e1,h⟩:=h
 subst e1
 cases r with
 | cons r rr =>
  rw [hs]
  refine assignInOrder_cons (thn (h1 pins s σ H _ _ _ I r h) fun _ s1 ⟨σ1,H1,I1,q1⟩=>?_)
  exact h2 pins s1 σ1 H1 _ _ Q I1 rr q1
def uH (K:PySem.W.Frag) (n:Nat) (t:TGs):TG:=fun v σ H Q=>∃a xs,v=.ref a∧SqT K H a xs∧xs.length=n∧t xs σ H Q
theorem aU {es:List Expr} {k:Nat} {t:TGs} {n:Nat} (hc:X.calm=true) (h:PGs X es t)
  (hn:(assignEach es X.env).length=n:=by rfl) (hst:(assignEach es X.env).findIdx? (·.1)=none:=by rfl):PG X (.Tuple es k pos) (uH X.K n t):=by
 intro pins s σ H v u Q I r hw
 obtain ⟨a,xs,e1,hq,hl,hw⟩:=hw
 subst e1
 cases r
 obtain ⟨its,rv,ht,hz⟩:=I.tuple hq
 refine assign_Tuple_tuple (I.ok.hd hc) ht (by simp [hn,← hl,rv.length]) hst fun h' hx=>?_
 have I1:Inv X pins σ H { s with heap:=h' }:=I.kept (t':=s.toks) fun b o e=>hx b o (Nat.ne_of_lt (Heap.lt_size e)) e
 exact h pins _ σ H xs _ Q I1 (by simpa using rv) hw
def Ec (to ti:TE) (t:qi):TG:=fun v σ H Q=>to σ H fun o H1=>ti σ H1 fun i H2=>t o i v H2 fun H3=>Q σ H3
theorem qj {o i:Expr} {to ti:TE} {t:qi} (ho:PE X o to) (hi:PE X i ti) (hs:uF X t)
  (ha:∀v,assign (.Subscript o i pos) X.env v=(do
   let ov←holding [v] (eval o X.env)
   let iv←holding [v,ov] (eval i X.env)
   standAt pos
   holding [v,ov,iv] (setItem ov iv v)
   release [v,ov,iv] []):=by intro _; rfl):PG X (.Subscript o i pos) (Ec to ti t):=by
 intro pins s σ H v u Q I r h
 rw [ha]
 refine wpAny_bind (wpAny_holding (thn (ho pins s σ H _ I h) fun ov s1 ⟨x,H1,I1,r1,q1⟩=>?_))
 refine wpAny_bind (wpAny_holding (thn (hi pins s1 σ H1 _ I1 q1) fun iv s2 ⟨y,H2,I2,r2,q2⟩=>?_))
 refine wpAny_bind (wpAny_standAt (wpAny_bind (wpAny_holding (thn (hs pins s2 σ H2 x y v ov iv u _ I2 r1 r2 r q2) fun _ s3 ⟨H3,I3,q3⟩=>?_))))
 exact wpAny_release ⟨σ,H3,I3,q3⟩
def uI (te:TE) (g:TG):TS:=fun D σ H=>te σ H fun x H1=>g x σ H1 D.nx
theorem bi {tg e:Expr} {te:TE} {g:TG} (he:PE X e te) (hg:PG X tg g) (hs:swapsWithSole [tg] e pos.line X.env=pure false:=by rfl) (hw:swappedStores [tg] e X.env=pure none:=by rfl)
  (h1:(assignEach [tg] X.env).map (·.2)=[assign tg X.env]:=by rfl):PS X (.Assign [tg] e pos) (uI te g):=by
 intro pins s σ H D I h
 refine wpAny_Assign_stores (thn (he pins s σ H _ I h) fun v s1 ⟨x,H1,I1,r1,q1⟩=>?_) hs hw
 rw [h1]
 exact thn (hg pins s1 σ H1 x v _ I1 r1 q1) fun _ s2 q=>q
theorem aG {i:Nat} {x:Str} {e:Expr} {te:TE} {pos':Pos} (hN:X.N.Nodup) (hi:X.N[i]? = some x) (hx:Loc X.env.scope x) (he:PE X e te) (hs:swapsWith e (some (.Name x pos')) pos.line X.env=pure false:=by rfl) (hf:X.fn x=true∨X.env.scope.names.lookup x=some .local:=by first | exact .inl rfl | exact .inr rfl | assumption) :
  PS X (.Assign [.Name x pos'] e pos) (uI te (fQ i)):=by
 intro pins s σ H D I h
 refine wpAny_Assign_Name (thn (he pins s σ H _ I h) fun v s1 ⟨y,H1,I1,r1,q1⟩=>?_) hs
 exact eC I1 hN hi hx r1 (fun s2 I2=>⟨_,H1,I2,q1⟩) hf
def Ed (i j:Nat) (ta:TA):TS:=fun D σ H=>ta σ H fun vs H1=>∃v w,vs=[v,w]∧D.nx ((σ.set i (some v)).set j (some w)) H1
theorem fF {i j:Nat} {x y:Str} {a b:Expr} {ta:TA} {px py pt:Pos} {kt k2 pt2} (hc:X.calm=true) (hN:X.N.Nodup) (hi:X.N[i]? = some x) (hj:X.N[j]? = some y) (hij:i≠j)
  (hx:X.env.scope.names.lookup x=some .local) (hy:X.env.scope.names.lookup y=some .local) (ha:PA X [a,b] ta)
  (hw:swappedStores [.Tuple [.Name x px,.Name y py] kt pt] (.Tuple [a,b] k2 pt2) X.env=pure (some [x,y]))
  (hs:swapsWithSole [.Tuple [.Name x px,.Name y py] kt pt] (.Tuple [a,b] k2 pt2) pos.line X.env=pure false:=by rfl) :
  PS X (.Assign [.Tuple [.Name x px,.Name y py] kt pt] (.Tuple [a,b] k2 pt2) pos) (Ed i j ta):=by
 intro pins s σ H D I h
 rw [exec_Assign_arm]
 refine wpAny_bind (wpAny_standAt ?_)
 rw [hs]
 refine wpAny_bind (wpAny_pure ?_)
 rw [if_neg (by decide)]
 refine wpAny_bind (Tuple_ (thn (ha _ pins s σ H _ I h) fun us s1 ⟨vs,H1,I1,r1,q1⟩=>?_))
 obtain ⟨v,w,e1,q1⟩:=q1
 subst e1
 obtain ⟨u1,u2,rfl,rv,rw'⟩:∃u1 u2,us=[u1,u2]∧RelV v u1∧RelV w u2:=by
  cases r1 with
  | cons p q =>
   cases q with
   | cons p' q' =>
    cases q'
    exact ⟨_,_,rfl,p,p'⟩
 refine wpAny_newObj_type ?_ (by show 2≤sizeLine; decide)
 have I2:Inv X pins σ H1 { s1 with heap:=s1.heap.push { cls:=.type "tuple", data:=.seq [u1, u2].toArray } }:=I1.kept (t':=s1.toks) fun b o e=>Heap.get?_push_of_some _ e
 rw [hw]
 refine wpAny_bind (wpAny_pure ?_)
 show wpAny (model X.prog X.w) X.A (do rule "assign.swapped-stores"; let items←unpackItems (.ref s1.heap.objs.size) 2 none; assignInOrder [fun v=>bindName X.env y v,fun v=>bindName X.env x v] items.reverse; pure Flow.next) _ _ _
 refine wpAny_bind (wpAny_rule (wpAny_bind (unpackItems_tuple (items:=#[u1,u2]) (I.ok.hd hc) (IsTup.new s1.heap _) fun h' hx'=>?_)))
 have I3:=I2.kept (h':=h') (t':=s1.toks) fun b o e=>hx' b o (Nat.ne_of_lt (Heap.lt_size e)) e
 show wpAny _ _ (assignInOrder [fun v=>bindName X.env y v,fun v=>bindName X.env x v] [u2,u1] >>= fun _=>pure Flow.next) _ _ _
 refine wpAny_bind (assignInOrder_cons (wpAny_bindName (eC I3 hN hj (.inl hy) rw' (fun s2 I4=>?_) (.inr hy))))
 refine assignInOrder_cons (wpAny_bindName (eC I4 hN hi (.inl hx) rv (fun s3 I5=>assignInOrder_nil (wpAny_pure ?_)) (.inr hx)))
 rw [List.set_comm _ _ (Ne.symm hij)] at I5
 exact ⟨_,H1,I5,q1⟩
def xg (to ti te:TE) (tget:V→V→Hp→VK→Prop) (tip:TIp) (tset:qi):TS:=fun D σ H=>to σ H fun o H1=>ti σ H1 fun i H2=>tget o i H2 fun x H3=>te σ H3 fun y H4=>tip x y H4 fun z H5=>tset o i z H5 fun H6=>D.nx σ H6
def xh (X:Cx) (t:V→V→Hp→VK→Prop):Prop :=
 ∀ (pins:List (Addr×Obj)) (s:Shared) (σ:St) (H:Hp) (o i:V) (ov iv:Value) (Q:VK),Inv X pins σ H s→RelV o ov→RelV i iv→t o i H Q →
  wpAny (model X.prog X.w) X.A (getItem ov iv) (EP X pins σ Q) X.xe s
theorem sG {o i e:Expr} {to ti te:TE} {tget:V→V→Hp→VK→Prop} {tip:TIp} {tset:qi} {op:Operator} {tpos:Pos} (ho:PE X o to) (hi:PE X i ti) (hg:xh X tget) (he:PE X e te) (hp:PIp X op tip) (hs:uF X tset)
  (ha:∀ov iv new,augStore i ov iv new=(do holding [new,ov,iv] (setItem ov iv new); release [new,ov,iv] []; pure .next):=by intros; rfl):PS X (.AugAssign (.Subscript o i tpos) op e pos) (xg to ti te tget tip tset):=by
 intro pins s σ H D I h
 refine wpAny_AugAssign_SubscriptAny (thn (ho pins s σ H _ I h) fun ov s1 ⟨x1,H1,I1,r1,q1⟩=>?_) ha
 refine thn (hi pins s1 σ H1 _ I1 q1) fun iv s2 ⟨x2,H2,I2,r2,q2⟩=>?_
 refine thn (hg pins s2 σ H2 x1 x2 ov iv _ I2 r1 r2 q2) fun old s3 ⟨x3,H3,I3,r3,q3⟩=>?_
 refine thn (he pins s3 σ H3 _ I3 q3) fun v s4 ⟨x4,H4,I4,r4,q4⟩=>?_
 refine thn (hp pins s4 σ H4 x3 x4 old v _ I4 r3 r4 q4) fun new s5 ⟨x5,H5,I5,r5,q5⟩=>?_
 exact thn (hs pins s5 σ H5 x1 x2 x5 ov iv new _ I5 r1 r2 r5 q5) fun _ s6 ⟨H6,I6,q6⟩=>⟨σ,H6,I6,q6⟩
def ipI (f:Int→Int→Int):TIp:=fun x y H Q=>∃i j,x=.int i∧y=.int j∧Q (.int (f i j)) H
theorem uJ:PIp X .Add (ipI fun i j=>i + j):=by
 intro pins s σ H x y v u Q I r1 r2 h
 obtain ⟨i,j,e1,e2,q⟩:=h
 subst e1; subst e2
 obtain ⟨t,rfl⟩:=r1
 obtain ⟨t',rfl⟩:=r2
 exact iadd_int ⟨.int _,H,I.tok _,⟨_,rfl⟩,q⟩
end
section
variable {X:Cx} {pos:Pos}
def uK (c:TT) (tb:TS):TS:=fun D σ H=>∃W:Nat→St→Hp→Prop,(∃m,W m σ H)∧∀m σ H,W m σ H →
 c σ H fun b H1=>if b=true then ∃N:St→Hp→Prop,(∀σ' H',N σ' H'→∃m',m' < m∧W m' σ' H')∧tb { D with nx:=N,ct:=N,bk:=D.nx } σ H1 else D.nx σ H1
theorem jA {c:Expr} {body:List Stmt} {tc:TT} {tb:TS} (hp:PassesOwn (model X.prog X.w) X.A X.env X.xe) (hc:PT X c tc) (hb:PSs X body tb):PS X (.While c body [] pos) (uK tc tb):=by
 intro pins s σ H D I h
 obtain ⟨W,⟨m0,w0⟩,turn⟩:=h
 refine wpAny_While (codeAny_whileLoop (fun n s'=>∃σ' H',Inv X pins σ' H' s'∧W n σ' H') ?_ m0 ⟨σ,H,I,w0⟩)
 rintro n s1 ⟨σ1,H1,I1,w1⟩
 refine wpAny_passesOwn hp (thn (hc pins s1 σ1 H1 _ I1 (turn n σ1 H1 w1)) fun b s2 ⟨H2,I2,q2⟩=>?_)
 cases b with
 | true =>
  obtain ⟨N,hN,q2⟩:=q2
  rw [if_pos rfl]
  refine wpAny_passesOwn hp (thn (hb pins s2 σ1 H2 _ I2 q2) fun f s3 q3=>?_)
  cases f with
  | next =>
   obtain ⟨σ3,H3,I3,n3⟩:=q3
   obtain ⟨m',hm,w3⟩:=hN σ3 H3 n3
   exact ⟨m',hm,σ3,H3,I3,w3⟩
  | cont =>
   obtain ⟨σ3,H3,I3,n3⟩:=q3
   obtain ⟨m',hm,w3⟩:=hN σ3 H3 n3
   exact ⟨m',hm,σ3,H3,I3,w3⟩
  | brk=>exact q3
  | ret v=>exact q3
 | false =>
  rw [if_neg Bool.false_ne_true]
  exact wpAny_execs_nil ⟨σ1,H2,I2,q2⟩
end
structure It where
 go:Nat→Hp→Prop
 yld:Nat→Hp→V→Hp→Prop
 stop:Nat→Hp→Prop
def dU (X:Cx) (pins:List (Addr×Obj)) (H:Hp) (b:Addr):Prop :=
 H b=none∧b≠X.env.locals∧b∉X.fs∧(b∈X.ex∨X.s₀.heap.objs.size≤b)∧(∀x c,X.env.cells.lookup x=some c→c≠b)∧∀p∈X.pn ++ pins,p.1≠b
theorem Inv.fpOk {X:Cx} {pins:List (Addr×Obj)} {σ:St} {H H':Hp} {s:Shared} {b:Addr} (I:Inv X pins σ H s) (hb:s.heap.objs.size≤b) (hn:H' b=none):dU X pins H' b:=by
 refine ⟨hn,Nat.ne_of_gt (Nat.lt_of_lt_of_le I.lt hb),I.nofs hb,.inr (Nat.le_trans I.sz hb),fun x c e z=>?_,fun p hp z=>?_⟩
 ·obtain ⟨v,q⟩:=I.cell x c e
  exact absurd (Nat.lt_of_lt_of_le q.lt (by rw [z]; exact hb)) (Nat.lt_irrefl _)
 ·exact absurd (Nat.lt_of_lt_of_le (Heap.lt_size (I.pin p hp).1) (by rw [z]; exact hb)) (Nat.lt_irrefl _)
structure Turn (P:Program) (w:World) (K:PySem.W.Frag) (tg:Expr) (J:It) (fp:List Addr) (it:Addr) (tn:Nat→Heap→Prop):Prop where
 mem:it∈fp
 obj:∀i h,tn i h→∀b∈fp,∃o,h.get? b=some o∧∀v,o.data≠.cell v
 keep:∀i h h',tn i h→(∀b∈fp,∀o,h.get? b=some o→h'.get? b=some o)→tn i h'
 item:∀ (X:Cx),X.prog=P→X.w=w→X.K=K→X.calm=true→∀ (i:Nat) (pins:List (Addr×Obj)) (s:Shared) (σ:St) (H:Hp) (E:Value→Shared→Prop),Inv X pins σ H s→(∀b∈fp,dU X pins H b)→tn i s.heap→J.go i H →
  wpAny (model P w) X.A (pyNext (.ref it)) (fun r s1=>∃u,r=some u ∧
   wpAny (model P w) X.A (letOwnedTupleGo tg (.ref it) u) (fun _ s2=>∃x H',Inv X pins σ H' s2∧RelV x u∧J.yld i H x H'∧tn (i + 1) s2.heap∧∀b∈fp,H' b=none) E s1) E s
 done:∀ (X:Cx),X.prog=P→X.w=w→X.K=K→X.calm=true→∀ (i:Nat) (pins:List (Addr×Obj)) (s:Shared) (σ:St) (H:Hp) (E:Value→Shared→Prop),Inv X pins σ H s→(∀b∈fp,dU X pins H b)→tn i s.heap→J.stop i H →
  wpAny (model P w) X.A (pyNext (.ref it)) (fun r s1=>r=none∧Inv X pins σ H s1) E s
 self:∀ (A:Around) (i:Nat) (s:Shared) (Q:Value→Shared→Prop) (E:Value→Shared→Prop),tn i s.heap→Q (.ref it) s→wpAny (model P w) A (pyIter (.ref it)) Q E s
abbrev TI:=St→Hp→(It→Hp→Prop)→Prop
def PIE (X:Cx) (pins:List (Addr×Obj)) (σ:St) (tg:Expr) (R:It→Hp→Prop) (itv:Value) (s2:Shared):Prop :=
 ∃ (it:Addr) (fp:List Addr) (tn:Nat→Heap→Prop) (J:It) (H':Hp),itv=.ref it∧Inv X pins σ H' s2∧Turn X.prog X.w X.K tg J fp it tn∧tn 0 s2.heap∧(∀b∈fp,dU X pins H' b)∧R J H'
def PI (X:Cx) (tg iter:Expr) (wi:TI):Prop :=
 ∀ (pins:List (Addr×Obj)) (s:Shared) (σ:St) (H:Hp) (R:It→Hp→Prop),Inv X pins σ H s→wi σ H R →
  wpAny (model X.prog X.w) X.A (eval iter X.env) (fun v s1=>wpAny (model X.prog X.w) X.A (pyIter v) (PIE X pins σ tg R) X.xe s1) X.xe s
theorem qk {M:Model} {A:Around} {E:Value→Shared→Prop} {s:Shared} {tg:Expr} {it:Addr} {u:Value} {o:Obj} {n:String} {vs:Array Value} {Q:Unit→Shared→Prop} (ho:s.heap.get? it=some o) (hc:o.cls=.type n) (hd:o.data=.fields vs)
    (hn:["enumerate","zip","dict_itemiterator","dict_reverseitemiterator","odict_iterator","itertools.zip_longest","itertools.pairwise"].contains n=false) (hQ:Q () s):wpAny M A (letOwnedTupleGo tg (.ref it) u) Q E s:=by
  unfold letOwnedTupleGo
  cases tg <;> first
    | exact wpAny_pure hQ
    | (cases u <;> first
        | exact wpAny_pure hQ
        | (refine wpAny_bind (wpAny_load ho ?_)
           rw [hc,hd]
           show wpAny M A (if (["enumerate","zip","dict_itemiterator","dict_reverseitemiterator","odict_iterator","itertools.zip_longest","itertools.pairwise"].contains n && vs[0]? == some (rawInt _))=true then _ else _) Q E s
           rw [if_neg (by intro h; rw [hn,Bool.false_and] at h; cases h)]
           exact wpAny_pure hQ))
def Itl (K:PySem.W.Frag) (a:Addr):It :=
 ⟨fun i H=>∃xs x,SqL K H a xs∧xs[i]? = some x,fun i H x H'=>H'=H∧∀xs,SqL K H a xs→xs[i]? = some x,fun i H=>∃xs,SqL K H a xs∧xs.length≤i⟩
def Itt (K:PySem.W.Frag) (a:Addr):It :=
 ⟨fun i H=>∃xs x,SqT K H a xs∧xs[i]? = some x,fun i H x H'=>H'=H∧∀xs,SqT K H a xs→xs[i]? = some x,fun i H=>∃xs,SqT K H a xs∧xs.length≤i⟩
def Itr (lo:Int) (n:Nat):It:=⟨fun i _=>i < n,fun i H x H'=>H'=H∧x=.int (lo + i),fun i _=>n≤i⟩
theorem nA {P:Program} {w:World} {K:PySem.W.Frag} {tg:Expr} (a it:Addr):Turn P w K tg (Itl K a) [it] it (fun i h=>h.IsListIter it a i) where
 mem:=by simp
 obj:=fun i h st b hb=>by
  have e:b=it:=by simpa using hb
  subst e
  obtain ⟨o,e,c,d⟩:=st
  exact ⟨o,e,fun v z=>by rw [d] at z; cases z⟩
 keep:=fun i h h' st k=>st.at fun o e=>k it (by simp) o e
 item:=by
  intro X hP hw hK hc i pins s σ H E I hf st hg
  subst hP hw hK
  obtain ⟨xs,x,hq,hx⟩:=hg
  obtain ⟨its,rv,p,hz⟩:=I.list hq
  obtain ⟨u,hu,ru⟩:=rv.get hx
  obtain ⟨f0,f1,f2,f3,f4,f5⟩:=hf it (by simp)
  refine wpAny_pyNext_list_item st p.isList (x:=u) (by simpa using hu) fun h' st' sb=>?_
  have I1:Inv X pins σ H { s with heap:=h' }:=I.turned (t':=s.toks) (fun b o hb e=>(sb.2 b hb).trans e) f0 f1 f3 f4 f5
  obtain ⟨o,e,c,d⟩:=id st'
  exact ⟨u,rfl,qk (s:={ s with heap:=h' }) e c d (by decide) ⟨x,H,I1,ru,⟨rfl,fun ys hy=>by rw [I.list_inj hy hq]; exact hx⟩,st',fun b hb=>(hf b hb).1⟩⟩
 done:=by
  intro X hP hw hK hc i pins s σ H E I hf st hg
  subst hP hw hK
  obtain ⟨xs,hq,hx⟩:=hg
  obtain ⟨its,rv,p,hz⟩:=I.list hq
  obtain ⟨f0,f1,f2,f3,f4,f5⟩:=hf it (by simp)
  have hl:=rv.length
  exact wpAny_pyNext_list_end (I.ok.hd hc) st p.isList (by simp; omega) fun h' eb=>⟨rfl,I.turned (t':=s.toks) (fun b o hb e=>eb b o hb e) f0 f1 f3 f4 f5⟩
 self:=fun _ _ _ _ _ st h=>wpAny_pyIter_listiter st h
theorem kR {P:Program} {w:World} {K:PySem.W.Frag} {tg:Expr} (a it:Addr):Turn P w K tg (Itt K a) [it] it (fun i h=>h.IsTupleIter it a i) where
 mem:=by simp
 obj:=fun i h st b hb=>by
  have e:b=it:=by simpa using hb
  subst e
  obtain ⟨o,e,c,d⟩:=st
  exact ⟨o,e,fun v z=>by rw [d] at z; cases z⟩
 keep:=fun i h h' st k=>st.at fun o e=>k it (by simp) o e
 item:=by
  intro X hP hw hK hc i pins s σ H E I hf st hg
  subst hP hw hK
  obtain ⟨xs,x,hq,hx⟩:=hg
  obtain ⟨its,rv,p,hz⟩:=I.tuple hq
  obtain ⟨u,hu,ru⟩:=rv.get hx
  obtain ⟨f0,f1,f2,f3,f4,f5⟩:=hf it (by simp)
  refine wpAny_pyNext_tuple_item st (show s.heap.IsTuple a its.toArray from p) (x:=u) (by simpa using hu) fun h' st' sb=>?_
  have I1:Inv X pins σ H { s with heap:=h' }:=I.turned (t':=s.toks) (fun b o hb e=>(sb.2 b hb).trans e) f0 f1 f3 f4 f5
  obtain ⟨o,e,c,d⟩:=id st'
  exact ⟨u,rfl,qk (s:={ s with heap:=h' }) e c d (by decide) ⟨x,H,I1,ru,⟨rfl,fun ys hy=>by rw [I.tuple_inj hy hq]; exact hx⟩,st',fun b hb=>(hf b hb).1⟩⟩
 done:=by
  intro X hP hw hK hc i pins s σ H E I hf st hg
  subst hP hw hK
  obtain ⟨xs,hq,hx⟩:=hg
  obtain ⟨its,rv,p,hz⟩:=I.tuple hq
  obtain ⟨f0,f1,f2,f3,f4,f5⟩:=hf it (by simp)
  have hl:=rv.length
  exact wpAny_pyNext_tuple_end (I.ok.hd hc) st (show s.heap.IsTuple a its.toArray from p) (by simp; omega) fun h' eb=>⟨rfl,I.turned (t':=s.toks) (fun b o hb e=>eb b o hb e) f0 f1 f3 f4 f5⟩
 self:=fun _ _ _ _ _ st h=>wpAny_pyIter_tupleiter st h
theorem gt {P:Program} {w:World} {K:PySem.W.Frag} {tg:Expr} (it:Addr) (lo:Int) (n:Nat):Turn P w K tg (Itr lo n) [it] it (fun i h=>IsRangeIter h it (lo + (i:Nat) * 1) ((n:Int) - (i:Nat)) 1) where
 mem:=by simp
 obj:=fun i h st b hb=>by
  have e:b=it:=by simpa using hb
  subst e
  exact ⟨_,st,fun v z=>by
   have z':Data.fields _=Data.cell v:=z
   cases z'⟩
 keep:=fun i h h' st k=>k it (by simp) _ st
 item:=by
  intro X hP hw hK hc i pins s σ H E I hf st hg
  subst hP hw hK
  obtain ⟨f0,f1,f2,f3,f4,f5⟩:=hf it (by simp)
  have W:=Walks.range (prog:=X.prog) (w:=X.w) (I.ok.hd hc) it lo 1 n
  refine W.item i s _ _ hg st fun v h' tk hv st' kk=>?_
  obtain ⟨t,rfl⟩:=hv
  have I1:Inv X pins σ H { s with heap:=h',toks:=tk }:=I.turned (fun b o hb e=>kk b o (by simpa using hb) e) f0 f1 f3 f4 f5
  refine ⟨_, rfl, qk (s:={ s with heap:=h', toks:=tk }) (n := "range_iterator") st' rfl rfl (by decide) ⟨.int (lo + i), H, I1, ⟨t, ?_⟩, ⟨rfl, rfl⟩, st', fun b hb=>(hf b hb).1⟩⟩
  rw [Int.mul_one]
 done:=by
  intro X hP hw hK hc i pins s σ H E I hf st hg
  subst hP hw hK
  obtain ⟨f0,f1,f2,f3,f4,f5⟩:=hf it (by simp)
  exact wpAny_pyNext_range_end (I.ok.hd hc) st (by have:n≤i:=hg; omega) fun h' eb=>⟨rfl,I.turned (t':=s.toks) (fun b o hb e=>eb b o hb e) f0 f1 f3 f4 f5⟩
 self:=fun _ _ _ _ _ st h=>wpAny_pyIter_rangeiter st h
end L2
namespace L2
open PySem PySem.Spec PyProof.Rows
section
variable {X:Cx} {tg:Expr}
def uk (K:PySem.W.Frag) (tl:TE):TI:=fun σ H R=>tl σ H fun x H1=>∃a,x=.ref a∧(∃xs,SqL K H1 a xs)∧R (Itl K a) H1
def xi (K:PySem.W.Frag) (tl:TE):TI:=fun σ H R=>tl σ H fun x H1=>∃a,x=.ref a∧(∃xs,SqT K H1 a xs)∧R (Itt K a) H1
theorem bJ {l:Expr} {tl:TE} (hl:PE X l tl):PI X tg l (uk X.K tl):=by
 intro pins s σ H R I h
 refine thn (hl pins s σ H _ I h) fun v s1 ⟨x,H1,I1,r1,q1⟩=>?_
 obtain ⟨a,e,⟨xs,hq⟩,q⟩:=q1
 subst e
 cases r1
 obtain ⟨its,rv,p,hz⟩:=I1.list hq
 refine wpAny_pyIter_list p.isList ?_
 refine ⟨s1.heap.objs.size,[s1.heap.objs.size],_,_,H1,rfl,I1.kept (t':=s1.toks) fun b o e=>Heap.get?_push_of_some _ e,nA a _,⟨_,Heap.get?_push_size _ rfl,rfl,rfl⟩,fun b hb=>?_,q⟩
 have e:b=s1.heap.objs.size:=by simpa using hb
 subst e
 exact I1.fpOk (Nat.le_refl _) (I1.hok.fresh (Nat.le_refl _))
theorem kS {l:Expr} {tl:TE} (hl:PE X l tl):PI X tg l (xi X.K tl):=by
 intro pins s σ H R I h
 refine thn (hl pins s σ H _ I h) fun v s1 ⟨x,H1,I1,r1,q1⟩=>?_
 obtain ⟨a,e,⟨xs,hq⟩,q⟩:=q1
 subst e
 cases r1
 obtain ⟨its,rv,p,hz⟩:=I1.tuple hq
 refine wpAny_pyIter_tuple (show s1.heap.IsTuple a its.toArray from p) ?_
 refine ⟨s1.heap.objs.size,[s1.heap.objs.size],_,_,H1,rfl,I1.kept (t':=s1.toks) fun b o e=>Heap.get?_push_of_some _ e,kR a _,⟨_,Heap.get?_push_size _ rfl,rfl,rfl⟩,fun b hb=>?_,q⟩
 have e:b=s1.heap.objs.size:=by simpa using hb
 subst e
 exact I1.fpOk (Nat.le_refl _) (I1.hok.fresh (Nat.le_refl _))
theorem gu {pins:List (Addr×Obj)} {σ:St} {H:Hp} {s:Shared} {R:It→Hp→Prop} {E:Value→Shared→Prop} {lo hi:Int} {t u v:Tok} {tk:Nat} (I:Inv X pins σ H s) (h1:-(2 ^ 62)≤lo) (h2:lo < 2 ^ 62) (h3:-(2 ^ 62)≤hi) (h4:hi < 2 ^ 62)
  (q:R (Itr lo (hi - lo).toNat) H):wpAny (model X.prog X.w) X.A (pyIter (.ref s.heap.objs.size)) (PIE X pins σ tg R) E { s with heap:=s.heap.push { cls:=.type "range",data:=.fields #[.int lo t,.int hi u,.int 1 v] },toks:=tk }:=by
 refine wpAny_pyIter_range (IsRange.new ..) (small_one h1 h2 h3 h4) ?_
 have I1:Inv X pins σ H { s with heap:=s.heap.push { cls:=.type "range",data:=.fields #[.int lo t,.int hi u,.int 1 v] },toks:=tk }:=I.kept fun b o e=>Heap.get?_push_of_some _ e
 refine ⟨(s.heap.push { cls:=.type "range",data:=.fields #[.int lo t,.int hi u,.int 1 v] }).objs.size,[(s.heap.push { cls:=.type "range",data:=.fields #[.int lo t,.int hi u,.int 1 v] }).objs.size],_,_,H,rfl,
  I1.kept (t':=tk) fun b o e=>Heap.get?_push_of_some _ e,gt _ lo (hi - lo).toNat,?_,fun b hb=>?_,q⟩
 ·have e1:lo + ((0:Nat):Int) * 1=lo:=by simp
  have e2:(((hi - lo).toNat:Nat):Int) - ((0:Nat):Int)=Builtin.Range.rangeSize lo hi 1:=by rw [rangeSize_one]; split <;> omega
  show IsRangeIter _ _ (lo + ((0:Nat):Int) * 1) ((((hi - lo).toNat:Nat):Int) - ((0:Nat):Int)) 1
  rw [e1,e2]
  exact Heap.get?_push_size _ rfl
 ·have e:b=(s.heap.push { cls:=.type "range",data:=.fields #[.int lo t,.int hi u,.int 1 v] }).objs.size:=by simpa using hb
  subst e
  exact I1.fpOk (Nat.le_refl _) (I1.hok.fresh (Nat.le_refl _))
def xj (ta:TA):TI:=fun σ H R=>ta σ H fun vs H1=>∃j:Int,vs=[.int j]∧-(2 ^ 62)≤j∧j < 2 ^ 62∧R (Itr 0 j.toNat) H1
def xk (ta:TA):TI:=fun σ H R=>ta σ H fun vs H1=>∃i j:Int,vs=[.int i,.int j]∧(-(2 ^ 62)≤i∧i < 2 ^ 62∧-(2 ^ 62)≤j∧j < 2 ^ 62)∧R (Itr i (j - i).toNat) H1
theorem iq {a:Expr} {ta:TA} {p pos:Pos} (hg:Gl X "range") (hm:X.mg "range" = none) (ha:PA X [a] ta) (hs:starEach [a] X.env=[(false,eval a X.env)]:=by rfl):PI X tg (.Call (.Name "range" p) [a] [] pos) (xj ta):=by
 intro pins s σ H R I h
 refine Call_ (dC I hg hm boot_range (PyProof.Rows.callWith_type1 (thn (ha pos pins s σ H _ I h) fun us s1 ⟨vs,H1,I1,r1,q1⟩=>?_) hs rfl))
 obtain ⟨j,e,q1,q2,q⟩:=q1
 subst e
 cases r1 with
 | cons r rr =>
  cases rr
  obtain ⟨t,rfl⟩:=r
  exact call_range_1 (gu I1 (by omega) (by omega) q1 q2 (by simpa using q))
theorem ir {a b:Expr} {ta:TA} {p pos:Pos} (hg:Gl X "range") (hm:X.mg "range" = none) (ha:PA X [a,b] ta) (hs:starEach [a,b] X.env=[(false,eval a X.env),(false,eval b X.env)]:=by rfl) (hs2:starEach [b] X.env=[(false,eval b X.env)]:=by rfl) :
  PI X tg (.Call (.Name "range" p) [a,b] [] pos) (xk ta):=by
 intro pins s σ H R I h
 refine Call_ (dC I hg hm boot_range (PyProof.Rows.callWith_type1 (thn (ha pos pins s σ H _ I h) fun us s1 ⟨vs,H1,I1,r1,q1⟩=>?_) (by rw [hs,hs2]) (by rw [hs2]; rfl)))
 obtain ⟨i,j,e,⟨q1,q2,q3,q4⟩,q⟩:=q1
 subst e
 cases r1 with
 | cons r rr =>
  cases rr with
  | cons r' rr =>
   cases rr
   obtain ⟨t,rfl⟩:=r
   obtain ⟨t',rfl⟩:=r'
   exact call_range_2 (gu I1 q1 q2 q3 q4 q)
def xl (wi:TI) (g:TG) (tb:TS):TS:=fun D σ H=>wi σ H fun J H1=>∃W:Nat→Nat→St→Hp→Prop,(∃m,W 0 m σ H1)∧∀i m σ H,W i m σ H →
 (J.stop i H∧D.nx σ H)∨(J.go i H∧∃N:St→Hp→Prop,(∀σ' H',N σ' H'→∃m',m' < m∧W (i + 1) m' σ' H')∧∀x H',J.yld i H x H'→g x σ H' fun σ2 H2=>tb { D with nx:=N,ct:=N,bk:=D.nx } σ2 H2)
def gv (fp:List Addr) (h:Heap):List (Addr×Obj):=fp.filterMap fun b=>(h.get? b).map fun o=>(b,o)
theorem aN {fp:List Addr} {h:Heap} {b:Addr} {o:Obj} (hb:b∈fp) (e:h.get? b=some o):(b,o)∈gv fp h:=List.mem_filterMap.mpr ⟨b,hb,by rw [e]; rfl⟩
theorem iu {fp:List Addr} {h:Heap} {p:Addr×Obj} (hp:p∈gv fp h):p.1∈fp∧h.get? p.1=some p.2:=by
 obtain ⟨b,hb,e⟩:=List.mem_filterMap.mp hp
 cases q:h.get? b with
 | none=>rw [q] at e; cases e
 | some o =>
  rw [q] at e
  have e':(b,o)=p:=Option.some.inj e
  subst e'
  exact ⟨hb,q⟩
theorem Inv.pinned {pins:List (Addr×Obj)} {σ:St} {H:Hp} {s:Shared} {fp:List Addr} (I:Inv X pins σ H s) (hf:∀b∈fp,dU X pins H b) (ho:∀b∈fp,∃o,s.heap.get? b=some o∧∀v,o.data≠.cell v):Inv X (pins ++ gv fp s.heap) σ H s :=
 I.pins_of fun p hp=>(List.mem_append.mp hp).elim (fun z=>I.pin p (List.mem_append_right _ z)) fun z=>by
  obtain ⟨hb,e⟩:=iu z
  obtain ⟨f0,f1,f2,_⟩:=hf p.1 hb
  obtain ⟨o,e',d⟩:=ho p.1 hb
  rw [e] at e'; cases e'
  exact ⟨e,f0,f1,f2,d⟩
theorem Inv.unpinned {pins pl:List (Addr×Obj)} {σ:St} {H:Hp} {s:Shared} (I:Inv X (pins ++ pl) σ H s):Inv X pins σ H s:=I.pins_of fun p hp=>I.pin p (List.mem_append_right _ (List.mem_append_left _ hp))
theorem cz {iter:Expr} {body:List Stmt} {wi:TI} {g:TG} {tb:TS} {pos:Pos} (hp:PassesOwn (model X.prog X.w) X.A X.env X.xe) (hc:X.calm=true) (hi:PI X tg iter wi) (hg:PG X tg g) (hb:PSs X body tb)
  (hs:∀x,foldedSetIterable iter X.env x=pure x:=by intro _; rfl):PS X (.For tg iter body [] pos) (xl wi g tb):=by
 intro pins s σ H D I h
 refine wpAny_For (thn (hi pins s σ H _ I h) fun v s1 h1=>thn h1 fun itv s2 h2=>?_) hs
 obtain ⟨it,fp,tn,J,H2,e,I2,T,st2,f2,W,⟨m0,w0⟩,turn⟩:=h2
 subst e
 have stat:∀ {H':Hp},(∀b∈fp,H' b=none)→∀b∈fp,dU X pins H' b:=fun hn b hb=>⟨hn b hb,(f2 b hb).2⟩
 refine codeAny_forLoop_any (fun n s'=>∃i σ' H',Inv X pins σ' H' s'∧tn i s'.heap∧(∀b∈fp,H' b=none)∧W i n σ' H') ?_ m0 ⟨0,σ,H2,I2,st2,fun b hb=>(f2 b hb).1,w0⟩
 rintro n s3 ⟨i,σ3,H3,I3,st3,fr3,w3⟩
 rcases turn i n σ3 H3 w3 with ⟨stop,qn⟩ | ⟨go,N,hN,step⟩
 ·refine wpAny_passesOwn hp (thn (T.done X rfl rfl rfl hc i pins s3 σ3 H3 X.xe I3 (stat fr3) st3 stop) fun r s4 ⟨hr,I4⟩=>?_)
  subst hr
  exact wpAny_execs_nil ⟨σ3,H3,I4,qn⟩
 ·refine wpAny_passesOwn hp (thn (T.item X rfl rfl rfl hc i pins s3 σ3 H3 X.xe I3 (stat fr3) st3 go) fun r s4 ⟨u,hr,h4⟩=>?_)
  subst hr
  refine wpAny_passesOwn hp (thn h4 fun _ s5 ⟨x,H5,I5,r5,y5,st5,fr5⟩=>?_)
  have I5':=I5.pinned (stat fr5) (T.obj _ _ st5)
  refine wpAny_passesOwn hp (thn (hg _ s5 σ3 H5 x u _ I5' r5 (step x H5 y5)) fun _ s6 ⟨σ6,H6,I6,q6⟩=>?_)
  refine wpAny_passesOwn hp (thn (hb _ s6 σ6 H6 _ I6 q6) fun f s7 q7=>?_)
  have again:∀ {σ7:St} {H7:Hp},Inv X (pins ++ gv fp s5.heap) σ7 H7 s7→N σ7 H7→∃m,m < n∧∃i σ' H',Inv X pins σ' H' s7∧tn i s7.heap∧(∀b∈fp,H' b=none)∧W i m σ' H':=fun {σ7 H7} I7 n7=>by
   obtain ⟨m',hm,w7⟩:=hN σ7 H7 n7
   refine ⟨m',hm,i + 1,σ7,H7,I7.unpinned,T.keep _ _ _ st5 fun b hb o e=>(I7.pin (b,o) (List.mem_append_right _ (List.mem_append_right _ (aN hb e)))).1,fun b hb=>?_,w7⟩
   obtain ⟨o,e,d⟩:=T.obj _ _ st5 b hb
   exact (I7.pin (b,o) (List.mem_append_right _ (List.mem_append_right _ (aN hb e)))).2.1
  cases f with
  | next=>obtain ⟨σ7,H7,I7,n7⟩:=q7; exact again I7 n7
  | cont=>obtain ⟨σ7,H7,I7,n7⟩:=q7; exact again I7 n7
  | brk=>obtain ⟨σ7,H7,I7,q7⟩:=q7; exact ⟨σ7,H7,I7.unpinned,q7⟩
  | ret v=>obtain ⟨x7,σ7,H7,I7,r7,q7⟩:=q7; exact ⟨x7,σ7,H7,I7.unpinned,r7,q7⟩
end
theorem cA {K:PySem.W.Frag} {a:Addr} {xs:List V} {g:TG} {tb:TS} {D:Ends} {σ:St} {H:Hp} (Pv:Nat→St→Hp→Prop) (h0:Pv 0 σ H) (hl:∀i σ H,i≤xs.length→Pv i σ H→SqL K H a xs)
  (hs:∀i x σ H,xs[i]? = some x→Pv i σ H→g x σ H fun σ2 H2=>tb { D with nx:=Pv (i + 1),ct:=Pv (i + 1),bk:=D.nx } σ2 H2) (hd:∀σ H,Pv xs.length σ H→D.nx σ H) :
  ∃W:Nat→Nat→St→Hp→Prop,(∃m,W 0 m σ H)∧∀i m σ H,W i m σ H →
   ((Itl K a).stop i H∧D.nx σ H)∨((Itl K a).go i H∧∃N:St→Hp→Prop,(∀σ' H',N σ' H'→∃m',m' < m∧W (i + 1) m' σ' H')∧∀x H',(Itl K a).yld i H x H'→g x σ H' fun σ2 H2=>tb { D with nx:=N,ct:=N,bk:=D.nx } σ2 H2):=by
 refine ⟨fun i m σ H=>m=xs.length - i∧i≤xs.length∧Pv i σ H,⟨xs.length,by simp,Nat.zero_le _,h0⟩,?_⟩
 rintro i m σ H ⟨rfl,hi,p⟩
 have q:=hl i σ H hi p
 by_cases hlt:i < xs.length
 ·refine .inr ⟨⟨xs,xs[i],q,by simp [hlt]⟩,Pv (i + 1),fun σ' H' p'=>⟨xs.length - (i + 1),by omega,rfl,hlt,p'⟩,fun x H' y=>?_⟩
  obtain ⟨e,y⟩:=y
  subst e
  exact hs i x σ _ (y xs q) p
 ·have e:i=xs.length:=by omega
  subst e
  exact .inl ⟨⟨xs,q,Nat.le_refl _⟩,hd σ H p⟩
theorem mt {K:PySem.W.Frag} {a:Addr} {xs:List V} {g:TG} {tb:TS} {D:Ends} {σ:St} {H:Hp} (Pv:Nat→St→Hp→Prop) (h0:Pv 0 σ H) (hl:∀i σ H,i≤xs.length→Pv i σ H→SqT K H a xs)
  (hs:∀i x σ H,xs[i]? = some x→Pv i σ H→g x σ H fun σ2 H2=>tb { D with nx:=Pv (i + 1),ct:=Pv (i + 1),bk:=D.nx } σ2 H2) (hd:∀σ H,Pv xs.length σ H→D.nx σ H) :
  ∃W:Nat→Nat→St→Hp→Prop,(∃m,W 0 m σ H)∧∀i m σ H,W i m σ H →
   ((Itt K a).stop i H∧D.nx σ H)∨((Itt K a).go i H∧∃N:St→Hp→Prop,(∀σ' H',N σ' H'→∃m',m' < m∧W (i + 1) m' σ' H')∧∀x H',(Itt K a).yld i H x H'→g x σ H' fun σ2 H2=>tb { D with nx:=N,ct:=N,bk:=D.nx } σ2 H2):=by
 refine ⟨fun i m σ H=>m=xs.length - i∧i≤xs.length∧Pv i σ H,⟨xs.length,by simp,Nat.zero_le _,h0⟩,?_⟩
 rintro i m σ H ⟨rfl,hi,p⟩
 have q:=hl i σ H hi p
 by_cases hlt:i < xs.length
 ·refine .inr ⟨⟨xs,xs[i],q,by simp [hlt]⟩,Pv (i + 1),fun σ' H' p'=>⟨xs.length - (i + 1),by omega,rfl,hlt,p'⟩,fun x H' y=>?_⟩
  obtain ⟨e,y⟩:=y
  subst e
  exact hs i x σ _ (y xs q) p
 ·have e:i=xs.length:=by omega
  subst e
  exact .inl ⟨⟨xs,q,Nat.le_refl _⟩,hd σ H p⟩
theorem iw {lo:Int} {n:Nat} {g:TG} {tb:TS} {D:Ends} {σ:St} {H:Hp} (Pv:Nat→St→Hp→Prop) (h0:Pv 0 σ H)
  (hs:∀i σ H,i < n→Pv i σ H→g (.int (lo + i)) σ H fun σ2 H2=>tb { D with nx:=Pv (i + 1),ct:=Pv (i + 1),bk:=D.nx } σ2 H2) (hd:∀σ H,Pv n σ H→D.nx σ H) :
  ∃W:Nat→Nat→St→Hp→Prop,(∃m,W 0 m σ H)∧∀i m σ H,W i m σ H →
   ((Itr lo n).stop i H∧D.nx σ H)∨((Itr lo n).go i H∧∃N:St→Hp→Prop,(∀σ' H',N σ' H'→∃m',m' < m∧W (i + 1) m' σ' H')∧∀x H',(Itr lo n).yld i H x H'→g x σ H' fun σ2 H2=>tb { D with nx:=N,ct:=N,bk:=D.nx } σ2 H2):=by
 refine ⟨fun i m σ H=>m=n - i∧i≤n∧Pv i σ H,⟨n,by simp,Nat.zero_le _,h0⟩,?_⟩
 rintro i m σ H ⟨rfl,hi,p⟩
 by_cases hlt:i < n
 ·refine .inr ⟨hlt,Pv (i + 1),fun σ' H' p'=>⟨n - (i + 1),by omega,rfl,hlt,p'⟩,fun x H' y=>?_⟩
  obtain ⟨e,y⟩:=y
  subst e y
  exact hs i σ _ hlt p
 ·have e:i=n:=by omega
  subst e
  exact .inl ⟨Nat.le_refl _,hd σ H p⟩
end L2
namespace L2
open PySem PySem.Spec PyProof.Rows
abbrev R2:=V→V→Hp→VK→Prop
def OpR (X:Cx) (f:Value→Value→Sem Value) (r:R2):Prop :=
 ∀ (pins:List (Addr×Obj)) (s:Shared) (σ:St) (H:Hp) (x y:V) (v u:Value) (Q:VK),Inv X pins σ H s→RelV x v→RelV y u→r x y H Q →
  wpAny (model X.prog X.w) X.A (f v u) (EP X pins σ Q) X.xe s
def UnR (X:Cx) (f:Value→Sem Value) (r:V→Hp→VK→Prop):Prop :=
 ∀ (pins:List (Addr×Obj)) (s:Shared) (σ:St) (H:Hp) (x:V) (v:Value) (Q:VK),Inv X pins σ H s→RelV x v→r x H Q →
  wpAny (model X.prog X.w) X.A (f v) (EP X pins σ Q) X.xe s
def cO (X:Cx) (f:Value) (r:List V→Hp→VK→Prop):Prop :=
 ∀ (pins:List (Addr×Obj)) (s:Shared) (σ:St) (H:Hp) (xs:List V) (us:List Value) (Q:VK),Inv X pins σ H s→Vals xs us→r xs H Q →
  wpAny (model X.prog X.w) X.A (call f us) (EP X pins σ Q) X.xe s
def Ee (X:Cx) (r:V→Hp→(Bool→Hp→Prop)→Prop):Prop :=
 ∀ (pins:List (Addr×Obj)) (s:Shared) (σ:St) (H:Hp) (x:V) (v:Value) (Q:Bool→Hp→Prop),Inv X pins σ H s→RelV x v→r x H Q →
  wpAny (model X.prog X.w) X.A (truthy v) (TP X pins σ Q) X.xe s
def tOp (r:R2) (ta tb:TE):TE:=fun σ H Q=>ta σ H fun x H1=>tb σ H1 fun y H2=>r x y H2 Q
def tUn (r:V→Hp→VK→Prop) (ta:TE):TE:=fun σ H Q=>ta σ H fun x H1=>r x H1 Q
def rI (C:Int→Int→Prop) (g:Int→Int→V):R2:=fun x y H Q=>∃i j,x=.int i∧y=.int j∧C i j∧Q (g i j) H
def rI0 (g:Int→Int→V):R2:=fun x y H Q=>∃i j,x=.int i∧y=.int j∧Q (g i j) H
def rU (g:Int→V):V→Hp→VK→Prop:=fun x H Q=>∃i,x=.int i∧Q (g i) H
section
variable {X:Cx} {a b c:Expr} {ta tb tc:TE} {pos:Pos}
theorem uL (ha:PE X a ta) (hb:PE X b tb) {pins:List (Addr×Obj)} {s:Shared} {σ:St} {H:Hp} {R:V→V→Hp→Prop} (I:Inv X pins σ H s)
  (h:ta σ H fun x H1=>tb σ H1 fun y H2=>R x y H2) {Q:Value→Shared→Prop} {f:Value→Value→Sem Value}
  (hf:∀v u s2 x y H2,Inv X pins σ H2 s2→RelV x v→RelV y u→R x y H2→wpAny (model X.prog X.w) X.A (f v u) Q X.xe s2) :
  wpAny (model X.prog X.w) X.A (eval a X.env) (fun v s₁=>wpAny (model X.prog X.w) X.A (eval b X.env) (fun u s₂=>wpAny (model X.prog X.w) X.A (f v u) Q X.xe s₂) X.xe s₁) X.xe s:=by
 refine thn (ha pins s σ H _ I h) fun v s1 ⟨x,H1,I1,r1,q1⟩=>?_
 refine thn (hb pins s1 σ H1 _ I1 q1) fun u s2 ⟨y,H2,I2,r2,q2⟩=>?_
 exact hf v u s2 x y H2 I2 r1 r2 q2
theorem aD {op:Operator} {r:R2} (ho:OpR X (binaryOp op) r) (ha:PE X a ta) (hb:PE X b tb):PE X (.BinOp a op b pos) (tOp r ta tb):=by
 intro pins s σ H Q I h
 exact wpAny_BinOp (uL ha hb I h fun v u s2 x y H2 I2 rx ry q=>ho pins s2 σ H2 x y v u Q I2 rx ry q)
theorem fR {op:UnaryOp} {r:V→Hp→VK→Prop} (ho:UnR X (unaryOp op) r) (ha:PE X a ta):PE X (.UnaryOp op a pos) (tUn r ta):=by
 intro pins s σ H Q I h
 exact UnaryOp_ (thn (ha pins s σ H _ I h) fun v s1 ⟨x,H1,I1,r1,q1⟩=>ho pins s1 σ H1 x v Q I1 r1 q1)
theorem opI {f:Value→Value→Sem Value} {C:Int→Int→Prop} {g:Int→Int→Int}
  (rule:∀ (i j:Int) (t u:Tok) (s:Shared) (Q:Value→Shared→Prop) (E:Value→Shared→Prop),C i j→Q (.int (g i j) s.toks) { s with toks:=s.toks + 1 }→wpAny (model X.prog X.w) X.A (f (.int i t) (.int j u)) Q E s) :
  OpR X f (rI C fun i j=>.int (g i j)):=by
 intro pins s σ H x y v u Q I rx ry h
 obtain ⟨i,j,rfl,rfl,hc,q⟩:=h
 obtain ⟨t,rfl⟩:=rx
 obtain ⟨t',rfl⟩:=ry
 exact rule i j t t' s _ _ hc ⟨.int (g i j),H,I.tok _,⟨_,rfl⟩,q⟩
theorem xm {f:Value→Value→Sem Value} {g:Int→Int→Int}
  (rule:∀ (i j:Int) (t u:Tok) (s:Shared) (Q:Value→Shared→Prop) (E:Value→Shared→Prop),Q (.int (g i j) s.toks) { s with toks:=s.toks + 1 }→wpAny (model X.prog X.w) X.A (f (.int i t) (.int j u)) Q E s) :
  OpR X f (rI0 fun i j=>.int (g i j)):=by
 intro pins s σ H x y v u Q I rx ry h
 obtain ⟨i,j,rfl,rfl,q⟩:=h
 obtain ⟨t,rfl⟩:=rx
 obtain ⟨t',rfl⟩:=ry
 exact rule i j t t' s _ _ ⟨.int (g i j),H,I.tok _,⟨_,rfl⟩,q⟩
theorem sH {f:Value→Value→Sem Value} {g:Int→Int→Bool}
  (rule:∀ (i j:Int) (t u:Tok) (s:Shared) (Q:Value→Shared→Prop) (E:Value→Shared→Prop),Q (.bool (g i j)) s→wpAny (model X.prog X.w) X.A (f (.int i t) (.int j u)) Q E s) :
  OpR X f (rI0 fun i j=>.bl (g i j)):=by
 intro pins s σ H x y v u Q I rx ry h
 obtain ⟨i,j,rfl,rfl,q⟩:=h
 obtain ⟨t,rfl⟩:=rx
 obtain ⟨t',rfl⟩:=ry
 exact rule i j t t' s _ _ ⟨.bl (g i j),H,I,rfl,q⟩
def Ef (i j:Int):Prop:=0≤j∧j≤1000000∧i.natAbs < 2 ^ 64
def CMul (i j:Int):Prop:=(-(2 ^ 64) < i∧i < 2 ^ 64)∨(-(2 ^ 64) < j∧j < 2 ^ 64)
theorem CMul.ok {i j:Int} (h:CMul i j):IntMulOk i j:=by
 rcases h with ⟨h1,h2⟩ | ⟨h1,h2⟩
 ·exact .of_left (intBits_le_64 h1 h2)
 ·exact .of_right (intBits_le_64 h1 h2)
theorem aS:OpR X (binaryOp .Add) (rI0 fun i j=>.int (i + j)):=xm fun _ _ _ _ _ _ _ q=>add_int q
theorem cM:OpR X (binaryOp .Sub) (rI0 fun i j=>.int (i - j)):=xm fun _ _ _ _ _ _ _ q=>sub_int q
theorem iU:OpR X (binaryOp .Mult) (rI CMul fun i j=>.int (i * j)):=opI fun _ _ _ _ _ _ _ hc q=>mul_int q hc.ok
theorem fG:OpR X (binaryOp .Mod) (rI (fun _ j=>0 < j) fun i j=>.int (i % j)):=opI fun i j _ _ _ _ _ hc q=>by
 have h1:(0:Int) < j:=hc
 exact mod_int' (by omega) (by rw [Int.fmod_eq_emod_of_nonneg i (by omega)]; exact q)
theorem iV:OpR X (binaryOp .Pow) (rI Ef fun i j=>.int (i ^ j.toNat)):=opI fun _ _ _ _ _ _ _ hc q=>pow_int_small hc.1 hc.2.1 hc.2.2 q
theorem unI {f:Value→Sem Value} {g:Int→Int}
  (rule:∀ (i:Int) (t:Tok) (s:Shared) (Q:Value→Shared→Prop) (E:Value→Shared→Prop),Q (.int (g i) s.toks) { s with toks:=s.toks + 1 }→wpAny (model X.prog X.w) X.A (f (.int i t)) Q E s) :
  UnR X f (rU fun i=>.int (g i)):=by
 intro pins s σ H x v Q I rx h
 obtain ⟨i,rfl,q⟩:=h
 obtain ⟨t,rfl⟩:=rx
 exact rule i t s _ _ ⟨.int (g i),H,I.tok _,⟨_,rfl⟩,q⟩
theorem dD:UnR X (unaryOp .USub) (rU fun i=>.int (-i)):=unI fun _ _ _ _ _ q=>neg_int q
end
def xn:V→V→Bool
 | .non,.non=>true | .non,.int _=>true | .int _,.non=>true | .non,.bl _=>true | .bl _,.non=>true | .non,.str _=>true | .str _,.non=>true
 | .int _,.int _=>true | .bl _,.bl _=>true | .str _,.str _=>true | .byt _,.byt _=>true
 | .int _,.str _=>true | .str _,.int _=>true | .bl _,.str _=>true | .str _,.bl _=>true
 | _,_=>false
def rEq:R2:=fun x y H Q=>xn x y=true∧Q (.bl (decide (x=y))) H
def rNe:R2:=fun x y H Q=>xn x y=true∧Q (.bl (!decide (x=y))) H
theorem iW {i j:Int}:decide (V.int i=V.int j)=(i == j):=by
 rw [Bool.eq_iff_iff]
 simp
theorem ql {i j:Bool}:decide (V.bl i=V.bl j)=(i == j):=by
 rw [Bool.eq_iff_iff]
 simp
theorem mv {i j:Str}:decide (V.str i=V.str j)=(i == j):=by
 rw [Bool.eq_iff_iff]
 simp
theorem mw {i j:Array UInt8}:decide (V.byt i=V.byt j)=(i.toList == j.toList):=by
 rw [Bool.eq_iff_iff]
 cases i
 cases j
 simp
section
variable {X:Cx} {a b c:Expr} {ta tb tc:TE} {pos:Pos}
theorem aJ {pins:List (Addr×Obj)} {σ:St} {H:Hp} {s:Shared} {Q:VK} {k k':Bool} (I:Inv X pins σ H s) (q:Q (.bl k) H) (e:k=k'):EP X pins σ Q (.bool k') s:=by
 subst e
 exact ⟨.bl k,H,I,rfl,q⟩
theorem cB:OpR X (compareOp .Eq) rEq:=by
 intro pins s σ H x y v u Q I rx ry h
 obtain ⟨hs,q⟩:=h
 cases x with
 | non =>
  cases rx
  cases y with
  | non=>cases ry; exact PySem.EqNone.eq_none_none (aJ I q (by simp))
  | bl j=>cases ry; exact PySem.EqNone.eq_none_bool (aJ I q (by simp))
  | int j=>obtain ⟨t',rfl⟩:=ry; exact PySem.EqNone.eq_none_int (aJ I q (by simp))
  | str j=>obtain ⟨t',rfl⟩:=ry; exact PySem.EqNone.eq_none_str (aJ I q (by simp))
  | _=>exact absurd (show false=true from hs) Bool.false_ne_true
 | bl i =>
  cases rx
  cases y with
  | non=>cases ry; exact PySem.EqNone.eq_bool_none (aJ I q (by simp))
  | bl j=>cases ry; exact eq_bool (aJ I q ql)
  | str j=>obtain ⟨t',rfl⟩:=ry; exact PySem.EqMixed.eq_bool_str (aJ I q (by simp))
  | _=>exact absurd (show false=true from hs) Bool.false_ne_true
 | int i =>
  obtain ⟨t,rfl⟩:=rx
  cases y with
  | non=>cases ry; exact PySem.EqNone.eq_int_none (aJ I q (by simp))
  | int j=>obtain ⟨t',rfl⟩:=ry; exact eq_int (aJ I q iW)
  | str j=>obtain ⟨t',rfl⟩:=ry; exact PySem.EqMixed.eq_int_str (aJ I q (by simp))
  | _=>exact absurd (show false=true from hs) Bool.false_ne_true
 | str i =>
  obtain ⟨t,rfl⟩:=rx
  cases y with
  | non=>cases ry; exact PySem.EqNone.eq_str_none (aJ I q (by simp))
  | bl j=>cases ry; exact PySem.EqMixed.eq_str_bool (aJ I q (by simp))
  | int j=>obtain ⟨t',rfl⟩:=ry; exact PySem.EqMixed.eq_str_int (aJ I q (by simp))
  | str j=>obtain ⟨t',rfl⟩:=ry; exact eq_str (aJ I q mv)
  | _=>exact absurd (show false=true from hs) Bool.false_ne_true
 | byt i =>
  obtain ⟨t,rfl⟩:=rx
  cases y with
  | byt j=>obtain ⟨t',rfl⟩:=ry; exact PySem.W.eq_bytes (aJ I q mw)
  | _=>exact absurd (show false=true from hs) Bool.false_ne_true
 | _=>cases y <;> exact absurd (show false=true from hs) Bool.false_ne_true
theorem eE:OpR X (compareOp .NotEq) rNe:=by
 intro pins s σ H x y v u Q I rx ry h
 obtain ⟨hs,q⟩:=h
 cases x with
 | non =>
  cases rx
  cases y with
  | non=>cases ry; exact PySem.EqNone.ne_none_none (aJ I q (by simp))
  | bl j=>cases ry; exact PySem.EqNone.ne_none_bool (aJ I q (by simp))
  | int j=>obtain ⟨t',rfl⟩:=ry; exact PySem.EqNone.ne_none_int (aJ I q (by simp))
  | str j=>obtain ⟨t',rfl⟩:=ry; exact PySem.EqNone.ne_none_str (aJ I q (by simp))
  | _=>exact absurd (show false=true from hs) Bool.false_ne_true
 | bl i =>
  cases rx
  cases y with
  | non=>cases ry; exact PySem.EqNone.ne_bool_none (aJ I q (by simp))
  | bl j=>cases ry; exact ne_bool (aJ I q (congrArg not ql))
  | str j=>obtain ⟨t',rfl⟩:=ry; exact PySem.EqMixed.ne_bool_str (aJ I q (by simp))
  | _=>exact absurd (show false=true from hs) Bool.false_ne_true
 | int i =>
  obtain ⟨t,rfl⟩:=rx
  cases y with
  | non=>cases ry; exact PySem.EqNone.ne_int_none (aJ I q (by simp))
  | int j=>obtain ⟨t',rfl⟩:=ry; exact ne_int (aJ I q (congrArg not iW))
  | str j=>obtain ⟨t',rfl⟩:=ry; exact PySem.EqMixed.ne_int_str (aJ I q (by simp))
  | _=>exact absurd (show false=true from hs) Bool.false_ne_true
 | str i =>
  obtain ⟨t,rfl⟩:=rx
  cases y with
  | non=>cases ry; exact PySem.EqNone.ne_str_none (aJ I q (by simp))
  | bl j=>cases ry; exact PySem.EqMixed.ne_str_bool (aJ I q (by simp))
  | int j=>obtain ⟨t',rfl⟩:=ry; exact PySem.EqMixed.ne_str_int (aJ I q (by simp))
  | str j=>obtain ⟨t',rfl⟩:=ry; exact ne_str (aJ I q (congrArg not mv))
  | _=>exact absurd (show false=true from hs) Bool.false_ne_true
 | byt i =>
  obtain ⟨t,rfl⟩:=rx
  cases y with
  | byt j=>obtain ⟨t',rfl⟩:=ry; exact PySem.W.ne_bytes (aJ I q (congrArg not mw))
  | _=>exact absurd (show false=true from hs) Bool.false_ne_true
 | _=>cases y <;> exact absurd (show false=true from hs) Bool.false_ne_true
theorem um:OpR X (compareOp .Lt) (rI0 fun i j=>.bl (decide (i < j))):=sH fun _ _ _ _ _ _ _ q=>lt_int q
theorem ix:OpR X (compareOp .LtE) (rI0 fun i j=>.bl (decide (i≤j))):=sH fun _ _ _ _ _ _ _ q=>le_int q
theorem dE:OpR X (compareOp .Gt) (rI0 fun i j=>.bl (decide (j < i))):=sH fun _ _ _ _ _ _ _ q=>gt_int q
theorem jB:OpR X (compareOp .GtE) (rI0 fun i j=>.bl (decide (j≤i))):=sH fun _ _ _ _ _ _ _ q=>ge_int q
theorem aw (b:Expr) {op:CmpOp} (h:op≠.In:=by decide) (h2:op≠.NotIn:=by decide):behindInMarks op b=false:=by
 have e1:(op == CmpOp.In)=false:=by cases op <;> first | rfl | exact absurd rfl h
 have e2:(op == CmpOp.NotIn)=false:=by cases op <;> first | rfl | exact absurd rfl h2
 cases b <;> simp [behindInMarks,e1,e2]
theorem bg {op:CmpOp} {r:R2} (ho:OpR X (compareOp op) r) (ha:PE X a ta) (hb:PE X b tb) (hm:behindInMarks op b=false):PE X (.Compare a [op] [b] pos) (tOp r ta tb):=by
 intro pins s σ H Q I h
 exact wpAny_Compare1 (uL ha hb I h fun v u s2 x y H2 I2 rx ry q=>ho pins s2 σ H2 x y v u Q I2 rx ry q) hm
def uo (t:TE):TT:=fun σ H Q=>t σ H fun x H'=>∃k,x=.bl k∧Q k H'
theorem ax {op:CmpOp} {r:R2} (ho:OpR X (compareOp op) r) (ha:PE X a ta) (hb:PE X b tb) (hm:behindInMarks op b=false):PT X (.Compare a [op] [b] pos) (uo (tOp r ta tb)):=by
 intro pins s σ H Q I h
 refine wpAny_isTrue_Compare1 (thn (ha pins s σ H _ I h) fun v s1 ⟨x,H1,I1,r1,q1⟩=>thn (hb pins s1 σ H1 _ I1 q1) fun u s2 ⟨y,H2,I2,r2,q2⟩ =>
  thn (ho pins s2 σ H2 x y v u _ I2 r1 r2 q2) fun c s3 ⟨z,H3,I3,r3,k,e,q3⟩=>?_) hm
 subst e
 cases r3
 exact wpAny_truthy_bool ⟨H3,I3,q3⟩
def uM (r r':R2) (ta tb tc:TE):TE:=fun σ H Q=>ta σ H fun x H1=>tb σ H1 fun y H2=>r x y H2 fun z H3=>∃k,z=.bl k ∧
 (if k=true then tc σ H3 fun w' H4=>r' y w' H4 Q else Q (.bl false) H3)
theorem qm {op op':CmpOp} {r r':R2} (ho:OpR X (compareOp op) r) (ho':OpR X (compareOp op') r') (ha:PE X a ta) (hb:PE X b tb) (hc:PE X c tc)
  (hm:lastMarks [op,op'] [b,c]=false:=by with_unfolding_all rfl):PT X (.Compare a [op,op'] [b,c] pos) (uo (uM r r' ta tb tc)):=by
 intro pins s σ H Q I h
 refine isTrue_chain (thn (ha pins s σ H _ I h) fun v s1 ⟨x,H1,I1,r1,q1⟩=>test_link (thn (hb pins s1 σ H1 _ I1 q1) fun u s2 ⟨y,H2,I2,r2,q2⟩ =>
  thn (ho pins s2 σ H2 x y v u _ I2 r1 r2 q2) fun d s3 ⟨z,H3,I3,r3,k,e,q3⟩=>?_)) hm
 subst e
 cases r3
 refine wpAny_truthy_bool ?_
 cases k with
 | false =>
  obtain ⟨k',e',q'⟩:=q3
  cases e'
  exact ite_ff ⟨H3,I3,q'⟩
 | true =>
  refine ite_tt (test_last (thn (hc pins s3 σ H3 _ I3 q3) fun w' s4 ⟨z',H4,I4,r4,q4⟩=>thn (ho' pins s4 σ H4 y z' u w' _ I4 r2 r4 q4) fun d' s5 ⟨z2,H5,I5,r5,k2,e2,q5⟩=>?_))
  subst e2
  cases r5
  exact wpAny_truthy_bool ⟨H5,I5,q5⟩
def xo (K:PySem.W.Frag) (x:V) (H:Hp) (k:Bool):Prop :=
 match x with
 | .non=>k=false
 | .bl b=>k=b
 | .int i=>k=(i != 0)
 | .str y=>y.length≤sizeLine∧k=((y.length:Int) != 0)
 | .byt y=>y.size≤sizeLine∧k=((y.size:Int) != 0)
 | .ref p=>(∃xs,SqL K H p xs∧k=!xs.isEmpty)∨(∃xs,SqT K H p xs∧k=!xs.isEmpty)∨∃kvs,H p=some (.dK kvs)∧k=!kvs.isEmpty
 | _=>False
theorem kT {κ:Type} {kvs:List (κ×V)} {vs:List (κ×Value)} (r:KV kvs vs):(!vs.isEmpty)=!kvs.isEmpty:=by
 cases r <;> rfl
theorem gw {xs:List V} {its:List Value} (r:Vals xs its):(!its.toArray.isEmpty)=!xs.isEmpty:=by
 cases r <;> simp
theorem ed:(sizeLine:Nat) < 2 ^ 63:=by rw [sizeLine_eq]; decide
theorem uN:Ee X (fun x H Q=>∃k,xo X.K x H k∧Q k H):=by
 intro pins s σ H x v Q I rx h
 obtain ⟨k,e,q⟩:=h
 have hl:=ed
 have hs:sizeLine=16777216:=sizeLine_eq
 cases x with
 | non =>
  cases rx
  have e':k=false:=e
  subst e'
  exact truthy_none ⟨H,I,q⟩
 | bl b =>
  cases rx
  have e':k=b:=e
  subst e'
  exact wpAny_truthy_bool ⟨H,I,q⟩
 | int i =>
  obtain ⟨t,rfl⟩:=rx
  have e':k=(i != 0):=e
  subst e'
  exact PySem.P.truthy_int ⟨H,I,q⟩
 | str y =>
  obtain ⟨t,rfl⟩:=rx
  obtain ⟨hy,e'⟩:y.length≤sizeLine∧k=((y.length:Int) != 0):=e
  subst e'
  exact PySem.P.truthy_str (by omega) ⟨H,I.tok _,q⟩
 | byt y =>
  obtain ⟨t,rfl⟩:=rx
  obtain ⟨hy,e'⟩:y.size≤sizeLine∧k=((y.size:Int) != 0):=e
  subst e'
  exact PySem.W.truthy_bytes (by omega) ⟨H,I.tok _,q⟩
 | ref p =>
  cases rx
  have e':(∃xs,SqL X.K H p xs∧k=!xs.isEmpty)∨(∃xs,SqT X.K H p xs∧k=!xs.isEmpty)∨∃kvs,H p=some (.dK kvs)∧k=!kvs.isEmpty:=e
  rcases e' with ⟨xs,hx,e'⟩ | ⟨xs,hx,e'⟩ | ⟨kvs,hx,e'⟩
  ·subst e'
   obtain ⟨its,r,pl,hz⟩:=I.list hx
   have hlen:=r.length
   exact wpAny_truthy_list pl.isList (by simp only [List.size_toArray]; omega) ⟨H,I.tok _,by rw [gw r]; exact q⟩
  ·subst e'
   obtain ⟨its,r,pl,hz⟩:=I.tuple hx
   have hlen:=r.length
   exact truthy_tuple pl (by simp only [List.size_toArray]; omega) ⟨H,I.tok _,by rw [gw r]; exact q⟩
  ·subst e'
   obtain ⟨hz,hS,vs,r,m⟩:kvs.length≤sizeLine∧(p == sysModules)=false∧∃vs,KV kvs vs∧s.heap.DictOf (br X.prog X.w) p vs:=I.hok p _ hx
   have hlen:kvs.length=vs.length:=Paired.length r
   exact wpAny_truthy_dict hS m (by omega) ⟨H,I.tok _,by rw [kT r]; exact q⟩
 | _=>exact (show False from e).elim
theorem jC (ha:PE X a ta) (he:∀aQ,isTrue a X.env aQ=(do let v←aQ; standAt a.pos; holding [v] (truthy v))) :
  PT X a (fun σ H Q=>ta σ H fun x H'=>∃k,xo X.K x H' k∧Q k H'):=by
 intro pins s σ H Q I h
 exact isTrue_plain (thn (ha pins s σ H _ I h) fun v s1 ⟨x,H1,I1,r1,q1⟩=>uN pins s1 σ H1 x v Q I1 r1 q1) (he _)
theorem eF {x:V} {us:List Value} (r:Vals [x] us):∃u,us=[u]∧RelV x u:=by
 cases r with
 | cons r1 r2=>cases r2; exact ⟨_,rfl,r1⟩
theorem xq {x y:V} {us:List Value} (r:Vals [x,y] us):∃u w',us=[u,w']∧RelV x u∧RelV y w':=by
 cases r with
 | cons r1 r2 =>
  cases r2 with
  | cons r3 r4=>cases r4; exact ⟨_,_,rfl,r1,r3⟩
theorem qo:cO X (.builtin "abs") (fun xs H Q=>∃i,xs=[.int i]∧Q (.int (if i < 0 then -i else i)) H):=by
 intro pins s σ H xs us Q I r h
 obtain ⟨i,rfl,q⟩:=h
 obtain ⟨u,rfl,t,rfl⟩:=eF r
 exact call_abs_int fun u tk=>⟨.int (if i < 0 then -i else i),H,I.tok _,⟨_,rfl⟩,q⟩
theorem nC (hc:X.calm=true):cO X (.builtin "max") (fun xs H Q=>∃i j,xs=[.int i,.int j]∧Q (.int (if j > i then j else i)) H):=by
 intro pins s σ H xs us Q I r h
 obtain ⟨i,j,rfl,q⟩:=h
 obtain ⟨u,w',rfl,⟨t,rfl⟩,⟨t',rfl⟩⟩:=xq r
 refine max_two_ints (I.ok.hd hc) fun h' tk k=>⟨_,H,I.kept k,?_,q⟩
 by_cases hj:j > i
 ·rw [if_pos hj,if_pos hj]; exact ⟨_,rfl⟩
 ·rw [if_neg hj,if_neg hj]; exact ⟨_,rfl⟩
theorem cP:cO X (.type "int") (fun xs H Q=>(∃i,xs=[.int i]∧Q (.int i) H)∨∃k,xs=[.bl k]∧Q (.int (if k then 1 else 0)) H):=by
 intro pins s σ H xs us Q I r h
 rcases h with ⟨i,rfl,q⟩ | ⟨k,rfl,q⟩
 ·obtain ⟨u,rfl,t,rfl⟩:=eF r
  exact call_int_int ⟨.int i,H,I,⟨_,rfl⟩,q⟩
 ·obtain ⟨u,rfl,r1⟩:=eF r
  cases r1
  exact call_int_bool ⟨.int (if k then 1 else 0),H,I.tok _,⟨_,rfl⟩,q⟩
end
end L2
namespace L2
open PySem PySem.Spec PyProof.Rows
structure ObjM (h:Heap) (x dx C:Addr) (mA:Str→Option Value):Prop where
 obj:h.get? x=some (PySem.W.instObj C dx)
 ns:h.Ns1 dx mA
 ne:dx≠x
theorem nD {h:Heap} {dx:Addr} {mA:Str→Option Value} (n:h.Ns1 dx mA):∃od,h.get? dx=some od∧∀name,PySem.W.lookIn name od=some (mA name):=by
 obtain ⟨o,es,ep,ho,hd,hk,_,hm⟩:=n
 refine ⟨o,ho,fun name=>?_⟩
 have e:=hm name
 unfold nsFind findBy at e
 rw [← Array.find?_toList] at e
 unfold PySem.W.lookIn
 rw [hd]
 dsimp only
 split
 ·rename_i y q
  rw [q] at e
  exact congrArg some e
 ·rename_i q
  rw [q] at e
  have a:es.toList.any (·.refKey)=false:=by
   rw [List.any_eq_false]
   intro y hy
   obtain ⟨z,t,hkey⟩:=hk y (Array.mem_toList_iff.mp hy)
   simp [DictEntry.refKey,hkey]
  have a':¬ es.toList.any (·.refKey)=true:=by rw [a]; exact Bool.false_ne_true
  rw [if_neg a']
  exact congrArg some e
theorem ObjM.look {h:Heap} {x dx C:Addr} {mA:Str→Option Value} (I:ObjM h x dx C mA):∃od,PySem.W.InstAt h x (PySem.W.instObj C dx) C (some od)∧∀name,PySem.W.lookIn name od=some (mA name) :=
 let ⟨od,ho,hl⟩:=nD I.ns
 ⟨od,⟨I.obj,rfl,rfl,ho⟩,hl⟩
section
variable {prog:Program} {w:World} {A:Around} {E:Value→Shared→Prop} {s:Shared} {K:PySem.W.Frag} {x dx C f:Addr} {mA:Str→Option Value} {name:Str} {v:Value}
theorem sI {expr:Bool} {Q:Value→Shared→Prop} (X:K.In s.heap) (I:ObjM s.heap x dx C mA) (hg:PySem.W.plainGet K C name=true) (hh:PySem.W.hasDictIn K C=true)
  (ha:PySem.W.findIn K (.ref C) name=some none) (hv:mA name=some v) (hv':PySem.W.handedIn v=true) (h:Q v { s with toks:=s.toks + 1 }) :
  wpAny (model prog w) A (getAttr (.ref x) name expr) Q E s:=by
 obtain ⟨od,J,hl⟩:=I.look
 exact PySem.W.get_value X J (PySem.W.plainGet_of hg).1 (PySem.W.findObj_own hh ha rfl (by rw [hl,hv])) hv' h
theorem qp {pl:Sem Bool} {Q:Value×List Value→Shared→Prop} (X:K.In s.heap) (I:ObjM s.heap x dx C mA) (hg:PySem.W.plainGet K C name=true)
  (hf:PySem.W.findIn K (.ref C) name=some (some (.ref f))) (ht:PySem.W.isFn K (.ref f)=true) (hv:mA name=none) (h:Q (.ref f,[.ref x]) s) :
  wpAny (model prog w) A (getMethod (.ref x) name pl) Q E s:=by
 obtain ⟨od,J,hl⟩:=I.look
 exact PySem.W.method_fn X J (PySem.W.plainGet_of hg).1 (PySem.W.plainGet_of hg).2 hf (beq_iff_eq.mp ht) (by show (PySem.W.lookIn name od).map (·.isSome)=some false; rw [hl,hv]; rfl) h
theorem sJ {ns:List Str} {Q:Unit→Shared→Prop} (X:K.In s.heap) (I:ObjM s.heap x dx C mA)
  (hs:PySem.W.findIn K (.ref C) "__setattr__" = some (some (.builtin "object.__setattr__"))) (hp:PySem.W.plainOver K C=true) (ht:PySem.W.takerIn K C name=some none) (hh:PySem.W.hasDictIn K C=true)
  (hw:PySem.Within mA ns) (hsz:ns.length≤sizeLine)
  (h:∀h',ObjM h' x dx C (fun y=>if y=name then some v else mA y)→Heap.SameBut dx s.heap h'→Q () { s with heap:=h',toks:=s.toks + 2 }) :
  wpAny (model prog w) A (setAttr (.ref x) name v) Q E s:=by
 obtain ⟨od,J,hl⟩:=I.look
 refine PySem.W.set_plain X J hs (PySem.W.osa_open (s:={ s with toks:=s.toks + 1 }) (r:=none) X J hp ht fun b=>?_)
 obtain ⟨cd,hc,hd'⟩:=PySem.W.any_some hh
 have hx:s.heap.get? x=some ⟨.ref C,some dx,.plain,#[]⟩:=I.obj
 refine wpAny_bind (wpAny_pure (wpAny_bind (wpAny_bind (wpAny_loadPart hx (wpAny_bind (PySem.W.Looks.here (s:={ s with toks:=s.toks + 1 }) (PySem.W.looks_clsIn X hc) ?_))))))
 rw [hd']
 refine wpAny_pure (a:=some dx) (wpAny_bind (wpAny_pure (wpAny_bind ?_)))
 refine wpAny_nsSet1 (s:={ s with toks:=s.toks + 1 }) I.ns fun h' hn2 hs2=>?_
 obtain ⟨oD,esD,epD,hoD,hdD,hcD⟩:=hn2.count (PySem.Within.cons name v hw)
 refine wpAny_bind (wpAny_lookBehind hoD (by rw [hdD]; exact pastItsLine_dict (Nat.le_trans hcD (by rw [List.length_cons]; omega))) ?_)
 exact wpAny_pure (h _ ⟨(hs2.2 _ (Ne.symm I.ne)).trans I.obj,hn2,I.ne⟩ hs2)
theorem qr {R:Result→Shared→Prop} {vs:List Value} {kw:List (Str×Value)} (X:K.In s.heap) (hm:PySem.W.makesIn K C=true)
  (hi:PySem.W.findIn K (.ref C) "__init__" = some (some (.ref f))) (hf:PySem.W.typeIn K (.ref f)=some (.type "function"))
  (h:codeAny (model prog w) (A.under (.builtin "type.__call__" ⟨.ref C :: vs,kw⟩)) (.call (.ref f) ⟨.ref (s.heap.objs.size + 1) :: vs,kw⟩) (PySem.W.InitBack (s.heap.objs.size + 1) R)
   { s with heap:=(s.heap.push PySem.W.emptyDict).push (PySem.W.instObj C s.heap.objs.size) }) :
  codeAny (model prog w) A (.call (.ref C) ⟨vs,kw⟩) R s:=by
 obtain ⟨hh,g,d,t,os⟩:=s
 exact PySem.W.make_core (PySem.W.makes_of X hm) (PySem.W.looks_findIn X hi) (fun self=>PySem.W.bind_fn X self hf) (.inl rfl) h
end
def cI (f:Str) (v:V):List (Str×V)→List (Str×V)
 | []=>[(f,v)]
 | (g,x) :: r=>if g=f then (g,v) :: r else (g,x) :: cI f v r
theorem bt (f g:Str) (v:V):∀fs:List (Str×V),(cI f v fs).lookup g=if g=f then some v else fs.lookup g
 | []=>by
  show List.lookup g [(f,v)]=_
  by_cases h:g=f
  ·have hb:(g == f)=true:=beq_iff_eq.mpr h
   simp only [List.lookup,hb,if_pos h]
  ·have hb:(g == f)=false:=beq_eq_false_iff_ne.mpr h
   simp only [List.lookup,hb,if_neg h]
 | (k,x) :: r=>by
  have ih:=bt f g v r
  rw [show cI f v ((k,x) :: r)=(if k=f then (k,v) :: r else (k,x) :: cI f v r) from rfl]
  by_cases hk:k=f
  ·rw [if_pos hk]
   by_cases h:g=k
   ·have hb:(g == k)=true:=beq_iff_eq.mpr h
    simp only [List.lookup,hb,if_pos (h.trans hk)]
   ·have hb:(g == k)=false:=beq_eq_false_iff_ne.mpr h
    simp only [List.lookup,hb,if_neg (fun e:g=f=>h (e.trans hk.symm))]
  ·rw [if_neg hk]
   by_cases h:g=k
   ·have hb:(g == k)=true:=beq_iff_eq.mpr h
    simp only [List.lookup,hb,if_neg (fun e:g=f=>hk (h.symm.trans e))]
   ·have hb:(g == k)=false:=beq_eq_false_iff_ne.mpr h
    simp only [List.lookup,hb]
    exact ih
theorem fH (f:Str) (v:V):∀fs:List (Str×V),f∈(cI f v fs).map (·.1)∧∀g,g∈fs.map (·.1)→g∈(cI f v fs).map (·.1)
 | []=>⟨by simp [cI],fun g h=>by simp at h⟩
 | (k,x) :: r=>by
  obtain ⟨i1,i2⟩:=fH f v r
  rw [show cI f v ((k,x) :: r)=(if k=f then (k,v) :: r else (k,x) :: cI f v r) from rfl]
  by_cases hk:k=f
  ·rw [if_pos hk]
   subst hk
   exact ⟨by simp,fun g h=>by simpa using h⟩
  ·rw [if_neg hk]
   refine ⟨?_,fun g h=>?_⟩
   ·rw [List.map_cons]
    exact List.mem_cons_of_mem _ i1
   ·rw [List.map_cons] at h ⊢
    rcases List.mem_cons.mp h with e | e
    ·exact List.mem_cons.mpr (.inl e)
    ·exact List.mem_cons_of_mem _ (i2 g e)
theorem dF (f:Str) (v:V):∀fs:List (Str×V),(cI f v fs).length≤fs.length + 1
 | []=>by simp [cI]
 | (k,x) :: r=>by
  have ih:=dF f v r
  rw [show cI f v ((k,x) :: r)=(if k=f then (k,v) :: r else (k,x) :: cI f v r) from rfl]
  by_cases hk:k=f
  ·rw [if_pos hk,List.length_cons,List.length_cons]; omega
  ·rw [if_neg hk,List.length_cons,List.length_cons]; omega
theorem RelO.some_of {v:V} {o:Option Value} (r:RelO (some v) o):∃u,o=some u∧RelV v u:=by
 cases o with
 | none=>exact (show False from r).elim
 | some u=>exact ⟨u,rfl,r⟩
theorem RelO.none_of {o:Option Value} (r:RelO none o):o=none:=by
 cases o with
 | none=>rfl
 | some u=>exact (show False from r).elim
theorem nE {v:V} {u:Value} (r:RelV v u):PySem.W.handedIn u=true:=by
 cases v with
 | non=>cases (show u=Value.none from r); rfl
 | bl b=>cases (show u=Value.bool b from r); rfl
 | int i=>obtain ⟨t,e⟩:=(show ∃t,u=Value.int i t from r); cases e; rfl
 | str x=>obtain ⟨t,e⟩:=(show ∃t,u=Value.str x t from r); cases e; rfl
 | byt b=>obtain ⟨t,e⟩:=(show ∃t,u=Value.bytes b t from r); cases e; rfl
 | flt b=>obtain ⟨t,e⟩:=(show ∃t,u=Value.float b t from r); cases e; rfl
 | ref a=>cases (show u=Value.ref a from r); rfl
 | ty n=>cases (show u=Value.type n from r); rfl
section
variable {P:Program} {w:World} {H H':Hp} {h h':Heap} {a C dx:Addr} {fs fs':List (Str×V)}
theorem eG (hok:HOk P w H h) (e:H a=some (.ins C dx fs)):∃mA,ObjM h a dx C mA∧(∀f,RelO (fs.lookup f) (mA f))∧PySem.Within mA (fs.map (·.1))∧fs.length≤1000∧H dx=some (.own a):=by
 obtain ⟨d,z,ne,ob,mA,n,r,q⟩:=(show ObjOk P w H h a (.ins C dx fs) from hok a _ e)
 exact ⟨mA,⟨ob,n,ne⟩,r,q,z,d⟩
end
structure Cls (K:PySem.W.Frag) (C:Addr):Prop where
 pg:PySem.W.plainGet K C Str.empty=true
 hd:PySem.W.hasDictIn K C=true
 po:PySem.W.plainOver K C=true
 sa:PySem.W.findIn K (.ref C) "__setattr__" = some (some (.builtin "object.__setattr__"))
theorem Cls.get {K:PySem.W.Frag} {C:Addr} (c:Cls K C) (f:Str):PySem.W.plainGet K C f=true:=c.pg
def NoAttr (K:PySem.W.Frag) (C:Addr) (f:Str):Prop:=PySem.W.findIn K (.ref C) f=some none
theorem NoAttr.taker {K:PySem.W.Frag} {C:Addr} {f:Str} (n:NoAttr K C f):PySem.W.takerIn K C f=some none:=by
 unfold PySem.W.takerIn
 rw [show PySem.W.findIn K (.ref C) f=some none from n]
 rfl
structure Con (K:PySem.W.Frag) (C:Addr) (f:Str) (v:V) (u:Value):Prop where
 at_:PySem.W.findIn K (.ref C) f=some (some u)
 rel:RelV v u
 get:PySem.W.specialIn K u "__get__" = some none
 cp:PySem.W.copiedNames.contains f=false
structure Meth (K:PySem.W.Frag) (C:Addr) (m:Str) (f:Addr):Prop where
 at_:PySem.W.findIn K (.ref C) m=some (some (.ref f))
 fn:PySem.W.isFn K (.ref f)=true
 kp:PySem.W.keepIn K (.ref f)=true
section
variable {X:Cx} {pins:List (Addr×Obj)} {σ:St} {H:Hp} {s:Shared} {a C dx:Addr} {fs:List (Str×V)} {f:Str} {v:V} {A:Around} {E:Value→Shared→Prop}
theorem kU {b:Bool} {Q:Value→Shared→Prop} (I:Inv X pins σ H s) (e:H a=some (.ins C dx fs)) (c:Cls X.K C) (n:NoAttr X.K C f) (l:fs.lookup f=some v)
  (h:∀u s',Inv X pins σ H s'→RelV v u→Q u s'):wpAny (model X.prog X.w) A (getAttr (.ref a) f b) Q E s:=by
 obtain ⟨mA,O,r,_,_,_⟩:=eG I.hok e
 obtain ⟨u,hu,ru⟩:=RelO.some_of (v:=v) (o:=mA f) (by rw [← l]; exact r f)
 exact sI I.kIn O (c.get f) c.hd n hu (nE ru) (h u _ (I.tok _) ru)
theorem ee {m:Str} {g:Addr} {pl:Sem Bool} {Q:Value×List Value→Shared→Prop} (I:Inv X pins σ H s) (e:H a=some (.ins C dx fs)) (c:Cls X.K C) (k:Meth X.K C m g) (l:fs.lookup m=none)
  (h:Q (.ref g,[.ref a]) s):wpAny (model X.prog X.w) A (getMethod (.ref a) m pl) Q E s:=by
 obtain ⟨mA,O,r,_,_,_⟩:=eG I.hok e
 have hn:mA m=none:=RelO.none_of (by rw [← l]; exact r m)
 exact qp I.kIn O (c.get m) k.at_ k.fn hn h
theorem kW {y:V} {u:Value} {Q:Unit→Shared→Prop} (I:Inv X pins σ H s) (e:H a=some (.ins C dx fs)) (c:Cls X.K C) (n:NoAttr X.K C f) (hl:fs.length < 1000) (ry:RelV y u)
  (h:∀s',Inv X pins σ (upd H a (.ins C dx (cI f y fs))) s'→Q () s'):wpAny (model X.prog X.w) A (setAttr (.ref a) f u) Q E s:=by
 obtain ⟨mA,O,r,wi,_,ho⟩:=eG I.hok e
 have hz:(fs.map (·.1)).length≤sizeLine:=by rw [List.length_map,sizeLine_eq]; omega
 refine sJ I.kIn O c.sa c.po n.taker c.hd wi hz fun h' O' sb=>h _ ?_
 have hd:∃o,h'.get? dx=some o:=let ⟨o,_,_,e',_⟩:=O'.ns; ⟨o,e'⟩
 refine I.write (x:=a) (e:=dx) (by rw [e]; exact True.intro) (.inr ho) (fun b q hb z=>(sb.2 b hb).trans z) hd ?_
 refine ⟨by rw [aj O.ne]; exact ho,?_,O.ne,O'.obj,_,O'.ns,fun g=>?_,fun g hg=>?_⟩
 ·have:=dF f y fs; omega
 ·show RelO ((cI f y fs).lookup g) (if g=f then some u else mA g)
  rw [bt]
  by_cases q:g=f
  ·rw [if_pos q,if_pos q]; exact ry
  ·rw [if_neg q,if_neg q]; exact r g
 ·by_cases q:g=f
  ·rw [q]; exact (fH f y fs).1
  ·refine (fH f y fs).2 g (wi g fun z=>hg ?_)
   show (if g=f then some u else mA g)=none
   rw [if_neg q]; exact z
theorem Inv.made (I:Inv X pins σ H s):Inv X pins σ (upd (upd H s.heap.objs.size (.own (s.heap.objs.size + 1))) (s.heap.objs.size + 1) (.ins C s.heap.objs.size []))
  { s with heap:=(s.heap.push PySem.W.emptyDict).push (PySem.W.instObj C s.heap.objs.size) }:=by
 have e1:(s.heap.push PySem.W.emptyDict).get? s.heap.objs.size=some PySem.W.emptyDict:=Heap.get?_push_size s.heap rfl
 have e2:((s.heap.push PySem.W.emptyDict).push (PySem.W.instObj C s.heap.objs.size)).get? (s.heap.objs.size + 1)=some (PySem.W.instObj C s.heap.objs.size):=by
  have:=Heap.get?_push_size (s.heap.push PySem.W.emptyDict) (o:=PySem.W.instObj C s.heap.objs.size) rfl
  rwa [Heap.size_push] at this
 have e3:(s.heap.push PySem.W.emptyDict).Ns s.heap.objs.size (fun _=>none):=⟨PySem.W.emptyDict,#[],_,e1,rfl,(fun e he=>absurd he (by simp)),fun _=>rfl⟩
 have I1:=I.laid (a:=s.heap.objs.size) (o:=.own (s.heap.objs.size + 1)) (h':=s.heap.push PySem.W.emptyDict) (t':=s.toks) (fun b u q=>Heap.get?_push_of_some _ q) (Nat.le_refl _) ⟨_,e1⟩
 refine I1.laid (a:=s.heap.objs.size + 1) (o:=.ins C s.heap.objs.size []) (t':=s.toks) (fun b u q=>Heap.get?_push_of_some _ q) (Nat.le_of_eq (Heap.size_push _ _)) ?_
 have ne:s.heap.objs.size≠s.heap.objs.size + 1:=Nat.ne_of_lt (Nat.lt_succ_self _)
 refine ⟨by rw [aj ne,af],Nat.zero_le _,ne,e2,fun _=>none,(Heap.Ns1.of_empty e3).at fun o q=>Heap.get?_push_of_some _ q,fun _=>True.intro,fun y hy=>absurd rfl hy⟩
theorem sK {prog:Program} {w:World} {env:Env} {e:Expr} {f:Str} {pos:Pos} {s:Shared} {Q:Value→Shared→Prop} (hb:attributeBase e f env (eval e env)=eval e env)
  (h:wpAny (model prog w) A (eval e env) (fun o s₁=>wpAny (model prog w) A (getAttr o f true) Q E s₁) E s):wpAny (model prog w) A (eval (.Attribute e f pos) env) Q E s :=
 Attribute_any_ h (by rw [arm_eval_Attribute,hb])
end
def Eg (K:PySem.W.Frag) (ta:TE) (f:Str):TE:=fun σ H Q=>ta σ H fun x H1=>∃a C dx fs v,x=.ref a∧H1 a=some (.ins C dx fs)∧Cls K C∧NoAttr K C f∧fs.lookup f=some v∧Q v H1
def xt (K:PySem.W.Frag) (ta tv:TE) (f:Str):TS:=fun D σ H=>tv σ H fun y H1=>ta σ H1 fun x H2=>∃a C dx fs,x=.ref a∧H2 a=some (.ins C dx fs)∧Cls K C∧NoAttr K C f∧fs.length < 1000 ∧
 D.nx σ (upd H2 a (.ins C dx (cI f y fs)))
section
variable {X:Cx} {o e value:Expr} {f:Str} {pos pos' tpos:Pos} {ta tv:TE}
theorem fI (he:PE X e ta) (hb:attributeBase e f X.env (eval e X.env)=eval e X.env):PE X (.Attribute e f pos) (Eg X.K ta f):=by
 intro pins s σ H Q I h
 refine sK hb (thn (he pins s σ H _ I h) fun u s1 ⟨x,H1,I1,rx,a,C,dx,fs,v,ex,ea,c,n,l,q⟩=>?_)
 subst ex
 obtain rfl:u=Value.ref a:=rx
 exact kU I1 ea c n l fun u' s2 I2 ru=>⟨v,H1,I2,ru,q⟩
theorem qt (ha:PE X o ta) (hv:PE X value tv) (hs:swapsWith value (some (.Attribute o f pos')) pos.line X.env=pure false):PS X (.Assign [.Attribute o f pos'] value pos) (xt X.K ta tv f):=by
 intro pins s σ H D I h
 refine plainObj_wpAny_Assign_Attribute (thn (hv pins s σ H _ I h) fun u s1 ⟨y,H1,I1,ry,q⟩=>thn (ha pins s1 σ H1 _ I1 q) fun ov s2 ⟨x,H2,I2,rx,a,C,dx,fs,ex,ea,c,n,l,q2⟩=>?_) hs
 subst ex
 obtain rfl:ov=Value.ref a:=rx
 exact kW I2 ea c n l ry fun s3 I3=>⟨σ,_,I3,q2⟩
theorem up {pl:Sem Bool} {m:Str} {apos:Pos} {args:List Expr} {pins:List (Addr×Obj)} {s:Shared} {σ:St} {H:Hp} {Q:Value→Shared→Prop} {te:TE} (he:PE X e te) (I:Inv X pins σ H s)
  (h:te σ H fun x H1=>∃a C dx fs g,x=.ref a∧H1 a=some (.ins C dx fs)∧Cls X.K C∧Meth X.K C m g∧fs.lookup m=none ∧
   ∀s1,Inv X pins σ H1 s1→wpAny (model X.prog X.w) X.A (callWith pos (.ref g) [.ref a] (backTo pos (starEach args X.env)) (backToKw pos (keywordEach [] X.env))) Q X.xe s1)
  (ht:eval (.Call (.Attribute e m apos) args [] pos) X.env=(do
   let ov←eval e X.env
   standAt apos.atName
   let (f,first)←holding [ov] (getMethod ov m pl)
   callWith pos f first (backTo pos (starEach args X.env)) (backToKw pos (keywordEach [] X.env)))) :
  wpAny (model X.prog X.w) X.A (eval (.Call (.Attribute e m apos) args [] pos) X.env) Q X.xe s:=by
 refine PySem.W.methodCall_KW (pl:=pl) (thn (he pins s σ H _ I h) fun u s1 ⟨x,H1,I1,rx,a,C,dx,fs,g,ex,ea,c,k,l,q⟩=>?_) ht
 subst ex
 obtain rfl:u=Value.ref a:=rx
 exact ee I1 ea c k l (q s1 I1)
end
section
variable {X:Cx} {pins:List (Addr×Obj)} {σ:St} {H:Hp} {s:Shared} {A:Around} {E:Value→Shared→Prop} {Q:Value→Shared→Prop} {c:Value} {b:Bool}
inductive TyOf (K:PySem.W.Frag) (H:Hp):V→Value→Prop where
 | non:TyOf K H .non (.type "NoneType")
 | bl (x:Bool):TyOf K H (.bl x) (.type "bool")
 | int (i:Int):TyOf K H (.int i) (.type "int")
 | str (x:Str):TyOf K H (.str x) (.type "str")
 | flt (x:UInt64):TyOf K H (.flt x) (.type "float")
 | lst {a:Addr} {xs:List V} (e:H a=some (.lst xs)):TyOf K H (.ref a) (.type "list")
 | frz {a:Addr} {o:Obj} {xs:List V} (e:H a=some (.frz o (.lst xs))):TyOf K H (.ref a) (.type "list")
 | tup {a:Addr} {xs:List V} (e:H a=some (.tup xs)):TyOf K H (.ref a) (.type "tuple")
 | dK {a:Addr} {kvs:List (Key×V)} (e:H a=some (.dK kvs)):TyOf K H (.ref a) (.type "dict")
 | dT {a:Addr} {kvs:List (List Key×V)} (e:H a=some (.dT kvs)):TyOf K H (.ref a) (.type "dict")
 | ins {a C dx:Addr} {fs:List (Str×V)} (e:H a=some (.ins C dx fs)) (cl:Cls K C) (ha:PySem.W.findIn K (.ref C) "__class__" = some (some (.builtin "object.__class__")))
   (hn:PySem.W.specialIn K (.builtin "object.__class__") "__get__" = some (some (.builtin "getset_descriptor.__get__"))) (htk:PySem.W.takesIn K (.builtin "object.__class__")=some true)
   (hm:PySem.W.mroIn K C (.type "object")=some true):TyOf K H (.ref a) (.ref C)
theorem nF {x:V} {u t:Value} (I:Inv X pins σ H s) (rx:RelV x u) (ty:TyOf X.K H x t) (e:PySem.W.kitOne X.K t c=some b) (h:∀tk,Q (.bool b) { s with toks:=tk }) :
  wpAny (model X.prog X.w) A (call (.builtin "isinstance") [u,c]) Q E s:=by
 cases ty with
 | non=>cases (show u=Value.none from rx); exact PySem.W.kia_one PySem.W.kitx_none I.kIn True.intro e (fun z=>nomatch z) h
 | bl y=>cases (show u=Value.bool y from rx); exact PySem.W.kia_one PySem.W.kitx_bool I.kIn True.intro e (fun z=>nomatch z) h
 | int i=>obtain ⟨t,q⟩:=(show ∃t,u=Value.int i t from rx); cases q; exact PySem.W.kia_one PySem.W.kitx_int I.kIn True.intro e (fun z=>nomatch z) h
 | str y=>obtain ⟨t,q⟩:=(show ∃t,u=Value.str y t from rx); cases q; exact PySem.W.kia_one PySem.W.kitx_str I.kIn True.intro e (fun z=>nomatch z) h
 | flt y=>obtain ⟨t,q⟩:=(show ∃t,u=Value.float y t from rx); cases q; exact PySem.W.kia_one PySem.W.kitx_float I.kIn True.intro e (fun z=>nomatch z) h
 | @lst a xs ea =>
  cases (show u=Value.ref a from rx)
  obtain ⟨_,_,n,_,h1⟩:=(show ObjOk X.prog X.w H s.heap a (.lst xs) from I.hok a _ ea)
  exact PySem.W.kia_one PySem.W.kitx_list I.kIn ⟨_,h1,rfl⟩ e (fun z=>nomatch z) h
 | @frz a ob xs ea =>
  cases (show u=Value.ref a from rx)
  obtain ⟨_,_,_,n,_,h1⟩:=(show ObjOk X.prog X.w H s.heap a (.frz ob (.lst xs)) from I.hok a _ ea)
  exact PySem.W.kia_one PySem.W.kitx_list I.kIn ⟨_,h1,rfl⟩ e (fun z=>nomatch z) h
 | @tup a xs ea =>
  cases (show u=Value.ref a from rx)
  obtain ⟨_,_,_,p⟩:=(show ObjOk X.prog X.w H s.heap a (.tup xs) from I.hok a _ ea)
  obtain ⟨o,h1,h2,_⟩:=p
  exact PySem.W.kia_one PySem.W.kitx_tuple I.kIn ⟨o,h1,h2⟩ e (fun z=>nomatch z) h
 | @dK a kvs ea =>
  cases (show u=Value.ref a from rx)
  obtain ⟨_,_,vs,_,p⟩:=(show ObjOk X.prog X.w H s.heap a (.dK kvs) from I.hok a _ ea)
  obtain ⟨o,es,ep,h1,h2,_⟩:=p
  exact PySem.W.kia_one PySem.W.kitx_dict I.kIn ⟨o,h1,h2.1⟩ e (fun z=>nomatch z) h
 | @dT a kvs ea =>
  cases (show u=Value.ref a from rx)
  obtain ⟨_,_,xs,_,o,es,ep,h1,h2,_⟩:=(show ObjOk X.prog X.w H s.heap a (.dT kvs) from I.hok a _ ea)
  exact PySem.W.kia_one PySem.W.kitx_dict I.kIn ⟨o,h1,h2.1⟩ e (fun z=>nomatch z) h
 | @ins a C dx fs ea cl ha hn htk hm =>
  cases (show u=Value.ref a from rx)
  obtain ⟨mA,O,_⟩:=eG I.hok ea
  obtain ⟨od,J,_⟩:=O.look
  exact PySem.W.kia_one (PySem.W.kitx_own (cl.get _) cl.hd ha hn htk hm) I.kIn J e (fun z=>nomatch z) h
end
end L2
namespace L2
open PySem PySem.Spec PyProof.Rows
structure Room (k:Nat) (A:Around):Prop where
 hd:A.handled=none
 dp:A.depth + 3 * k + 5 < recursionLimit
 un:A.units + 16 * k + 200 < cLine
 gd:A.guards=some []
theorem Room.mono {j k:Nat} {A:Around} (r:Room k A) (h:j≤k):Room j A:=⟨r.hd,by have:=r.dp; omega,by have:=r.un; omega,r.gd⟩
theorem Room.deeper {k:Nat} {A:Around} (r:Room (k + 1) A) (env:Env):Room k (A.deeper env) :=
 ⟨r.hd,by have:=r.dp; show A.depth + 1 + 3 * k + 5 < _; omega,by have:=r.un; show A.units + 3 + 16 * k + 200 < _; omega,r.gd⟩
theorem kX {A:Around} {C:Addr} {us:List Value} {kw:List (Str×Value)}:(A.under (.builtin "type.__call__" ⟨.ref C :: us,kw⟩)).depth=A.depth + 1:=by
 first | rfl | simp [Around.under,Code.weight,Code.isCreation,Code.isGuard,Code.isCaller,Code.frames,Code.isFrame,guardIds]
theorem kY {A:Around} {C:Addr} {us:List Value} {kw:List (Str×Value)}:(A.under (.builtin "type.__call__" ⟨.ref C :: us,kw⟩)).units=A.units + 1:=by
 first | rfl | simp [Around.under,Code.cUnits,Code.frames,Code.isFrame]
theorem jD {A:Around} {C:Addr} {us:List Value} {kw:List (Str×Value)}:(A.under (.builtin "type.__call__" ⟨.ref C :: us,kw⟩)).guards=A.guards:=by
 have e:Code.guards (.builtin "type.__call__" ⟨.ref C :: us,kw⟩)=[]:=by
  have:(Code.builtin "type.__call__" ⟨.ref C :: us,kw⟩).isGuard=false:=by show guardIds.contains "type.__call__" = false; decide +kernel
  simp [Code.guards,this]
 unfold Around.under
 dsimp only
 rw [e]
 rfl
theorem Room.make {k:Nat} {A:Around} (r:Room (k + 1) A) (C:Addr) (us:List Value) (kw:List (Str×Value)):Room k (A.under (.builtin "type.__call__" ⟨.ref C :: us,kw⟩)) :=
 ⟨r.hd,by have:=r.dp; rw [kX]; omega,by have:=r.un; rw [kY]; omega,by rw [jD]; exact r.gd⟩
theorem Room.depth {k:Nat} {A:Around} (r:Room k A):A.depth < recursionLimit:=by have:=r.dp; omega
theorem Room.units {k:Nat} {A:Around} (r:Room k A):A.units + 64 < cLine:=by have:=r.un; omega
def sL:TA:=fun _ H Q=>Q [] H
def uq (ta:TE) (tr:TA):TA:=fun σ H Q=>ta σ H fun x H1=>tr σ H1 fun xs H2=>Q (x :: xs) H2
section
variable {X:Cx} {e:Expr} {es:List Expr} {te:TE} {t:TA} {pos:Pos}
theorem ab:PA X [] sL:=fun _ _ _ _ H Q I h=>Calls.spliced_nil ⟨[],H,I,.nil,h⟩
theorem aa (ha:PE X e te) (hr:PA X es t) (hs:starEach (e :: es) X.env=(false,eval e X.env) :: starEach es X.env:=by rfl):PA X (e :: es) (uq te t):=by
 intro pos pins s σ H Q I h
 rw [hs]
 show wpAny _ _ (spliced ((false,eval e X.env) :: backTo pos (starEach es X.env))) _ _ s
 refine Calls.spliced_cons (thn (ha pins s σ H _ I h) fun u s1 ⟨x,H1,I1,r1,q1⟩=>?_)
 exact thn (hr pos pins s1 σ H1 _ I1 q1) fun us s2 ⟨xs,H2,I2,r2,q2⟩=>⟨x :: xs,H2,I2,.cons r1 r2,q2⟩
def Eh (t:TA):TE:=fun σ H Q=>t σ H fun xs H1=>xs.length≤sizeLine∧∀p,H1 p=none→Q (.ref p) (upd H1 p (.tup xs))
def Ei (t:TA):TE:=fun σ H Q=>t σ H fun xs H1=>xs.length≤sizeLine∧∀p,H1 p=none→Q (.ref p) (upd H1 p (.lst xs))
theorem aB {x1} (h:PA X es t):PE X (.Tuple es x1 pos) (Eh t):=by
 intro pins s σ H Q I hq
 refine wpAny_Tuple_spliced (thn (h pos pins s σ H _ I hq) fun us s1 ⟨xs,H1,I1,r,z,q⟩=>⟨by rw [← r.length]; exact z,?_⟩)
 have hf:H1 s1.heap.objs.size=none:=I1.hok.fresh (Nat.le_refl _)
 refine ⟨.ref s1.heap.objs.size,upd H1 s1.heap.objs.size (.tup xs),I1.laid (t':=s1.toks) (fun b u e=>Heap.get?_push_of_some _ e) (Nat.le_refl _) ?_,rfl,q _ hf⟩
 exact ⟨z,us,r,⟨_,Heap.get?_push_size _ rfl,rfl,_,rfl⟩⟩
theorem bp (h:PA X es t):PE X (.List es pos) (Ei t):=by
 intro pins s σ H Q I hq
 refine wpAny_List_spliced (thn (h pos pins s σ H _ I hq) fun us s1 ⟨xs,H1,I1,r,z,q⟩=>⟨by rw [← r.length]; exact z,?_⟩)
 have hf:H1 s1.heap.objs.size=none:=I1.hok.fresh (Nat.le_refl _)
 refine ⟨.ref s1.heap.objs.size,upd H1 s1.heap.objs.size (.lst xs),I1.laid (t':=s1.toks) (fun b u e=>Heap.get?_push_of_some _ e) (Nat.le_refl _) ?_,rfl,q _ hf⟩
 exact ⟨z,us,0,r,Heap.get?_push_size _ rfl⟩
end
abbrev Sp:=List V→Hp→VK→XK→Prop
abbrev CXT:=List Env→Hp→Shared→XK→Value→Shared→Prop
structure Env0 (P:Program) (w:World) (K:PySem.W.Frag) (mg:Str→Option Value) (base:Heap) (A:Around) (outer:List Env) (s:Shared) (H:Hp):Prop where
 frames:A.frames=some outer
 mod:Mod K mg base
 bs:∀b o,base.get? b=some o→s.heap.get? b=some o∧H b=none
 bsz:base.objs.size≤s.heap.objs.size
 funs:s.heap.FunFrames base outer
 frf:∀b∈frs outer,H b=none
 hok:HOk P w H s.heap
 bare:AllBare s.gens
def CE (outer:List Env) (P:Program) (w:World) (H:Hp) (s:Shared) (Q:VK) (u:Value) (s':Shared):Prop :=
 ∃v H',s'.os=s.os∧AllBare s'.gens∧Un (frs outer) [] H H' s.heap s'.heap∧HOk P w H' s'.heap∧RelV v u∧Q v H'
def CR (CX:CXT) (outer:List Env) (P:Program) (w:World) (H:Hp) (s:Shared) (Q:VK) (E:XK) (r:Result) (s':Shared):Prop :=
 match r with
 | .ok (.ret u)=>CE outer P w H s Q u s'
 | .ok _=>False
 | .error e=>CX outer H s E e s'
structure FnOk (P:Program) (w:World) (K:PySem.W.Frag) (mg:Str→Option Value) (base:Heap) (CX:CXT) (k:Nat) (f:Addr) (fd:FuncData) (ps:List Str) (sp:Sp):Prop where
 len:∀vs H Q E,sp vs H Q E→vs.length=ps.length
 run:∀ (A:Around) (outer:List Env) (s:Shared) (H:Hp) (args:Args) (us:List Value) (vs:List V) (Q:VK) (E:XK),Room k A→Env0 P w K mg base A outer s H→BindsTo s fd args (ps.zip us)→Vals vs us→sp vs H Q E →
  codeAny (model P w) A (.call (.ref f) args) (CR CX outer P w H s Q E) s
theorem Env0.make {P:Program} {w:World} {K:PySem.W.Frag} {mg:Str→Option Value} {base:Heap} {A:Around} {outer:List Env} {s:Shared} {H:Hp} (e:Env0 P w K mg base A outer s H) (C:Addr) (us:List Value) (kw:List (Str×Value)) :
  Env0 P w K mg base (A.under (.builtin "type.__call__" ⟨.ref C :: us,kw⟩)) outer s H:=⟨by first | exact e.frames | (simpa [Around.under,Code.envs,Code.isFrame,pushEnvs] using e.frames),e.mod,e.bs,e.bsz,e.funs,e.frf,e.hok,e.bare⟩
section
variable {X:Cx} {pins:List (Addr×Obj)} {σ:St} {H:Hp} {s s':Shared}
theorem Inv.env0 (I:Inv X pins σ H s):Env0 X.prog X.w X.K X.mg X.base X.A X.stack s H :=
 ⟨I.ok.frames,I.ok.mod,I.bs,Nat.le_trans I.ok.bsz I.sz,I.stack,I.stkFree,I.hok,I.bare⟩
theorem Inv.after {Q:VK} {u:Value} (I:Inv X pins σ H s) (h:CE X.stack X.prog X.w H s Q u s'):EP X pins σ Q u s':=by
 obtain ⟨v,H',os,bare,un,hok,r,q⟩:=h
 obtain ⟨hh,g,d,t,os'⟩:=s'
 obtain rfl:os'=s.os:=os
 exact ⟨v,H',I.call (h':=hh) (g':=g) (d':=d) (t':=t) (ch:=[]) un hok bare (fun b z=>absurd z (by simp)),r,q⟩
end
def ur (sp:Sp) (dvs:List V) (E:XK) (t:TA):TE:=fun σ H Q=>t σ H fun vs H1=>sp (vs ++ dvs) H1 Q E
def mx (C:Addr) (m:Str) (sp:Sp) (dvs:List V) (E:XK) (ta:TE) (t:TA):TE:=fun σ H Q=>ta σ H fun x H1=>∃a dx fs,x=.ref a∧H1 a=some (.ins C dx fs)∧fs.lookup m=none ∧
 t σ H1 fun vs H2=>sp (x :: (vs ++ dvs)) H2 Q E
def ut (C:Addr) (sp:Sp) (dvs:List V) (E:XK) (t:TA):TE:=fun σ H Q=>t σ H fun vs H1=>∀x dx,H1 x=none→H1 dx=none→dx≠x →
 sp (.ref x :: (vs ++ dvs)) (upd (upd H1 dx (.own x)) x (.ins C dx [])) (fun v H2=>v=.non∧Q (.ref x) H2) E
def Binds (K:PySem.W.Frag) (fd:FuncData) (ps:List Str) (ds:List Value):Prop :=
 ∀ (s:Shared) (us:List Value),K.In s.heap→(us ++ ds).length=ps.length→BindsTo s fd ⟨us,[]⟩ (ps.zip (us ++ ds))
theorem Binds.all {K:PySem.W.Frag} {fd:FuncData} {ps:List Str} (h:∀us:List Value,us.length=ps.length→bindArgs fd ⟨us,[]⟩=pure (ps.zip us)):Binds K fd ps []:=fun s us _ hl=>by
 rw [List.append_nil] at hl ⊢
 exact .of_eq (h us hl)
def ef (CX:CXT) (X:Cx) (E:XK):Prop:=∀ (pins:List (Addr×Obj)) (σ:St) (H:Hp) (s:Shared) (e:Value) (s':Shared),Inv X pins σ H s→CX X.stack H s E e s'→X.xe e s'
section
variable {X:Cx} {CX:CXT} {k:Nat} {f C:Addr} {fd:FuncData} {ps:List Str} {sp:Sp} {dvs:List V} {ds:List Value} {E:XK} {x m:Str} {p pos apos:Pos} {e o:Expr} {es:List Expr} {ta:TE} {t:TA}
theorem kZ {pins:List (Addr×Obj)} {σ:St} {H:Hp} {s:Shared} {Q:VK} {us:List Value} {vs:List V} (F:FnOk X.prog X.w X.K X.mg X.base CX k f fd ps sp) (hr:Room k X.A) (hb:Binds X.K fd ps ds) (hd:Vals dvs ds) (hx:ef CX X E)
  (I:Inv X pins σ H s) (r:Vals vs us) (h:sp (vs ++ dvs) H Q E):wpAny (model X.prog X.w) X.A (call (.ref f) us) (EP X pins σ Q) X.xe s:=by
 have r2:Vals (vs ++ dvs) (us ++ ds):=r.append hd
 have hl:(us ++ ds).length=ps.length:=by rw [← r2.length]; exact F.len _ _ _ _ h
 refine wpAny_call (codeAny_mono (F.run X.A X.stack s H ⟨us,[]⟩ (us ++ ds) (vs ++ dvs) Q E hr I.env0 (hb s us I.kIn hl) r2 h) fun r s' hq=>?_)
 cases r with
 | error e=>exact hx pins σ H s e s' I hq
 | ok fl =>
  cases fl with
  | ret u=>exact I.after hq
  | next=>exact False.elim hq
  | brk=>exact False.elim hq
  | cont=>exact False.elim hq
theorem sM (F:FnOk X.prog X.w X.K X.mg X.base CX k f fd ps sp) (hr:Room k X.A) (hg:Gl X x) (hm:X.mg x=some (.ref f)) (hk:PySem.W.keepIn X.K (.ref f)=true) (hb:Binds X.K fd ps ds) (hd:Vals dvs ds) (hx:ef CX X E)
  (ha:PA X (e :: es) t) (hdb:(x == ("__debug__" : Str))=false:=by decide) (he:starEach (e :: es) X.env=(false,eval e X.env) :: starEach es X.env:=by rfl) (hpl:(backTo pos (starEach es X.env)).any (·.1)=false:=by rfl) :
  PE X (.Call (.Name x p) (e :: es) [] pos) (ur sp dvs E t):=by
 intro pins s σ H Q I h
 refine wpAny_Call_Name_kw (iT I hg hm ?_ hdb)
 refine PySem.W.callWith_K (h₀:=X.base) I.ok.mod.kin hk (thn (ha pos pins s σ H _ I h) fun us s1 ⟨vs,H1,I1,r,q⟩=>⟨I1.kIn,?_⟩) he hpl
 exact kZ F hr hb hd hx I1 r q
theorem sN {pl:Sem Bool} (he:PE X o ta) (c:Cls X.K C) (hm:Meth X.K C m f) (F:FnOk X.prog X.w X.K X.mg X.base CX k f fd ps sp) (hr:Room k X.A) (hb:Binds X.K fd ps ds) (hd:Vals dvs ds) (hx:ef CX X E) (ha:PA X (e :: es) t)
  (hst:starEach (e :: es) X.env=(false,eval e X.env) :: starEach es X.env:=by rfl) (hpl:(backTo pos (starEach es X.env)).any (·.1)=false:=by rfl)
  (ht:eval (.Call (.Attribute o m apos) (e :: es) [] pos) X.env=(do
   let ov←eval o X.env
   standAt apos.atName
   let (f,first)←holding [ov] (getMethod ov m pl)
   callWith pos f first (backTo pos (starEach (e :: es) X.env)) (backToKw pos (keywordEach [] X.env))):=by rfl) :
  PE X (.Call (.Attribute o m apos) (e :: es) [] pos) (mx C m sp dvs E ta t):=by
 intro pins s σ H Q I h
 refine PySem.W.methodCall_KW (pl:=pl) (thn (he pins s σ H _ I h) fun u s1 ⟨x,H1,I1,rx,a,dx,fs,ex,ea,l,q⟩=>?_) ht
 subst ex
 obtain rfl:u=Value.ref a:=rx
 refine ee I1 ea c hm l ?_
 refine PySem.W.callWith_K (first:=[.ref a]) (h₀:=X.base) I.ok.mod.kin hm.kp (thn (ha pos pins s1 σ H1 _ I1 q) fun us s2 ⟨vs,H2,I2,r,q2⟩=>⟨I2.kIn,?_⟩) hst hpl
 exact kZ (us:=.ref a :: us) (vs:=.ref a :: vs) F hr hb hd hx I2 (.cons rfl r) q2
theorem qu {pl:Sem Bool} (he:PE X o ta) (c:Cls X.K C) (hm:Meth X.K C m f) (F:FnOk X.prog X.w X.K X.mg X.base CX k f fd ps sp) (hr:Room k X.A) (hb:Binds X.K fd ps ds) (hd:Vals dvs ds) (hx:ef CX X E)
  (ht:eval (.Call (.Attribute o m apos) [] [] pos) X.env=(do
   let ov←eval o X.env
   standAt apos.atName
   let (f,first)←holding [ov] (getMethod ov m pl)
   callWith pos f first (backTo pos (starEach [] X.env)) (backToKw pos (keywordEach [] X.env))):=by rfl) :
  PE X (.Call (.Attribute o m apos) [] [] pos) (mx C m sp dvs E ta sL):=by
 intro pins s σ H Q I h
 refine PySem.W.methodCall_KW (pl:=pl) (thn (he pins s σ H _ I h) fun u s1 ⟨x,H1,I1,rx,a,dx,fs,ex,ea,l,q⟩=>?_) ht
 subst ex
 obtain rfl:u=Value.ref a:=rx
 refine ee I1 ea c hm l ?_
 exact PySem.W.callWith_K0 (first:=[.ref a]) I1.kIn hm.kp (kZ (us:=[.ref a]) (vs:=[.ref a]) F hr hb hd hx I1 (.cons rfl .nil) q)
structure Mk (K:PySem.W.Frag) (C f:Addr):Prop where
 makes:PySem.W.makesIn K C=true
 init:PySem.W.findIn K (.ref C) "__init__" = some (some (.ref f))
 fn:PySem.W.isFn K (.ref f)=true
 kp:PySem.W.keepIn K (.ref C)=true
theorem qv {pins:List (Addr×Obj)} {σ:St} {H:Hp} {s:Shared} {Q:VK} {us:List Value} {vs:List V} (M:Mk X.K C f) (F:FnOk X.prog X.w X.K X.mg X.base CX k f fd ps sp) (hr:Room (k + 1) X.A) (hb:Binds X.K fd ps ds) (hd:Vals dvs ds)
  (hx:ef CX X E) (I:Inv X pins σ H s) (r:Vals vs us)
  (h:∀x dx,H x=none→H dx=none→dx≠x→sp (.ref x :: (vs ++ dvs)) (upd (upd H dx (.own x)) x (.ins C dx [])) (fun v H2=>v=.non∧Q (.ref x) H2) E) :
  wpAny (model X.prog X.w) X.A (call (.ref C) us) (EP X pins σ Q) X.xe s:=by
 have hq:=h (s.heap.objs.size + 1) s.heap.objs.size (I.hok.fresh (Nat.le_succ _)) (I.hok.fresh (Nat.le_refl _)) (Nat.ne_of_lt (Nat.lt_succ_self _))
 have I2:=Inv.made (C:=C) I
 have r2:Vals (V.ref (s.heap.objs.size + 1) :: (vs ++ dvs)) (Value.ref (s.heap.objs.size + 1) :: (us ++ ds)):=.cons rfl (r.append hd)
 have hl:(Value.ref (s.heap.objs.size + 1) :: us ++ ds).length=ps.length:=by
  have e:=r2.length
  rw [F.len _ _ _ _ hq] at e
  exact e.symm
 refine wpAny_call (qr (f:=f) I.kIn M.makes M.init (beq_iff_eq.mp M.fn) (codeAny_mono (F.run _ X.stack _ _ ⟨Value.ref (s.heap.objs.size + 1) :: us,[]⟩ (Value.ref (s.heap.objs.size + 1) :: (us ++ ds)) _ _ E (hr.make C us [])
  (I2.env0.make C us []) (hb _ (Value.ref (s.heap.objs.size + 1) :: us) I2.kIn hl) r2 hq) fun r s' hq'=>?_))
 cases r with
 | error e=>exact hx pins σ _ _ e s' I2 hq'
 | ok fl =>
  cases fl with
  | ret u =>
   obtain ⟨v,H',I3,rv,ev,q3⟩:=I2.after hq'
   subst ev
   exact ⟨rv,⟨V.ref (s.heap.objs.size + 1),H',I3,rfl,q3⟩⟩
  | next=>exact False.elim hq'
  | brk=>exact False.elim hq'
  | cont=>exact False.elim hq'
theorem sO (M:Mk X.K C f) (F:FnOk X.prog X.w X.K X.mg X.base CX k f fd ps sp) (hr:Room (k + 1) X.A) (hg:Gl X x) (hm:X.mg x=some (.ref C)) (hb:Binds X.K fd ps ds) (hd:Vals dvs ds) (hx:ef CX X E)
  (ha:PA X (e :: es) t) (hdb:(x == ("__debug__" : Str))=false:=by decide) (he:starEach (e :: es) X.env=(false,eval e X.env) :: starEach es X.env:=by rfl) (hpl:(backTo pos (starEach es X.env)).any (·.1)=false:=by rfl) :
  PE X (.Call (.Name x p) (e :: es) [] pos) (ut C sp dvs E t):=by
 intro pins s σ H Q I h
 refine wpAny_Call_Name_kw (iT I hg hm ?_ hdb)
 refine PySem.W.callWith_K (h₀:=X.base) I.ok.mod.kin M.kp (thn (ha pos pins s σ H _ I h) fun us s1 ⟨vs,H1,I1,r,q⟩=>⟨I1.kIn,?_⟩) he hpl
 exact qv M F hr hb hd hx I1 r q
end
section
variable {X:Cx} {CX:CXT} {k:Nat} {f C:Addr} {fd:FuncData} {ps ks:List Str} {sp:Sp} {E:XK} {x m:Str} {p pos apos kpos:Pos} {e o:Expr} {es:List Expr} {kws:List Keyword} {te ta:TE} {t tk:TA} {nm:Option Str}
structure KBinds (K:PySem.W.Frag) (fd:FuncData) (ps ks:List Str) (g:List Value→List Value→List Value) (gV:List V→List V→List V):Prop where
 to:∀ (s:Shared) (us ws:List Value),K.In s.heap→(g us ws).length=ps.length→BindsTo s fd ⟨us,ks.zip ws⟩ (ps.zip (g us ws))
 rel:∀ {vs:List V} {us:List Value} {zs:List V} {ws:List Value},Vals vs us→Vals zs ws→Vals (gV vs zs) (g us ws)
variable {g:List Value→List Value→List Value} {gV:List V→List V→List V}
end
structure FnScope (N P:List Str) (sc:Scope):Prop where
 kind:sc.kind=.function
 co:sc.isCoroutine=false
 gen:sc.isGenerator=false
 nd:N.Nodup
 pre:N.take P.length=P
 par:∀x∈P,sc.names.lookup x=some .local∨sc.names.lookup x=some .cell
 nofree:∀y∈sc.names,y.2≠.free
theorem iy {kindOf:Str→Option NameKind} {x:Str}:∀ {binds:List (Str×Value)} {m:Str→Option Value},(∀v,(x,v)∉binds)→bindL kindOf binds m x=m x
 | [],_,_=>rfl
 | (n,v) :: r,m,h=>by
  unfold bindL
  rw [iy fun w hw=>h w (List.mem_cons_of_mem _ hw)]
  split
  ·have:x≠n:=by rintro rfl; exact h v List.mem_cons_self
   simp [this]
  ·rfl
theorem iz {kindOf:Str→Option NameKind} {x:Str}:∀ {binds:List (Str×Value)} {m:Str→Option Value},(∀v,(x,v)∉binds)→bindC kindOf binds m x=m x
 | [],_,_=>rfl
 | (n,v) :: r,m,h=>by
  unfold bindC
  rw [iz fun w hw=>h w (List.mem_cons_of_mem _ hw)]
  split
  ·rfl
  ·have:x≠n:=by rintro rfl; exact h v List.mem_cons_self
   simp [this]
theorem iA {kindOf:Str→Option NameKind} {x:Str} {v:Value}:∀ {P:List Str} {vs:List Value} {i:Nat} {m:Str→Option Value},P.Nodup→P[i]? = some x→vs[i]? = some v→kindOf x=some .local →
  bindL kindOf (P.zip vs) m x=some v
 | [],_,_,_,_,h,_,_=>by simp at h
 | _ :: _,[],_,_,_,_,h,_=>by simp at h
 | p :: P,w :: vs,0,m,nd,h1,h2,hk=>by
  simp at h1 h2; subst h1; subst h2
  show bindL kindOf ((p,w) :: P.zip vs) m p=_
  unfold bindL
  rw [iy fun v hv=>(List.nodup_cons.mp nd).1 (List.of_mem_zip hv).1,if_pos hk]
  simp
 | p :: P,w :: vs,i + 1,m,nd,h1,h2,hk=>by
  show bindL kindOf ((p,w) :: P.zip vs) m x=_
  unfold bindL
  exact iA (i:=i) (List.nodup_cons.mp nd).2 (by simpa using h1) (by simpa using h2) hk
theorem iB {kindOf:Str→Option NameKind} {x:Str} {v:Value}:∀ {P:List Str} {vs:List Value} {i:Nat} {m:Str→Option Value},P.Nodup→P[i]? = some x→vs[i]? = some v→kindOf x≠some .local →
  bindC kindOf (P.zip vs) m x=some v
 | [],_,_,_,_,h,_,_=>by simp at h
 | _ :: _,[],_,_,_,_,h,_=>by simp at h
 | p :: P,w :: vs,0,m,nd,h1,h2,hk=>by
  simp at h1 h2; subst h1; subst h2
  show bindC kindOf ((p,w) :: P.zip vs) m p=_
  unfold bindC
  rw [iz fun v hv=>(List.nodup_cons.mp nd).1 (List.of_mem_zip hv).1,if_neg hk]
  simp
 | p :: P,w :: vs,i + 1,m,nd,h1,h2,hk=>by
  show bindC kindOf ((p,w) :: P.zip vs) m x=_
  unfold bindC
  exact iB (i:=i) (List.nodup_cons.mp nd).2 (by simpa using h1) (by simpa using h2) hk
def dX (N:List Str) (vs:List V):St:=vs.map some ++ List.replicate (N.length - vs.length) none
def nG (CX:CXT) (P:Program) (w:World) (K:PySem.W.Frag) (mg:Str→Option Value) (base:Heap) (N:List Str) (qual:Str) (scope:Scope) (f:Addr) (cd:Value) (A:Around) (outer:List Env) (s:Shared) (H:Hp) (E:XK):Cx where
 prog:=P
 w:=w
 K:=K
 mg:=mg
 base:=base
 A:=A.deeper (envOfC qual scope s.heap.objs.size f cd)
 N:=N
 s₀:=s
 H₀:=H
 env:=envOfC qual scope s.heap.objs.size f cd
 outer:=outer
 stack:=envOfC qual scope s.heap.objs.size f cd :: outer
 ex:=[]
 calm:=true
 fn:=fun _=>true
 pn:=[]
 xe:=fun e s'=>wpAny (model P w) (A.deeper (envOfC qual scope s.heap.objs.size f cd)) (leaving (envOfC qual scope s.heap.objs.size f cd) e) (fun _ s''=>CX outer H s E e s'') (fun e' s''=>CX outer H s E e' s'') s'
theorem jE {sc:Scope} {n:Nat} {x:Str} (h:sc.names.lookup x=some .cell):∃c,(cellsFrom n sc.names []).lookup x=some c:=by
 have q:=PySem.W.cellsFrom_some sc.names n [] (.inl h)
 exact Option.isSome_iff_exists.mp q
theorem nH {CX:CXT} {P:Program} {w:World} {K:PySem.W.Frag} {mg:Str→Option Value} {base:Heap} {N ps:List Str} {qual:Str} {scope:Scope} {f:Addr} {cd:Value} {A:Around} {outer:List Env} {s s1:Shared} {H:Hp} {E:XK} {us:List Value} {vs:List V}
  (S:FnScope N ps scope) (hd:A.handled=none) (e0:Env0 P w K mg base A outer s H) (hl:vs.length=ps.length) (r:Vals vs us)
  (x:InCallC s s.heap.objs.size (bindL (envOfC qual scope s.heap.objs.size f cd).kindOf (ps.zip us) fun _=>none) (cellsFrom (s.heap.objs.size + 1) scope.names []) (bindC (envOfC qual scope s.heap.objs.size f cd).kindOf (ps.zip us) fun _=>none) s1) :
  Inv (nG CX P w K mg base N qual scope f cd A outer s H E) [] (dX N vs) H s1:=by
 have hpl:ps.length≤N.length:=by have:=congrArg List.length S.pre; rw [List.length_take] at this; omega
 obtain ⟨h1,tk,rfl,hk⟩:=x.done
 have noA:∀b:Addr,b∉(nG CX P w K mg base N qual scope f cd A outer s H E).ex:=fun b z=>absurd (show b∈([]:List Addr) from z) (by simp)
 refine ⟨⟨e0.mod,S.kind,rfl,rfl,Nat.le_refl _,fun y z c h1 h2=>?_,fun y hy=>?_,fun y c _ h=>?_,fun _=>hd,Around.frames_deeper e0.frames,.inr ⟨rfl,rfl⟩,fun b z=>absurd z (noA b),e0.bs,e0.bsz,fun b _ _=>noA b,fun b z=>absurd z (noA b),e0.funs,e0.frf⟩,
  rfl,e0.bare,Un.kept hk,⟨_,x.toInCall.ns,fun i y v h1 h2 h3=>?_⟩,fun y c h=>⟨_,x.cell y c h⟩,e0.hok.fresh (Nat.le_refl _),fun y c h=>?_,fun p hp=>absurd (show p∈([]:List (Addr×Obj)) from hp) (by simp),e0.hok.kept hk,?_⟩
 ·exact name_of_addr x.apart (PySem.mem_of_lookup h1) (PySem.mem_of_lookup h2)
 ·have hy:scope.names.lookup y=some .cell∨scope.names.lookup y=some .free:=hy
  rcases hy with hy | hy
  ·exact jE hy
  ·exact absurd rfl (S.nofree _ (PySem.mem_of_lookup hy))
 ·exact Nat.le_of_lt (x.above y c (PySem.mem_of_lookup h))
 ·have hi:i < vs.length:=by
   unfold dX at h2
   by_cases hi:i < vs.length
   ·exact hi
   ·rw [List.getElem?_append_right (by simpa using hi)] at h2
    rw [List.getElem?_replicate] at h2
    split at h2 <;> cases h2
  have ha:vs[i]? = some v:=by
   unfold dX at h2
   rw [List.getElem?_append_left (by simpa using hi),List.getElem?_map] at h2
   cases e:vs[i]? with
   | none=>rw [e] at h2; cases h2
   | some a=>rw [e] at h2; cases h2; rfl
  obtain ⟨u,hu,rv⟩:=r.get ha
  have hp:ps[i]? = some y:=by
   rw [← S.pre,List.getElem?_take_of_lt (by omega)]; exact h1
  have ndP:ps.Nodup:=by rw [← S.pre]; exact S.nd.sublist (List.take_sublist _ _)
  refine ⟨u,rv,?_⟩
  rcases S.par y (List.mem_of_getElem? hp) with k | k
  ·exact .inl ⟨k,iA ndP hp hu k⟩
  ·obtain ⟨c,e⟩:=jE (n:=s.heap.objs.size + 1) k
   refine .inr ⟨.inl k,c,e,?_⟩
   have q:=x.cell y c e
   rw [iB ndP hp hu (by show scope.names.lookup y≠_; rw [k]; decide)] at q
   exact q
 ·exact e0.hok.fresh (Nat.le_of_lt (x.above y c (PySem.mem_of_lookup h)))
 ·unfold dX
  show _=N.length
  rw [List.length_append,List.length_map,List.length_replicate]
  omega
theorem xu {CX:CXT} {P:Program} {w:World} {K:PySem.W.Frag} {mg:Str→Option Value} {base:Heap} {k:Nat} {f:Addr} {name qual:Str} {params:Arguments} {body:List Stmt} {scope:Scope} {dV kV doc pm cdv ct oc:Value} {an od:Option Addr}
  {osl:Array (Option Value)} {N ps:List Str} {sp:Sp} (lk:K.lookup f=some ⟨oc,od,.func (PySem.W.fnOf name qual params body scope dV kV doc pm an cdv ct),osl⟩) (hcd:PySem.W.codeIn K cdv qual=true) (S:FnScope N ps scope)
  (len:∀vs H Q E,sp vs H Q E→vs.length=ps.length)
  (hbody:∀ (A:Around) (outer:List Env) (s:Shared) (H:Hp) (vs:List V) (Q:VK) (E:XK),Room k (A.deeper (envOfC qual scope s.heap.objs.size f cdv))→sp vs H Q E →
   ∃t,PSs (nG CX P w K mg base N qual scope f cdv A outer s H E) body t∧t { nx:=fun _ H'=>Q .non H',rt:=Q } (dX N vs) H) :
  FnOk P w K mg base CX (k + 1) f (PySem.W.fnOf name qual params body scope dV kV doc pm an cdv ct) ps sp:=by
 refine ⟨len,fun A outer s H args us vs Q E hr e0 hb r hsp=>?_⟩
 have hl:=len _ _ _ _ hsp
 have KX:K.In s.heap:=e0.mod.kin.keeps fun b o e=>(e0.bs b o e).1
 have lim:s.heap.NoLimit:=e0.mod.nolimit.keeps fun b o e=>(e0.bs b o e).1
 have hkind:∀y∈ps.zip us,scope.names.lookup y.1=some .local∨(scope.names.lookup y.1=some .cell∧((cellsFrom (s.heap.objs.size + 1) scope.names []).lookup y.1).isSome=true):=fun ⟨n,v⟩ hy=>by
  rcases S.par n (List.of_mem_zip hy).1 with q | q
  ·exact .inl q
  ·exact .inr ⟨q,PySem.W.cellsFrom_some _ _ _ (.inl q)⟩
 refine codeAny_call_function hr.depth (KX _ _ lk) rfl S.co S.gen rfl (PySem.W.codeRec_of KX hcd) (hb _ _ _ _ ?_)
 refine wpAny_newFunctionEnv_cells S.kind hkind fun env he s1 x=>?_
 subst he
 refine ⟨lim.keeps x.toInCall.keep,codeAny_func ?_⟩
 obtain ⟨t,ht,hq⟩:=hbody A outer s H vs Q E (hr.deeper _) hsp
 have I:Inv (nG CX P w K mg base N qual scope f cdv A outer s H E) [] (dX N vs) H s1:=nH S hr.hd e0 hl r x
 refine wpAny_mono (ht [] s1 (dX N vs) H _ I hq) (fun fl s' hs=>?_) fun e s' hs=>hs
 have fin:∀ {σ':St} {H':Hp} {v:V} {u:Value},Inv (nG CX P w K mg base N qual scope f cdv A outer s H E) [] σ' H' s'→RelV v u→Q v H'→CE outer P w H s Q u s' :=
  fun {σ' H' v u} J rv q=>⟨v,H',J.os,J.bare,J.base,J.hok,rv,q⟩
 cases fl with
 | ret u =>
  obtain ⟨v,σ',H',J,rv,q⟩:=hs
  exact fin J rv q
 | next =>
  obtain ⟨σ',H',J,q⟩:=hs
  exact fin (v:=V.non) (u:=Value.none) J rfl q
 | brk =>
  obtain ⟨_,_,_,q⟩:=hs
  exact False.elim q
 | cont =>
  obtain ⟨_,_,_,q⟩:=hs
  exact False.elim q
end L2
namespace L2
open PySem PySem.Spec PyProof.Rows
section
variable {X:Cx} {x:Str} {p pos:Pos} {e:Expr} {es:List Expr} {t:TA} {id T:String} {r:List V→Hp→VK→Prop}
def tCB (r:List V→Hp→VK→Prop) (t:TA):TE:=fun σ H Q=>t σ H fun vs H1=>r vs H1 Q
theorem aI (hc:cO X (.builtin id) r) (hg:Gl X x) (hm:X.mg x=none) (hv:bootBuiltins x=some (.builtin id)) (ha:PA X (e :: es) t) (hn:x ≠ "__name__" := by decide) (hdb:(x == ("__debug__" : Str))=false:=by decide)
  (he:starEach (e :: es) X.env=(false,eval e X.env) :: starEach es X.env:=by rfl) (hpl:(backTo pos (starEach es X.env)).any (·.1)=false:=by rfl):PE X (.Call (.Name x p) (e :: es) [] pos) (tCB r t):=by
 intro pins s σ H Q I h
 refine wpAny_Call_Name_kw (dC I hg hm hv ?_ hn hdb)
 exact PyProof.Rows.callWith_builtin1 (thn (ha pos pins s σ H _ I h) fun us s1 ⟨vs,H1,I1,r1,q1⟩=>hc pins s1 σ H1 vs us Q I1 r1 q1) he hpl
theorem bv (hc:cO X (.type T) r) (hg:Gl X x) (hm:X.mg x=none) (hv:bootBuiltins x=some (.type T)) (ha:PA X (e :: es) t) (hn:x ≠ "__name__" := by decide) (hdb:(x == ("__debug__" : Str))=false:=by decide)
  (he:starEach (e :: es) X.env=(false,eval e X.env) :: starEach es X.env:=by rfl) (hpl:(backTo pos (starEach es X.env)).any (·.1)=false:=by rfl):PE X (.Call (.Name x p) (e :: es) [] pos) (tCB r t):=by
 intro pins s σ H Q I h
 refine wpAny_Call_Name_kw (dC I hg hm hv ?_ hn hdb)
 exact PyProof.Rows.callWith_type1 (thn (ha pos pins s σ H _ I h) fun us s1 ⟨vs,H1,I1,r1,q1⟩=>hc pins s1 σ H1 vs us Q I1 r1 q1) he hpl
end
end L2
namespace HT
open PySem PyProof.Rows
section
open PySem.SeqAt
open PySem.AutoSeq1 (wpAny_loadPart')
open PySem.MeetsSeq PySem.MeetsSeq2 PySem.MeetsSeq3
end
section
variable {prog:Program} {w:World} {A:Around} {E:Value→Shared→Prop} {s:Shared}
theorem cat_tup {t b:Addr} {vs ws:List Value} {Q:Value→Shared→Prop} (ht:IsTup s.heap t vs.toArray) (hb:IsTup s.heap b ws.toArray) (hv:vs≠[])
  (h1:ws=[]→Q (.ref t) s) (h2:ws≠[]→Q (.ref s.heap.objs.size) { s with heap:=s.heap.push { cls:=.type "tuple",data:=.seq (vs ++ ws).toArray } })
  (hsz:vs.length + ws.length≤sizeLine):wpAny (model prog w) A (binaryOp .Add (.ref t) (.ref b)) Q E s:=by
 obtain ⟨⟨cls,dd,data,sl⟩,ho,hc,n,hd⟩:=id ht
 obtain ⟨⟨cls2,dd2,data2,sl2⟩,ho2,hc2,n2,hd2⟩:=id hb
 simp only at hc hd hc2 hd2
 subst hc hd hc2 hd2
 have e:vs.toArray ++ ws.toArray=(vs ++ ws).toArray:=by simp
 by_cases hw:ws=[]
 ·exact concat_meets ⟨_,ho,rfl⟩ ⟨_,ho2,rfl⟩ noFill_tuple_add seq_tuple_add PySem.F.slot_tuple_add PySem.F.entry_tuple_add (PySem.F.args_tuple_add_2 _ _)
   (tuple_addW1 t b vs.toArray ws.toArray n n2 dd dd2 sl sl2 (by simpa using hv) (by simp [hw])) ⟨ho,ho2,h1 hw⟩
 ·refine concat_meets ⟨_,ho,rfl⟩ ⟨_,ho2,rfl⟩ noFill_tuple_add seq_tuple_add PySem.F.slot_tuple_add PySem.F.entry_tuple_add (PySem.F.args_tuple_add_2 _ _)
   (tuple_addW2 t b vs.toArray ws.toArray n n2 dd dd2 sl sl2 (by simpa using hv) (by simpa using hw) (by rw [List.size_toArray,List.size_toArray]; exact hsz)) ⟨ho,ho2,?_⟩
  rw [e]
  exact h2 hw
def sIx (n d:Nat):Option Int→Nat
 | none=>d
 | some v=>if v < 0 then (v + (n:Int)).toNat else min v.toNat n
theorem uO (n d:Nat) (hd:d≤n) (o:Option Int):sIx n d o≤n:=by
 cases o with
 | none=>exact hd
 | some v =>
  show (if v < 0 then (v + (n:Int)).toNat else min v.toNat n)≤n
  by_cases hv:v < 0
  ·rw [if_pos hv]; omega
  ·rw [if_neg hv]; exact Nat.min_le_right _ _
theorem my (v:Int) (n d:Nat):(if v < 0 then max (v + (n:Int)) 0 else min v (n:Int))=((sIx n d (some v):Nat):Int):=by
 show (if v < 0 then max (v + (n:Int)) 0 else min v (n:Int))=(((if v < 0 then (v + (n:Int)).toNat else min v.toNat n):Nat):Int)
 by_cases hv:v < 0
 ·simp only [if_pos hv]; omega
 ·simp only [if_neg hv]; omega
theorem lc (lo hi:Option Int) (n:Nat):Builtin.Slice.sliceAdjust lo hi 1 (n:Int)=(((sIx n 0 lo:Nat):Int),((sIx n n hi:Nat):Int)):=by
 have h1:¬ ((1:Int) < 0):=by omega
 unfold Builtin.Slice.sliceAdjust
 simp only [h1,if_false]
 refine Prod.ext ?_ ?_
 ·cases lo with
  | none=>rfl
  | some v=>exact my v n 0
 ·cases hi with
  | none=>rfl
  | some v=>exact my v n n
theorem ld (i j:Nat):Builtin.Slice.slicePlaces (i:Int) (j:Int) 1=j - i:=by
 unfold Builtin.Slice.slicePlaces
 have h1:(1:Int) > 0:=by omega
 simp only [h1,if_true,Int.ediv_one]
 split <;> omega
theorem gx {v:Value} {o:Option Int} {Q:Option Int→Shared→Prop} (p:IsPart v o) (h:Q o s):wpAny (model prog w) A (Builtin.Slice.slicePartIndex v) Q E s:=by
 cases p with
 | none=>exact slicePart_none h
 | int i t=>exact slicePart_int h
theorem fJ {sl:Addr} {vl vu:Value} {lo hi:Option Int} {n:Nat} {Q:Int×Int×Nat→Shared→Prop} (hs:s.heap.IsSliceOf sl vl vu .none) (pl:IsPart vl lo) (pu:IsPart vu hi)
  (h:Q (((sIx n 0 lo:Nat):Int),1,sIx n n hi - sIx n 0 lo) s):wpAny (model prog w) A (Builtin.Slice.sliceApplied (.ref sl) (pure (n:Int))) Q E s:=by
 obtain ⟨os,hos,hcs,hds⟩:=id hs
 unfold Builtin.Slice.sliceApplied Builtin.Slice.sliceFields
 refine wpAny_bind (wpAny_bind (wpAny_field hos hds (x:=vl) rfl (wpAny_bind (wpAny_field hos hds (x:=vu) rfl (wpAny_bind (wpAny_field hos hds (x:=.none) rfl (wpAny_pure ?_)))))))
 refine wpAny_bind (slicePart_none ?_)
 show wpAny _ _ (if ((1:Int) == 0)=true then _ else _) _ _ s
 rw [if_neg (by decide)]
 refine wpAny_bind (gx pl (wpAny_bind (gx pu (wpAny_bind (wpAny_pure ?_)))))
 show wpAny _ _ (match Builtin.Slice.sliceAdjust lo hi 1 (n:Int) with | (lo,hi)=>pure (lo,(1:Int),Builtin.Slice.slicePlaces lo hi 1)) _ _ s
 rw [lc lo hi n]
 show wpAny _ _ (pure (((sIx n 0 lo:Nat):Int),(1:Int),Builtin.Slice.slicePlaces ((sIx n 0 lo:Nat):Int) ((sIx n n hi:Nat):Int) 1)) _ _ s
 rw [ld]
 exact wpAny_pure h
theorem qw (xs:Array Value) (i k:Nat):((List.range k).filterMap fun (m:Nat)=>xs[((i:Int) + (m:Int) * 1).toNat]?).toArray=((xs.toList.drop i).take k).toArray:=by
 have e:(fun (m:Nat)=>xs[((i:Int) + (m:Int) * 1).toNat]?)=fun m=>xs[i + m]? := by
  funext m
  have:((i:Int) + (m:Int) * 1).toNat=i + m:=by omega
  rw [this]
 rw [e]
 have:=pick_run xs i k
 rw [List.filterMap_map] at this
 have e2:((fun x=>xs[x]?)∘fun x=>i + x)=fun m=>xs[i + m]? := rfl
 rw [e2] at this
 rw [this]
theorem getItem_tuple_cut {t sl:Addr} {items:Array Value} {vl vu:Value} {lo hi:Option Int} {Q:Value→Shared→Prop} (ht:IsTup s.heap t items) (hs:s.heap.IsSliceOf sl vl vu .none) (pl:IsPart vl lo) (pu:IsPart vu hi)
  (hw:¬ (sIx items.size 0 lo=0∧sIx items.size items.size hi=items.size))
  (h:Q (.ref s.heap.objs.size) { s with heap:=s.heap.push { cls:=.type "tuple",data:=.seq ((items.toList.drop (sIx items.size 0 lo)).take (sIx items.size items.size hi - sIx items.size 0 lo)).toArray } })
  (hsz:items.size≤sizeLine):wpAny (model prog w) A (getItem (.ref t) (.ref sl)) Q E s:=by
 have htake:sizeOk (.seq ((items.toList.drop (sIx items.size 0 lo)).take (sIx items.size items.size hi - sIx items.size 0 lo)).toArray):=by
  show ((items.toList.drop (sIx items.size 0 lo)).take (sIx items.size items.size hi - sIx items.size 0 lo)).toArray.size≤sizeLine
  rw [List.size_toArray,List.length_take,List.length_drop,Array.length_toList]
  omega
 have hj:sIx items.size items.size hi≤items.size:=uO _ _ (Nat.le_refl _) hi
 obtain ⟨os,hos,hcs,hds⟩:=id hs
 have hTs:s.TypeIs (.ref sl) "slice" := ⟨os,hos,hcs⟩
 unfold getItem
 try with_reducible refine wpAny_holding ?_
 first | refine wpAny_bind (wpAny_pure ?_) | skip
 refine wpAny_bind (wpAny_sequenceKey ht.typeIs (by decide) ?_)
 refine wpAny_bind (wpAny_callSpecial?_slot (name:=Str.ofString "__getitem__") ht.typeIs PyProof.Rows.slot_tuple_getitem
  (wpAny_call_entry PyProof.Rows.slot_tuple_getitem ht.typeIs entry_tuple_getitem ?_ (args_tuple_getitem _ _)))
 show wpAny _ _ (Builtin.Tuple.tupleItemsOf (.ref t) >>= _) _ _ s
 refine wpAny_bind (tupleItemsOf_ ht ?_)
 refine wpAny_bind (wpAny_typeOf hTs ?_)
 rw [if_pos (by decide)]
 refine wpAny_bind (fJ hs pl pu ?_)
 have hno:¬ ((((sIx items.size 0 lo:Nat):Int) == 0 && (1:Int) == 1 && (sIx items.size items.size hi - sIx items.size 0 lo) == items.size)=true):=by
  intro q
  rw [Bool.and_eq_true,Bool.and_eq_true] at q
  have q1:((sIx items.size 0 lo:Nat):Int)=0:=eq_of_beq q.1.1
  have q2:sIx items.size items.size hi - sIx items.size 0 lo=items.size:=eq_of_beq q.2
  exact hw ⟨by omega,by omega⟩
 show wpAny _ _ (if (((sIx items.size 0 lo:Nat):Int) == 0 && (1:Int) == 1 && (sIx items.size items.size hi - sIx items.size 0 lo) == items.size)=true then _ else _) _ _ s
 rw [if_neg hno,qw]
 first
  | exact wpAny_bind (m:=Builtin.Tuple.tupleExact _) (wpAny_newObj_type (wpAny_pure ⟨_,rfl,wpAny_pure h⟩) htake)
  | exact wpAny_bind (m:=Builtin.Tuple.tupleExact _) (wpAny_newObj_type (wpAny_bind (wpAny_pure (wpAny_pure ⟨_,rfl,wpAny_pure h⟩))) htake)
  | exact wpAny_bind (wpAny_bind (m:=Builtin.Tuple.tupleExact _) (wpAny_newObj_type (wpAny_pure (wpAny_pure ⟨_,rfl,wpAny_pure h⟩)) htake))
  | exact wpAny_bind (wpAny_bind (m:=Builtin.Tuple.tupleExact _) (wpAny_newObj_type (wpAny_pure ⟨_,rfl,wpAny_pure h⟩) htake))
end
end HT
namespace L2
open PySem PySem.Spec PyProof.Rows
abbrev TO:=St→Hp→(Option Int→Hp→Prop)→Prop
def PO (X:Cx) (e:Option Expr) (t:TO):Prop :=
 ∀ (pins:List (Addr×Obj)) (s:Shared) (σ:St) (H:Hp) (Q:Option Int→Hp→Prop),Inv X pins σ H s→t σ H Q →
  wpAny (model X.prog X.w) X.A (evalPart e X.env) (fun u s'=>∃o H',Inv X pins σ H' s'∧IsPart u o∧Q o H') X.xe s
def sP:TO:=fun _ H Q=>Q none H
def xw (t:TE):TO:=fun σ H Q=>t σ H fun x H1=>∃i,x=.int i∧Q (some i) H1
section
variable {X:Cx} {e:Expr} {te:TE} {lo hi:Option Expr} {tl th:TO} {pos p2:Pos}
theorem iX:PO X none sP:=by
 intro pins s σ H Q I h
 rw [evalPart_none]
 exact wpAny_pure ⟨none,H,I,.none,h⟩
theorem iY (h:PE X e te):PO X (some e) (xw te):=by
 intro pins s σ H Q I hw
 rw [evalPart_some]
 refine thn (h pins s σ H _ I hw) fun u s1 ⟨x,H1,I1,r1,q1⟩=>?_
 obtain ⟨i,rfl,q⟩:=q1
 obtain ⟨t,rfl⟩:=r1
 exact ⟨some i,H1,I1,.int i t,q⟩
def SlR (X:Cx) (r:V→Option Int→Option Int→Hp→VK→Prop):Prop :=
 ∀ (pins:List (Addr×Obj)) (s:Shared) (σ:St) (H:Hp) (x:V) (v vl vu:Value) (lo hi:Option Int) (sl:Addr) (Q:VK),Inv X pins σ H s→RelV x v→s.heap.IsSliceOf sl vl vu .none→IsPart vl lo→IsPart vu hi→r x lo hi H Q →
  ∃T id,typeLookup (.type T) "__getitem__" = pure (some (.builtin id))∧s.TypeIs v T∧wpAny (model X.prog X.w) X.A (getItem v (.ref sl)) (EP X pins σ Q) X.xe s
def tSl (r:V→Option Int→Option Int→Hp→VK→Prop) (te:TE) (tl th:TO):TE:=fun σ H Q=>te σ H fun x H1=>tl σ H1 fun l H2=>th σ H2 fun u H3=>r x l u H3 Q
theorem gy {r:V→Option Int→Option Int→Hp→VK→Prop} (hr:SlR X r) (he:PE X e te) (hl:PO X lo tl) (hu:PO X hi th):PE X (.Subscript e (.Slice lo hi none p2) pos) (tSl r te tl th):=by
 intro pins s σ H Q I h
 refine Subscript_ (thn (he pins s σ H _ I h) fun v s1 ⟨x,H1,I1,r1,q1⟩=>?_)
 refine wpAny_Slice (thn (hl pins s1 σ H1 _ I1 q1) fun vl s2 ⟨l,H2,I2,pl,q2⟩=>thn (hu pins s2 σ H2 _ I2 q2) fun vu s3 ⟨u,H3,I3,pu,q3⟩=>?_)
 rw [evalPart_none]
 refine wpAny_pure ?_
 have I4:Inv X pins σ H3 { s3 with heap:=s3.heap.push { cls:=.type "slice", data:=.fields #[vl, vu, .none] } }:=I3.kept (t':=s3.toks) fun b ob q=>Heap.get?_push_of_some _ q
 obtain ⟨T,id,hT,ht,hg⟩:=hr pins { s3 with heap:=s3.heap.push { cls:=.type "slice",data:=.fields #[vl,vu,.none] } } σ H3 x v vl vu l u s3.heap.objs.size Q I4 r1 (Heap.IsSliceOf.new ..) pl pu q3
 show wpAny (model X.prog X.w) X.A (subscriptTail e (.Slice lo hi none p2) v (.ref s3.heap.objs.size)) (EP X pins σ Q) X.xe { s3 with heap:=s3.heap.push { cls:=.type "slice",data:=.fields #[vl,vu,.none] } }
 exact tail_any (ops:=[.ref s3.heap.objs.size,v]) ht hT hg (by with_unfolding_all rfl)
def eI (xs:List V) (lo hi:Option Int):List V:=(xs.drop (HT.sIx xs.length 0 lo)).take (HT.sIx xs.length xs.length hi - HT.sIx xs.length 0 lo)
theorem fS (xs:List V) (lo hi:Option Int):(eI xs lo hi).length≤xs.length:=by
 unfold eI
 rw [List.length_take,List.length_drop]
 omega
def Ej (K:PySem.W.Frag):V→Option Int→Option Int→Hp→VK→Prop:=fun x lo hi H Q=>∃a xs,x=.ref a∧SqT K H a xs ∧
 ¬ (HT.sIx xs.length 0 lo=0∧HT.sIx xs.length xs.length hi=xs.length)∧∀p,H p=none→Q (.ref p) (upd H p (.tup (eI xs lo hi)))
theorem qx:SlR X (Ej X.K):=by
 intro pins s σ H x v vl vu lo hi sl Q I rx hs pl pu h
 obtain ⟨a,xs,rfl,hx,hw,q⟩:=h
 cases rx
 obtain ⟨its,r,ht,hz⟩:=I.tuple hx
 have hlen:its.toArray.size=xs.length:=by rw [List.size_toArray]; exact r.length.symm
 refine ⟨"tuple",_,PyProof.Rows.slot_tuple_getitem.lookup,ht.typeIs,?_⟩
 refine HT.getItem_tuple_cut ht hs pl pu (by rw [hlen]; exact hw) ?_ (by rw [hlen]; exact hz)
 rw [hlen]
 refine ⟨.ref s.heap.objs.size,_,I.laid (t':=s.toks) (o:=.tup (eI xs lo hi)) (fun b ob q=>Heap.get?_push_of_some _ q) (Nat.le_refl _) ?_,rfl,q _ (I.hok.fresh (Nat.le_refl _))⟩
 exact ⟨Nat.le_trans (fS xs lo hi) hz,_,(r.drop (HT.sIx xs.length 0 lo)).take (HT.sIx xs.length xs.length hi - HT.sIx xs.length 0 lo),IsTup.new _ _⟩
def uu (K:PySem.W.Frag):R2:=fun x y H Q=>∃a b xs ys,x=.ref a∧y=.ref b∧SqT K H a xs∧SqT K H b ys∧xs≠[]∧xs.length + ys.length≤sizeLine ∧
 (ys=[]→Q (.ref a) H)∧(ys≠[]→∀p,H p=none→Q (.ref p) (upd H p (.tup (xs ++ ys))))
theorem Vals.nil_iff {xs:List V} {us:List Value} (r:Vals xs us):us=[]↔xs=[]:=by
 cases r with
 | nil=>simp
 | cons _ _=>simp
theorem sQ:OpR X (binaryOp .Add) (uu X.K):=by
 intro pins s σ H x y v u Q I rx ry h
 obtain ⟨a,b,xs,ys,rfl,rfl,ha,hb,hx,hz,q1,q2⟩:=h
 cases rx
 cases ry
 obtain ⟨its,r1,p1,_⟩:=I.tuple ha
 obtain ⟨its2,r2,p2,_⟩:=I.tuple hb
 refine HT.cat_tup p1 p2 (fun z=>hx (r1.nil_iff.mp z)) (fun z=>⟨.ref a,H,I,rfl,q1 (r2.nil_iff.mp z)⟩) (fun z=>?_) (by rw [← r1.length,← r2.length]; exact hz)
 refine ⟨.ref s.heap.objs.size,_,I.laid (t':=s.toks) (o:=.tup (xs ++ ys)) (fun b ob q=>Heap.get?_push_of_some _ q) (Nat.le_refl _) ?_,rfl,q2 (fun w=>z (r2.nil_iff.mpr w)) _ (I.hok.fresh (Nat.le_refl _))⟩
 exact ⟨by rw [List.length_append]; exact hz,_,r1.append r2,IsTup.new _ _⟩
end
end L2
namespace L2
open PySem PySem.Spec PyProof.Rows
def ixN (n:Nat) (i:Int):Option Nat:=if 0≤i then (if i < n then some i.toNat else none) else if -(n:Int)≤i then some (i + n).toNat else none
def atI {α:Type} (xs:List α) (i:Int):Option α:=(ixN xs.length i).bind fun j=>xs[j]?
theorem mz {n:Nat} {i:Int} {j:Nat} (h:ixN n i=some j):seqIndex? i n=some j∧j < n∧-(n:Int)≤i∧i < n:=by
 unfold ixN at h
 by_cases h0:0≤i
 ·rw [if_pos h0] at h
  by_cases h1:i < n
  ·rw [if_pos h1] at h
   have e:i.toNat=j:=Option.some.inj h
   exact ⟨by rw [seqIndex_of h0 h1,e],by omega,by omega,h1⟩
  ·rw [if_neg h1] at h; cases h
 ·rw [if_neg h0] at h
  by_cases h1:-(n:Int)≤i
  ·rw [if_pos h1] at h
   have e:(i + n).toNat=j:=Option.some.inj h
   exact ⟨by rw [seqIndex_neg (by omega) h1,e],by omega,h1,by omega⟩
  ·rw [if_neg h1] at h; cases h
theorem gj {α:Type} {xs:List α} {i:Int} {v:α} (h:atI xs i=some v):∃j,seqIndex? i xs.length=some j∧xs[j]? = some v∧j < xs.length∧-(xs.length:Int)≤i∧i < xs.length:=by
 unfold atI at h
 cases e:ixN xs.length i with
 | none=>rw [e] at h; cases h
 | some j =>
  rw [e] at h
  obtain ⟨h1,h2,h3,h4⟩:=mz e
  exact ⟨j,h1,h,h2,h3,h4⟩
theorem sR {α:Type} {xs:List α} {j:Nat} {v:α} (h:xs[j]? = some v):atI xs (j:Int)=some v:=by
 have hj:j < xs.length:=(List.getElem?_eq_some_iff.mp h).1
 have e:ixN xs.length (j:Int)=some j:=by
  unfold ixN
  rw [if_pos (by omega),if_pos (by omega)]; simp
 unfold atI; rw [e]; exact h
def sS (b:Expr):Prop:=∀o i,subscripted b false o i=operate [o,i] (getItem o i)
def IxR (X:Cx) (r:R2):Prop :=
 ∀ (value slice:Expr) (pins:List (Addr×Obj)) (s:Shared) (σ:St) (H:Hp) (x y:V) (v u:Value) (Q:VK),Inv X pins σ H s→RelV x v→RelV y u→r x y H Q →
  subscripted slice false v u=operate [v,u] (getItem v u)→wpAny (model X.prog X.w) X.A (subscriptTail value slice v u) (EP X pins σ Q) X.xe s
def MtR (X:Cx) (id:String) (r:V→List V→Hp→VK→Prop):Prop :=
 ∀ (pins:List (Addr×Obj)) (s:Shared) (σ:St) (H:Hp) (x:V) (xs:List V) (v:Value) (us:List Value) (Q:VK),Inv X pins σ H s→RelV x v→Vals xs us→r x xs H Q →
  wpAny (model X.prog X.w) X.A (call (.builtin id) (v :: us)) (EP X pins σ Q) X.xe s
section
variable {X:Cx} {a b:Expr} {ta tb:TE} {pos:Pos}
theorem IxR.or {r r':R2} (h:IxR X r) (h':IxR X r'):IxR X (fun x y H Q=>r x y H Q∨r' x y H Q):=by
 intro value slice pins s σ H x y v u Q I rx ry q hs
 rcases q with q | q
 ·exact h value slice pins s σ H x y v u Q I rx ry q hs
 ·exact h' value slice pins s σ H x y v u Q I rx ry q hs
theorem av {r:R2} (hr:IxR X r) (ha:PE X a ta) (hb:PE X b tb) (hs:sS b):PE X (.Subscript a b pos) (tOp r ta tb):=by
 intro pins s σ H Q I h
 exact Subscript_ (uL ha hb I h fun v u s2 x y H2 I2 rx ry q=>hr a b pins s2 σ H2 x y v u Q I2 rx ry q (hs _ _))
def xx (K:PySem.W.Frag):R2:=fun x y H Q=>∃p xs i v,x=.ref p∧y=.int i∧SqL K H p xs∧atI xs i=some v∧Q v H
def uP (K:PySem.W.Frag):R2:=fun x y H Q=>∃p xs i v,x=.ref p∧y=.int i∧SqT K H p xs∧atI xs i=some v∧Q v H
def xy:R2:=fun x y H Q=>∃z i c,x=.str z∧y=.int i∧z.length≤sizeLine∧atI z.cps.toList i=some c∧Q (.str ⟨#[c]⟩) H
theorem ix_list:IxR X (xx X.K):=by
 intro value slice pins s σ H x y v u Q I rx ry h hs
 obtain ⟨p,xs,i,z,rfl,rfl,hq,he,q⟩:=h
 cases rx
 obtain ⟨t,rfl⟩:=ry
 obtain ⟨its,r,pl,hz⟩:=I.list hq
 obtain ⟨j,h1,h2,h3,h4,h5⟩:=gj he
 obtain ⟨w,ew,rw'⟩:=r.get h2
 have hl:=r.length
 have hn:=ed
 have fin:EP X pins σ Q w s:=⟨z,H,I,rw',q⟩
 by_cases h0:0≤i
 ·have hj:i.toNat=j:=by
   rw [seqIndex_of h0 h5] at h1
   exact Option.some.inj h1
  exact item_listR pl.isList h0 (by omega) (by rw [hj]; simpa using ew) fin hs
 ·have hj:(i + (its.toArray.size:Int)).toNat=j:=by
   rw [seqIndex_neg (by omega) h4] at h1
   rw [List.size_toArray,← hl]
   exact Option.some.inj h1
  exact subscriptTail_builtinR (x:=w) pl.isList.typeIs slot_list_getitem.lookup
   (wpAny_getItem_list_neg (Q:=fun r s'=>r=w∧EP X pins σ Q r s') pl.isList (by omega) (by rw [List.size_toArray] <;> omega) (by omega) (by rw [hj]; simpa using ew) ⟨rfl,fin⟩) hs
theorem ix_tup:IxR X (uP X.K):=by
 intro value slice pins s σ H x y v u Q I rx ry h hs
 obtain ⟨p,xs,i,z,rfl,rfl,hq,he,q⟩:=h
 cases rx
 obtain ⟨t,rfl⟩:=ry
 obtain ⟨its,r,pl,hz⟩:=I.tuple hq
 obtain ⟨j,h1,h2,h3,h4,h5⟩:=gj he
 obtain ⟨w,ew,rw'⟩:=r.get h2
 have hl:=r.length
 have hn:=ed
 have fin:EP X pins σ Q w s:=⟨z,H,I,rw',q⟩
 exact subscriptTail_builtinR (x:=w) pl.typeIs slot_tuple_getitem.lookup
  (getItem_tuple (j:=j) (Q:=fun r s'=>r=w∧EP X pins σ Q r s') pl (by omega) (by omega) (by rw [List.size_toArray,← hl]; exact h1) (by simpa using ew) ⟨rfl,fin⟩) hs
theorem uQ:IxR X xy:=by
 intro value slice pins s σ H x y v u Q I rx ry h hs
 obtain ⟨z,i,c,rfl,rfl,hz,he,q⟩:=h
 obtain ⟨t,rfl⟩:=rx
 obtain ⟨t',rfl⟩:=ry
 obtain ⟨j,h1,h2,h3,h4,h5⟩:=gj he
 have hl:z.cps.toList.length=z.length:=by simp [Str.length]
 rw [hl] at h1 h4 h5
 have hn:=ed
 exact tail_any (typeIs_str s z t) slot_str_getitem.lookup (getItem_str (c:=c) (by
  have e1:decide (i < -(2 ^ 63:Int))=false:=decide_eq_false (by omega)
  have e2:decide (i≥2 ^ 63)=false:=decide_eq_false (by omega)
  rw [e1,e2,Bool.or_false]) (by rw [h1]; simpa using h2) ⟨.str ⟨#[c]⟩,H,I.tok _,⟨_,rfl⟩,q⟩) hs
def rIx (K:PySem.W.Frag):R2:=fun x y H Q=>xx K x y H Q∨uP K x y H Q∨xy x y H Q
theorem cN:IxR X (rIx X.K):=ix_list.or (ix_tup.or uQ)
theorem lg (its:List Value) (n j:Nat) (u:Value):Obj.mapSeq (·.setIfInBounds j u) { cls:=.type "list",data:=.seq its.toArray n }={ cls:=.type "list",data:=.seq (its.set j u).toArray n }:=by
 simp [Obj.mapSeq]
theorem Inv.lst {pins:List (Addr×Obj)} {σ:St} {H:Hp} {s:Shared} {p:Addr} {xs:List V} (I:Inv X pins σ H s) (h:H p=some (.lst xs)) :
  ∃ (its:List Value) (n:Nat),Vals xs its∧s.heap.get? p=some { cls:=.type "list",data:=.seq its.toArray n }∧xs.length≤sizeLine:=by
 obtain ⟨z,its,n,r,e⟩:=I.hok p _ h
 exact ⟨its,n,r,e,z⟩
theorem Inv.lstUpd {pins:List (Addr×Obj)} {σ:St} {H:Hp} {s:Shared} {p:Addr} {xs ys:List V} {its its':List Value} {n n':Nat} {f:Obj→Obj} (I:Inv X pins σ H s) (h:H p=some (.lst xs))
  (ho:s.heap.get? p=some { cls:=.type "list", data:=.seq its.toArray n }) (hf:f { cls:=.type "list", data:=.seq its.toArray n }={ cls:=.type "list", data:=.seq its'.toArray n' }) (r:Vals ys its') (hz:ys.length≤sizeLine) (t:Nat) :
  Inv X pins σ (upd H p (.lst ys)) { s with heap:=s.heap.update p f,toks:=t }:=by
 have e:(s.heap.update p f).get? p=some { cls:=.type "list", data:=.seq its'.toArray n' }:=by
  rw [Heap.get?_update_self f ho (by rw [hf] <;> rfl),hf]
 refine I.write (x:=p) (e:=p) (by rw [h]; trivial) (.inl rfl) (fun b u hb q=>(Heap.get?_update_other _ _ (Ne.symm hb)).trans q) ⟨_,e⟩ ?_
 exact ⟨hz,its',n',r,e⟩
def xz:V→V→V→Hp→(Hp→Prop)→Prop:=fun o i v H Q=>∃p xs k j,o=.ref p∧i=.int k∧H p=some (.lst xs)∧ixN xs.length k=some j∧Q (upd H p (.lst (xs.set j v)))
theorem gz:uF X xz:=by
 intro pins s σ H o i v ov iv u Q I ro ri rv h
 obtain ⟨p,xs,k,j,rfl,rfl,hp,hj,q⟩:=h
 cases ro
 obtain ⟨t,rfl⟩:=ri
 obtain ⟨its,n,r,ho,hz⟩:=I.lst hp
 obtain ⟨h1,h2,h3,h4⟩:=mz hj
 have hl:=r.length
 have hn:=ed
 have I':Inv X pins σ (upd H p (.lst (xs.set j v))) { s with heap:=s.heap.update p (Obj.mapSeq (·.setIfInBounds j u)) } :=
  I.lstUpd hp ho (lg its n j u) (r.set rv j) (by rw [List.length_set]; exact hz) s.toks
 by_cases h0:0≤k
 ·have hk:k.toNat=j:=by
   rw [seqIndex_of h0 h4] at h1
   exact Option.some.inj h1
  exact PySem.W.ki_setAt ho h0 (by omega) (by rw [List.size_toArray,← hl]; exact h4) (by rw [hk]; exact ⟨_,I',q⟩)
 ·have hk:(k + (its.toArray.size:Int)).toNat=j:=by
   rw [seqIndex_neg (by omega) h3] at h1
   rw [List.size_toArray,← hl]
   exact Option.some.inj h1
  exact PySem.W.ki_setBack ho (by omega) (by rw [List.size_toArray,← hl]; exact h3) (by omega) (by rw [hk]; exact ⟨_,I',q⟩)
theorem iZ (lo hi:Option Int) (n:Nat):(sliceBounds lo hi none n).1=((HT.sIx n 0 lo:Nat):Int)∧(sliceBounds lo hi none n).2.1=((HT.sIx n n hi:Nat):Int)∧(sliceBounds lo hi none n).2.2=1:=by
 refine ⟨?_,?_,rfl⟩
 ·cases lo with
  | none=>simp [sliceBounds,HT.sIx]
  | some i =>
   simp only [sliceBounds,HT.sIx,Option.getD_none,show (1:Int) > 0 by decide,if_true]
   by_cases h:i < 0
   ·simp only [h,if_true] <;> omega
   ·simp only [h,if_false] <;> omega
 ·cases hi with
  | none=>simp [sliceBounds,HT.sIx]
  | some i =>
   simp only [sliceBounds,HT.sIx,Option.getD_none,show (1:Int) > 0 by decide,if_true]
   by_cases h:i < 0
   ·simp only [h,if_true] <;> omega
   ·simp only [h,if_false] <;> omega
theorem ii (its:List Value) (lo hi:Option Int):slicePick its.toArray lo hi none=((its.drop (HT.sIx its.length 0 lo)).take (HT.sIx its.length its.length hi - HT.sIx its.length 0 lo)).toArray:=by
 obtain ⟨h1,h2,h3⟩:=iZ lo hi its.toArray.size
 unfold slicePick
 rw [h1,h2,h3]
 simp only [sliceRange_one,pick_run,List.size_toArray] <;> rfl
def Ek (K:PySem.W.Frag):V→Option Int→Option Int→Hp→VK→Prop:=fun x lo hi H Q=>∃a xs,x=.ref a∧SqL K H a xs∧∀p,H p=none→Q (.ref p) (upd H p (.lst (eI xs lo hi)))
theorem sT:SlR X (Ek X.K):=by
 intro pins s σ H x v vl vu lo hi sl Q I rx hs pl pu h
 obtain ⟨a,xs,rfl,hx,q⟩:=h
 cases rx
 obtain ⟨its,r,ht,hz⟩:=I.list hx
 have hlen:=r.length
 refine ⟨"list",_,slot_list_getitem.lookup,ht.isList.typeIs,?_⟩
 refine wpAny_getItem_list_slice ht.isList hs pl pu .none (by simp) ?_ (by rw [List.size_toArray] <;> omega)
 rw [ii,← hlen]
 refine ⟨.ref s.heap.objs.size,_,I.laid (t':=s.toks) (o:=.lst (eI xs lo hi)) (fun b ob q=>Heap.get?_push_of_some _ q) (Nat.le_refl _) ?_,rfl,q _ (I.hok.fresh (Nat.le_refl _))⟩
 exact ⟨Nat.le_trans (fS xs lo hi) hz,_,0,(r.drop (HT.sIx xs.length 0 lo)).take (HT.sIx xs.length xs.length hi - HT.sIx xs.length 0 lo),Heap.get?_push_size _ rfl⟩
def fT:V→Bool
 | .non=>true
 | .bl _=>true
 | .int _=>true
 | .str _=>true
 | _=>false
def eqV:V→V→Bool
 | .non,.non=>true
 | .bl a,.bl b=>a == b
 | .bl a,.int b=>(if a then 1 else 0) == b
 | .int a,.bl b=>a == (if b then 1 else 0)
 | .int a,.int b=>a == b
 | .str a,.str b=>a == b
 | _,_=>false
theorem uR {A:Around} {s:Shared} {y x:V} {u v:Value} (ry:RelV y u) (rx:RelV x v) (fy:fT y=true) (fx:fT x=true):SeqAt.EqAt A s u v (eqV y x):=by
 cases y with
 | non =>
  cases ry
  cases x with
  | non=>cases rx; exact SeqAt.EqAt.same _
  | bl b=>cases rx; exact SeqAt.EqAt.none_bool b
  | int b=>obtain ⟨t,rfl⟩:=rx; exact SeqAt.EqAt.none_int b t
  | str b=>obtain ⟨t,rfl⟩:=rx; exact SeqAt.EqAt.none_str b t
  | _=>exact absurd (show false=true from fx) Bool.false_ne_true
 | bl a =>
  cases ry
  cases x with
  | non=>cases rx; exact SeqAt.EqAt.bool_none a
  | bl b=>cases rx; exact SeqAt.EqAt.bool_bool a b
  | int b=>obtain ⟨t,rfl⟩:=rx; exact SeqAt.EqAt.bool_int a b t
  | str b=>obtain ⟨t,rfl⟩:=rx; exact SeqAt.EqAt.bool_str a b t
  | _=>exact absurd (show false=true from fx) Bool.false_ne_true
 | int a =>
  obtain ⟨t',rfl⟩:=ry
  cases x with
  | non=>cases rx; exact SeqAt.EqAt.int_none a t'
  | bl b=>cases rx; exact SeqAt.EqAt.int_bool a t' b
  | int b=>obtain ⟨t,rfl⟩:=rx; exact SeqAt.EqAt.int_int a t' b t
  | str b=>obtain ⟨t,rfl⟩:=rx; exact SeqAt.EqAt.int_str a t' b t
  | _=>exact absurd (show false=true from fx) Bool.false_ne_true
 | str a =>
  obtain ⟨t',rfl⟩:=ry
  cases x with
  | non=>cases rx; exact SeqAt.EqAt.str_none a t'
  | bl b=>cases rx; exact SeqAt.EqAt.str_bool a t' b
  | int b=>obtain ⟨t,rfl⟩:=rx; exact SeqAt.EqAt.str_int a t' b t
  | str b=>obtain ⟨t,rfl⟩:=rx; exact SeqAt.EqAt.str_str a t' b t
  | _=>exact absurd (show false=true from fx) Bool.false_ne_true
 | _=>exact absurd (show false=true from fy) Bool.false_ne_true
def eqU (x:V) (u:Value):Bool:=match u with
 | .none=>eqV .non x
 | .bool b=>eqV (.bl b) x
 | .int i _=>eqV (.int i) x
 | .str z _=>eqV (.str z) x
 | _=>false
theorem qy {x y:V} {u:Value} (r:RelV y u) (f:fT y=true):eqU x u=eqV y x:=by
 cases y with
 | non=>cases r; rfl
 | bl b=>cases r; rfl
 | int i=>obtain ⟨t,rfl⟩:=r; rfl
 | str z=>obtain ⟨t,rfl⟩:=r; rfl
 | _=>exact absurd (show false=true from f) Bool.false_ne_true
theorem eJ {x:V}:∀ {xs:List V} {us:List Value},Vals xs us→xs.all fT=true→us.any (eqU x)=xs.any fun y=>eqV y x
 | _,_,.nil,_=>rfl
 | y :: xs,u :: us,.cons r t,f=>by
  rw [List.all_cons,Bool.and_eq_true] at f
  rw [List.any_cons,List.any_cons,qy r f.1,eJ t f.2]
theorem dG {A:Around} {s:Shared} {x:V} {v:Value} (rx:RelV x v) (fx:fT x=true):∀ {xs:List V} {us:List Value},Vals xs us→xs.all fT=true→∀u∈us,SeqAt.EqAt A s u v (eqU x u)
 | _,_,.nil,_=>fun u hu=>by cases hu
 | y :: xs,u :: us,.cons r t,f=>fun u' hu=>by
  rw [List.all_cons,Bool.and_eq_true] at f
  rcases List.mem_cons.mp hu with rfl | hu
  ·rw [qy r f.1]; exact uR r rx f.1 fx
  ·exact dG rx fx t f.2 u' hu
def inV (x:V) (xs:List V):Bool:=xs.any fun y=>eqV y x
def rIn (K:PySem.W.Frag) (neg:Bool):R2:=fun x y H Q=>∃p xs,y=.ref p∧(SqL K H p xs∨SqT K H p xs)∧fT x=true∧xs.all fT=true∧Q (.bl (if neg then !inV x xs else inV x xs)) H
theorem nI:OpR X (compareOp .In) (rIn X.K false):=by
 intro pins s σ H x y v u Q I rx ry h
 obtain ⟨p,xs,rfl,hq,fx,fs,q⟩:=h
 cases ry
 rcases hq with hq | hq
 ·obtain ⟨its,r,pl,hz⟩:=I.list hq
  refine SeqAt.in_listAt (eqU x) pl.isList (fun w hw=>dG rx fx r fs w (by simpa using hw)) ⟨.bl _,H,I,rfl,?_⟩
  rw [show its.toArray.any (eqU x)=its.any (eqU x) by simp,eJ r fs]
  exact q
 ·obtain ⟨its,r,pl,hz⟩:=I.tuple hq
  refine SeqAt.in_tupleAt (eqU x) pl (fun w hw=>dG rx fx r fs w (by simpa using hw)) ⟨.bl _,H,I,rfl,?_⟩
  rw [show its.toArray.any (eqU x)=its.any (eqU x) by simp,eJ r fs]
  exact q
theorem eK:OpR X (compareOp .NotIn) (rIn X.K true):=by
 intro pins s σ H x y v u Q I rx ry h
 obtain ⟨p,xs,rfl,hq,fx,fs,q⟩:=h
 cases ry
 rcases hq with hq | hq
 ·obtain ⟨its,r,pl,hz⟩:=I.list hq
  refine SeqAt.notIn_listAt (eqU x) pl.isList (fun w hw=>dG rx fx r fs w (by simpa using hw)) ⟨.bl _,H,I,rfl,?_⟩
  rw [show its.toArray.any (eqU x)=its.any (eqU x) by simp,eJ r fs]
  exact q
 ·obtain ⟨its,r,pl,hz⟩:=I.tuple hq
  refine SeqAt.notIn_tupleAt (eqU x) pl (fun w hw=>dG rx fx r fs w (by simpa using hw)) ⟨.bl _,H,I,rfl,?_⟩
  rw [show its.toArray.any (eqU x)=its.any (eqU x) by simp,eJ r fs]
  exact q
theorem bj:cO X (.builtin "len") (fun xs H Q=>∃p ys,xs=[.ref p]∧(SqL X.K H p ys∨SqT X.K H p ys)∧Q (.int ys.length) H):=by
 intro pins s σ H xs us Q I r h
 obtain ⟨p,ys,rfl,hq,q⟩:=h
 obtain ⟨u,rfl,rx⟩:=eF r
 cases rx
 have hn:=ed
 rcases hq with hq | hq
 ·obtain ⟨its,r',pl,hz⟩:=I.list hq
  have hlen:=r'.length
  exact Calls.call_len_list pl.isList (by simp only [List.size_toArray] <;> omega) ⟨.int ys.length,H,I.tok _,⟨s.toks + 1,by rw [List.size_toArray,hlen]⟩,q⟩
 ·obtain ⟨its,r',pl,hz⟩:=I.tuple hq
  have hlen:=r'.length
  exact len_tuple pl (by simp only [List.size_toArray] <;> omega) ⟨.int ys.length,H,I.tok _,⟨s.toks + 1,by rw [List.size_toArray,hlen]⟩,q⟩
theorem eL:cO X (.type "list") (fun xs H Q=>∃p ys,xs=[.ref p]∧(SqL X.K H p ys∨SqT X.K H p ys)∧∀l,H l=none→Q (.ref l) (upd H l (.lst ys))):=by
 intro pins s σ H xs us Q I r h
 obtain ⟨p,ys,rfl,hq,q⟩:=h
 obtain ⟨u,rfl,rx⟩:=eF r
 cases rx
 have fin:∀ (its:List Value),Vals ys its→ys.length≤sizeLine→∀ (h':Heap) (c':Nat),(∀b o',s.heap.get? b=some o'→h'.get? b=some o') →
   h'.get? s.heap.objs.size=some { cls:=.type "list", dict:=none, data:=.seq its.toArray c', slots:=#[] }→EP X pins σ Q (.ref s.heap.objs.size) { s with heap:=h' }:=fun its r' hz h' c' kp e =>
  ⟨.ref s.heap.objs.size,_,I.laid (t':=s.toks) kp (Nat.le_refl _) (show ObjOk X.prog X.w _ h' _ (.lst ys) from ⟨hz,its,c',r',e⟩),rfl,q _ (I.hok.fresh (Nat.le_refl _))⟩
 rcases hq with hq | hq
 ·obtain ⟨its,r',pl,hz⟩:=I.list hq
  have hlen:=r'.length
  obtain ⟨o,ho,hc,n,hd⟩:=pl.isList
  exact call_list_seq p (.inl rfl) ho hc hd (fun h' c' kp e=>fin its r' hz h' c' kp e) (by simp only [List.size_toArray] <;> omega)
 ·obtain ⟨its,r',pl,hz⟩:=I.tuple hq
  have hlen:=r'.length
  obtain ⟨o,ho,hc,n,hd⟩:=pl
  exact call_list_seq p (.inr rfl) ho hc hd (fun h' c' kp e=>fin its r' hz h' c' kp e) (by simp only [List.size_toArray] <;> omega)
theorem dY:cO X (.type "tuple") (fun xs H Q=>∃p ys,xs=[.ref p]∧((SqL X.K H p ys∧∀l,H l=none→Q (.ref l) (upd H l (.tup ys)))∨(SqT X.K H p ys∧Q (.ref p) H))):=by
 intro pins s σ H xs us Q I r h
 obtain ⟨p,ys,rfl,h⟩:=h
 obtain ⟨u,rfl,rx⟩:=eF r
 cases rx
 rcases h with ⟨hq,q⟩ | ⟨hq,q⟩
 ·obtain ⟨its,r',pl,hz⟩:=I.list hq
  have hlen:=r'.length
  refine call_tuple_list pl.isList (fun h' kp=>?_) (by simp only [List.size_toArray] <;> omega)
  have I1:Inv X pins σ H { s with heap:=h' }:=I.kept (t':=s.toks) kp
  have I2:Inv X pins σ (upd H h'.objs.size (.tup ys)) { s with heap:=h'.push { cls:=.type "tuple", data:=.seq its.toArray } } :=
   I1.laid (t':=s.toks) (fun b o e=>Heap.get?_push_of_some _ e) (Nat.le_refl _) (show ObjOk X.prog X.w _ _ _ (.tup ys) from ⟨hz,its,r',IsTup.new _ _⟩)
  exact ⟨.ref h'.objs.size,_,I2,rfl,q _ (I1.hok.fresh (Nat.le_refl _))⟩
 ·obtain ⟨its,r',pl,hz⟩:=I.tuple hq
  exact call_tuple_same pl ⟨.ref p,H,I,rfl,q⟩
def tyV (K:PySem.W.Frag) (T:String) (x:V) (H:Hp):Prop:=match x with
 | .str _=>T = "str"
 | .int _=>T = "int"
 | .ref p=>(T = "list" ∧ ∃xs,SqL K H p xs)∨(T = "tuple" ∧ ∃o,K.lookup p=some o∧o.cls=.type "tuple" ∧ o.dict=none) ∨
   (T = "dict" ∧ ((∃kvs,H p=some (.dK kvs))∨∃kvs,H p=some (.dT kvs)))∨(T = "set" ∧ ∃S n,H p=some (.set S n))
 | _=>False
theorem qz {pins:List (Addr×Obj)} {σ:St} {H:Hp} {s:Shared} {T:String} {x:V} {v:Value} (I:Inv X pins σ H s) (r:RelV x v) (ty:tyV X.K T x H) :
  s.TypeIs v T∧∀a,v=.ref a→∃ob,s.heap.get? a=some ob∧ob.dict=none:=by
 cases x with
 | str z =>
  obtain ⟨t,rfl⟩:=r
  cases (show T = "str" from ty)
  exact ⟨typeIs_str s z t,fun _ e=>nomatch e⟩
 | int i =>
  obtain ⟨t,rfl⟩:=r
  cases (show T = "int" from ty)
  exact ⟨typeIs_int s i t,fun _ e=>nomatch e⟩
 | ref p =>
  cases r
  rcases ty with ⟨rfl,xs,hq⟩ | ⟨rfl,o,hk,hc,hd⟩ | ⟨rfl,hk⟩ | ⟨rfl,S,n,hk⟩
  ·obtain ⟨its,_,pl,_⟩:=I.list hq
   refine ⟨pl.isList.typeIs,fun a e=>?_⟩
   cases e
   obtain ⟨o,n,e,c,hd,_⟩:=pl
   exact ⟨o,e,hd⟩
  ·refine ⟨⟨o,I.kIn p o hk,hc⟩,fun a e=>?_⟩
   cases e
   exact ⟨o,I.kIn _ o hk,hd⟩
  ·have z:∃o,s.heap.get? p=some o∧o.ExactDict:=by
    rcases hk with ⟨kvs,hk⟩ | ⟨kvs,hk⟩
    ·obtain ⟨_,_,_,_,o,_,_,e,ex,_⟩:=I.hok p _ hk
     exact ⟨o,e,ex⟩
    ·obtain ⟨_,_,_,_,o,_,_,e,ex,_⟩:=I.hok p _ hk
     exact ⟨o,e,ex⟩
   obtain ⟨o,e,ex⟩:=z
   refine ⟨⟨o,e,ex.1⟩,fun a e2=>?_⟩
   cases e2
   exact ⟨o,e,ex.2.1⟩
  ·obtain ⟨o,_,_,_,e,ex,_⟩:=I.hok p _ hk
   refine ⟨⟨o,e,ex.1⟩,fun a e2=>?_⟩
   cases e2
   exact ⟨o,e,ex.2.1⟩
 | _=>exact False.elim ty
def El (K:PySem.W.Frag) (T:String) (r:V→List V→Hp→VK→Prop) (to:TE):TE:=fun σ H Q=>to σ H fun x H1=>tyV K T x H1∧r x [] H1 Q
def tBM (K:PySem.W.Frag) (T:String) (r:V→List V→Hp→VK→Prop) (to:TE) (t:TA):TE:=fun σ H Q=>to σ H fun x H1=>tyV K T x H1∧t σ H1 fun xs H2=>r x xs H2 Q
variable {o e:Expr} {es:List Expr} {to:TE} {t:TA} {name:Str} {apos cpos:Pos} {T id:String} {r:V→List V→Hp→VK→Prop}
theorem qA (pa:PlainAttrs T) (slot:Slot T name id) (hty:typeOf (.builtin id)=pure (.type "method_descriptor")) (hm:MtR X id r) (ho:PE X o to)
  (hbase:attributeBase o name X.env (eval o X.env)=eval o X.env:=by rfl) (hline:(apos.endLine == cpos.line)=true:=by rfl):PE X (.Call (.Attribute o name apos) [] [] cpos) (El X.K T r to):=by
 intro pins s σ H Q I h
 refine wpAny_Call_method0_late hbase hline (thn (ho pins s σ H _ I h) fun v s1 ⟨x,H1,I1,r1,ty,q1⟩=>?_)
 obtain ⟨h1,h2⟩:=qz I1 r1 ty
 exact ⟨T,id,pa,slot,hty,h1,h2,Calls.callWith_builtin rfl (PySem.evalArgs_none (hm pins s1 σ H1 x [] v [] Q I1 r1 .nil q1))⟩
theorem fU (pa:PlainAttrs T) (slot:Slot T name id) (hty:typeOf (.builtin id)=pure (.type "method_descriptor")) (hm:MtR X id r) (ho:PE X o to) (ha:PA X (e :: es) t)
  (hbase:attributeBase o name X.env (eval o X.env)=eval o X.env:=by rfl)
  (hfew:((backTo cpos (starEach (e :: es) X.env)).all (fun x=>!x.1) && (backToKw cpos (keywordEach [] X.env)).all (fun x=>x.1.isSome)
   && decide ((e :: es).length + ([]:List Keyword).length + (if ([]:List Keyword).isEmpty then 0 else 1) < 30))=true:=by rfl)
  (hline:(apos.endLine == cpos.line)=true:=by rfl) (hs:starEach (e :: es) X.env=(false,eval e X.env) :: starEach es X.env:=by rfl) (hplain:(backTo cpos (starEach es X.env)).any (·.1)=false:=by rfl) :
  PE X (.Call (.Attribute o name apos) (e :: es) [] cpos) (tBM X.K T r to t):=by
 intro pins s σ H Q I h
 refine wpAny_Call_method_late hbase hfew hline rfl (thn (ho pins s σ H _ I h) fun v s1 ⟨x,H1,I1,r1,ty,q1⟩=>?_)
 obtain ⟨h1,h2⟩:=qz I1 r1 ty
 refine ⟨T,id,pa,slot,hty,h1,h2,?_⟩
 have hA:=ha cpos pins s1 σ H1 _ I1 q1
 rw [hs] at hA ⊢
 refine Calls.callWith_builtin (by show (false || (backTo cpos (starEach es X.env)).any (·.1))=false; rw [hplain] <;> rfl) (Calls.evalArgs_plain ?_)
 exact thn hA fun us s2 ⟨vs,H2,I2,r2,q2⟩=>hm pins s2 σ H2 x vs v us Q I2 r1 r2 q2
/- xs.append(e),list.index on a module's tuple .. are MtR facts of 06m -/
end
end L2
namespace L2
open PySem PySem.Spec PyProof.Rows
def MtM (X:Cx) (id:String) (r:V→List V→Hp→VK→Prop):Prop :=
 ∀ (pins:List (Addr×Obj)) (s:Shared) (σ:St) (H:Hp) (x:V) (xs:List V) (v:Value) (us:List Value) (Q:VK),Inv X pins σ H s→RelV x v→Vals xs us→r x xs H Q →
  wpAny (model X.prog X.w) X.A (call (.builtin id) (v :: us)) (EP X pins σ Q) X.xe s
theorem Vals.one:∀ {x:V} {us:List Value},Vals [x] us→∃u,us=[u]∧RelV x u
 | _,_,.cons r .nil=>⟨_,rfl,r⟩
theorem Vals.zero:∀ {us:List Value},Vals [] us→us=[]
 | _,.nil=>rfl
theorem Vals.dropLast {xs:List V} {us:List Value} (h:Vals xs us):Vals xs.dropLast us.dropLast:=by
 induction h with
 | nil=>exact .nil
 | cons r t ih =>
  cases t with
  | nil=>exact .nil
  | cons q t'=>exact .cons r ih
theorem lh {α:Type} (l:List α):l.eraseIdx (l.length - 1)=l.dropLast:=by
 induction l with
 | nil=>rfl
 | cons a r ih =>
  cases r with
  | nil=>rfl
  | cons b r =>
   have e:(a :: b :: r).length - 1=((b :: r).length - 1) + 1:=by
    have h1:(a :: b :: r).length=r.length + 2:=rfl
    have h2:(b :: r).length=r.length + 1:=rfl
    omega
   rw [e,List.eraseIdx_cons_succ,ih]
   all_goals rfl
section
variable {X:Cx} {pins:List (Addr×Obj)} {σ:St} {H:Hp} {s:Shared} {l b:Addr} {xs ys zs:List V}
theorem Inv.lset {its its':List Value} {n:Nat} {f:Array Value→Array Value} {t':Nat} (I:Inv X pins σ H s) (hH:H l=some (.lst xs))
  (e:s.heap.get? l=some { cls:=.type "list", data:=.seq its.toArray n }) (hf:f its.toArray=its'.toArray) (hv:Vals ys its') (hz:ys.length≤sizeLine) :
  Inv X pins σ (upd H l (.lst ys)) { s with heap:=s.heap.update l (Obj.mapSeq f),toks:=t' }:=by
 have q:=PySem.IsL.update e f
 rw [hf] at q
 refine I.write (x:=l) (e:=l) (by rw [hH]; exact trivial) (.inl rfl) (fun b' u hb hu=>(Heap.get?_update_other s.heap (Obj.mapSeq f) (Ne.symm hb)).trans hu) ⟨_,q⟩ ?_
 exact ⟨hz,its',_,hv,q⟩
theorem Inv.lnew {its:List Value} {t':Nat} (I:Inv X pins σ H s) (hv:Vals ys its) (hz:ys.length≤sizeLine) :
  Inv X pins σ (upd H s.heap.objs.size (.lst ys)) { s with heap:=s.heap.push { cls:=.type "list", data:=.seq its.toArray }, toks:=t' } :=
 I.laid (fun _ _ q=>Heap.get?_push_of_some _ q) (Nat.le_refl _) ⟨hz,its,0,hv,Heap.get?_push_size _ rfl⟩
theorem Inv.fresh (I:Inv X pins σ H s):H s.heap.objs.size=none:=I.hok.fresh (Nat.le_refl _)
theorem Inv.lstM (I:Inv X pins σ H s) (hH:H l=some (.lst xs)):xs.length≤sizeLine∧∃ (its:List Value) (n:Nat),Vals xs its∧xs.length=its.length∧s.heap.get? l=some { cls:=.type "list",data:=.seq its.toArray n }:=by
 obtain ⟨z,its,n,r,e⟩:=I.hok l _ hH
 exact ⟨z,its,n,r,r.length,e⟩
theorem qB {n:Nat} (h:n≤sizeLine):Builtin.List.listTooLong n=false:=by
 unfold Builtin.List.listTooLong
 exact decide_eq_false (by omega)
end
section
variable {X:Cx}
def sU:V→List V→Hp→VK→Prop:=fun x vs H Q=>∃l xs y,x=.ref l∧vs=[y]∧H l=some (.lst xs)∧xs.length < sizeLine∧Q .non (upd H l (.lst (xs ++ [y])))
theorem cq:MtM X "list.append" sU:=by
 intro pins s σ H x vs v us Q I rx rv h
 obtain ⟨l,xs,y,rfl,rfl,hH,hz,q⟩:=h
 cases rx
 obtain ⟨u,rfl,ru⟩:=rv.one
 obtain ⟨z,its,n,r,hl,e⟩:=I.lstM hH
 refine call_meets F.slot_list_append ⟨_,e,rfl⟩ F.entry_list_append (F.args_list_append_2 _ _) (PySem.list_append l its.toArray n u (by rw [List.size_toArray]; omega)) ⟨e,?_⟩
 refine ⟨.non,_,I.lset (its':=its ++ [u]) hH e (by simp) (r.append (.cons ru .nil)) ?_,rfl,q⟩
 rw [List.length_append,List.length_singleton]
 omega
def sV:V→List V→Hp→VK→Prop:=fun x vs H Q=>∃l b xs zs,x=.ref l∧vs=[.ref b]∧H l=some (.lst xs)∧H b=some (.lst zs)∧xs.length + zs.length≤sizeLine∧Q .non (upd H l (.lst (xs ++ zs)))
theorem iC:MtM X "list.extend" sV:=by
 intro pins s σ H x vs v us Q I rx rv h
 obtain ⟨l,b,xs,zs,rfl,rfl,hH,hB,hz,q⟩:=h
 cases rx
 obtain ⟨u,rfl,ru⟩:=rv.one
 cases ru
 obtain ⟨z,its,n,r,hl,e⟩:=I.lstM hH
 obtain ⟨z2,its2,n2,r2,hl2,e2⟩:=I.lstM hB
 have hsz:its.toArray.size + its2.toArray.size≤sizeLine:=by rw [List.size_toArray,List.size_toArray]; omega
 have hlong:¬ (!its.toArray.isEmpty && Builtin.List.listTooLong (its.toArray.size + its2.toArray.size))=true:=by
  rw [qB hsz,Bool.and_false]
  exact Bool.false_ne_true
 refine call_meets F.slot_list_extend ⟨_,e,rfl⟩ F.entry_list_extend (F.args_list_extend_2 _ _)
  (AutoSeq1.list_extend_list_list_0 l its.toArray n b its2.toArray n2 hlong (by rw [List.size_toArray]; omega) (by omega)) ⟨e,e2,?_⟩
 refine ⟨.non,_,I.lset (its':=its ++ its2) hH e (by simp) (r.append r2) ?_,rfl,q⟩
 rw [List.length_append]
 omega
def Em:V→List V→Hp→VK→Prop:=fun x vs H Q=>∃l xs y,x=.ref l∧vs=[]∧H l=some (.lst xs)∧xs[xs.length - 1]? = some y∧Q y (upd H l (.lst xs.dropLast))
theorem qD:MtM X "list.pop" Em:=by
 intro pins s σ H x vs v us Q I rx rv h
 obtain ⟨l,xs,y,rfl,rfl,hH,hy,q⟩:=h
 cases rx
 have hus:=rv.zero
 subst hus
 obtain ⟨z,its,n,r,hl,e⟩:=I.lstM hH
 obtain ⟨u,hu,ru⟩:=r.get hy
 have hy':its.toArray[its.toArray.size - 1]? = some u:=by
  show its.toArray[its.length - 1]? = some u
  rw [← Array.getElem?_toList,← hl]
  exact hu
 refine call_meets F.slot_list_pop ⟨_,e,rfl⟩ F.entry_list_pop (F.args_list_pop_1 _) (MeetsSeq.list_pop_last l its.toArray n u hy' (by rw [List.size_toArray]; omega)) ⟨e,?_⟩
 refine ⟨y,_,I.lset (its':=its.dropLast) hH e ?_ r.dropLast ?_,ru,q⟩
 ·show its.toArray.eraseIdxIfInBounds (its.toArray.size - 1)=its.dropLast.toArray
  rw [List.size_toArray,List.eraseIdxIfInBounds_toArray,lh]
 ·rw [List.length_dropLast]
  omega
def En:R2:=fun x y H Q=>∃l b xs zs,x=.ref l∧y=.ref b∧H l=some (.lst xs)∧H b=some (.lst zs)∧xs.length + zs.length≤sizeLine∧∀p,H p=none→Q (.ref p) (upd H p (.lst (xs ++ zs)))
theorem uS:OpR X (binaryOp .Add) En:=by
 intro pins s σ H x y v u Q I rx ry h
 obtain ⟨l,b,xs,zs,rfl,rfl,hH,hB,hz,q⟩:=h
 cases rx
 cases ry
 obtain ⟨z,its,n,r,hl,e⟩:=I.lstM hH
 obtain ⟨z2,its2,n2,r2,hl2,e2⟩:=I.lstM hB
 refine PySem.P.add_list e e2 ?_ (by rw [List.size_toArray,List.size_toArray]; omega)
 have ea:its.toArray ++ its2.toArray=(its ++ its2).toArray:=by simp
 rw [ea]
 exact ⟨.ref _,_,I.lnew (t':=s.toks) (r.append r2) (by rw [List.length_append]; omega),rfl,q _ I.fresh⟩
end
section
variable {prog:Program} {w:World} {A:Around} {E:Value→Shared→Prop} {s:Shared}
end
section
variable {X:Cx}
end
end L2
namespace Att
open PySem PySem.W PySem.Calls PyProof.Rows
theorem ge {P:Params} {h:Heap}:∀ (ns:List Int) (vs:List Value),WellAll P h vs (ns.map WData.int)→IntsAre vs ns:=by
 intro ns
 induction ns with
 | nil =>
  intro vs w
  rw [List.map_nil] at w
  cases w
  exact .nil
 | cons n ns ih =>
  intro vs w
  rw [List.map_cons] at w
  cases w with
  | cons a b =>
   cases a
   exact .cons _ _ (ih _ b)
theorem nJ {l:OpenLaw} {n:Nat} (hn:l.most=some n) {P:Params} {h:Heap} {args:List WData} {vals:List Value}
  (hpre:l.row.toRowW.claim.pre args=true) (hwl:WellAll P h vals args) :
  ∃a vs ns,vals=[Value.ref a]∧args=[WData.list (ns.map WData.int)]∧h.get? a=some { cls:=.type "list",data:=.seq vs.toArray }∧IntsAre vs ns∧ns.length≤n:=by
 have hsh:WShape.hasAll [] args [.list .int]=true:=(pre_splitW hpre).1
 have hc:l.pre.holds [] { args:=args }=true:=(pre_splitW hpre).2
 obtain ⟨d,r,rfl,h1,h2⟩:=hasAllW_cons hsh
 obtain rfl:=hasAllW_nil h2
 obtain ⟨xs,rfl,h3⟩:=hasW_list h1
 obtain ⟨ns,rfl⟩:=items_int h3
 have hlen:ns.length≤n:=by
  unfold OpenLaw.pre at hc
  have h4:(WTm.not (.lt (.lit (.int (n:Int))) (.len (.arg 0)))).holds [] { args:=[.list (ns.map .int)] }=true:=by
   have h4:=(holds_andW hc).1
   rw [hn] at h4
   exact h4
  have h5:=condW_of h4 (w_not (w_lt w_lit (w_len_list (w_arg rfl))))
  rw [List.length_map] at h5
  refine Nat.le_of_not_lt fun q=>?_
  have q':(n:Int) < ((ns.length:Nat):Int):=by omega
  first
   | (rw [decide_eq_true q'] at h5; exact absurd h5 (by decide))
   | (simp at h5; omega)
 cases hwl with
 | cons w1 w2 =>
  cases w2
  cases w1 with
  | list ho hall=>exact ⟨_,_,ns,rfl,rfl,ho,ge ns _ hall,hlen⟩
theorem nL (l:OpenLaw) (args:List WData):l.row.toRowW.claim.post args (.bool true) args=true :=
 postW_of (r:=l.row.toRowW) (X:=(true == true))
  (show WShape.has [] (.bool true) .bool=true by first | rfl | decide | simp [WShape.has,WShape.arms,WShape.armsAll])
  (show (WTm.eq .res (.lit (.bool true))).value [] { args:=args,res:=some (.bool true),after:=args }=some (.bool (true == true)) from w_eq_bool (w_res rfl) w_lit) rfl
theorem attach_call {l:OpenLaw} {n:Nat} {q:Program} {loose:List Str} {XP:(Str→Option Value)→Heap→Prop} {YP:World→Heap→Prop} {d:DefRec}
  (hn:l.most=some n) (hdf:d.params.defaults=[])
  (call:∀ (w:World) (s₀ s₁:Shared) (mg mb:Str→Option Value) (fa:Addr) (o:Obj) (pm cd doc:Value) (a:Addr) (vs:List Value) (ns:List Int),
   Ground q loose [] XP w s₀ mg mb s₁.heap→YP w s₁.heap →
   s₁.heap.get? fa=some o→o.data=.func (docDef d.name d.params d.body d.scope pm cd doc)→s₁.heap.CodeRec cd d.name→mg d.name=some (.ref fa) →
   s₁.heap.get? a=some { cls:=.type "list",data:=.seq vs.toArray }→IntsAre vs ns→ns.length≤n→s₁.gens=#[] →
   codeAny (model l.prog w) callerA (.call (.ref fa) ⟨[.ref a],[]⟩) (fun r s'=>r=.ok (.ret (.bool true))∧OldK s₁.heap s'.heap∧s'.os=s₁.os∧AllBare s'.gens) s₁) :
  WalkO q loose XP YP l.row.toRowW d [] (fun f vs=>PySem.call f vs):=by
 intro w s₀ s₁ mg mb G Y fa o pm cd doc dV kV ho hd hcd hD hmg hg args vals as hpre hlay hrd hwl hlo
 obtain rfl:dV=.none:=Dflts.none hD hdf
 obtain rfl:kV=.none:=Dflts.noKw hD
 obtain ⟨a,vs,ns,rfl,rfl,hobj,hints,hlen⟩:=nJ hn hpre hwl
 refine enter_call (codeAny_mono (call w s₀ s₁ mg mb fa o pm cd doc a vs ns G Y ho (fd_plain hd) hcd hmg hobj hints hlen hg) fun r s' hq=>?_)
 obtain ⟨rfl,h2,h3,h4⟩:=hq
 exact ⟨.inl ⟨.bool true,.bool true,[],rfl,fun _=>rfl,.bool true,nL l _,fun _=>⟨List.Pairwise.nil,fun _ hm=>(nomatch hm)⟩⟩,h2,h3,h4⟩
section
variable {prog:Program} {w:World} {A:Around} {E:Value→Shared→Prop} {s:Shared} {K:Frag}
def Eo (h:Heap) (L d:Addr):List (Addr×Obj):=(List.range h.objs.size).filterMap fun a=>if a=L∨a=d then none else (h.get? a).map fun o=>(a,o)
end
end Att
namespace L2
open PySem PySem.Spec PyProof.Rows
theorem iD:∀ {vs:List Value} {ns:List Int},IntsAre vs ns→Vals (ns.map V.int) vs
 | _,_,.nil=>.nil
 | _,_,.cons n t h=>.cons ⟨t,rfl⟩ (iD h)
def uT (H:Hp):Prop:=∀b,H b=none∨∃o xs,H b=some (.frz o (.lst xs))
theorem qE {P:Program} {w:World} {K:PySem.W.Frag} {mg mb:Str→Option Value} {CX:CXT} {k:Nat} {fa a:Addr} {fd:FuncData} {x:Str} {sp:Sp} {s₁:Shared} {vs:List Value} {ns:List Int}
  (KX:K.In s₁.heap) (hns:s₁.heap.Ns mainGlobals mg) (hb:s₁.heap.Ns builtinsNs mb) (hbb:∀x:Str,x ≠ "__name__" → mb x=bootBuiltins x) (hlim:s₁.heap.NoLimit) (hg:s₁.gens=#[])
  (ha:s₁.heap.get? a=some { cls:=.type "list",data:=.seq vs.toArray }) (hi:IntsAre vs ns) (hl:ns.length≤sizeLine) (hr:Room k callerA)
  (F:∀base:Heap,K.In base→base.Ns mainGlobals mg→FnOk P w K mg base CX k fa fd [x] sp) (hbind:∀ (s:Shared) (u:Value),BindsTo s fd ⟨[u],[]⟩ [(x,u)])
  (hsp:∀H:Hp,uT H→SqL K H a (ns.map V.int)→sp [.ref a] H (fun v _=>v=.bl true) fun _ _ _=>False)
  (hCX:∀H e s',CX [] H s₁ (fun _ _ _=>False) e s'→False) :
  codeAny (model P w) callerA (.call (.ref fa) ⟨[.ref a],[]⟩) (fun r s'=>r=.ok (.ret (.bool true))∧OldK s₁.heap s'.heap∧s'.os=s₁.os∧AllBare s'.gens) s₁:=by
 have rv:=iD hi
 have lenV:=hi.length
 have core:∀H:Hp,uT H→SqL K H a (ns.map V.int)→HOk P w H s₁.heap→(∀b,H b≠none→b=a)→(H a≠none→K.lookup a=none) →
   codeAny (model P w) callerA (.call (.ref fa) ⟨[.ref a],[]⟩) (fun r s'=>r=.ok (.ret (.bool true))∧OldK s₁.heap s'.heap∧s'.os=s₁.os∧AllBare s'.gens) s₁:=by
  intro H hO hS hok hA hK
  have base_of:∀ {b:Addr} {o:Obj},s₁.heap.get? b=some o→H b=none→(iS s₁.heap H).get? b=some o:=fun e n=>qe e n
  have noA:∀ {b:Addr} {o:Obj} {es:Array DictEntry} {ep:Nat},s₁.heap.get? b=some o→o.data=.dict es ep→H b=none:=fun {b o es ep} e d=>by
   cases q:H b with
   | none=>rfl
   | some u =>
    have e':b=a:=hA b (by rw [q]; simp)
    subst e'
    rw [ha] at e; cases e
    have d':Data.seq vs.toArray _=Data.dict es ep:=d
    cases d'
  have nsK:∀ {b:Addr} {m:Str→Option Value},s₁.heap.Ns b m→(iS s₁.heap H).Ns b m:=fun {b m} ⟨o,es,ep,e,d,r⟩=>⟨o,es,ep,base_of e (noA e d),d,r⟩
  have hKb:K.In (iS s₁.heap H):=fun b o e=>base_of (KX b o e) (by
   cases q:H b with
   | none=>rfl
   | some u =>
    have e':b=a:=hA b (by rw [q]; simp)
    subst e'
    rw [hK (by rw [q]; simp)] at e; cases e)
  have hM:Mod K mg (iS s₁.heap H):=⟨hKb,nsK hns,⟨mb,nsK hb,hbb⟩,let ⟨mc,h1,h2⟩:=hlim; ⟨mc,nsK h1,h2⟩⟩
  have e0:Env0 P w K mg (iS s₁.heap H) callerA [] s₁ H:=⟨rfl,hM,fun b o e=>sC e,Nat.le_of_eq (nz _ _),trivial,fun b hb=>absurd (show b∈([]:List Addr) from hb) (by simp),hok,.of_eq hg⟩
  refine codeAny_mono ((F _ hKb (nsK hns)).run callerA [] s₁ H ⟨[.ref a],[]⟩ [.ref a] [.ref a] _ _ hr e0 (hbind s₁ (.ref a)) (.cons rfl .nil) (hsp H hO hS)) fun r s' h=>?_
  cases r with
  | error e=>exact (hCX H e s' h).elim
  | ok fl =>
   cases fl with
   | next=>exact False.elim h
   | brk=>exact False.elim h
   | cont=>exact False.elim h
   | ret u =>
    obtain ⟨v,H',os,bare,un,hok',r',q⟩:=h
    have q':v=.bl true:=q
    subst q'
    obtain rfl:u=Value.bool true:=r'
    refine ⟨rfl,OldK.of_keep fun b o e=>?_,os,bare⟩
    cases q:H b with
    | none=>exact un.keep b o e q (by intro z; exact absurd (show b∈([]:List Addr) from z) (by simp)) (by simp)
    | some u =>
     rcases hO b with z | ⟨ob,xs,z⟩
     ·rw [q] at z; cases z
     ·have z2:=un.frzs b ob _ z
      obtain ⟨e1,_⟩:=hok b _ z
      obtain ⟨e2,_⟩:=hok' b _ z2
      rw [e] at e1; cases e1
      exact e2
 cases hk:K.lookup a with
 | some o =>
  have e:=KX a o hk
  rw [ha] at e
  cases e
  refine core (fun _=>none) (fun _=>.inl rfl) (.inr ⟨_,vs.toArray,_,hk,rfl,rfl,rfl,by rw [List.size_toArray,lenV]; exact hl,by simpa using rv⟩) (fun b u z=>by have z':(none:Option HO)=some u:=z; cases z') (fun b z=>absurd rfl z) fun z=>absurd rfl z
 | none =>
  refine core (fun b=>if b=a then some (.frz { cls:=.type "list",data:=.seq vs.toArray } (.lst (ns.map V.int))) else none) (fun b=>?_) (.inl (.inr ⟨{ cls:=.type "list",data:=.seq vs.toArray },if_pos rfl⟩)) (fun b u z=>?_) (fun b z=>?_) fun _=>hk
  ·by_cases hb:b=a
   ·exact .inr ⟨_,_,if_pos hb⟩
   ·exact .inl (if_neg hb)
  ·by_cases hb:b=a
   ·have z':=(if_pos hb).symm.trans z
    cases z'
    subst hb
    exact ⟨ha,by rw [List.length_map]; exact hl,vs,_,rv,ha⟩
   ·have z':=(if_neg hb).symm.trans z
    cases z'
  ·by_cases hb:b=a
   ·exact hb
   ·exact absurd (if_neg hb) z
end L2
namespace L2
open PySem PySem.Spec PyProof.Rows
theorem walk_of {l:PySem.W.OpenLaw} {n k:Nat} {q:Program} {loose:List Str} {XP:(Str→Option Value)→Heap→Prop} {YP:World→Heap→Prop} {d:DefRec} {K:Params→PySem.W.Frag} {CX:World→CXT} {sp:World→Sp} {x:Str}
  (hn:l.most=some n) (hn2:n≤sizeLine) (hdf:d.params.defaults=[]) (hr:Room k callerA)
  (hY:∀ (w:World) (h:Heap),YP w h→(K w.params).In h)
  (F:∀ (w:World) (mg:Str→Option Value) (fa:Addr) (h:Heap),(K w.params).In h→h.Ns mainGlobals mg→mg d.name=some (.ref fa) →
   ∃fd:FuncData,(∀ (s:Shared) (u:Value),BindsTo s fd ⟨[u],[]⟩ [(x,u)]) ∧
    ∀base:Heap,(K w.params).In base→base.Ns mainGlobals mg→FnOk l.prog w (K w.params) mg base (CX w) k fa fd [x] (sp w))
  (hsp:∀ (w:World) (H:Hp) (a:Addr) (ns:List Int),ns.length≤n→uT H→SqL (K w.params) H a (ns.map V.int)→sp w [.ref a] H (fun v _=>v=.bl true) fun _ _ _=>False)
  (hCX:∀ (w:World) (H:Hp) (s:Shared) (e:Value) (s':Shared),CX w [] H s (fun _ _ _=>False) e s'→False) :
  PySem.W.WalkO q loose XP YP l.row.toRowW d [] (fun f vs=>PySem.call f vs):=by
 refine Att.attach_call hn hdf fun w s₀ s₁ mg mb fa o pm cd doc a vs ns G Y ho hd hcd hmg hobj hints hlen hg=>?_
 have KX:=hY w _ Y
 obtain ⟨fd,hb,hF⟩:=F w mg fa _ KX G.T.g hmg
 exact qE KX G.T.g G.T.b G.T.builtins G.T.nolimit hg hobj hints (Nat.le_trans hlen hn2) hr hF hb (fun H hO hS=>hsp w H a ns hlen hO hS) fun H e s'=>hCX w H s₁ e s'
end L2
namespace L2
open PySem PySem.Spec PyProof.Rows
def inClass (s:Stmt) (j:Nat):Stmt:=match s with
 | .ClassDef _ _ _ body _ _ _ _ _ _ _=>body.getD j (.Pass ⟨0,0,0,0⟩)
 | _=>.Pass ⟨0,0,0,0⟩
def defArgs (s:Stmt):Arguments:=match s with
 | .FunctionDef _ a _ _ _ _ _ _ _ _=>a
 | _=>{ posonlyargs:=[],args:=[],vararg:=none,kwonlyargs:=[],kw_defaults:=[],kwarg:=none,defaults:=[] }
def defBody (s:Stmt):List Stmt:=match s with
 | .FunctionDef _ _ b _ _ _ _ _ _ _=>b
 | _=>[]
def defScope (s:Stmt):Scope:=match s with
 | .FunctionDef _ _ _ _ _ _ sc _ _ _=>sc
 | _=>{ kind:=.function,names:=[],isGenerator:=false,isCoroutine:=false }
abbrev CX0:CXT:=fun _ _ _ _ _ _=>False
abbrev E0:XK:=fun _ _ _=>False
theorem mB {X:Cx}:ef CX0 X E0:=fun _ _ _ _ _ _ _ h=>h.elim
structure Fun (K:PySem.W.Frag) (x qual:Str) (st:Stmt) (f:Addr) (fd:FuncData):Prop where
 ex:∃ (oc:Value) (od:Option Addr) (kV doc pm:Value) (an:Option Addr) (cdv ct:Value) (osl:Array (Option Value)),
  fd=PySem.W.fnOf x qual (defArgs st) (defBody st) (defScope st) .none kV doc pm an cdv ct∧K.lookup f=some ⟨oc,od,.func fd,osl⟩∧PySem.W.codeIn K cdv qual=true
 kp:PySem.W.keepIn K (.ref f)=true
section
variable {P:Program} {w:World} {K:PySem.W.Frag} {mg:Str→Option Value} {base:Heap}
theorem Fun.ok {x qual:Str} {st:Stmt} {f:Addr} {fd:FuncData} {N ps:List Str} {k:Nat} {sp:Sp} (F:Fun K x qual st f fd) (S:FnScope N ps (defScope st)) (len:∀vs H Q E,sp vs H Q E→vs.length=ps.length)
  (hbody:∀ (cdv:Value) (A:Around) (outer:List Env) (s:Shared) (H:Hp) (vs:List V) (Q:VK) (E:XK),Room k (A.deeper (envOfC qual (defScope st) s.heap.objs.size f cdv))→sp vs H Q E →
   ∃t,PSs (nG CX0 P w K mg base N qual (defScope st) f cdv A outer s H E).nox (defBody st) t∧t { nx:=fun _ H'=>Q .non H',rt:=Q } (dX N vs) H):FnOk P w K mg base CX0 (k + 1) f fd ps sp:=by
 obtain ⟨oc,od,kV,doc,pm,an,cdv,ct,osl,rfl,lk,hcd⟩:=F.ex
 refine xu lk hcd S len fun A outer s H vs Q E hr hsp=>?_
 obtain ⟨t,h,q⟩:=hbody cdv A outer s H vs Q E hr hsp
 exact ⟨t,h.nox,q⟩
theorem Fun.binds {x qual:Str} {st:Stmt} {f:Addr} {fd:FuncData} {ps:List Str} (F:Fun K x qual st f fd)
  (h:∀ (kV doc pm:Value) (an:Option Addr) (cdv ct:Value) (us:List Value),us.length=ps.length→bindArgs (PySem.W.fnOf x qual (defArgs st) (defBody st) (defScope st) .none kV doc pm an cdv ct) ⟨us,[]⟩=pure (ps.zip us)):Binds K fd ps []:=by
 obtain ⟨oc,od,kV,doc,pm,an,cdv,ct,osl,rfl,lk,hcd⟩:=F.ex
 exact .all (h kV doc pm an cdv ct)
theorem ay {x qual:Str} {st:Stmt} {f:Addr} {oc:Value} {od an:Option Addr} {osl:Array (Option Value)} {kV doc pm cdv ct:Value} (l:K.lookup f=some ⟨oc,od,.func (PySem.W.fnOf x qual (defArgs st) (defBody st) (defScope st) .none kV doc pm an cdv ct),osl⟩)
  (c:PySem.W.codeIn K cdv qual=true) (k:PySem.W.keepIn K (.ref f)=true):Fun K x qual st f (PySem.W.fnOf x qual (defArgs st) (defBody st) (defScope st) .none kV doc pm an cdv ct):=⟨⟨oc,od,kV,doc,pm,an,cdv,ct,osl,rfl,l,c⟩,k⟩
end
section
variable {X:Cx}
theorem pv (i:Nat) {x:Str} {pos:Pos} (hN:X.N[i]? = some x:=by rfl) (hv:Vis X.env.scope x:=by first | exact Or.inl rfl | exact Or.inr (Or.inl rfl) | exact Or.inr (Or.inr rfl)) (hd:(x == ("__debug__" : Str))=false:=by decide)
  (hcd:(x == ("__classdict__" : Str))=false:=by decide):PE X (.Name x pos) (sE i):=uE hN hv hd hcd
end
theorem az {A B:Prop} (h:B):if false=true then A else B:=by
 rw [if_neg Bool.false_ne_true]
 exact h
theorem be {A B:Prop} (h:A):if true=true then A else B:=by
 rw [if_pos rfl]
 exact h
theorem cC {c A B:Prop} [Decidable c] (h1:c→A) (h2:¬ c→B):if c then A else B:=by
 by_cases h:c
 ·rw [if_pos h]
  exact h1 h
 ·rw [if_neg h]
  exact h2 h
def Same (H H':Hp):Prop:=∀b o,H b=some o→H' b=some o
theorem Same.refl (H:Hp):Same H H:=fun _ _ h=>h
theorem Same.trans {H H1 H2:Hp} (a:Same H H1) (b:Same H1 H2):Same H H2:=fun c o h=>b c o (a c o h)
theorem Same.free {H H':Hp} (e:Same H H') {l:Addr} (h:H' l=Option.none):H l=Option.none:=by
 cases q:H l with
 | none=>rfl
 | some o =>
  rw [e l o q] at h
  cases h
end L2
set_option Elab.async false
set_option linter.all false
set_option maxRecDepth 100000
namespace L2
open PySem PySem.Spec PyProof.Rows
def aV (env:Env):List (Str×NameKind)→List (Str×Addr)→List (Str×Addr)
 | [],acc=>acc
 | (n,k) :: r,acc=>aV env r (if (k == NameKind.free)=true then (n,(env.cells.lookup n).getD 0) :: acc else acc)
theorem ci (env:Env):∀ (names:List (Str×NameKind)) (acc:List (Str×Addr)) (x:Str) (c:Addr),(∀y∈names,y.2=.free→∃c,env.cells.lookup y.1=some c) →
  (∀x c,acc.lookup x=some c→env.cells.lookup x=some c)→(aV env names acc).lookup x=some c→env.cells.lookup x=some c
 | [],acc,x,c,_,h,e=>h x c e
 | (n,k) :: r,acc,x,c,hf,h,e=>by
  refine ci env r _ x c (fun y hy=>hf y (List.mem_cons_of_mem _ hy)) (fun x c e'=>?_) e
  by_cases hk:(k == NameKind.free)=true
  ·rw [if_pos hk] at e'
   obtain ⟨c0,hc0⟩:=hf (n,k) List.mem_cons_self (by simpa using hk)
   have hc0':env.cells.lookup n=some c0:=hc0
   rw [List.lookup_cons] at e'
   cases hx:x == n with
   | true =>
    rw [hx] at e'
    have:x=n:=by simpa using hx
    subst this
    rw [hc0'] at e' ⊢
    simpa using e'
   | false=>rw [hx] at e'; exact h x c e'
  ·rw [if_neg hk] at e'; exact h x c e'
theorem gA (env:Env):∀ (names:List (Str×NameKind)) (acc:List (Str×Addr)) (x:Str),(∃c,acc.lookup x=some c)→∃c,(aV env names acc).lookup x=some c
 | [],acc,x,h=>h
 | (n,k) :: r,acc,x,h=>by
  refine gA env r _ x ?_
  by_cases hk:(k == NameKind.free)=true
  ·rw [if_pos hk,List.lookup_cons]
   cases hx:x == n with
   | true=>exact ⟨_,rfl⟩
   | false=>exact h
  ·rw [if_neg hk]; exact h
theorem fK (env:Env):∀ (names:List (Str×NameKind)) (acc:List (Str×Addr)) (x:Str),(x,NameKind.free)∈names→∃c,(aV env names acc).lookup x=some c
 | [],acc,x,h=>by simp at h
 | (n,k) :: r,acc,x,h=>by
  rcases List.mem_cons.mp h with e | e
  ·have e1:x=n:=congrArg Prod.fst e
   have e2:NameKind.free=k:=congrArg Prod.snd e
   subst e1
   subst e2
   refine gA env r _ x ?_
   rw [if_pos (by simp),List.lookup_cons]
   simp
  ·exact fK env r _ x e
theorem eg {env:Env} {scope:Scope} (hf:∀y∈scope.names,y.2=.free→∃c,env.cells.lookup y.1=some c):closureFor scope env=pure (aV env scope.names []):=by
 have key:∀ (names:List (Str×NameKind)) (acc:List (Str×Addr)),(∀y∈names,y.2=.free→∃c,env.cells.lookup y.1=some c) →
   (forIn names acc (fun (x:Str×NameKind) (r:List (Str×Addr))=>(if (x.2 == NameKind.free)=true then do
    let a←cellOf env x.1
    pure (ForInStep.yield ((x.1,a) :: r)) else pure (ForInStep.yield r)) ):Sem (List (Str×Addr)))=pure (aV env names acc):=by
  intro names
  induction names with
  | nil=>intro acc _; rfl
  | cons y r ih =>
   intro acc h
   obtain ⟨n,k⟩:=y
   have ih':=fun acc=>ih acc fun z hz=>h z (List.mem_cons_of_mem _ hz)
   rw [List.forIn_cons]
   by_cases hk:(k == NameKind.free)=true
   ·obtain ⟨c,hc⟩:=h (n,k) List.mem_cons_self (by simpa using hk)
    have hc':env.cells.lookup n=some c:=hc
    have e1:cellOf env n=pure c:=by unfold cellOf; rw [hc']
    have e2:aV env ((n,k) :: r) acc=aV env r ((n,c) :: acc):=by
     show aV env r _=_
     rw [if_pos hk,hc']; rfl
    rw [if_pos hk,e2,← ih']
    show ((cellOf env n >>= fun a=>pure (ForInStep.yield ((n,a) :: acc))) >>= _)=_
    rw [e1]
    rfl
   ·have e2:aV env ((n,k) :: r) acc=aV env r acc:=by
     show aV env r _=_
     rw [if_neg hk]
    rw [if_neg hk,e2,← ih']
    rfl
 have:=key scope.names [] hf
 simp only [closureFor]
 exact (congrArg (fun m=>m >>= fun r=>(pure r:Sem _)) this).trans rfl
theorem ja {env:Env} {scope:Scope} (hcell:∀y∈scope.names,y.2≠.cell) {x:Str}:((relabel scope env).names.lookup x=some .cell∨(relabel scope env).names.lookup x=some .free)→(x,NameKind.free)∈scope.names:=by
  have key:∀names:List (Str×NameKind),(∀y∈names,y.2≠.cell)→∀k,(names.map fun (n,k)=>if (k == NameKind.free && env.scope.kind == .function && env.kindOf n == some .cell) then (n,NameKind.cell) else (n,k)).lookup x=some k →
      (k=.cell∨k=.free)→(x,NameKind.free)∈names:=by
    intro names
    induction names with
    | nil=>intro _ k h _; simp at h
    | cons y r ih =>
      obtain ⟨n,k'⟩:=y
      intro hc k h hk
      have nc:k'≠.cell:=hc (n,k') List.mem_cons_self
      rw [List.map_cons] at h
      by_cases hb:(k' == NameKind.free && env.scope.kind == .function && env.kindOf n == some .cell)=true
      · have hb':k'=.free:=by simp at hb; exact hb.1.1
        dsimp only at h
        rw [if_pos hb,List.lookup_cons] at h
        cases hx:x == n with
        | true => have : x = n := by simpa using hx
                  subst this; subst hb'; exact List.mem_cons_self
        | false=>rw [hx] at h; exact List.mem_cons_of_mem _ (ih (fun y hy=>hc y (List.mem_cons_of_mem _ hy)) k h hk)
      · dsimp only at h
        rw [if_neg hb,List.lookup_cons] at h
        cases hx:x == n with
        | true =>
          rw [hx] at h
          have:x=n:=by simpa using hx
          subst this
          have e:k'=k:=by simpa using h
          rcases hk with q | q
          · exact absurd (e.trans q) nc
          · rw [e,q]; exact List.mem_cons_self
        | false=>rw [hx] at h; exact List.mem_cons_of_mem _ (ih (fun y hy=>hc y (List.mem_cons_of_mem _ hy)) k h hk)
  rintro (h | h)
  · exact key _ hcell _ h (.inl rfl)
  · exact key _ hcell _ h (.inr rfl)
def aF (X:Cx) (pins:List (Addr×Obj)) (s2:Shared) (H2:Hp) (scope:Scope) (C:Addr) (N':List Str) (fp:List Addr):Cx where
 prog:=X.prog
 w:=X.w
 K:=X.K
 mg:=X.mg
 base:=X.base
 A:=X.A
 N:=N'
 s₀:=s2
 H₀:=H2
 env:=compEnvC scope (aV X.env scope.names []) C X.env
 outer:=X.stack
 stack:=X.stack
 ex:=fp
 fn:=fun _=>false
 calm:=X.calm
 pn:=X.pn ++ pins
 xe:=fun _ _=>False
def bf (σ:St) (cap:List Nat) (k:Nat):St:=List.replicate k none ++ cap.map fun j=>(σ[j]?).join
def leS (σ σ':St):Prop:=σ'.length=σ.length∧∀ (i:Nat) v,σ[i]? = some (some v)→σ'[i]? = some (some v)
theorem leS.set {σ:St} {i:Nat} {v:V} (h:σ[i]? = some none):leS σ (σ.set i (some v)):=by
 refine ⟨by simp,fun j w e=>?_⟩
 by_cases hj:j=i
 ·subst hj; rw [h] at e; cases e
 ·rw [List.getElem?_set_ne (Ne.symm hj)]; exact e
structure CompOk (X:Cx) (scope:Scope) (own:List Str) (cs:List Str) (cap:List Nat):Prop where
 kind:scope.kind=.function
 cell:∀y∈scope.names,y.2≠.cell
 names:∀y∈scope.names,y.2=.local→scope.names.lookup y.1=some .local
 free:∀y∈scope.names,y.2=.free→X.env.kindOf y.1=some .cell∨X.env.kindOf y.1=some .free
 caps:∀ (i:Nat) y,cs[i]? = some y→∃j,cap[i]? = some j∧X.N[j]? = some y∧(y,NameKind.free)∈scope.names
 ownl:∀y∈own,scope.names.lookup y=some .local
 len:cs.length=cap.length
 free2:∀y,(y,NameKind.free)∈scope.names→scope.names.lookup y=some .local→False
def jb (X:Cx) (ifs:List Expr) (tt:TT):Prop :=
 ∀ (pins:List (Addr×Obj)) (s:Shared) (σ:St) (H:Hp) (Q:Bool→Hp→Prop),Inv X pins σ H s→tt σ H Q →
  wpAny (model X.prog X.w) X.A (forIn ifs true fun c r=>if r=true then do let ok←isTrue c X.env (eval c X.env); pure (ForInStep.yield ok) else pure (ForInStep.yield r)) (TP X pins σ Q) X.xe s
def xA:TT:=fun _ H Q=>Q true H
theorem bA {X:Cx}:jb X [] xA:=fun _ _ _ H _ I h=>wpAny_tests_nil ⟨H,I,h⟩
theorem qF {X:Cx} {c:Expr} {tt:TT} (h:PT X c tt):jb X [c] tt:=fun pins s σ H Q I q=>wpAny_tests_one (h pins s σ H Q I q)
def fV (σ:St) (cap:List Nat) (k:Nat) (J:It) (g:TG) (tt:TT) (te:TE) (Q:List V→Hp→Prop) (W:Nat→Nat→List V→Hp→Prop):Prop :=
 ∀i m ys H,W i m ys H→(J.stop i H∧ys.length≤sizeLine∧Q ys H) ∨
  (J.go i H∧ys.length < sizeLine∧∀x H',J.yld i H x H'→g x (bf σ cap k) H' fun σ2 H2=>leS (bf σ cap k) σ2∧tt σ2 H2 fun ok H3 =>
   if ok=true then te σ2 H3 (fun v H4=>∃m',m' < m∧W (i + 1) m' (ys ++ [v]) H4) else ∃m',m' < m∧W (i + 1) m' ys H3)
theorem HOk.add {P:Program} {w:World} {H:Hp} {h:Heap} {a:Addr} {o:HO} (x:HOk P w H h) (n:H a=none) (new:ObjOk P w (upd H a o) h a o):HOk P w (upd H a o) h:=fun b u e=>by
 by_cases hb:b=a
 ·subst hb; rw [af] at e; cases e; exact new
 ·rw [aj hb] at e
  exact (x b u e).stay (fun c v _ q=>q) (fun c q=>by rw [aj (am q n)]; exact q) fun c xs q=>by rw [aj (am q n)]; exact q
section
variable {X:Cx} {pins:List (Addr×Obj)} {σ:St} {H2:Hp} {s2:Shared} {scope:Scope} {own cs:List Str} {cap:List Nat} {fp:List Addr}
theorem iE {h1:Heap} {C:Addr} {tk:Nat} (I:Inv X pins σ H2 s2) (ok:CompOk X scope own cs cap) (hf:∀b∈fp,dU X pins H2 b) (hfl:∀b∈fp,b < s2.heap.objs.size)
  (hC:s2.heap.objs.size≤C) (hns:h1.Ns C (fun _=>none)) (old:∀b o,s2.heap.get? b=some o→h1.get? b=some o) :
  Inv (aF X pins s2 H2 scope C (own ++ cs) fp) [] (bf σ cap own.length) H2 { s2 with heap:=h1,toks:=tk }:=by
 have hfr:∀y∈scope.names,y.2=.free→∃c,X.env.cells.lookup y.1=some c:=fun y hy e=>I.ok.has y.1 (ok.free y hy e)
 have sub:∀x c,(aV X.env scope.names []).lookup x=some c→X.env.cells.lookup x=some c:=fun x c e=>ci X.env scope.names [] x c hfr (fun _ _ z=>by simp at z) e
 have clt:∀x c,(aV X.env scope.names []).lookup x=some c→c < s2.heap.objs.size:=fun x c e=>by
  obtain ⟨v,o,ho,_⟩:=I.cell x c (sub x c e)
  exact Heap.lt_size ho
 refine ⟨⟨I.ok.mod,ok.kind,I.ok.glob,I.ok.blt,hC,fun y z c h1 h2=>I.ok.inj y z c (sub y c h1) (sub z c h2),fun y hy=>?_,fun y c z=>?_,I.ok.hd,I.ok.frames,.inl rfl,fun b hb=>?_,I.bs,Nat.le_trans I.ok.bsz I.sz,fun b o e hb=>?_,fun b hb z=>?_,I.stack,I.stkFree⟩,
  rfl,I.bare,Un.kept old,⟨_,hns,fun i y v e1 e2 e3=>?_⟩,fun y c e=>?_,I.hok.fresh hC,fun y c e=>I.freeC y c (sub y c e),fun p hp=>?_,I.hok.kept old,?_⟩
 ·have hm:=ja ok.cell hy
  exact fK X.env scope.names [] y hm
 ·exact absurd (show false=true from z) Bool.false_ne_true
 ·exact ⟨Nat.ne_of_lt (Nat.lt_of_lt_of_le (hfl b hb) hC),fun x c e=>(hf b hb).2.2.2.2.1 x c (sub x c e)⟩
 ·rcases (hf b hb).2.2.2.1 with z | z
  ·exact I.ok.noex b o e z
  ·exact absurd (Nat.lt_of_lt_of_le (Heap.lt_size (I.ok.bs b o e).1) z) (Nat.lt_irrefl _)
 ·rcases List.mem_cons.mp (I.stkSub b z) with q | q
  ·exact (hf b hb).2.1 q
  ·exact (hf b hb).2.2.1 q
 ·have hi:own.length≤i:=by
   refine Nat.le_of_not_lt fun q=>?_
   unfold bf at e2
   rw [List.getElem?_append_left (by simpa using q),List.getElem?_replicate] at e2
   split at e2 <;> cases e2
  have e1':cs[i - own.length]? = some y:=by
   have e1:(own ++ cs)[i]? = some y:=e1
   rwa [List.getElem?_append_right hi] at e1
  obtain ⟨j,hj,hN,hm⟩:=ok.caps _ y e1'
  have hk:=ok.free _ hm rfl
  have e2':σ[j]? = some (some v):=by
   unfold bf at e2
   rw [List.getElem?_append_right (by simpa using hi),List.length_replicate,List.getElem?_map,hj] at e2
   have e2:(σ[j]?).join=some v:=by simpa using e2
   cases q:σ[j]? with
   | none=>rw [q] at e2; cases e2
   | some w=>rw [q] at e2; have:w=some v:=e2; rw [this]
  obtain ⟨m,hn,hl⟩:=I.loc
  obtain ⟨u,ru,l⟩:=hl j y v hN e2' (by rcases hk with q | q; exact .inr (.inl q); exact .inr (.inr q))
  refine ⟨u,ru,.inr ?_⟩
  obtain ⟨c,hc⟩:=fK X.env scope.names [] y hm
  have hc':=sub y c hc
  have cellu:h1.IsCell c (some u):=by
   rcases l with ⟨k,_⟩ | ⟨k,c',e,o,ho,hd⟩
   ·rcases hk with q | q <;> (have z:X.env.kindOf y=_:=q; rw [k] at z; cases z)
   ·rw [hc'] at e; cases e
    exact ⟨o,old _ _ ho,hd⟩
  refine ⟨?_,c,hc,cellu⟩
  rcases e3 with z | z | z
  ·exfalso
   have key:∀names:List (Str×NameKind),True:=fun _=>trivial
   have z:(relabel scope X.env).names.lookup y=some .local:=z
   have zz:scope.names.lookup y=some .local:=by
    unfold relabel at z
    dsimp only at z
    revert z
    generalize scope.names=names
    induction names with
    | nil=>intro z; simp at z
    | cons q r ih =>
     obtain ⟨n,k⟩:=q
     intro z
     rw [List.map_cons] at z
     by_cases hb:(k == NameKind.free && X.env.scope.kind == .function && X.env.kindOf n == some .cell)=true
     ·dsimp only at z
      rw [if_pos hb,List.lookup_cons] at z
      rw [List.lookup_cons]
      cases hx:y == n with
      | true=>rw [hx] at z; cases z
      | false=>rw [hx] at z; exact ih z
     ·dsimp only at z
      rw [if_neg hb,List.lookup_cons] at z
      rw [List.lookup_cons]
      cases hx:y == n with
      | true=>rw [hx] at z; exact z
      | false=>rw [hx] at z; exact ih z
   have:=ok.free2 y hm zz
   exact this
  ·exact .inl z
  ·exact .inr z
 ·obtain ⟨v,o,ho,hd⟩:=I.cell y c (sub y c e)
  exact ⟨v,o,old _ _ ho,hd⟩
 ·have hp':p∈X.pn ++ pins:=by
   have:p∈(X.pn ++ pins) ++ []:=hp
   simpa using this
  obtain ⟨e,n,ne,nf,d⟩:=I.pin p hp'
  refine ⟨old _ _ e,n,Nat.ne_of_lt (Nat.lt_of_lt_of_le (Heap.lt_size e) hC),fun z=>?_,d⟩
  rcases List.mem_cons.mp (I.stkSub p.1 z) with q | q
  ·exact ne q
  ·exact nf q
 ·show (bf σ cap own.length).length=(own ++ cs).length
  unfold bf
  rw [List.length_append,List.length_replicate,List.length_map,List.length_append,ok.len]
end
end L2
set_option Elab.async false
set_option linter.all false
set_option maxRecDepth 100000
namespace L2
open PySem PySem.Spec PyProof.Rows
section
variable {X:Cx} {pins:List (Addr×Obj)} {σ:St} {H2:Hp} {s2:Shared} {scope:Scope} {own cs:List Str} {cap:List Nat} {fp:List Addr} {it:Addr} {tn:Nat→Heap→Prop}
 {elt tg iter:Expr} {ifs:List Expr} {pos:Pos} {J:It} {g:TG} {tt:TT} {te:TE} {E:Value→Shared→Prop} {W:Nat→Nat→List V→Hp→Prop} {Qf:List V→Hp→Prop}
structure BlkEnd (X:Cx) (pins:List (Addr×Obj)) (σ:St) (Qf:List V→Hp→Prop) (D C:Addr) (s':Shared):Prop where
 ex:∃ (ys:List V) (H':Hp),H' D=none∧Qf ys H'∧Inv X pins σ (upd H' D (.lst ys)) s'∧dU X pins (upd H' D (.lst ys)) C
 ns:∃m,s'.heap.Ns C m
theorem Inv.bareP {pins':List (Addr×Obj)} {H:Hp} {s:Shared} (I:Inv X pins' σ H s):Inv X [] σ H s:=I.pins_of fun p hp=>absurd hp (by simp)
theorem jF {RR:Value→Addr→Result→Shared→Prop} (I:Inv X pins σ H2 s2) (ok:CompOk X scope own cs cap) (hc:X.calm=true) (T:Turn X.prog X.w X.K tg J fp it tn) (st:tn 0 s2.heap) (hf:∀b∈fp,dU X pins H2 b)
  (hg:∀C,PG (aF X pins s2 H2 scope C (own ++ cs) fp) tg g) (hi:∀C,jb (aF X pins s2 H2 scope C (own ++ cs) fp) ifs tt) (he:∀C,PE (aF X pins s2 H2 scope C (own ++ cs) fp) elt te)
  (w0:∃m,W 0 m [] H2) (turn:fV σ cap own.length J g tt te Qf W)
  (hRR:∀D C s',BlkEnd X pins σ Qf D C s'→RR (.ref D) C (.ok .next) s') :
  wpAny (model X.prog X.w) X.A (newList []) (fun acc s₃=>wpAny (model X.prog X.w) X.A (newFunctionEnv scope X.env.globals (aV X.env scope.names []) [] X.env.qual none .none (some X.env)) (fun cenv s₄ =>
   codeAny (model X.prog X.w) X.A (.compStart (.ListComp elt [⟨tg,iter,ifs,0⟩] scope pos) 0 (.ref it) acc { cenv with scope:=relabel scope X.env }) (RR acc cenv.locals) s₄) E s₃) E s2:=by
 refine wpAny_newObj_type (wpAny_newFunctionEnv ok.cell (by intro y hy; simp at hy) (fun h₁ hns₁ hsb₁=>?_) ok.kind)
 dsimp only at hns₁ hsb₁ ⊢
 generalize hHH:s2.heap.push { cls:=.type "list",dict:=none,data:=.seq ([]:List Value).toArray }=HH at hns₁ hsb₁ ⊢
 have hCs:HH.objs.size=s2.heap.objs.size + 1:=by rw [← hHH,Heap.size_push]
 have hDC:s2.heap.objs.size≠HH.objs.size:=by rw [hCs]; exact Nat.ne_of_lt (Nat.lt_succ_self _)
 have hCle:s2.heap.objs.size≤HH.objs.size:=by rw [hCs]; exact Nat.le_succ _
 have hfl:∀b∈fp,b < s2.heap.objs.size:=fun b hb=>by
  obtain ⟨o,e,_⟩:=T.obj 0 _ st b hb
  exact Heap.lt_size e
 have old:∀b o,s2.heap.get? b=some o→h₁.get? b=some o:=fun b o e=>hsb₁.extBut b o (by rw [hCs]; exact Nat.ne_of_lt (Nat.lt_succ_of_lt (Heap.lt_size e))) (Heap.get?_push_of_some _ (hHH ▸ Heap.get?_push_of_some _ e))
 have hacc:h₁.PlainList s2.heap.objs.size #[]:=⟨_,hsb₁.extBut _ _ hDC (Heap.get?_push_of_some _ (hHH ▸ Heap.get?_push_size _ rfl))⟩
 generalize hD:s2.heap.objs.size=D at *
 generalize hCC:HH.objs.size=C at *
 have hns₁':h₁.Ns C (fun _=>none):=hns₁
 have I0:Inv (aF X pins s2 H2 scope C (own ++ cs) fp) [] (bf σ cap own.length) H2 { s2 with heap:=h₁,toks:=s2.toks + ([]:List (Str×Value)).length } :=
  iE I ok hf (fun b hb=>by rw [hD]; exact hfl b hb) (by rw [hD]; exact hCle) hns₁' old
 have Dfs:D∉frs X.stack:=fun hb=>by
  obtain ⟨_,o,ho,_⟩:=I.stack.mem hb
  exact absurd (Heap.lt_size ho) (by rw [hD]; exact Nat.lt_irrefl _)
 have Dfp:∀b∈fp,D≠b:=fun b hb z=>absurd (hfl b hb) (by rw [← z]; exact Nat.lt_irrefl _)
 have clt:∀x c,(aV X.env scope.names []).lookup x=some c→c < D:=fun x c e=>by
  have e':=ci X.env scope.names [] x c (fun y hy e=>I.ok.has y.1 (ok.free y hy e)) (fun _ _ z=>by simp at z) e
  obtain ⟨v,o,ho,_⟩:=I.cell x c e'
  have:=Heap.lt_size ho
  rw [hD] at this; exact this
 have plt:∀p∈X.pn ++ pins,p.1 < D:=fun p hp=>by
  have:=Heap.lt_size (I.pin p hp).1
  rw [hD] at this; exact this
 have stat:∀ {H':Hp} {ob:Obj},(∀b∈fp,H' b=none)→∀b∈fp,dU (aF X pins s2 H2 scope C (own ++ cs) fp) [(D,ob)] H' b:=fun {H' ob} hn b hb=>by
  have q:=I0.ok.exf b hb
  refine ⟨hn b hb,q.1,I0.ok.exfs b hb,.inl hb,q.2,fun p hp=>?_⟩
  rcases List.mem_append.mp hp with z | z
  ·exact (hf b hb).2.2.2.2.2 p z
  ·have:p=(D,ob):=by simpa using z
   subst this
   exact Dfp b hb
 have loop:codeAny (model X.prog X.w) X.A (.compLoop (.ListComp elt [⟨tg,iter,ifs,0⟩] scope pos) 0 (.ref it) (.ref D) (compEnvC scope (aV X.env scope.names []) C X.env)) (RR (.ref D) C)
   { s2 with heap:=h₁,toks:=s2.toks + ([]:List (Str×Value)).length }:=by
  obtain ⟨m0,w0⟩:=w0
  refine codeAny_loop rfl (fun n s'=>∃i H' its ys,Inv (aF X pins s2 H2 scope C (own ++ cs) fp) [] (bf σ cap own.length) H' s'∧tn i s'.heap∧(∀b∈fp,H' b=none)∧s'.heap.PlainList D its.toArray∧Vals ys its∧H' D=none∧W i n ys H') ?_ m0
   ⟨0,H2,[],[],I0,T.keep 0 _ _ st fun b _ o e=>old b o e,fun b hb=>(hf b hb).1,hacc,.nil,I.hok.fresh (by rw [hD]; exact Nat.le_refl _),w0⟩
  rintro n s3 ⟨i,H3,its,ys,I3,st3,fr3,⟨nn,pl3⟩,rv3,hD3,w3⟩
  show wpAny _ X.A ((compTurn (.ListComp elt [⟨tg,iter,ifs,0⟩] scope pos) 0 (.ref it) (.ref D) (compEnvC scope (aV X.env scope.names []) C X.env)).onRaise (fun x=>do noteFrame x (compEnvC scope (aV X.env scope.names []) C X.env); theTreesLotGoes x)) _ _ s3
  refine wpAny_noted ?_
  rw [compTurn_list]
  refine wpAny_bind (wpAny_standAt (wpAny_bind ?_))
  have I3':Inv (aF X pins s2 H2 scope C (own ++ cs) fp) [(D, { cls:=.type "list", data:=.seq its.toArray nn })] (bf σ cap own.length) H3 s3 :=
   I3.pins_of fun p hp=>by
    have:p=(D,{ cls:=.type "list",data:=.seq its.toArray nn }):=by simpa using hp
    subst this
    exact ⟨pl3,hD3,hDC,Dfs,fun v z=>by cases z⟩
  rcases turn i n ys H3 w3 with ⟨stop,hz,qf⟩ | ⟨go,hz,step⟩
  ·refine thn (T.done (aF X pins s2 H2 scope C (own ++ cs) fp) rfl rfl rfl hc i _ s3 _ H3 _ I3' (stat fr3) st3 stop) fun r s4 ⟨hr,I4⟩=>?_
   subst hr
   refine wpAny_pure (hRR D C s4 ⟨⟨ys,H3,hD3,qf,?_,?_⟩,?_⟩)
   ·have pl4:=(I4.pin (D,_) (List.mem_append_right _ (List.mem_singleton.mpr rfl))).1
    have u4:=I4.base
    have Ds2:s2.heap.get? D=none:=Heap.get?_none_of_le (by rw [hD]; exact Nat.le_refl _)
    refine I.call' (s':=s4) (ch:=fp) I4.os ⟨u4.keep,u4.slot,fun b o e n hx=>?_,u4.there,fun b xs e=>?_,fun b o u e=>?_,fun b ps e=>?_⟩ ?_ I4.bare fun b hb=>⟨(hf b hb).2.2.2.1,(hf b hb).2.1,(hf b hb).2.2.2.2.1,(hf b hb).2.2.2.2.2⟩
    ·rw [aj (fun z=>by rw [z,Ds2] at e; cases e)]
     exact u4.free b o e n hx
    ·have:=u4.tups b xs e
     rw [aj (am this hD3)]; exact this
    ·have:=u4.frzs b o u e
     rw [aj (am this hD3)]; exact this
    ·obtain ⟨more,e'⟩:=u4.tbls b ps e
     exact ⟨more,by rw [aj (am e' hD3)]; exact e'⟩
    ·exact I4.hok.add hD3 ⟨hz,its,nn,rv3,pl4⟩
   ·have CH:(upd H3 D (.lst ys)) C=none:=by rw [aj (Ne.symm hDC)]; exact I4.free
    exact I.fpOk (H':=upd H3 D (.lst ys)) (by rw [hD]; exact hCle) CH
   ·obtain ⟨m,hn,_⟩:=I4.loc
    exact ⟨m,hn⟩
  ·refine thn (T.item (aF X pins s2 H2 scope C (own ++ cs) fp) rfl rfl rfl hc i _ s3 _ H3 _ I3' (stat fr3) st3 go) fun r s4 ⟨u,hr,h4⟩=>?_
   subst hr
   refine wpAny_bind (thn h4 fun _ s5 ⟨x,H5,I5,r5,y5,st5,fr5⟩=>?_)
   have I5':=I5.pinned (stat fr5) (T.obj _ _ st5)
   refine wpAny_bind (wpAny_mono (hg C _ s5 _ H5 x u _ I5' r5 (step x H5 y5)) (fun _ s6 ⟨σ6,H6,I6,le6,q6⟩=>?_) fun _ _ z=>False.elim z)
   refine wpAny_bind (wpAny_mono (hi C _ s6 σ6 H6 _ I6 q6) (fun b s7 ⟨H7,I7,q7⟩=>?_) fun _ _ z=>False.elim z)
   have back:∀ {pins':List (Addr×Obj)} {H8:Hp} {s8:Shared},Inv (aF X pins s2 H2 scope C (own ++ cs) fp) pins' σ6 H8 s8→Inv (aF X pins s2 H2 scope C (own ++ cs) fp) [] (bf σ cap own.length) H8 s8:=fun I8 =>
    I8.bareP.weak le6.1.symm fun i v e=>le6.2 i v e
   cases b with
   | false =>
    rw [if_neg Bool.false_ne_true] at q7
    obtain ⟨m',hm,w7⟩:=q7
    refine wpAny_pure ⟨rfl,m',hm,i + 1,H7,its,ys,back I7,T.keep _ _ _ st5 fun b hb o e=>?_,fun b hb=>?_,⟨nn,?_⟩,rv3,?_,w7⟩
    ·exact (I7.pin (b,o) (List.mem_append_right _ (List.mem_append_right _ (aN hb e)))).1
    ·obtain ⟨o,e,d⟩:=T.obj _ _ st5 b hb
     exact (I7.pin (b,o) (List.mem_append_right _ (List.mem_append_right _ (aN hb e)))).2.1
    ·exact (I7.pin (D,_) (List.mem_append_right _ (List.mem_append_left _ (List.mem_singleton.mpr rfl)))).1
    ·exact (I7.pin (D,_) (List.mem_append_right _ (List.mem_append_left _ (List.mem_singleton.mpr rfl)))).2.1
   | true =>
    rw [if_pos rfl] at q7
    refine wpAny_bind (wpAny_bind (wpAny_mono (he C _ s7 σ6 H7 _ I7 q7) (fun y s8 ⟨v,H8,I8,r8,m',hm,w8⟩=>?_) fun _ _ z=>False.elim z))
    have pD:=I8.pin (D,{ cls:=.type "list",data:=.seq its.toArray nn }) (List.mem_append_right _ (List.mem_append_left _ (List.mem_singleton.mpr rfl)))
    have hlen:=rv3.length
    refine wpAny_bind (wpAny_list_append_plain (hsz:=by rw [List.size_toArray]; omega) ⟨nn,pD.1⟩ fun h9 pl9 sb9=>wpAny_pure (wpAny_pure ?_))
    have I8':=back I8
    refine ⟨rfl,m',hm,i + 1,H8,its ++ [y],ys ++ [v],?_,T.keep _ _ _ st5 fun b hb o e=>?_,fun b hb=>?_,?_,rv3.append (.cons r8 .nil),pD.2.1,w8⟩
    ·exact I8'.turned (t':=s8.toks) (fun b o hb e=>sb9.extBut b o hb e) pD.2.1 hDC (.inr (by show s2.heap.objs.size≤D; rw [hD]; exact Nat.le_refl _)) (fun x c e=>Nat.ne_of_lt (clt x c e)) fun p hp=>by
      have hp':p∈X.pn ++ pins:=by
       have:p∈(X.pn ++ pins) ++ []:=hp
       simpa using this
      exact Nat.ne_of_lt (plt p hp')
    ·exact sb9.extBut b o (Ne.symm (Dfp b hb)) (I8.pin (b,o) (List.mem_append_right _ (List.mem_append_right _ (aN hb e)))).1
    ·obtain ⟨o,e,d⟩:=T.obj _ _ st5 b hb
     exact (I8.pin (b,o) (List.mem_append_right _ (List.mem_append_right _ (aN hb e)))).2.1
    ·have e:its.toArray.push y=(its ++ [y]).toArray:=by simp
     rw [← e]; exact pl9
 exact codeAny_compStart_list loop (T.self _ 0 _ _ _ (T.keep 0 _ _ st fun b _ o e=>old b o e) loop)
def qG (wi:TI) (cap:List Nat) (k:Nat) (g:TG) (tt:TT) (te:TE):TE:=fun σ H Q=>wi σ H fun J H1 =>
 ∃W:Nat→Nat→List V→Hp→Prop,(∃m,W 0 m [] H1)∧fV σ cap k J g tt te (fun ys H'=>∀p,H' p=none→Q (.ref p) (upd H' p (.lst ys))) W
theorem eM {wi:TI} (hc:X.calm=true) (hit:PI X tg iter wi) (ok:CompOk X scope own cs cap)
  (hg:∀pins s2 H2 C fp,PG (aF X pins s2 H2 scope C (own ++ cs) fp) tg g) (hi:∀pins s2 H2 C fp,jb (aF X pins s2 H2 scope C (own ++ cs) fp) ifs tt) (he:∀pins s2 H2 C fp,PE (aF X pins s2 H2 scope C (own ++ cs) fp) elt te)
  (hs:∀x,foldedSetIterable iter X.env x=pure x:=by intro _; rfl):PE X (.ListComp elt [⟨tg,iter,ifs,0⟩] scope pos) (qG wi cap own.length g tt te):=by
 intro pins s σ H Q I h
 rw [eval_ListComp]
 refine wpAny_comprehension_free (use:=none) rfl hs (eg fun y hy e=>I.ok.has y.1 (ok.free y hy e)) ok.kind ok.names (thn (hit pins s σ H _ I h) fun v s1 h1=>thn h1 fun itv s2 h2=>?_)
 obtain ⟨it,fp,tn,J,H2,e,I2,T,st2,f2,W,w0,turn⟩:=h2
 subst e
 refine jF (RR:=fun acc C=>compPost (model X.prog X.w) X.A X.xe none (EP X pins σ Q) acc C) I2 ok hc T st2 f2 (fun C=>hg _ _ _ _ _) (fun C=>hi _ _ _ _ _) (fun C=>he _ _ _ _ _) w0 turn fun D C s' B=>?_
 obtain ⟨⟨ys,H',hD,q,I',fp'⟩,m,hn⟩:=B
 obtain ⟨f0,f1,f2',f3,f4,f5⟩:=fp'
 exact ⟨m,hn,fun h' sb=>⟨.ref D,_,I'.turned (t':=s'.toks) (fun b o hb e=>sb.extBut b o hb e) f0 f1 f3 f4 f5,rfl,q D hD⟩⟩
theorem gl {wi:TI} {i:Nat} {y:Str} {py spos:Pos} (hc:X.calm=true) (hN:X.N.Nodup) (hiy:X.N[i]? = some y) (hy:X.env.scope.names.lookup y=some .local)
  (hsw:swapsWith (.ListComp elt [⟨tg,iter,ifs,0⟩] scope pos) (some (.Name y py)) spos.line X.env=pure true) (hit:PI X tg iter wi) (ok:CompOk X scope own cs cap)
  (hg:∀pins s2 H2 C fp,PG (aF X pins s2 H2 scope C (own ++ cs) fp) tg g) (hi:∀pins s2 H2 C fp,jb (aF X pins s2 H2 scope C (own ++ cs) fp) ifs tt) (he:∀pins s2 H2 C fp,PE (aF X pins s2 H2 scope C (own ++ cs) fp) elt te)
  (hs:∀x,foldedSetIterable iter X.env x=pure x:=by intro _; rfl):PS X (.Assign [.Name y py] (.ListComp elt [⟨tg,iter,ifs,0⟩] scope pos) spos) (uI (qG wi cap own.length g tt te) (fQ i)):=by
 intro pins s σ H D0 I h
 rw [exec_Assign_Name_used _ _ _ _ hsw]
 refine wpAny_bind (wpAny_standAt (wpAny_bind ?_))
 show wpAny _ X.A (do let _←comprehension (.ListComp elt [⟨tg,iter,ifs,0⟩] scope pos) scope X.env _ (newList []) false (eval iter X.env) (some (assign (.Name y py) X.env))) _ _ s
 refine wpAny_bind (wpAny_mono (wpAny_comprehension_free (use:=some (assign (.Name y py) X.env)) (Q:=fun _ s'=>SP X pins D0 .next s') rfl hs (eg fun y hy e=>I.ok.has y.1 (ok.free y hy e)) ok.kind ok.names
  (thn (hit pins s σ H _ I h) fun v s1 h1=>thn h1 fun itv s2 h2=>?_)) (fun _ s' hq=>wpAny_pure (wpAny_pure hq)) fun _ _ e=>e)
 obtain ⟨it,fp,tn,J,H2,e,I2,T,st2,f2,W,w0,turn⟩:=h2
 subst e
 refine jF (RR:=fun acc C=>compPost (model X.prog X.w) X.A X.xe (some (assign (.Name y py) X.env)) (fun _ s'=>SP X pins D0 .next s') acc C) I2 ok hc T st2 f2 (fun C=>hg _ _ _ _ _) (fun C=>hi _ _ _ _ _) (fun C=>he _ _ _ _ _) w0 turn fun D C s' B=>?_
 obtain ⟨⟨ys,H',hD,q,I',fp'⟩,m,hn⟩:=B
 obtain ⟨f0,f1,f2',f3,f4,f5⟩:=fp'
 show wpAny _ X.A (assign (.Name y py) X.env (.ref D)) _ _ _
 refine wpAny_assign_Name (io I' hN hiy (.inl hy) (v:=.ref D) rfl (fun s3 I3 ⟨a,sb,ha⟩=>?_) (.inr hy))
 have hCa:C≠a:=by
  rcases ha with z | z
  ·rw [z]; exact f1
  ·exact fun q=>f4 y a z q.symm
 refine ⟨m,hn.sameBut sb hCa,fun h' sb'=>⟨_,_,I3.turned (t':=s3.toks) (fun b o hb e=>sb'.extBut b o hb e) f0 f1 f3 f4 f5,q D hD⟩⟩
end
end L2
set_option Elab.async false
set_option linter.all false
set_option maxRecDepth 100000
namespace L2
open PySem PySem.Spec PyProof.Rows
def CDivB (i j:Int):Prop:=0 < j∧j≤10 ^ 60
theorem CDivB.np {i j:Int} (h:CDivB i j):Builtin.divisionGoesByPylong i j=false:=by
 refine PyProof.noPylong_of_log2 ?_
 have h1:j.natAbs < 2 ^ 200:=by
  obtain ⟨a,b⟩:=h
  omega
 have h2:j.natAbs.log2 < 200:=(Nat.log2_lt (by have:=h.1; omega)).mpr h1
 omega
section
variable {X:Cx}
theorem jG:OpR X (binaryOp .FloorDiv) (rI CDivB fun i j=>.int (i / j)):=opI fun i j _ _ _ _ _ hc q=>by
 refine floordiv_int (by have:=hc.1; omega) ?_ (.inl hc.np)
 rw [Int.fdiv_eq_ediv_of_nonneg _ (by have:=hc.1; omega)]
 exact q
theorem Inv.kitx {pins:List (Addr×Obj)} {σ:St} {H:Hp} {s:Shared} {x:V} {u t:Value} (I:Inv X pins σ H s) (rx:RelV x u) (ty:TyOf X.K H x t) :
  ∃P:Heap→Prop,PySem.W.KitX X.K u t P∧P s.heap∧u≠.builtin "__main__.__loader__#opaque" := by
 cases ty with
 | non=>cases (show u=Value.none from rx); exact ⟨_,PySem.W.kitx_none,True.intro,fun z=>nomatch z⟩
 | bl y=>cases (show u=Value.bool y from rx); exact ⟨_,PySem.W.kitx_bool,True.intro,fun z=>nomatch z⟩
 | int i=>obtain ⟨t,q⟩:=(show ∃t,u=Value.int i t from rx); cases q; exact ⟨_,PySem.W.kitx_int,True.intro,fun z=>nomatch z⟩
 | str y=>obtain ⟨t,q⟩:=(show ∃t,u=Value.str y t from rx); cases q; exact ⟨_,PySem.W.kitx_str,True.intro,fun z=>nomatch z⟩
 | flt y=>obtain ⟨t,q⟩:=(show ∃t,u=Value.float y t from rx); cases q; exact ⟨_,PySem.W.kitx_float,True.intro,fun z=>nomatch z⟩
 | @lst a xs ea =>
  cases (show u=Value.ref a from rx)
  obtain ⟨_,_,n,_,h1⟩:=(show ObjOk X.prog X.w H s.heap a (.lst xs) from I.hok a _ ea)
  exact ⟨_,PySem.W.kitx_list,⟨_,h1,rfl⟩,fun z=>nomatch z⟩
 | @frz a ob xs ea =>
  cases (show u=Value.ref a from rx)
  obtain ⟨_,_,_,n,_,h1⟩:=(show ObjOk X.prog X.w H s.heap a (.frz ob (.lst xs)) from I.hok a _ ea)
  exact ⟨_,PySem.W.kitx_list,⟨_,h1,rfl⟩,fun z=>nomatch z⟩
 | @tup a xs ea =>
  cases (show u=Value.ref a from rx)
  obtain ⟨_,_,_,p⟩:=(show ObjOk X.prog X.w H s.heap a (.tup xs) from I.hok a _ ea)
  obtain ⟨o,h1,h2,_⟩:=p
  exact ⟨_,PySem.W.kitx_tuple,⟨o,h1,h2⟩,fun z=>nomatch z⟩
 | @dK a kvs ea =>
  cases (show u=Value.ref a from rx)
  obtain ⟨_,_,vs,_,p⟩:=(show ObjOk X.prog X.w H s.heap a (.dK kvs) from I.hok a _ ea)
  obtain ⟨o,es,ep,h1,h2,_⟩:=p
  exact ⟨_,PySem.W.kitx_dict,⟨o,h1,h2.1⟩,fun z=>nomatch z⟩
 | @dT a kvs ea =>
  cases (show u=Value.ref a from rx)
  obtain ⟨_,_,xs,_,o,es,ep,h1,h2,_⟩:=(show ObjOk X.prog X.w H s.heap a (.dT kvs) from I.hok a _ ea)
  exact ⟨_,PySem.W.kitx_dict,⟨o,h1,h2.1⟩,fun z=>nomatch z⟩
 | @ins a C dx fs ea cl ha hn htk hm =>
  cases (show u=Value.ref a from rx)
  obtain ⟨mA,O,_⟩:=eG I.hok ea
  obtain ⟨od,J,_⟩:=O.look
  exact ⟨_,PySem.W.kitx_own (cl.get _) cl.hd ha hn htk hm,J,fun z=>nomatch z⟩
def clV:V→Option Value
 | .ty T=>some (.type T)
 | .ref C=>some (.ref C)
 | _=>none
theorem clV.rel {v:V} {u c:Value} (e:clV v=some c) (r:RelV v u):u=c:=by
 cases v with
 | ty T=>have e':Value.type T=c:=Option.some.inj e; rw [← e']; exact r
 | ref C=>have e':Value.ref C=c:=Option.some.inj e; rw [← e']; exact r
 | _=>cases e
def clVs:List V→Option (List Value)
 | []=>some []
 | v :: r=>match clV v,clVs r with
  | some c,some cs=>some (c :: cs)
  | _,_=>none
theorem clVs.rel:∀ {vs:List V} {us cs:List Value},clVs vs=some cs→Vals vs us→us=cs
 | [],_,_,e,.nil=>Option.some.inj e
 | v :: r,_,_,e,.cons r1 r2=>by
  unfold clVs at e
  split at e
  ·rename_i c cs' e1 e2
   cases e
   rw [clV.rel e1 r1,clVs.rel e2 r2]
  ·cases e
theorem aT:cO X (.builtin "isinstance") (fun xs H Q=>∃x cv t c b,xs=[x,cv]∧TyOf X.K H x t∧clV cv=some c∧PySem.W.kitOne X.K t c=some b∧Q (.bl b) H):=by
 intro pins s σ H xs us Q I rv h
 obtain ⟨x,cv,t,c,b,rfl,ty,e1,e2,q⟩:=h
 cases rv with
 | cons r1 rr =>
  cases rr with
  | cons r2 rr =>
   cases rr
   rw [clV.rel e1 r2]
   exact nF I r1 ty e2 fun tk=>⟨.bl b,H,I.tok tk,rfl,q⟩
theorem jc:cO X (.builtin "isinstance") (fun xs H Q=>∃x p t cvs cs b,xs=[x,.ref p]∧TyOf X.K H x t∧H p=some (.tup cvs)∧clVs cvs=some cs∧PySem.W.kitAny X.K t cs=some b∧Q (.bl b) H):=by
 intro pins s σ H xs us Q I rv h
 obtain ⟨x,p,t,cvs,cs,b,rfl,ty,hp,e1,e2,q⟩:=h
 cases rv with
 | cons r1 rr =>
  cases rr with
  | cons r2 rr =>
   cases rr
   cases r2
   obtain ⟨_,its,rits,o,ho,hc,n,hd⟩:=I.hok p _ hp
   obtain ⟨P,Z,p1,p2⟩:=I.kitx r1 ty
   obtain ⟨oc,od,dt,osl⟩:=o
   replace hc:oc=.type "tuple" := hc
   replace hd:dt=.seq its.toArray n:=hd
   subst hc hd
   have e3:=clVs.rel e1 rits
   subst e3
   exact PySem.W.kia_tup Z I.kIn p1 ho e2 p2 fun tk=>⟨.bl b,H,I.tok tk,rfl,q⟩
end
mutual
inductive DatV (K:PySem.W.Frag) (H:Hp):V→PyData→Prop
 | non:DatV K H .non .none
 | bl (b:Bool):DatV K H (.bl b) (.bool b)
 | int (i:Int):DatV K H (.int i) (.int i)
 | str (x:Str):DatV K H (.str x) (.str x)
 | lst {a:Addr} {xs:List V} {ds:List PyData}:SqL K H a xs→DatVs K H xs ds→DatV K H (.ref a) (.list ds)
 | tup {a:Addr} {xs:List V} {ds:List PyData}:SqT K H a xs→DatVs K H xs ds→DatV K H (.ref a) (.tuple ds)
inductive DatVs (K:PySem.W.Frag) (H:Hp):List V→List PyData→Prop
 | nil:DatVs K H [] []
 | cons {x:V} {d:PyData} {xs:List V} {ds:List PyData}:DatV K H x d→DatVs K H xs ds→DatVs K H (x :: xs) (d :: ds)
end
section
variable {X:Cx} {pins:List (Addr×Obj)} {σ:St} {H:Hp} {s:Shared}
mutual
theorem Inv.reads (I:Inv X pins σ H s):∀ {v:V} {d:PyData},DatV X.K H v d→∀ {u:Value},RelV v u→∃as,Reads s.heap u d as
 | _,_,.non,u,r=>by cases (show u=Value.none from r); exact ⟨_,.none⟩
 | _,_,.bl b,u,r=>by cases (show u=Value.bool b from r); exact ⟨_,.bool b⟩
 | _,_,.int i,u,r=>by obtain ⟨t,e⟩:=(show ∃t,u=Value.int i t from r); subst e; exact ⟨_,.int i t⟩
 | _,_,.str x,u,r=>by obtain ⟨t,e⟩:=(show ∃t,u=Value.str x t from r); subst e; exact ⟨_,.str x t⟩
 | _,_,.lst (a:=a) h hs,u,r=>by
  cases (show u=Value.ref a from r)
  obtain ⟨its,rv,⟨o,n,e,c,_,d⟩,_⟩:=I.list h
  obtain ⟨as,ra⟩:=I.readsAll hs rv
  exact ⟨_,.list e c d (by simpa using ra)⟩
 | _,_,.tup (a:=a) h hs,u,r=>by
  cases (show u=Value.ref a from r)
  obtain ⟨its,rv,⟨o,e,c,n,d⟩,_⟩:=I.tuple h
  obtain ⟨as,ra⟩:=I.readsAll hs rv
  exact ⟨_,.tuple e c d (by simpa using ra)⟩
theorem Inv.readsAll (I:Inv X pins σ H s):∀ {vs:List V} {ds:List PyData},DatVs X.K H vs ds→∀ {us:List Value},Vals vs us→∃as,ReadsAll s.heap us ds as
 | _,_,.nil,_,.nil=>⟨_,.nil⟩
 | _,_,.cons h hs,_,.cons r rs=>by
  obtain ⟨as,ra⟩:=I.reads h r
  obtain ⟨bs,rb⟩:=I.readsAll hs rs
  exact ⟨_,.cons ra rb⟩
end
end
section
variable {X:Cx}
theorem uU (hu:X.A.units + 64 < cLine):OpR X (compareOp .NotEq) (fun x y H Q=>∃da db,DatV X.K H x da∧DatV X.K H y db∧SeqAt.shaped da=true∧SeqAt.shaped db=true∧Q (.bl (!PyData.eqv da db)) H):=by
 intro pins s σ H x y v u Q I rx ry h
 obtain ⟨da,db,hx,hy,s1,s2,q⟩:=h
 obtain ⟨as,ra⟩:=I.reads hx rx
 obtain ⟨bs,rb⟩:=I.reads hy ry
 exact ne_dataH ra rb s1 s2 hu ⟨.bl _,H,I,rfl,q⟩
theorem lj (hu:X.A.units + 64 < cLine):OpR X (compareOp .Eq) (fun x y H Q=>∃da db,DatV X.K H x da∧DatV X.K H y db∧SeqAt.shaped da=true∧SeqAt.shaped db=true∧Q (.bl (PyData.eqv da db)) H):=by
 intro pins s σ H x y v u Q I rx ry h
 obtain ⟨da,db,hx,hy,s1,s2,q⟩:=h
 obtain ⟨as,ra⟩:=I.reads hx rx
 obtain ⟨bs,rb⟩:=I.reads hy ry
 exact eq_dataH ra rb s1 s2 hu ⟨.bl _,H,I,rfl,q⟩
end
section
variable {prog:Program} {w:World} {A:Around} {E:Value→Shared→Prop}
theorem gB {it l:Addr} {items:Array Value} (hne:l≠it):∀ (n i:Nat) (s:Shared) (Q:List Value→Shared→Prop),s.heap.IsListIter it l i→s.heap.IsList l items→i + n≤items.size →
  (∀h',h'.IsListIter it l (i + n)→Heap.SameBut it s.heap h'→Q ((items.toList.drop i).take n) { s with heap:=h' })→wpAny (model prog w) A (draw (.ref it) n) Q E s
 | 0,i,s,Q,hit,_,_,hQ=>by
  show wpAny _ _ (pure []) Q E s
  exact wpAny_pure (by simpa using hQ s.heap hit (Heap.SameBut.refl ..))
 | n + 1,i,s,Q,hit,ht,hle,hQ=>by
  have hlt:i < items.size:=by omega
  show wpAny _ _ (pyNext (.ref it) >>= _) Q E s
  refine wpAny_bind (wpAny_pyNext_list_item hit ht (x:=items[i]) (by simp [hlt]) fun h₁ hit₁ hs₁=>?_)
  refine wpAny_bind (wpAny_holding (gB hne n (i + 1) _ _ hit₁ (ht.extBut hs₁.extBut hne) (by omega) fun h₂ hit₂ hs₂=>wpAny_pure ?_))
  have hd:items.toList.drop i=items[i] :: items.toList.drop (i + 1):=by simp [List.drop_eq_getElem_cons,hlt]
  have q:=hQ h₂ (by rw [show i + (n + 1)=i + 1 + n by omega]; exact hit₂) (hs₁.trans hs₂)
  rw [hd,List.take_succ_cons] at q
  exact q
theorem eN {s:Shared} {l:Addr} {items:Array Value} {Q:List Value→Shared→Prop} (hh:A.handled=none) (ht:s.heap.IsList l items)
  (hQ:∀h',Heap.ExtBut s.heap.objs.size s.heap h'→Q items.toList { s with heap:=h' }):wpAny (model prog w) A (unpackItems (.ref l) items.size none) Q E s:=by
 have hlt:l≠s.heap.objs.size:=by obtain ⟨o,ho,_⟩:=ht; exact Nat.ne_of_lt (Heap.lt_size ho)
 have hp:(s.heap.push { cls:=.type "list_iterator",data:=.fields #[.ref l,.int 0 0] }).IsList l items:=by
  obtain ⟨o,ho,r⟩:=ht; exact ⟨o,Heap.get?_push_of_some _ ho,r⟩
 unfold unpackItems
 refine wpAny_bind ?_
 ·unfold notIterableAtAll
  refine wpAny_bind (wpAny_specialOf ht.typeIs PySem.slot_list_iter.lookup ?_)
  refine wpAny_pure ?_
  simp only [Bool.false_eq_true,if_false]
  refine wpAny_bind (wpAny_holding (wpAny_pyIter_list ht ?_))
  refine wpAny_bind (wpAny_holding (gB hlt items.size 0 _ _ ⟨_,Heap.get?_push_size _ rfl,rfl,rfl⟩ hp (by omega) fun h₁ hit₁ hs₁=>?_))
  have hall:List.take items.size (List.drop 0 items.toList)=items.toList:=by
   rw [List.drop_zero]; exact List.take_of_length_le (by simp)
  rw [hall]
  rw [if_neg (by simp)]
  have ht₁:h₁.IsList l items:=hp.extBut hs₁.extBut hlt
  refine wpAny_bind (wpAny_holding (wpAny_pyNext_list_end hh hit₁ ht₁ (by simp) fun h₂ he₂=>?_))
  simp only [Option.isSome_none,Bool.false_eq_true,if_false]
  refine wpAny_pure (hQ h₂ fun b o hb e=>he₂ b o hb (hs₁.extBut b o hb (Heap.get?_push_of_some _ e)))
theorem eh {s:Shared} {env:Env} {elts:List Expr} {x1} {pos:Pos} {l:Addr} {items:Array Value} {Q:Unit→Shared→Prop} (hh:A.handled=none) (ht:s.heap.IsList l items)
  (hn:(assignEach elts env).length=items.size) (hstar:(assignEach elts env).findIdx? (·.1)=none)
  (h:∀h',Heap.ExtBut s.heap.objs.size s.heap h'→wpAny (model prog w) A (assignInOrder ((assignEach elts env).map (·.2)) items.toList) Q E { s with heap:=h' }) :
  wpAny (model prog w) A (assign (.Tuple elts x1 pos) env (.ref l)) Q E s:=by
 rw [assign_Tuple]
 refine wpAny_bind (wpAny_standAt ?_)
 unfold unpack
 rw [hn,hstar]
 exact wpAny_bind (wpAny_holding (eN hh ht h))
end
section
variable {X:Cx} {pos:Pos}
def Ep (K:PySem.W.Frag) (n:Nat) (t:TGs):TG:=fun v σ H Q=>∃a xs,v=.ref a∧(SqL K H a xs∨SqT K H a xs)∧xs.length=n∧t xs σ H Q
theorem lm {es:List Expr} {k:Nat} {t:TGs} {n:Nat} (hc:X.calm=true) (h:PGs X es t)
  (hn:(assignEach es X.env).length=n:=by rfl) (hst:(assignEach es X.env).findIdx? (·.1)=none:=by rfl):PG X (.Tuple es k pos) (Ep X.K n t):=by
 intro pins s σ H v u Q I r hw
 obtain ⟨a,xs,e1,hq,hl,hw⟩:=hw
 rcases hq with hq | hq
 ·subst e1
  cases r
  obtain ⟨its,rv,ht,hz⟩:=I.list hq
  refine eh (I.ok.hd hc) ht.isList (by simp [hn,← hl,rv.length]) hst fun h' hx=>?_
  have I1:Inv X pins σ H { s with heap:=h' }:=I.kept (t':=s.toks) fun b o e=>hx b o (Nat.ne_of_lt (Heap.lt_size e)) e
  exact h pins _ σ H xs _ Q I1 (by simpa using rv) hw
 ·exact aU hc h hn hst pins s σ H v u Q I r ⟨a,xs,e1,hq,hl,hw⟩
end
def Itz (l1 l2:Addr):It :=
  ⟨fun i H=>∃xs ys x y,H l1=some (.lst xs)∧H l2=some (.lst ys)∧xs[i]? = some x∧ys[i]? = some y,
   fun i H v H'=>∃p xs ys x y,H p=none∧v=.ref p∧H'=upd H p (.tup [x,y])∧H l1=some (.lst xs)∧H l2=some (.lst ys)∧xs[i]? = some x∧ys[i]? = some y,
   fun i H=>∃xs ys,H l1=some (.lst xs)∧H l2=some (.lst ys)∧(xs.length≤i∨ys.length≤i)⟩
section
variable {X:Cx}
theorem Inv.turnedN {pins:List (Addr×Obj)} {σ:St} {H:Hp} {s:Shared} {h':Heap} {t':Nat} {ch:List Addr} (I:Inv X pins σ H s) (hf:∀b∈ch,dU X pins H b) (k:∀b o,b∉ch→s.heap.get? b=some o→h'.get? b=some o):Inv X pins σ H { s with heap:=h',toks:=t' }:=by
 have hLc:X.env.locals∉ch:=fun z=>(hf _ z).2.1 rfl
 have nt:∀b u,H b=some u→b∉ch:=fun b u e z=>by rw [(hf b z).1] at e; cases e
 refine I.step (g':=s.gens) (d':=s.drawn) (ch:=ch) (fun b hb=>⟨(hf b hb).2.2.2.1,(hf b hb).2.1,(hf b hb).2.2.2.2.1,(hf b hb).2.2.2.2.2⟩) (fun b o _ _ hc e _=>k b o hc e) (fun b o _ _ hc e _=>⟨o.slots,k b o hc e⟩) (fun _ _ _ _ n=>n)
  (fun b o hc e=>⟨o,k b o hc e⟩) (fun _ _ e=>e) (fun _ _ _ e=>e) (fun b ps e=>⟨#[],by rw [e]; simp⟩) (fun m hm=>?_) (fun b u e=>?_) I.bare
 ·obtain ⟨o,es,ep,ho,r⟩:=hm
  exact ⟨o,es,ep,k _ o hLc ho,r⟩
 ·refine (I.hok b u e).stay (fun c v hc q=>k c v ?_ q) (fun _ q=>q) fun _ _ q=>q
  rcases hc with z | z
  ·rw [z]; exact nt b u e
  ·exact nt c _ z
theorem Inv.track {pins:List (Addr×Obj)} {σ:St} {H:Hp} {s:Shared} {a:Addr} {o:HO} (I:Inv X pins σ H s) (hf:dU X pins H a) (fa:X.s₀.heap.objs.size≤a) (new:ObjOk X.prog X.w (upd H a o) s.heap a o):Inv X pins σ (upd H a o) s:=by
 obtain ⟨f0,f1,f2,f3,f4,f5⟩:=hf
 have s0:∀b o,X.s₀.heap.get? b=some o→b≠a:=fun b o e=>Nat.ne_of_lt (Nat.lt_of_lt_of_le (Heap.lt_size e) fa)
 refine ⟨I.ok,I.os,I.bare,⟨I.base.keep,I.base.slot,fun b o e n hx=>?_,I.base.there,fun b xs e=>?_,fun b o u e=>?_,fun b ps e=>?_⟩,I.loc,I.cell,?_,fun x c e=>?_,fun p hp=>?_,I.hok.add f0 new,I.len⟩
 ·rw [aj (s0 b o e)]; exact I.base.free b o e n hx
 ·have q:=I.base.tups b xs e
  rw [aj (am q f0)]; exact q
 ·have q:=I.base.frzs b o u e
  rw [aj (am q f0)]; exact q
 ·obtain ⟨more,q⟩:=I.base.tbls b ps e
  exact ⟨more,by rw [aj (am q f0)]; exact q⟩
 ·rw [aj (Ne.symm f1)]; exact I.free
 ·rw [aj (f4 x c e)]; exact I.freeC x c e
 ·obtain ⟨e,n,r⟩:=I.pin p hp
  exact ⟨e,by rw [aj (f5 p hp)]; exact n,r⟩
end
structure ZipAp (z TI TO i1 i2:Addr):Prop where
 nd:[z,TI,TO,i1,i2].Nodup
theorem qH {P:Program} {w:World} {K:PySem.W.Frag} {es:List Expr} {kk:Nat} {tp:Pos} (l1 l2 z TI TO i1 i2:Addr) (D:ZipAp z TI TO i1 i2) :
  Turn P w K (.Tuple es kk tp) (Itz l1 l2) [z,TI,TO,i1,i2] z (fun i h=>IsZip h z TI TO .none∧IsPair h TI (.ref i1) (.ref i2)∧(∃a b,IsPair h TO a b)∧h.IsListIter i1 l1 i∧h.IsListIter i2 l2 i) where
 mem:=by simp
 obj:=fun i h st b hb=>by
  obtain ⟨a1,a2,⟨x,y,a3⟩,⟨o4,a4,_,d4⟩,⟨o5,a5,_,d5⟩⟩:=st
  simp only [List.mem_cons,List.not_mem_nil,or_false] at hb
  rcases hb with rfl | rfl | rfl | rfl | rfl
  ·exact ⟨_,a1,fun v q=>by cases q⟩
  ·exact ⟨_,a2,fun v q=>by cases q⟩
  ·exact ⟨_,a3,fun v q=>by cases q⟩
  ·exact ⟨_,a4,fun v q=>by rw [d4] at q; cases q⟩
  ·exact ⟨_,a5,fun v q=>by rw [d5] at q; cases q⟩
 keep:=fun i h h' st k=>by
  obtain ⟨a1,a2,⟨x,y,a3⟩,a4,a5⟩:=st
  exact ⟨k z (by simp) _ a1,k TI (by simp) _ a2,⟨x,y,k TO (by simp) _ a3⟩,a4.at fun o e=>k i1 (by simp) o e,a5.at fun o e=>k i2 (by simp) o e⟩
 item:=by
  intro X hP hw hK hc i pins s σ H E I hf st hg
  subst hP hw hK
  obtain ⟨a1,a2,⟨x0,y0,a3⟩,a4,a5⟩:=st
  obtain ⟨xs,ys,x,y,e1,e2,ex,ey⟩:=hg
  have tr:∀ {l:Addr} {zs:List V},H l=some (.lst zs)→∀b∈[z,TI,TO,i1,i2],l≠b:=fun e b hb q=>by rw [q,(hf b hb).1] at e; cases e
  have nd:=D.nd
  simp only [List.nodup_cons,List.mem_cons,List.not_mem_nil,or_false,not_or,List.nodup_nil,and_true,not_false_eq_true] at nd
  obtain ⟨⟨n1,n2,n3,n4⟩,⟨n5,n6,n7⟩,⟨n8,n9⟩,n10⟩:=nd
  have A':ZipApart z TI TO i1 i2 l1 l2:=⟨Ne.symm n1,Ne.symm n2,Ne.symm n3,Ne.symm n4,n5,n6,n7,n8,n9,n10,tr e1 z (by simp),tr e1 TO (by simp),tr e1 i1 (by simp),tr e1 i2 (by simp),tr e2 z (by simp),tr e2 TO (by simp),tr e2 i1 (by simp),tr e2 i2 (by simp)⟩
  obtain ⟨its1,rv1,p1,_⟩:=I.list (SqL.of e1)
  obtain ⟨its2,rv2,p2,_⟩:=I.list (SqL.of e2)
  obtain ⟨u1,hu1,r1⟩:=rv1.get ex
  obtain ⟨u2,hu2,r2⟩:=rv2.get ey
  refine wpAny_pyNext_zip_item A' a1 a2 a3 a4 a5 p1.isList p2.isList (x:=u1) (y:=u2) (by simpa using hu1) (by simpa using hu2) fun h' b1 b2 b3 b4 b5 b6 bk=>⟨_,rfl,?_⟩
  refine wpAny_letOwnedTupleGo_zip b1 fun h'' c1 cs=>?_
  have zs:z < s.heap.objs.size:=Heap.lt_size a1
  have k2:∀b o,b∉[z,TI,TO,i1,i2]→s.heap.get? b=some o→h''.get? b=some o:=fun b o hb e=>by
   simp only [List.mem_cons,List.not_mem_nil,or_false,not_or] at hb
   exact cs.extBut b o hb.1 (bk b o hb.1 hb.2.2.1 hb.2.2.2.1 hb.2.2.2.2 e)
  have I1:Inv X pins σ H { s with heap:=h'' }:=I.turnedN (t':=s.toks) hf k2
  have hp:h''.get? s.heap.objs.size=some { cls:=.type "tuple", data:=.seq #[u1, u2] }:=cs.extBut _ _ (Nat.ne_of_gt zs) b5
  have hn:H s.heap.objs.size=none:=I.hok.fresh (Nat.le_refl _)
  have fpk:=I.fpOk (H':=H) (Nat.le_refl _) hn
  have I2:Inv X pins σ (upd H s.heap.objs.size (.tup [x,y])) { s with heap:=h'' }:=I1.track fpk I.sz ⟨by show 2≤sizeLine; decide,[u1,u2],.cons r1 (.cons r2 .nil),_,hp,rfl,_,rfl⟩
  refine ⟨.ref s.heap.objs.size,_,I2,rfl,⟨_,xs,ys,x,y,hn,rfl,rfl,e1,e2,ex,ey⟩,⟨c1,?_,⟨u1,u2,cs.extBut _ _ (Ne.symm n2) b2⟩,b3.extBut cs.extBut (Ne.symm n3),b4.extBut cs.extBut (Ne.symm n4)⟩,fun b hb=>?_⟩
  ·exact cs.extBut _ _ (Ne.symm n1) (bk _ _ (Ne.symm n1) n5 n6 n7 a2)
  ·have hbl:b < s.heap.objs.size:=by
    simp only [List.mem_cons,List.not_mem_nil,or_false] at hb
    obtain ⟨o4,a4',_⟩:=a4
    obtain ⟨o5,a5',_⟩:=a5
    rcases hb with rfl | rfl | rfl | rfl | rfl
    ·exact zs
    ·exact Heap.lt_size a2
    ·exact Heap.lt_size a3
    ·exact Heap.lt_size a4'
    ·exact Heap.lt_size a5'
   rw [aj (Nat.ne_of_lt hbl)]
   exact (hf b hb).1
 done:=by
  intro X hP hw hK hc i pins s σ H E I hf st hg
  subst hP hw hK
  obtain ⟨a1,a2,⟨x0,y0,a3⟩,a4,a5⟩:=st
  obtain ⟨xs,ys,e1,e2,ex⟩:=hg
  have tr:∀ {l:Addr} {zs:List V},H l=some (.lst zs)→∀b∈[z,TI,TO,i1,i2],l≠b:=fun e b hb q=>by rw [q,(hf b hb).1] at e; cases e
  have nd:=D.nd
  simp only [List.nodup_cons,List.mem_cons,List.not_mem_nil,or_false,not_or,List.nodup_nil,and_true,not_false_eq_true] at nd
  obtain ⟨⟨n1,n2,n3,n4⟩,⟨n5,n6,n7⟩,⟨n8,n9⟩,n10⟩:=nd
  have A':ZipApart z TI TO i1 i2 l1 l2:=⟨Ne.symm n1,Ne.symm n2,Ne.symm n3,Ne.symm n4,n5,n6,n7,n8,n9,n10,tr e1 z (by simp),tr e1 TO (by simp),tr e1 i1 (by simp),tr e1 i2 (by simp),tr e2 z (by simp),tr e2 TO (by simp),tr e2 i1 (by simp),tr e2 i2 (by simp)⟩
  obtain ⟨its1,rv1,p1,_⟩:=I.list (SqL.of e1)
  obtain ⟨its2,rv2,p2,_⟩:=I.list (SqL.of e2)
  have l1':=rv1.length
  have l2':=rv2.length
  refine wpAny_pyNext_zip_end (I.ok.hd hc) A' a1 a2 a3 a4 a5 p1.isList p2.isList (by rcases ex with q | q; exact .inl (by simp; omega); exact .inr (by simp; omega)) fun h' bk=>⟨rfl,?_⟩
  exact I.turnedN (t':=s.toks) hf fun b o hb e=>by
   simp only [List.mem_cons,List.not_mem_nil,or_false,not_or] at hb
   exact bk b o hb.1 hb.2.2.1 hb.2.2.2.1 hb.2.2.2.2 e
 self:=fun _ _ _ _ _ st h=>wpAny_pyIter_zip st.1 h
def Er (ta:TA):TI:=fun σ H R=>ta σ H fun vs H1=>∃l1 l2 xs ys,vs=[.ref l1,.ref l2]∧H1 l1=some (.lst xs)∧H1 l2=some (.lst ys)∧R (Itz l1 l2) H1
theorem uV {X:Cx} {a b:Expr} {ta:TA} {p pos tp:Pos} {es:List Expr} {kk:Nat} (hg:Gl X "zip") (hm:X.mg "zip" = none) (ha:PA X [a,b] ta)
  (hs:starEach [a,b] X.env=[(false,eval a X.env),(false,eval b X.env)]:=by rfl) (hs2:starEach [b] X.env=[(false,eval b X.env)]:=by rfl) :
  PI X (.Tuple es kk tp) (.Call (.Name "zip" p) [a,b] [] pos) (Er ta):=by
 intro pins s σ H R I h
 refine Call_ (dC I hg hm PyProof.Rows.boot_zip (PyProof.Rows.callWith_type1 (thn (ha pos pins s σ H _ I h) fun us s1 ⟨vs,H1,I1,r1,q1⟩=>?_) (by rw [hs,hs2]) (by rw [hs2]; rfl)))
 obtain ⟨l1,l2,xs,ys,rfl,e1,e2,q⟩:=q1
 cases r1 with
 | cons r rr =>
  cases rr with
  | cons r' rr =>
   cases rr
   cases r
   cases r'
   obtain ⟨its1,rv1,p1,_⟩:=I1.list (SqL.of e1)
   obtain ⟨its2,rv2,p2,_⟩:=I1.list (SqL.of e2)
   refine call_zip_2 p1.isList p2.isList fun h' z1 z2 z3 z4 z5 sz keep=>?_
   have I2:Inv X pins σ H1 { s1 with heap:=h' }:=I1.kept (t':=s1.toks) keep
   refine wpAny_pyIter_zip z1 ⟨s1.heap.objs.size + 4,[s1.heap.objs.size + 4,s1.heap.objs.size + 2,s1.heap.objs.size + 3,s1.heap.objs.size,s1.heap.objs.size + 1],_,_,H1,rfl,I2,qH l1 l2 _ _ _ _ _ ⟨by simp⟩,⟨z1,z2,⟨_,_,z3⟩,z4,z5⟩,fun b hb=>?_,q⟩
   have hb':s1.heap.objs.size≤b:=by
    simp only [List.mem_cons,List.not_mem_nil,or_false] at hb
    rcases hb with rfl | rfl | rfl | rfl | rfl <;> omega
   exact I1.fpOk hb' (I1.hok.fresh hb')
end L2
set_option Elab.async false
set_option linter.all false
set_option maxRecDepth 100000
namespace L2
open PySem PySem.Spec PyProof.Rows
def Dn (P:Program) (w:World) (K:PySem.W.Frag) (mg:Str→Option Value) (base:Heap) (x:Str) (ps:List Str) (k:Nat) (sp:Sp):Prop :=
 ∃ (f:Addr) (fd:FuncData),FnOk P w K mg base CX0 k f fd ps sp∧Binds K fd ps []∧PySem.W.keepIn K (.ref f)=true∧mg x=some (.ref f)
theorem ar {X:Cx} {k:Nat} {ps:List Str} {sp:Sp} {x:Str} {p pos:Pos} {e:Expr} {es:List Expr} {t:TA} (D:Dn X.prog X.w X.K X.mg X.base x ps k sp) (hr:Room k X.A) (hg:Gl X x) (ha:PA X (e :: es) t)
  (hdb:(x == ("__debug__" : Str))=false:=by decide) (he:starEach (e :: es) X.env=(false,eval e X.env) :: starEach es X.env:=by rfl) (hpl:(backTo pos (starEach es X.env)).any (·.1)=false:=by rfl) :
  PE X (.Call (.Name x p) (e :: es) [] pos) (ur sp [] E0 t):=by
 obtain ⟨f,fd,F,hb,hk,hm⟩:=D
 exact sM F hr hg hm hk hb .nil mB ha hdb he hpl
def mC (sc:Scope) (N:List Str) (scope:Scope) (own cs:List Str) (cap:List Nat):Bool :=
 decide (scope.kind=.function) && scope.names.all (fun y=>decide (y.2≠.cell)) && scope.names.all (fun y=>decide (y.2=.local→scope.names.lookup y.1=some .local)) &&
 scope.names.all (fun y=>decide (y.2=.free→sc.names.lookup y.1=some .cell∨sc.names.lookup y.1=some .free)) && own.all (fun y=>decide (scope.names.lookup y=some .local)) &&
 decide (cs.length=cap.length) && (cs.zip cap).all (fun y=>decide (N[y.2]? = some y.1) && decide ((y.1,NameKind.free)∈scope.names)) && scope.names.all (fun y=>decide (y.2=.free→scope.names.lookup y.1≠some .local))
theorem bn {X:Cx} {sc:Scope} {N:List Str} {scope:Scope} {own cs:List Str} {cap:List Nat} (h1:X.env.scope=sc) (h2:X.N=N) (h:mC sc N scope own cs cap=true):CompOk X scope own cs cap:=by
 subst h1 h2
 unfold mC at h
 simp only [Bool.and_eq_true,List.all_eq_true,decide_eq_true_eq] at h
 obtain ⟨⟨⟨⟨⟨⟨⟨a1,a2⟩,a3⟩,a4⟩,a5⟩,a6⟩,a7⟩,a8⟩:=h
 refine ⟨a1,a2,a3,a4,fun i y e=>?_,a5,a6,fun y hy e=>a8 _ hy rfl e⟩
 have hi:i < cs.length:=(List.getElem?_eq_some_iff.mp e).1
 have hj:i < cap.length:=by rw [← a6]; exact hi
 refine ⟨cap[i],List.getElem?_eq_getElem hj,?_⟩
 have hm:(y,cap[i])∈cs.zip cap:=by
  have:(cs.zip cap)[i]? = some (y,cap[i]):=by
   rw [List.getElem?_zip_eq_some]
   exact ⟨e,List.getElem?_eq_getElem hj⟩
  exact List.mem_of_getElem? this
 exact a7 _ hm
theorem bD {σ:St} {H:Hp} {A B:Hp→Prop} (h:A H):xA σ H (fun ok H3=>if ok=true then A H3 else B H3):=by
 show (if (true:Bool)=true then A H else B H)
 rw [if_pos rfl]
 exact h
section
variable {X:Cx} {tg:Expr}
def uW (K:PySem.W.Frag) (tl:TE):TI:=fun σ H R=>uk K tl σ H R∨xi K tl σ H R
theorem qI {l:Expr} {tl:TE} (hl:PE X l tl):PI X tg l (uW X.K tl):=by
 intro pins s σ H R I h
 rcases h with h | h
 ·exact bJ hl pins s σ H R I h
 ·exact kS hl pins s σ H R I h
end
def aA:List String:=["NoneType","bool","int","str","list","tuple","dict"]
theorem sW {K:PySem.W.Frag}:∀T∈aA,PySem.W.kitOne K (.type T) (.type "int")=some (T == "int" || T == "bool"):=by
 intro T h
 simp only [aA,List.mem_cons,List.not_mem_nil,or_false] at h
 rcases h with rfl | rfl | rfl | rfl | rfl | rfl | rfl <;> kernel_rfl
theorem jH {K:PySem.W.Frag}:∀T∈aA,PySem.W.kitOne K (.type T) (.type "bool")=some (T == "bool"):=by
 intro T h
 simp only [aA,List.mem_cons,List.not_mem_nil,or_false] at h
 rcases h with rfl | rfl | rfl | rfl | rfl | rfl | rfl <;> kernel_rfl
theorem qJ {K:PySem.W.Frag}:∀T∈aA,PySem.W.kitOne K (.type T) (.type "list")=some (T == "list"):=by
 intro T h
 simp only [aA,List.mem_cons,List.not_mem_nil,or_false] at h
 rcases h with rfl | rfl | rfl | rfl | rfl | rfl | rfl <;> kernel_rfl
theorem bI {K:PySem.W.Frag}:∀T∈aA,PySem.W.kitOne K (.type T) (.type "tuple")=some (T == "tuple"):=by
 intro T h
 simp only [aA,List.mem_cons,List.not_mem_nil,or_false] at h
 rcases h with rfl | rfl | rfl | rfl | rfl | rfl | rfl <;> kernel_rfl
theorem dk {K:PySem.W.Frag}:∀T∈aA,PySem.W.kitOne K (.type T) (.type "str")=some (T == "str"):=by
 intro T h
 simp only [aA,List.mem_cons,List.not_mem_nil,or_false] at h
 rcases h with rfl | rfl | rfl | rfl | rfl | rfl | rfl <;> kernel_rfl
theorem sX {K:PySem.W.Frag}:∀T∈aA,PySem.W.kitAny K (.type T) [.type "list",.type "tuple"]=some (T == "list" || T == "tuple"):=by
 intro T h
 have h1:=qJ (K:=K) T h
 have h2:=bI (K:=K) T h
 unfold PySem.W.kitAny
 rw [h1]
 cases e:(T == "list") with
 | true=>rfl
 | false =>
  show PySem.W.kitAny K (.type T) [.type "tuple"]=_
  unfold PySem.W.kitAny
  rw [h2]
  cases e2:(T == "tuple") <;> rfl
def Ty (K:PySem.W.Frag) (H:Hp) (x:V) (T:String):Prop:=T∈aA∧TyOf K H x (.type T)
theorem Ty.int {K:PySem.W.Frag} {H:Hp} {i:Int}:Ty K H (.int i) "int" := ⟨by simp [aA],.int i⟩
theorem Ty.bl {K:PySem.W.Frag} {H:Hp} {b:Bool}:Ty K H (.bl b) "bool" := ⟨by simp [aA],.bl b⟩
theorem Ty.non {K:PySem.W.Frag} {H:Hp}:Ty K H .non "NoneType" := ⟨by simp [aA],.non⟩
theorem Ty.str {K:PySem.W.Frag} {H:Hp} {x:Str}:Ty K H (.str x) "str" := ⟨by simp [aA],.str x⟩
theorem Ty.lst {K:PySem.W.Frag} {H:Hp} {a:Addr} {xs:List V} (e:H a=some (.lst xs)):Ty K H (.ref a) "list" := ⟨by simp [aA],.lst e⟩
theorem Ty.tup {K:PySem.W.Frag} {H:Hp} {a:Addr} {xs:List V} (e:H a=some (.tup xs)):Ty K H (.ref a) "tuple" := ⟨by simp [aA],.tup e⟩
theorem Ty.dK {K:PySem.W.Frag} {H:Hp} {a:Addr} {xs:List (Key×V)} (e:H a=some (.dK xs)):Ty K H (.ref a) "dict" := ⟨by simp [aA],.dK e⟩
def aQ:V→Int→Bool
 | .int i,l=>decide (l≤i)
 | _,_=>false
def nM:V→Bool
 | .bl _=>true
 | _=>false
theorem uX {K:PySem.W.Frag} {H:Hp} {x:V} {T:String} (t:TyOf K H x (.type T)) (h:T∈aA):(T == "int")=true→∃i,x=.int i:=by
 intro e
 have e':T = "int" := by simpa using e
 subst e'
 generalize hv:Value.type "int" = tv at t
 cases t with
 | int i=>exact ⟨i,rfl⟩
 | _=>exact absurd hv (by simp)
theorem mD {K:PySem.W.Frag} {H:Hp} {x:V} {T:String} (t:TyOf K H x (.type T)):(T == "bool")=nM x:=by
 generalize hv:Value.type T=tv at t
 cases t with
 | bl b=>cases hv; rfl
 | non=>cases hv; rfl
 | int i=>cases hv; rfl
 | str i=>cases hv; rfl
 | flt i=>cases hv; rfl
 | lst i=>cases hv; rfl
 | frz i=>cases hv; rfl
 | tup i=>cases hv; rfl
 | dK i=>cases hv; rfl
 | dT i=>cases hv; rfl
 | ins=>cases hv
end L2
namespace Pc
open PySem L2
structure Pot (a b:Int):Prop where
 a0:0≤a
 b0:0≤b
 b1:b < 2147483629
def But (p:Addr) (H H':Hp):Prop:=∀b o,b≠p→H b=some o→H' b=some o
theorem But.refl {p:Addr} {H:Hp}:But p H H:=fun _ _ _ e=>e
theorem But.trans {p:Addr} {H H1 H2:Hp} (a:But p H H1) (b:But p H1 H2):But p H H2:=fun c o n e=>b c o n (a c o n e)
theorem But.upd {p:Addr} {H:Hp} {o:HO}:But p H (upd H p o):=fun b u n e=>by rw [aj n]; exact e
theorem But.new {p q:Addr} {H:Hp} {o:HO} (h:H q=none):But p H (L2.upd H q o):=fun b u n e=>by rw [aj (am e h)]; exact e
structure Kd where
 w:Int
 h:Int
 wo:Int
 wa:Int
 tu:Bool
def kdV (k:Kd):List V:=[.int k.w,.int k.h,.int k.wo,.int k.wa,.bl k.tu]
structure Good (k:Kd):Prop where
 w:1≤k.w
 h:1≤k.h
 wo:0≤k.wo
 wa:0≤k.wa
 w':k.w < 10 ^ 60
 h':k.h < 10 ^ 60
 wo':k.wo < 10 ^ 60
 wa':k.wa < 10 ^ 60
def uv (H:Hp) (v:V) (k:Kd):Prop:=∃a,v=.ref a∧H a=some (.tup (kdV k))
def xB (H:Hp) (v:V) (k:Kd):Prop:=∃a,v=.ref a∧H a=some (.lst (kdV k))
def RowAt (H:Hp) (v:V) (k:Kd):Prop:=uv H v k∨xB H v k
abbrev Tups (H:Hp):List V→List Kd→Prop:=Paired (uv H)
theorem Tups.keep {H H':Hp} (k:∀b xs,H b=some (.tup xs)→H' b=some (.tup xs)):∀ {xs:List V} {ks:List Kd},Tups H xs ks→Tups H' xs ks:=fun r =>
 Paired.mapP r fun v kd ⟨a,e,h⟩=>⟨a,e,k a _ h⟩
structure ToldAt (H:Hp) (t l:Addr) (bl:Int) (xs:List V) (ks:List Kd):Prop where
 t:H t=some (.tup [.int bl,.ref l])
 l:H l=some (.lst xs)
 r:Tups H xs ks
 b0:0≤bl
 b1:bl < 10 ^ 60
 g:∀k∈ks,Good k
 n0:1≤xs.length
 n1:xs.length≤8
def cj (K:PySem.W.Frag):Sp:=fun vs H Q _=>∃ (x:V) (T:String) (l:Int),vs=[x,.int l]∧Ty K H x T∧Q (.bl (aQ x l)) H
def gm (K:PySem.W.Frag):Sp:=fun vs H Q _=>∃ (x:V) (T:String),vs=[x]∧Ty K H x T∧Q (.bl (nM x)) H
def jI (K:PySem.W.Frag):Sp:=fun vs H Q _=>∃ (x:V) (T:String), vs=[x]∧Ty K H x T∧∀H', Same H H'→Q (.bl (T == "list" || T == "tuple")) H'
def iF:List V→Bool
 | [w,h,wo,wa,tu]=>aQ w 1 && aQ h 1 && aQ wo 0 && aQ wa 0 && nM tu
 | _=>false
def eO (K:PySem.W.Frag):Sp:=fun vs H Q _=>∃ (x:V) (T:String),vs=[x]∧Ty K H x T ∧ 
 ((T ≠ "list" ∧ T ≠ "tuple" ∧ ∀H', Same H H'→Q (.bl false) H')∨∃ (a:Addr) (xs:List V), x=.ref a∧(H a=some (.lst xs)∨H a=some (.tup xs))∧(∀y∈xs, ∃U, Ty K H y U)∧∀H', Same H H'→Q (.bl (iF xs)) H')
theorem gC {k:Kd} (g:Good k):iF (kdV k)=true:=by
 show (decide (1≤k.w) && decide (1≤k.h) && decide (0≤k.wo) && decide (0≤k.wa) && true)=true
 rw [decide_eq_true g.w,decide_eq_true g.h,decide_eq_true g.wo,decide_eq_true g.wa]
 rfl
theorem Ty.same {K:PySem.W.Frag} {H H':Hp} {x:V} {T:String} (s:Same H H') (t:Ty K H x T):Ty K H' x T:=by
 refine ⟨t.1,?_⟩
 have t2:=t.2
 generalize hv:Value.type T=tv at t2 ⊢
 cases t2 with
 | non=>exact .non
 | bl b=>exact .bl b
 | int b=>exact .int b
 | str b=>exact .str b
 | flt b=>exact .flt b
 | lst e=>exact .lst (s _ _ e)
 | frz e=>exact .frz (s _ _ e)
 | tup e=>exact .tup (s _ _ e)
 | dK e=>exact .dK (s _ _ e)
 | dT e=>exact .dT (s _ _ e)
 | ins=>cases hv
end Pc
set_option Elab.async false
set_option linter.all false
set_option maxRecDepth 100000
namespace L2
open PySem PySem.Spec PyProof.Rows
def qK (K:PySem.W.Frag):List V→Hp→VK→Prop:=fun xs H Q=>∃p ys,xs=[V.ref p]∧((SqL K H p ys∧∀l,H l=none→Q (.ref l) (upd H l (.tup ys)))∨(SqT K H p ys∧Q (.ref p) H))
def Es (K:PySem.W.Frag):List V→Hp→VK→Prop:=fun xs H Q=>∃x cv t c b,xs=[x,cv]∧TyOf K H x t∧clV cv=some c∧PySem.W.kitOne K t c=some b∧Q (.bl b) H
theorem qL {K:PySem.W.Frag} {j:Nat} {a:Addr} {xs:List V} {g:TG} {tb:TS} {D:Ends} {σ:St} {H:Hp} (hσ:σ[j]? = some (some (.ref a))) (hs:H a=some (.lst xs)∨H a=some (.tup xs)) (Pv:Nat→St→Hp→Prop) (h0:Pv 0 σ H)
  (hk:∀i σ H',i≤xs.length→Pv i σ H'→∀o,H a=some o→H' a=some o)
  (ht:∀i x σ H,xs[i]? = some x→Pv i σ H→g x σ H fun σ2 H2=>tb { D with nx:=Pv (i + 1),ct:=Pv (i + 1),bk:=D.nx } σ2 H2) (hd:∀σ H,Pv xs.length σ H→D.nx σ H):xl (uW K (sE j)) g tb D σ H:=by
 rcases hs with z | z
 ·exact .inl ⟨_,hσ,a,rfl,⟨xs,SqL.of z⟩,cA (xs:=xs) Pv h0 (fun i σ H' hi p=>SqL.of (hk i σ H' hi p _ z)) ht hd⟩
 ·exact .inr ⟨_,hσ,a,rfl,⟨xs,SqT.of z⟩,mt (xs:=xs) Pv h0 (fun i σ H' hi p=>SqT.of (hk i σ H' hi p _ z)) ht hd⟩
def Nx (n:Nat) (Pv:Nat→List V→Hp→Prop) (i:Nat) (ys:List V) (H:Hp):Prop:=∃m',m' < n - i∧m'=n - (i + 1)∧i + 1≤n∧Pv (i + 1) ys H
theorem Nx.of {n:Nat} {Pv:Nat→List V→Hp→Prop} {i:Nat} {ys:List V} {H:Hp} (h:i < n) (p:Pv (i + 1) ys H):Nx n Pv i ys H:=⟨n - (i + 1),by omega,rfl,h,p⟩
theorem cQ {K:PySem.W.Frag} {a:Addr} {xs:List V} {σ:St} {cap:List Nat} {k:Nat} {g:TG} {tt:TT} {te:TE} {Q:List V→Hp→Prop} {H:Hp} (hs:H a=some (.lst xs)∨H a=some (.tup xs)) (Pv:Nat→List V→Hp→Prop)
  (hk:∀i ys H',i≤xs.length→Pv i ys H'→∀o,H a=some o→H' a=some o) (h0:Pv 0 [] H)
  (ht:∀i x ys H',xs[i]? = some x→Pv i ys H'→ys.length < sizeLine∧g x (bf σ cap k) H' fun σ2 H2=>leS (bf σ cap k) σ2∧tt σ2 H2 fun ok H3=>if ok=true then te σ2 H3 (fun v H4=>Nx xs.length Pv i (ys ++ [v]) H4) else Nx xs.length Pv i ys H3)
  (hd:∀ys H',Pv xs.length ys H'→ys.length≤sizeLine∧Q ys H') :
  (H a=some (.lst xs)→∃W,(∃m,W 0 m [] H)∧fV σ cap k (Itl K a) g tt te Q W)∧(H a=some (.tup xs)→∃W,(∃m,W 0 m [] H)∧fV σ cap k (Itt K a) g tt te Q W):=by
 refine ⟨fun z=>⟨fun i m ys H'=>m=xs.length - i∧i≤xs.length∧Pv i ys H',⟨_,rfl,Nat.zero_le _,h0⟩,?_⟩,fun z=>⟨fun i m ys H'=>m=xs.length - i∧i≤xs.length∧Pv i ys H',⟨_,rfl,Nat.zero_le _,h0⟩,?_⟩⟩
 ·rintro i m ys H' ⟨rfl,hi,p⟩
  have z':=hk i ys H' hi p _ z
  by_cases hin:i < xs.length
  ·obtain ⟨e,hg⟩:=ht i xs[i] ys H' (by simp [hin]) p
   refine .inr ⟨⟨xs,xs[i],SqL.of z',by simp [hin]⟩,e,fun x H2 yl=>?_⟩
   obtain ⟨e1,e2⟩:=yl
   have e3:=e2 xs (SqL.of z')
   have e4:x=xs[i]:=by simpa [hin] using e3.symm
   subst e1 e4
   exact hg
  ·have e:i=xs.length:=by omega
   subst e
   obtain ⟨a1,a2⟩:=hd ys H' p
   exact .inl ⟨⟨xs,SqL.of z',Nat.le_refl _⟩,a1,a2⟩
 ·rintro i m ys H' ⟨rfl,hi,p⟩
  have z':=hk i ys H' hi p _ z
  by_cases hin:i < xs.length
  ·obtain ⟨e,hg⟩:=ht i xs[i] ys H' (by simp [hin]) p
   refine .inr ⟨⟨xs,xs[i],SqT.of z',by simp [hin]⟩,e,fun x H2 yl=>?_⟩
   obtain ⟨e1,e2⟩:=yl
   have e3:=e2 xs (SqT.of z')
   have e4:x=xs[i]:=by simpa [hin] using e3.symm
   subst e1 e4
   exact hg
  ·have e:i=xs.length:=by omega
   subst e
   obtain ⟨a1,a2⟩:=hd ys H' p
   exact .inl ⟨⟨xs,SqT.of z',Nat.le_refl _⟩,a1,a2⟩
theorem nN {K:PySem.W.Frag} {j:Nat} {a:Addr} {xs:List V} {σ:St} {cap:List Nat} {k:Nat} {g:TG} {tt:TT} {te:TE} {Q:VK} {H:Hp} (hσ:σ[j]? = some (some (.ref a))) (hs:H a=some (.lst xs)∨H a=some (.tup xs)) (Pv:Nat→List V→Hp→Prop)
  (hk:∀i ys H',i≤xs.length→Pv i ys H'→∀o,H a=some o→H' a=some o) (h0:Pv 0 [] H)
  (ht:∀i x ys H',xs[i]? = some x→Pv i ys H'→ys.length < sizeLine∧g x (bf σ cap k) H' fun σ2 H2=>leS (bf σ cap k) σ2∧tt σ2 H2 fun ok H3=>if ok=true then te σ2 H3 (fun v H4=>Nx xs.length Pv i (ys ++ [v]) H4) else Nx xs.length Pv i ys H3)
  (hd:∀ys H',Pv xs.length ys H'→ys.length≤sizeLine∧∀p,H' p=none→Q (.ref p) (upd H' p (.lst ys))):qG (uW K (sE j)) cap k g tt te σ H Q:=by
 obtain ⟨c1,c2⟩:=cQ (K:=K) (σ:=σ) (cap:=cap) (k:=k) (g:=g) (tt:=tt) (te:=te) hs Pv hk h0 ht hd
 rcases hs with z | z
 ·exact .inl ⟨_,hσ,a,rfl,⟨xs,SqL.of z⟩,c1 z⟩
 ·exact .inr ⟨_,hσ,a,rfl,⟨xs,SqT.of z⟩,c2 z⟩
end L2
namespace Pc
open PySem L2
def lp (b:Int) (r:Addr):List (Str×V):=cI "kind_rows" (.ref r) (cI "blade_width" (.int b) [])
theorem kbw:¬ (("blade_width" : Str) = "kind_rows"):=by decide +kernel
theorem lq (b:Int) (r:Addr):(lp b r).lookup ("blade_width" : Str)=some (.int b):=by
 unfold lp
 rw [bt,if_neg kbw,bt,if_pos rfl]
theorem cR (b:Int) (r:Addr):(lp b r).lookup ("kind_rows" : Str)=some (.ref r):=by
 unfold lp
 rw [bt,if_pos rfl]
theorem bH (b:Int) (r:Addr) {m:Str} (h1:¬ m = "kind_rows") (h2:¬ m = "blade_width"):(lp b r).lookup m=none:=by
 unfold lp
 rw [bt,if_neg h1,bt,if_neg h2]
 all_goals rfl
def ShopAt (C:Addr) (H:Hp) (x:Addr) (b:Int) (ks:List Kd):Prop:=∃dx r rs,H x=some (.ins C dx (lp b r))∧H r=some (.tup rs)∧Tups H rs ks
theorem ShopAt.keep {C:Addr} {H H':Hp} {x:Addr} {b:Int} {ks:List Kd} (s:ShopAt C H x b ks) (k1:∀b xs,H b=some (.tup xs)→H' b=some (.tup xs)) (k2:∀b C dx fs,H b=some (.ins C dx fs)→H' b=some (.ins C dx fs)):ShopAt C H' x b ks:=by
 obtain ⟨dx,r,rs,h1,h2,h3⟩:=s
 exact ⟨dx,r,rs,k2 _ _ _ _ h1,k1 _ _ h2,Tups.keep k1 h3⟩
def lr (C:Addr):Sp:=fun vs H Q _=>∃ (x dx ks:Addr) (b:Int) (rs:List V) (kds:List Kd),vs=[.ref x,.int b,.ref ks]∧H x=some (.ins C dx [])∧0≤b∧(H ks=some (.lst rs)∨H ks=some (.tup rs))∧Paired (RowAt H) rs kds∧(∀k∈kds,Good k)∧1≤rs.length∧rs.length≤8 ∧
 ∀H':Hp,ShopAt C H' x b kds→(∀c o,c≠x→H c=some o→H' c=some o)→Q .non H'
def eP (C:Addr):Sp:=fun vs H Q _=>∃ (x:Addr) (b:Int) (ks:List Kd),vs=[.ref x]∧ShopAt C H x b ks∧Q (.int b) H
def eQ (C:Addr):Sp:=fun vs H Q _=>∃ (x:Addr) (b:Int) (ks:List Kd),vs=[.ref x]∧ShopAt C H x b ks∧∀ (l:Addr) (rs:List V),H l=none→Tups H rs ks→Q (.ref l) (upd H l (.lst rs))
theorem mE {K:PySem.W.Frag} {H:Hp} {k:Kd}:∀y∈kdV k,∃U,Ty K H y U:=by
 intro y hy
 simp only [kdV,List.mem_cons,List.not_mem_nil,or_false] at hy
 rcases hy with rfl | rfl | rfl | rfl | rfl
 ·exact ⟨_,.int⟩
 ·exact ⟨_,.int⟩
 ·exact ⟨_,.int⟩
 ·exact ⟨_,.int⟩
 ·exact ⟨_,.bl⟩
theorem Paired.getR {α β:Type} {F:α→β→Prop}:∀ {l₁:List α} {l₂:List β} {i:Nat} {x:α},Paired F l₁ l₂→l₁[i]? = some x→∃y,l₂[i]? = some y∧F x y
 | _,_,_,_,.nil,e=>by simp at e
 | _,_,0,_,.cons h _,e=>by simp at e; subst e; exact ⟨_,rfl,h⟩
 | _,_,i + 1,x,.cons _ t,e=>by
  obtain ⟨y,h1,h2⟩:=Paired.getR (i:=i) (x:=x) t (by simpa using e)
  exact ⟨y,by simpa using h1,h2⟩
theorem RowAt.same {H H':Hp} {v:V} {k:Kd} (s:Same H H') (r:RowAt H v k):RowAt H' v k:=by
 rcases r with ⟨a,e,h⟩ | ⟨a,e,h⟩
 ·exact .inl ⟨a,e,s _ _ h⟩
 ·exact .inr ⟨a,e,s _ _ h⟩
theorem nO {K:PySem.W.Frag} {H:Hp} {v:V} {k:Kd} {Q:VK} {E:XK} (r:RowAt H v k) (g:Good k) (q:∀H',Same H H'→Q (.bl true) H'):eO K [v] H Q E:=by
 rcases r with ⟨a,rfl,h⟩ | ⟨a,rfl,h⟩
 ·exact ⟨_,_,rfl,.tup h,.inr ⟨a,_,rfl,.inr h,mE,fun H' s=>by rw [gC g]; exact q H' s⟩⟩
 ·exact ⟨_,_,rfl,.lst h,.inr ⟨a,_,rfl,.inl h,mE,fun H' s=>by rw [gC g]; exact q H' s⟩⟩
structure ShopTxt (K:PySem.W.Frag) (C:Addr):Prop where
 cl:Cls K C
 nB:NoAttr K C "blade_width"
 nK:NoAttr K C "kind_rows"
end Pc
set_option Elab.async false
set_option linter.all false
set_option maxRecDepth 100000
namespace L2
open PySem PySem.Spec PyProof.Rows
def Mn (P:Program) (w:World) (K:PySem.W.Frag) (mg:Str→Option Value) (base:Heap) (C:Addr) (m:Str) (ps:List Str) (k:Nat) (sp:Sp):Prop :=
 ∃ (f:Addr) (fd:FuncData),FnOk P w K mg base CX0 k f fd ps sp∧Binds K fd ps []∧Meth K C m f
theorem ej {X:Cx} {k:Nat} {C:Addr} {ps:List Str} {sp:Sp} {m:Str} {o:Expr} {ta:TE} {apos pos:Pos} {pl:Sem Bool} (he:PE X o ta) (c:Cls X.K C) (D:Mn X.prog X.w X.K X.mg X.base C m ps k sp) (hr:Room k X.A)
  (ht:eval (.Call (.Attribute o m apos) [] [] pos) X.env=(do
   let ov←eval o X.env
   standAt apos.atName
   let (f,first)←holding [ov] (getMethod ov m pl)
   callWith pos f first (backTo pos (starEach [] X.env)) (backToKw pos (keywordEach [] X.env))):=by rfl):PE X (.Call (.Attribute o m apos) [] [] pos) (mx C m sp [] E0 ta sL):=by
 obtain ⟨f,fd,F,hb,hm⟩:=D
 exact qu he c hm F hr hb .nil mB ht
def Kn (P:Program) (w:World) (K:PySem.W.Frag) (mg:Str→Option Value) (base:Heap) (x:Str) (C:Addr) (ps:List Str) (k:Nat) (sp:Sp):Prop :=
 ∃ (f:Addr) (fd:FuncData),Mk K C f∧FnOk P w K mg base CX0 k f fd ps sp∧Binds K fd ps []∧mg x=some (.ref C)
theorem xC {X:Cx} {k:Nat} {C:Addr} {ps:List Str} {sp:Sp} {x:Str} {p pos:Pos} {e:Expr} {es:List Expr} {t:TA} (D:Kn X.prog X.w X.K X.mg X.base x C ps k sp) (hr:Room (k + 1) X.A) (hg:Gl X x) (ha:PA X (e :: es) t)
  (hdb:(x == ("__debug__" : Str))=false:=by decide) (he:starEach (e :: es) X.env=(false,eval e X.env) :: starEach es X.env:=by rfl) (hpl:(backTo pos (starEach es X.env)).any (·.1)=false:=by rfl) :
  PE X (.Call (.Name x p) (e :: es) [] pos) (ut C sp [] E0 t):=by
 obtain ⟨f,fd,M,F,hb,hm⟩:=D
 exact sO M F hr hg hm hb .nil mB ha hdb he hpl
end L2
namespace Pc
open PySem L2
theorem Paired.app {α β:Type} {F:α→β→Prop}:∀ {l₁ m₁:List α} {l₂ m₂:List β},Paired F l₁ l₂→Paired F m₁ m₂→Paired F (l₁ ++ m₁) (l₂ ++ m₂)
 | _,_,_,_,.nil,s=>s
 | _,_,_,_,.cons r t,s=>.cons r (Paired.app t s)
theorem Same.but {p:Addr} {H H':Hp} (s:Same H H'):But p H H':=fun b o _ e=>s b o e
theorem Same.new {q:Addr} {H:Hp} {o:HO} (h:H q=none):Same H (upd H q o):=fun b u e=>by rw [aj (am e h)]; exact e
end Pc
set_option Elab.async false
set_option linter.all false
set_option maxRecDepth 100000
namespace PySem
open Sem (wp)
open AutoSeq1 (wpAny_loadPart')
section
variable {prog:Program} {w:World} {A:Around} {E:Value→Shared→Prop} {s:Shared}
theorem gf {it t:Addr} {i:Nat} {items} {x:Value} {Q:Value→Shared→Prop} (hit:s.heap.IsTupleIter it t i)
  (ht:s.heap.IsTuple t items) (hx:items[i]? = some x)
  (hQ:∀h',h'.IsTupleIter it t (i + 1)→Heap.SameBut it s.heap h'→Q x { s with heap:=h' }) :
  wpAny (model prog w) A (Builtin.SmallTypes.nextOf (.ref it)) Q E s:=by
 obtain ⟨o,ho,hc,hd⟩:=id hit
 obtain ⟨ol,hol,_,nl,hdl⟩:=ht
 unfold Builtin.SmallTypes.nextOf
 refine wpAny_bind (wpAny_callSpecial?_slot (name:=Str.ofString "__next__") hit.typeIs F.slot_tuple_iterator_next
  (wpAny_call_entry F.slot_tuple_iterator_next hit.typeIs F.entry_tuple_iterator_next ?_ (F.args_tuple_iterator_next_1 _)))
 show wpAny _ _ (field (.ref it) 0 >>= _) _ _ s
 refine wpAny_bind (wpAny_field ho hd (x:=.ref t) rfl ?_)
 show wpAny _ _ (if (Value.ref t == Value.none)=true then _ else _) _ _ s
 rw [if_neg (show ¬ ((Value.ref t == Value.none)=true) from Bool.false_ne_true)]
 show wpAny _ _ (field (.ref it) 1 >>= _) _ _ s
 refine wpAny_bind (wpAny_field ho hd (x:=.int i 0) rfl ?_)
 show wpAny _ _ (seqItems? (.ref t) >>= _) _ _ s
 refine wpAny_bind (wpAny_seqItems hol hdl ?_)
 simp only [Int.toNat_natCast,hx]
 refine wpAny_bind (wpAny_setField ho hd (by simp) (wpAny_pure ⟨x,rfl,wpAny_pure (hQ _ ?_ (Heap.SameBut.update ..))⟩))
 exact ⟨_,Heap.get?_update_self _ ho (Obj.isFreed_of_fields (Obj.data_mapFields hd _)),(Obj.cls_mapFields ..).trans hc,by
  rw [Obj.data_mapFields hd]; simp [rawInt]⟩
theorem dH {it t:Addr} {i:Nat} {items} {Q:Value→Shared→Prop} (hh:A.handled=none)
  (hit:s.heap.IsTupleIter it t i) (ht:s.heap.IsTuple t items) (hx:items[i]? = none)
  (hE:∀h' e, Heap.ExtBut it s.heap h'→(∃o, h'.get? e=some o∧o.cls=.type "StopIteration")→E (.ref e) { s with heap:=h' }) :
  wpAny (model prog w) A (Builtin.SmallTypes.nextOf (.ref it)) Q E s:=by
 obtain ⟨o,ho,hc,hd⟩:=id hit
 obtain ⟨ol,hol,_,nl,hdl⟩:=ht
 unfold Builtin.SmallTypes.nextOf
 refine wpAny_bind (wpAny_callSpecial?_slot (name:=Str.ofString "__next__") hit.typeIs F.slot_tuple_iterator_next
  (wpAny_call_entry F.slot_tuple_iterator_next hit.typeIs F.entry_tuple_iterator_next ?_ (F.args_tuple_iterator_next_1 _)))
 show wpAny _ _ (field (.ref it) 0 >>= _) _ _ s
 refine wpAny_bind (wpAny_field ho hd (x:=.ref t) rfl ?_)
 show wpAny _ _ (if (Value.ref t == Value.none)=true then _ else _) _ _ s
 rw [if_neg (show ¬ ((Value.ref t == Value.none)=true) from Bool.false_ne_true)]
 show wpAny _ _ (field (.ref it) 1 >>= _) _ _ s
 refine wpAny_bind (wpAny_field ho hd (x:=.int i 0) rfl ?_)
 show wpAny _ _ (seqItems? (.ref t) >>= _) _ _ s
 refine wpAny_bind (wpAny_seqItems hol hdl ?_)
 simp only [Int.toNat_natCast,hx]
 refine wpAny_bind (wpAny_rule (wpAny_bind (wpAny_setField ho hd (by simp) ?_)))
 show wpAny _ _ (newExc (.type "StopIteration") [] >>= _) _ _ _
 refine wpAny_bind ?_
 simp only [newExc,newTuple]
 refine wpAny_bind (wpAny_newObj_type ?_ (by size_fits))
 refine wpAny_bind (m:=firstArgMember _ _) (wpAny_of_eq (a:=Value.none) (by first | rfl | (simp only [firstArgMember]; rfl)) ?_)
 refine wpAny_newObj_type ?_ (by size_fits)
 simp only [raiseNew]
 refine wpAny_bind (wpAny_handled ?_)
 first | rw [show A.in1.handled=none from hh] | rw [hh]
 refine wpAny_bind (wpAny_pure (wpAny_throw ?_))
 exact hE _ _ (((Heap.SameBut.update ..).extBut.push _).push _) ⟨_,Heap.get?_push_size _ rfl,rfl⟩
end
theorem qM {prog:Program} {w:World} {A:Around} (hh:A.handled=none) (it l:Addr) (hne:l≠it) (items:Array Value) :
  Draws prog w A it [it,l] items.size (fun i v=>items[i]? = some v) (fun i h=>h.IsTupleIter it l i∧h.IsTuple l items) where
 live:=fun _ _ st=>let ⟨o,ho,_⟩:=st.1; ⟨o,ho⟩
 frame:=fun _ _ _ st hk=>⟨st.1.at fun o e=>hk it (by simp) o e,let ⟨o,ho,r⟩:=st.2; ⟨o,hk l (by simp) o ho,r⟩⟩
 item:=fun i s Q E hi st hQ=>by
  refine gf st.1 st.2 (x:=items[i]) (by simp [hi]) fun h' hit' hs'=>?_
  exact hQ _ h' s.toks (by simp [hi]) ⟨hit',st.2.extBut hs'.extBut hne⟩ hs'
 done:=fun s Q E st hE=>dH hh st.1 st.2 (by simp) hE
theorem gD (l:Addr) (items:Array Value) (n:Nat) (dct:Option Addr) (sl:Array (Option Value)) :
  Meets (Builtin.«enumerate.__new__» ⟨[.type "enumerate",.ref l],[]⟩) (fun _ R s=>s.heap.get? l=some { cls:=.type "tuple",dict:=dct,data:=.seq items n,slots:=sl } ∧
   R (.ok (.ret (.ref (s.heap.push { cls:=.type "tuple_iterator",data:=.fields #[.ref l,.int 0 0] }).objs.size)))
    { s with heap:=(s.heap.push { cls:=.type "tuple_iterator",data:=.fields #[.ref l,.int 0 0] }).push { cls:=.type "enumerate",data:=.fields #[.none,.bool false,.ref s.heap.objs.size,rawInt 0,.none,.none] } }) :=
 .of_wp fun prog w A R s h=>by
  obtain ⟨hp,g,d,tk,os⟩:=s; obtain ⟨hl,h⟩:=h
  have hsub:=sub_enumerate
  have hL:Heap.IsTuple (Shared.heap ⟨hp,g,d,tk,os⟩) l items:=⟨_,hl,rfl,n,rfl⟩
  wp_walk using wpAny_loadPart' hl
  refine wpAny_stack_any fun st=>wpAny_pure ?_
  split
  ·rename_i c _ _ _ _ _
   cases (c == Value.type "enumerate")
   ·wp_walk using wpAny_loadPart' hl,wpAny_pyIter_tuple hL
    exact ⟨_,rfl,h⟩
   ·wp_walk using wpAny_loadPart' hl,wpAny_pyIter_tuple hL
    exact ⟨_,rfl,h⟩
  ·wp_walk using wpAny_loadPart' hl,wpAny_pyIter_tuple hL
   exact ⟨_,rfl,h⟩
section
variable {prog:Program} {w:World} {A:Around} {E:Value→Shared→Prop} {s:Shared}
theorem ek {l:Addr} {items:Array Value} {Q:Value→Shared→Prop} (hL:s.heap.IsTuple l items)
  (h:∀h',IsEnum h' (s.heap.objs.size + 1) s.heap.objs.size 0 .none→h'.IsTupleIter s.heap.objs.size l 0→h'.objs.size=s.heap.objs.size + 2 →
   (∀b o,s.heap.get? b=some o→h'.get? b=some o)→Q (.ref (s.heap.objs.size + 1)) { s with heap:=h' }) :
  wpAny (model prog w) A (call (.type "enumerate") [.ref l]) Q E s:=by
 obtain ⟨⟨c,dct,dt,sl⟩,hl,hc,n,hd⟩:=hL
 replace hc:c=.type "tuple" := hc
 replace hd:dt=.seq items n:=hd
 subst hc hd
 refine callType_new F.called_enumerate (by decide) (F.typeCall_enumerate_1 _) (F.newCall_enumerate_1 _) (fun obj=>F.args_object_init_2 obj _) F.entry_enumerate_new
  (gD l items n dct sl) ⟨hl,?_⟩
 have hz:(s.heap.push { cls:=.type "tuple_iterator",data:=.fields #[.ref l,.int 0 0] }).objs.size=s.heap.objs.size + 1:=Heap.size_push ..
 show _∧_
 rw [hz]
 have he:IsEnum ((s.heap.push { cls:=.type "tuple_iterator",data:=.fields #[.ref l,.int 0 0] }).push
   { cls:=.type "enumerate",data:=.fields #[.none,.bool false,.ref s.heap.objs.size,rawInt 0,.none,.none] }) (s.heap.objs.size + 1) s.heap.objs.size 0 .none:=by
  have:=Heap.get?_push_size (s.heap.push { cls:=.type "tuple_iterator",data:=.fields #[.ref l,.int 0 0] })
   (o:={ cls:=.type "enumerate",data:=.fields #[.none,.bool false,.ref s.heap.objs.size,rawInt 0,.none,.none] }) rfl
  rw [hz] at this; exact this
 refine ⟨⟨_,he,rfl⟩,h _ he ⟨_,Heap.get?_push_of_some _ (Heap.get?_push_size _ rfl),rfl,rfl⟩ (by rw [Heap.size_push,hz]) fun b o x=>Heap.get?_push_of_some _ (Heap.get?_push_of_some _ x)⟩
end
end PySem
set_option Elab.async false
set_option linter.all false
set_option maxRecDepth 100000
namespace L2
open PySem PySem.Spec PyProof.Rows
def Ite (f:List V→HO) (l:Addr):It :=
  ⟨fun i H=>∃xs x,H l=some (f xs)∧xs[i]? = some x,
   fun i H v H'=>∃p xs x,H p=none∧v=.ref p∧H'=upd H p (.tup [.int i,x])∧H l=some (f xs)∧xs[i]? = some x,
   fun i H=>∃xs,H l=some (f xs)∧xs.length≤i⟩
section
variable {X:Cx} {pins:List (Addr×Obj)} {σ:St} {H:Hp} {s:Shared}
theorem iG {f:List V→HO} {tn:Nat→Heap→Prop} {es:List Expr} {kk:Nat} {tp:Pos} {e it l:Addr} {i:Nat} {xs:List V} {x:V} {u:Value} {tk:Nat} {h':Heap} {E:Value→Shared→Prop} (hne:e≠it) (I:Inv X pins σ H s) (hf:∀b∈[e,it],dU X pins H b) (hl:H l=some (f xs)) (hx:xs[i]? = some x)
  (ho:∀b∈[e, it], b < s.heap.objs.size) (r:RelV x u) (b1:IsEnumOut h' e it ((i:Int) + 1) u s.heap.objs.size) (b3:h'.get? s.heap.objs.size=some { cls:=.type "tuple", data:=.seq #[.int i tk, u] })
  (bk:∀b o,b≠e→b≠it→s.heap.get? b=some o→h'.get? b=some o) (hn:∀h'',IsEnum h'' e it ((i + 1:Nat):Int) u→Heap.SameBut e h' h''→tn (i + 1) h'') :
  wpAny (model X.prog X.w) X.A (letOwnedTupleGo (.Tuple es kk tp) (.ref e) (.ref s.heap.objs.size)) (fun _ s2=>∃x H',Inv X pins σ H' s2∧RelV x (.ref s.heap.objs.size)∧(Ite f l).yld i H x H'∧tn (i + 1) s2.heap∧∀b∈[e,it],H' b=none) E { s with heap:=h',toks:=tk + 1 }:=by
 refine wpAny_letOwnedTupleGo_enum b1 fun h'' c1 cs=>?_
 have es':e < s.heap.objs.size:=ho e (by simp)
 have k2:∀b o,b∉[e,it]→s.heap.get? b=some o→h''.get? b=some o:=fun b o hb q=>by
  simp only [List.mem_cons,List.not_mem_nil,or_false,not_or] at hb
  exact cs.extBut b o hb.1 (bk b o hb.1 hb.2 q)
 have I1:Inv X pins σ H { s with heap:=h'',toks:=tk + 1 }:=I.turnedN (t':=tk + 1) hf k2
 have hp:h''.get? s.heap.objs.size=some { cls:=.type "tuple", data:=.seq #[.int i tk, u] }:=cs.extBut _ _ (Nat.ne_of_gt es') b3
 have hn0:H s.heap.objs.size=none:=I.hok.fresh (Nat.le_refl _)
 have fpk:=I.fpOk (H':=H) (Nat.le_refl _) hn0
 have I2:Inv X pins σ (upd H s.heap.objs.size (.tup [.int i,x])) { s with heap:=h'',toks:=tk + 1 }:=I1.track fpk I.sz ⟨by show 2≤sizeLine; decide,[.int i tk,u],.cons ⟨tk,rfl⟩ (.cons r .nil),_,hp,rfl,_,rfl⟩
 refine ⟨.ref s.heap.objs.size,_,I2,rfl,⟨_,xs,x,hn0,rfl,rfl,hl,hx⟩,hn h'' c1 cs,fun b hb=>?_⟩
 rw [aj (Nat.ne_of_lt (ho b hb))]
 exact (hf b hb).1
end
theorem lw {P:Program} {w:World} {K:PySem.W.Frag} {es:List Expr} {kk:Nat} {tp:Pos} (l e it:Addr) (hne:e≠it) :
  Turn P w K (.Tuple es kk tp) (Ite .lst l) [e,it] e (fun i h=>(∃old,IsEnum h e it i old)∧h.IsListIter it l i) where
 mem:=by simp
 obj:=fun i h st b hb=>by
  obtain ⟨⟨old,a1⟩,⟨o2,a2,_,d2⟩⟩:=st
  simp only [List.mem_cons,List.not_mem_nil,or_false] at hb
  rcases hb with rfl | rfl
  ·exact ⟨_,a1,fun v q=>by cases q⟩
  ·exact ⟨_,a2,fun v q=>by rw [d2] at q; cases q⟩
 keep:=fun i h h' st k=>by
  obtain ⟨⟨old,a1⟩,a2⟩:=st
  exact ⟨⟨old,k e (by simp) _ a1⟩,a2.at fun o q=>k it (by simp) o q⟩
 item:=by
  intro X hP hw hK hc i pins s σ H E I hf st hg
  subst hP hw hK
  obtain ⟨⟨old,a1⟩,a2⟩:=st
  obtain ⟨xs,x,e1,ex⟩:=hg
  obtain ⟨its,rv,p1,_⟩:=I.list (SqL.of e1)
  obtain ⟨u,hu,r⟩:=rv.get ex
  have ho:∀b∈[e,it],b < s.heap.objs.size:=fun b hb=>by
   obtain ⟨o2,a2',_⟩:=a2
   simp only [List.mem_cons,List.not_mem_nil,or_false] at hb
   rcases hb with rfl | rfl
   ·exact Heap.lt_size a1
   ·exact Heap.lt_size a2'
  refine wpAny_pyNext_enum_item a1 a2 p1.isList (x:=u) (by simpa using hu) hne fun h' b1 b2 b3 b4 bk=>⟨_,rfl,?_⟩
  exact iG (tn:=fun i h=>(∃old,IsEnum h e it i old)∧h.IsListIter it l i) hne I hf e1 ex ho r b1 b3 bk fun h'' c1 cs=>⟨⟨u,c1⟩,b2.extBut cs.extBut (Ne.symm hne)⟩
 done:=by
  intro X hP hw hK hc i pins s σ H E I hf st hg
  subst hP hw hK
  obtain ⟨⟨old,a1⟩,a2⟩:=st
  obtain ⟨xs,e1,ex⟩:=hg
  obtain ⟨its,rv,p1,_⟩:=I.list (SqL.of e1)
  have lv:=rv.length
  refine wpAny_pyNext_enum_end (I.ok.hd hc) a1 a2 p1.isList (by simp; omega) fun h' bk=>⟨rfl,?_⟩
  exact I.turnedN (t':=s.toks) hf fun b o hb q=>by
   simp only [List.mem_cons,List.not_mem_nil,or_false,not_or] at hb
   exact bk b o hb.2 q
 self:=fun _ _ _ _ _ st h=>by obtain ⟨⟨old,a1⟩,_⟩:=st; exact wpAny_pyIter_enum a1 h
theorem lx {P:Program} {w:World} {K:PySem.W.Frag} {es:List Expr} {kk:Nat} {tp:Pos} (l e it:Addr) (hne:e≠it) :
  Turn P w K (.Tuple es kk tp) (Ite .tup l) [e,it] e (fun i h=>(∃old,IsEnum h e it i old)∧h.IsTupleIter it l i) where
 mem:=by simp
 obj:=fun i h st b hb=>by
  obtain ⟨⟨old,a1⟩,⟨o2,a2,_,d2⟩⟩:=st
  simp only [List.mem_cons,List.not_mem_nil,or_false] at hb
  rcases hb with rfl | rfl
  ·exact ⟨_,a1,fun v q=>by cases q⟩
  ·exact ⟨_,a2,fun v q=>by rw [d2] at q; cases q⟩
 keep:=fun i h h' st k=>by
  obtain ⟨⟨old,a1⟩,a2⟩:=st
  exact ⟨⟨old,k e (by simp) _ a1⟩,a2.at fun o q=>k it (by simp) o q⟩
 item:=by
  intro X hP hw hK hc i pins s σ H E I hf st hg
  subst hP hw hK
  obtain ⟨⟨old,a1⟩,a2⟩:=st
  obtain ⟨xs,x,e1,ex⟩:=hg
  obtain ⟨its,rv,p1,_⟩:=I.tuple (SqT.of e1)
  obtain ⟨u,hu,r⟩:=rv.get ex
  have lt:i < its.toArray.size:=by simp; exact (List.getElem?_eq_some_iff.mp hu).1
  have ho:∀b∈[e,it],b < s.heap.objs.size:=fun b hb=>by
   obtain ⟨o2,a2',_⟩:=a2
   simp only [List.mem_cons,List.not_mem_nil,or_false] at hb
   rcases hb with rfl | rfl
   ·exact Heap.lt_size a1
   ·exact Heap.lt_size a2'
  have nl:∀b∈[e,it],l≠b:=fun b hb q=>by rw [q,(hf b hb).1] at e1; cases e1
  have p1':s.heap.IsTuple l its.toArray:=p1
  have DD:Draws X.prog X.w X.A.in1 it [it,l] its.toArray.size (fun i v=>its.toArray[i]? = some v) (fun i h=>h.IsTupleIter it l i∧h.IsTuple l its.toArray):=qM (show X.A.in1.handled=none from I.ok.hd hc) it l (nl it (by simp)) its.toArray
  refine wpAny_pyNext_enum_itemD DD a1 ⟨a2,p1'⟩ lt hne (by simp only [List.mem_cons,List.not_mem_nil,or_false,not_or]; exact ⟨hne,Ne.symm (nl e (by simp))⟩) fun x' h' tk px b1 b2 b3 b4 bk=>⟨_,rfl,?_⟩
  have hu':its.toArray[i]? = some u:=by simpa using hu
  have eu:u=x':=Option.some.inj (hu'.symm.trans px)
  subst eu
  exact iG (tn:=fun i h=>(∃old,IsEnum h e it i old)∧h.IsTupleIter it l i) hne I hf e1 ex ho r b1 b3 bk fun h'' c1 cs=>⟨⟨u,c1⟩,b2.1.extBut cs.extBut (Ne.symm hne)⟩
 done:=by
  intro X hP hw hK hc i pins s σ H E I hf st hg
  subst hP hw hK
  obtain ⟨⟨old,a1⟩,a2⟩:=st
  obtain ⟨xs,e1,ex⟩:=hg
  obtain ⟨its,rv,p1,_⟩:=I.tuple (SqT.of e1)
  have lv:=rv.length
  have p1':s.heap.IsTuple l its.toArray:=p1
  have hT:s.TypeIs (.ref e) "enumerate" := ⟨_,a1,rfl⟩
  unfold pyNext
  refine wpAny_bind (wpAny_attempt (wpAny_callSpecial?_slot (name:=Str.ofString "__next__") hT F.slot_enumerate_next
   (wpAny_call_entry F.slot_enumerate_next hT F.entry_enumerate_next ?_ (F.args_enumerate_next_1 _))))
  show wpAny _ _ (field (.ref e) 2 >>= _) _ _ _
  refine wpAny_bind (wpAny_field a1 rfl (x:=.ref it) rfl ?_)
  refine wpAny_bind (dH (I.ok.hd hc) a2 p1' (by simp; omega) fun h' x he' hx'=>?_)
  obtain ⟨o,ho,hc⟩:=hx'
  refine wpAny_bind (wpAny_isInstance (T := "StopIteration") (b:=true) ⟨o,ho,hc⟩ isSubtype_stop ?_)
  refine wpAny_pure ⟨rfl,?_⟩
  exact I.turnedN (t':=s.toks) hf fun b o hb q=>by
   simp only [List.mem_cons,List.not_mem_nil,or_false,not_or] at hb
   exact he' b o hb.2 q
 self:=fun _ _ _ _ _ st h=>by obtain ⟨⟨old,a1⟩,_⟩:=st; exact wpAny_pyIter_enum a1 h
def xD (ta:TA):TI:=fun σ H R=>ta σ H fun vs H1=>∃l xs,vs=[.ref l]∧((H1 l=some (.lst xs)∧R (Ite .lst l) H1)∨(H1 l=some (.tup xs)∧R (Ite .tup l) H1))
theorem sY {X:Cx} {a:Expr} {ta:TA} {p pos tp:Pos} {es:List Expr} {kk:Nat} (hg:Gl X "enumerate") (hm:X.mg "enumerate" = none) (ha:PA X [a] ta)
  (hs:starEach [a] X.env=[(false,eval a X.env)]:=by rfl) :
  PI X (.Tuple es kk tp) (.Call (.Name "enumerate" p) [a] [] pos) (xD ta):=by
 intro pins s σ H R I h
 refine Call_ (dC I hg hm PyProof.Rows.boot_enumerate (PyProof.Rows.callWith_type1 (thn (ha pos pins s σ H _ I h) fun us s1 ⟨vs,H1,I1,r1,q1⟩=>?_) (by rw [hs]; rfl) (by rfl)))
 obtain ⟨l,xs,rfl,q⟩:=q1
 cases r1 with
 | cons r rr =>
  cases rr
  cases r
  rcases q with ⟨e1,q⟩ | ⟨e1,q⟩
  ·obtain ⟨its1,rv1,p1,_⟩:=I1.list (SqL.of e1)
   refine call_enumerate_list p1.isList fun h' z1 z2 sz keep=>?_
   have I2:Inv X pins σ H1 { s1 with heap:=h' }:=I1.kept (t':=s1.toks) keep
   refine wpAny_pyIter_enum z1 ⟨s1.heap.objs.size + 1,[s1.heap.objs.size + 1,s1.heap.objs.size],_,_,H1,rfl,I2,lw l _ _ (Nat.succ_ne_self _),⟨⟨_,z1⟩,z2⟩,fun b hb=>?_,q⟩
   have hb':s1.heap.objs.size≤b:=by
    simp only [List.mem_cons,List.not_mem_nil,or_false] at hb
    rcases hb with rfl | rfl <;> omega
   exact I1.fpOk hb' (I1.hok.fresh hb')
  ·obtain ⟨its1,rv1,p1,_⟩:=I1.tuple (SqT.of e1)
   have p1':s1.heap.IsTuple l its1.toArray:=p1
   refine ek p1' fun h' z1 z2 sz keep=>?_
   have I2:Inv X pins σ H1 { s1 with heap:=h' }:=I1.kept (t':=s1.toks) keep
   refine wpAny_pyIter_enum z1 ⟨s1.heap.objs.size + 1,[s1.heap.objs.size + 1,s1.heap.objs.size],_,_,H1,rfl,I2,lx l _ _ (Nat.succ_ne_self _),⟨⟨_,z1⟩,z2⟩,fun b hb=>?_,q⟩
   have hb':s1.heap.objs.size≤b:=by
    simp only [List.mem_cons,List.not_mem_nil,or_false] at hb
    rcases hb with rfl | rfl <;> omega
   exact I1.fpOk hb' (I1.hok.fresh hb')
theorem qN {f:List V→HO} (hf:∀xs ys,f xs=f ys→xs=ys) {l:Addr} {xs:List V} {g:TG} {tb:TS} {D:Ends} {σ:St} {H:Hp} (Pv:Nat→St→Hp→Prop) (h0:Pv 0 σ H) (hk:∀i σ H',Pv i σ H'→H' l=some (f xs))
  (ht:∀i x p σ H,xs[i]? = some x→H p=none→Pv i σ H→g (.ref p) σ (upd H p (.tup [.int i,x])) fun σ2 H2=>tb { D with nx:=Pv (i + 1),ct:=Pv (i + 1),bk:=D.nx } σ2 H2) (hd:∀σ H,Pv xs.length σ H→D.nx σ H) :
  ∃W:Nat→Nat→St→Hp→Prop,(∃m,W 0 m σ H)∧∀i m σ H,W i m σ H →
   ((Ite f l).stop i H∧D.nx σ H)∨((Ite f l).go i H∧∃N:St→Hp→Prop,(∀σ' H',N σ' H'→∃m',m' < m∧W (i + 1) m' σ' H')∧∀x H',(Ite f l).yld i H x H'→g x σ H' fun σ2 H2=>tb { D with nx:=N,ct:=N,bk:=D.nx } σ2 H2):=by
 refine ⟨fun i m σ H=>m=xs.length - i∧i≤xs.length∧Pv i σ H,⟨xs.length,by simp,Nat.zero_le _,h0⟩,?_⟩
 rintro i m σ H ⟨rfl,hi,p⟩
 have e1:=hk i σ H p
 by_cases hlt:i < xs.length
 ·refine .inr ⟨⟨xs,xs[i],e1,by simp [hlt]⟩,Pv (i + 1),fun σ' H' p'=>⟨xs.length - (i + 1),by omega,rfl,hlt,p'⟩,fun v H' y=>?_⟩
  obtain ⟨q,xs',x,hq,rfl,rfl,e1',ex⟩:=y
  rw [e1] at e1'
  cases hf _ _ (Option.some.inj e1')
  exact ht i x q σ H ex hq p
 ·have e:i=xs.length:=by omega
  subst e
  exact .inl ⟨⟨xs,e1,Nat.le_refl _⟩,hd σ H p⟩
end L2
set_option Elab.async false
set_option linter.all false
set_option maxRecDepth 100000
namespace Pc
open PySem L2
def aW (k:Kd):Bool:=k.tu && !decide (k.w=k.h)
def lyT (i:Nat) (k:Kd):List (Nat×Bool):=(i,false) :: if aW k=true then [(i,true)] else []
def lyK:List Kd→Nat→List (Nat×Bool)
 | [],_=>[]
 | k :: r,i=>lyT i k ++ lyK r (i + 1)
theorem jJ (k:Kd):∀ (ks:List Kd) (i:Nat),lyK (ks ++ [k]) i=lyK ks i ++ lyT (i + ks.length) k
 | [],i=>by simp [lyK]
 | c :: r,i=>by
  show lyT i c ++ lyK (r ++ [k]) (i + 1)=(lyT i c ++ lyK r (i + 1)) ++ _
  rw [jJ k r (i + 1),List.append_assoc]
  congr 2
  simp only [List.length_cons]
  congr 1
  omega
theorem tj (i:Nat) (k:Kd):(lyT i k).length≤2:=by unfold lyT; split <;> simp
theorem jd:∀ (ks:List Kd) (i:Nat),(lyK ks i).length≤2 * ks.length
 | [],i=>by simp [lyK]
 | c :: r,i=>by
  have:=jd r (i + 1)
  have:=tj i c
  simp only [lyK,List.length_append,List.length_cons]
  omega
def Et (H:Hp) (v:V) (p:Nat×Bool):Prop:=∃a,v=.ref a∧H a=some (.tup [.int p.1,.bl p.2])
abbrev Lys (H:Hp):List V→List (Nat×Bool)→Prop:=Paired (Et H)
theorem Lys.keep {H H':Hp} (k:∀b xs,H b=some (.tup xs)→H' b=some (.tup xs)) {xs:List V} {ps:List (Nat×Bool)} (r:Lys H xs ps):Lys H' xs ps :=
 Paired.mapP r fun v kd ⟨a,e,h⟩=>⟨a,e,k a _ h⟩
theorem qO {H H3:Hp} {l t:Addr} {ys:List V} {ps:List (Nat×Bool)} {i:Nat} {b:Bool} (hl:H l=none) (s3:Same H H3) (l3:H3 l=some (.lst ys)) (y3:Lys H3 ys ps) (ht:H3 t=none) :
  Same H (upd (upd H3 t (.tup [.int (i:Int),.bl b])) l (.lst (ys ++ [.ref t])))∧(upd (upd H3 t (.tup [.int (i:Int),.bl b])) l (.lst (ys ++ [.ref t]))) l=some (.lst (ys ++ [.ref t])) ∧
   Lys (upd (upd H3 t (.tup [.int (i:Int),.bl b])) l (.lst (ys ++ [.ref t]))) (ys ++ [.ref t]) (ps ++ [(i,b)]):=by
 have lt:l≠t:=am l3 ht
 refine ⟨fun c o e=>?_,af,Paired.snoc (Lys.keep (fun c xs e=>?_) y3) ⟨t,rfl,by rw [aj (Ne.symm lt),af]⟩⟩
 ·have e3:=s3 c o e
  rw [aj (am e hl),aj (am e3 ht)]; exact e3
 ·have cl:c≠l:=fun z=>by rw [z,l3] at e; cases e
  rw [aj cl,aj (am e ht)]; exact e
def eR (K:PySem.W.Frag):Sp:=fun vs H Q _=>∃ (a:Addr) (k:Kd),vs=[.ref a]∧H a=some (.tup (kdV k))∧Q (.bl (aW k)) H
def gE (C:Addr):Sp:=fun vs H Q _=>∃ (x:Addr) (b:Int) (ks:List Kd),vs=[.ref x]∧ShopAt C H x b ks∧ks.length≤8 ∧
 ∀ (l:Addr) (ys:List V) (H':Hp),H l=none→H' l=some (.lst ys)→Lys H' ys (lyK ks 0)→Same H H'→Q (.ref l) H'
def dq (ks:List Kd) (x t:V):Bool:=match x,t with
 | .int i,.bl b=>decide (0≤i) && match ks[i.toNat]? with
  | some k=>!b || aW k
  | none=>false
 | _,_=>false
def cS (K:PySem.W.Frag) (C:Addr):Sp:=fun vs H Q _=>∃ (s:Addr) (b:Int) (ks:List Kd) (x t:V) (T U:String),vs=[.ref s,x,t]∧ShopAt C H s b ks∧Ty K H x T∧Ty K H t U∧Q (.bl (dq ks x t)) H
end Pc
set_option Elab.async false
set_option linter.all false
set_option maxRecDepth 100000
namespace L2
open PySem PySem.Spec PyProof.Rows
section
variable {X:Cx}
theorem jK {k:Nat} {C:Addr} {ps:List Str} {sp:Sp} {m:Str} {o:Expr} {e:Expr} {es:List Expr} {ta:TE} {t:TA} {apos pos:Pos} {pl:Sem Bool} (he:PE X o ta) (c:Cls X.K C) (D:Mn X.prog X.w X.K X.mg X.base C m ps k sp) (hr:Room k X.A) (ha:PA X (e :: es) t)
  (hst:starEach (e :: es) X.env=(false,eval e X.env) :: starEach es X.env:=by rfl) (hpl:(backTo pos (starEach es X.env)).any (·.1)=false:=by rfl)
  (ht:eval (.Call (.Attribute o m apos) (e :: es) [] pos) X.env=(do
   let ov←eval o X.env
   standAt apos.atName
   let (f,first)←holding [ov] (getMethod ov m pl)
   callWith pos f first (backTo pos (starEach (e :: es) X.env)) (backToKw pos (keywordEach [] X.env))):=by rfl):PE X (.Call (.Attribute o m apos) (e :: es) [] pos) (mx C m sp [] E0 ta t):=by
 obtain ⟨f,fd,F,hb,hm⟩:=D
 exact sN he c hm F hr hb .nil mB ha hst hpl ht
end
end L2
set_option Elab.async false
set_option linter.all false
set_option maxRecDepth 100000
namespace L2
open PySem PySem.Spec PyProof.Rows
theorem je:∀ {ns:List Int} {its:List Value},Vals (ns.map V.int) its→IntsAre its ns
 | [],_,r=>by cases r; exact .nil
 | n :: ns,_,r=>by
  cases r with
  | cons r1 r2 =>
   obtain ⟨t,e⟩:=r1
   subst e
   exact .cons n t (je r2)
section
variable {X:Cx}
theorem nP (hc:X.calm=true):cO X (.builtin "sum") (fun xs H Q=>∃ (p:Addr) (ns:List Int),xs=[.ref p]∧SqL X.K H p (ns.map V.int)∧Q (.int ns.sum) H):=by
 intro pins s σ H xs us Q I r h
 obtain ⟨p,ns,rfl,hs,q⟩:=h
 obtain ⟨u,rfl,rfl⟩:=eF r
 obtain ⟨its,rv,pl,_⟩:=I.list hs
 have hi:=je rv
 obtain ⟨xs,e⟩:=hi.allInts.items
 have pl':=pl.isList
 rw [e] at pl'
 refine sum_intListG (I.ok.hd hc) pl' fun h' tk t' hk=>?_
 have e2:preSum (numAt xs) xs.size=ns.sum:=by
  rw [preSum_eq,List.take_of_length_le (by simp),← nums_intItems,← e,show its.toArray.toList=its from rfl,hi.numsOf]
 rw [e2]
 exact ⟨.int ns.sum,H,I.kept hk,⟨_,rfl⟩,q⟩
end
end L2
set_option Elab.async false
set_option linter.all false
set_option maxRecDepth 100000
namespace L2
open PySem PySem.Spec PyProof.Rows
section
variable {X:Cx}
end
theorem aY {α:Type} {xs:List α} {i:Int} {v:α} (h0:0≤i) (h:xs[i.toNat]? = some v):atI xs i=some v:=by
 have e:i=((i.toNat:Nat):Int):=by omega
 have z:atI xs ((i.toNat:Nat):Int)=some v:=sR h
 rw [← e] at z; exact z
end L2
namespace Pc
open PySem L2
def PotB (H:Hp) (p:Addr):Prop:=∃a b:Int,0≤a∧0≤b∧b < 2147483648∧H p=some (.lst [.int a,.int b])
theorem PotB.new {H:Hp} {p q:Addr} {o:HO} (x:PotB H p) (h:H q=none):PotB (upd H q o) p:=by
 obtain ⟨a,b,h1,h2,h3,e⟩:=x
 exact ⟨a,b,h1,h2,h3,by rw [aj (am e h)]; exact e⟩
theorem PotB.same {H H':Hp} {p:Addr} (x:PotB H p) (s:Same H H'):PotB H' p:=by
 obtain ⟨a,b,h1,h2,h3,e⟩:=x
 exact ⟨a,b,h1,h2,h3,s _ _ e⟩
theorem PotB.some {H:Hp} {p:Addr} (x:PotB H p):H p≠none:=by
 obtain ⟨a,b,h1,h2,h3,e⟩:=x
 rw [e]; exact fun z=>by cases z
theorem PotB.ne {H:Hp} {p q:Addr} (x:PotB H p) (h:H q=none):p≠q:=fun z=>x.some (z ▸ h)
def lA:Sp:=fun vs H Q _=>∃ (c:Int),vs=[.int c]∧∀ (p:Addr) (H':Hp),H p=none→PotB H' p→Same H H'→Q (.ref p) H'
def dv:Sp:=fun vs H Q _=>∃ (p:Addr) (m:Int),vs=[.ref p,.int m]∧PotB H p∧0 < m∧m≤10 ^ 60∧∀ (r:Int) (H':Hp),0≤r→r < m→PotB H' p→But p H H'→Q (.int r) H'
end Pc
set_option Elab.async false
set_option linter.all false
set_option maxRecDepth 100000
namespace L2
open PySem PySem.Spec PyProof.Rows
section
variable {κ:Type} [DecidableEq κ]
def dW (kvs:List (κ×V)) (k:κ):Option V:=(kvs.find? fun kv=>decide (kv.1=k)).map (·.2)
def eS (kvs:List (κ×V)) (k:κ) (v:V):List (κ×V) :=
 if (kvs.any fun kv=>decide (kv.1=k))=true then kvs.map (fun kv=>if kv.1=k then (kv.1,v) else kv) else kvs ++ [(k,v)]
theorem eU {p:κ×V} {r:List (κ×V)} {k:κ} (e:p.1=k):dW (p :: r) k=some p.2:=by simp [dW,List.find?_cons,e]
theorem eV {p:κ×V} {r:List (κ×V)} {k:κ} (e:¬ p.1=k):dW (p :: r) k=dW r k:=by simp [dW,List.find?_cons,e]
theorem jL (k:κ):∀kvs:List (κ×V),(kvs.any fun kv=>decide (kv.1=k))=(dW kvs k).isSome
 | []=>rfl
 | p :: r=>by
  rw [List.any_cons]
  by_cases e:p.1=k
  ·simp only [eU e,decide_eq_true e,Bool.true_or,Option.isSome_some]
  ·rw [eV e,decide_eq_false e,Bool.false_or]; exact jL k r
theorem fW (kvs:List (κ×V)) (k:κ) (v:V):(eS kvs k v).length≤kvs.length + 1:=by
 unfold eS
 split
 ·rw [List.length_map]; omega
 ·rw [List.length_append,List.length_cons,List.length_nil]; omega
theorem RelO.isSome_eq {o:Option V} {u:Option Value} (r:RelO o u):o.isSome=u.isSome:=by
 cases o with
 | none=>cases u with
  | none=>rfl
  | some _=>exact (show False from r).elim
 | some _=>cases u with
  | none=>exact (show False from r).elim
  | some _=>rfl
theorem KV.val {kvs:List (κ×V)} {vs:List (κ×Value)} (r:KV kvs vs) (k:κ):RelO (dW kvs k) (valueAt vs k):=by
 unfold KV at r
 induction r with
 | nil=>exact True.intro
 | @cons p q ps qs h t ih =>
  obtain ⟨h1,h2⟩:=h
  by_cases e:p.1=k
  ·have e':q.1=k:=h1.symm.trans e
   have b:valueAt (q :: qs) k=some q.2:=by simp [valueAt,List.find?_cons,e']
   rw [eU e,b]; exact h2
  ·have e':¬ q.1=k:=fun z=>e (h1.trans z)
   have b:valueAt (q :: qs) k=valueAt qs k:=by simp [valueAt,List.find?_cons,e']
   rw [eV e,b]; exact ih
theorem KV.any {kvs:List (κ×V)} {vs:List (κ×Value)} (r:KV kvs vs) (k:κ):(kvs.any fun kv=>decide (kv.1=k))=vs.any fun kv=>decide (kv.1=k):=by
 unfold KV at r
 induction r with
 | nil=>rfl
 | cons h t ih=>rw [List.any_cons,List.any_cons,ih,h.1]
theorem KV.repl {kvs:List (κ×V)} {vs:List (κ×Value)} (r:KV kvs vs) (k:κ) {y:V} {u:Value} (ry:RelV y u) :
  KV (kvs.map fun kv=>if kv.1=k then (kv.1,y) else kv) (vs.map fun kv=>if kv.1=k then (kv.1,u) else kv):=by
 unfold KV at r ⊢
 induction r with
 | nil=>exact .nil
 | @cons p q ps qs h t ih =>
  rw [List.map_cons,List.map_cons]
  refine .cons ?_ ih
  obtain ⟨h1,h2⟩:=h
  by_cases e:p.1=k
  ·rw [if_pos e,if_pos (h1.symm.trans e)]; exact ⟨h1,ry⟩
  ·rw [if_neg e,if_neg (fun z=>e (h1.trans z))]; exact ⟨h1,h2⟩
theorem KV.put {kvs:List (κ×V)} {vs:List (κ×Value)} (r:KV kvs vs) (k:κ) {y:V} {u:Value} (ry:RelV y u):KV (eS kvs k y) (stored vs k u):=by
 unfold eS stored
 rw [r.any k]
 by_cases e:(vs.any fun kv=>decide (kv.1=k))=true
 ·rw [if_pos e,if_pos e]; exact r.repl k ry
 ·rw [if_neg e,if_neg e]; exact Paired.snoc r ⟨rfl,ry⟩
theorem KV.length {kvs:List (κ×V)} {vs:List (κ×Value)} (r:KV kvs vs):kvs.length=vs.length:=Paired.length r
end
theorem qQ {P:Program} {w:World} {k:Key} {u:Value} (r:RelV (kV k) u):(br P w).is k u=true:=by
 cases k with
 | inl i=>obtain ⟨t,e⟩:=(show ∃t,u=Value.int i t from r); subst e; exact jx P w i t
 | inr x=>obtain ⟨t,e⟩:=(show ∃t,u=Value.str x t from r); subst e; exact jy P w x t
theorem iH {P:Program} {w:World}:∀ {ks:List Key} {us:List Value},Vals (ks.map kV) us→ItemsAre (br P w) ks us
 | [],_,r=>by rw [List.map_nil] at r; cases r; exact .nil
 | k :: ks,_,r=>by
  rw [List.map_cons] at r
  cases r with
  | cons h t=>exact .cons (qQ h) (iH t)
abbrev KT (H:Hp):List (List Key×V)→List (List Key×Addr×Value)→Prop:=Paired fun p q=>p.1=q.1∧H q.2.1=some (.tup (p.1.map kV))∧RelV p.2 q.2.2
theorem KT.val {H:Hp} {kvs:List (List Key×V)} {xs:List (List Key×Addr×Value)} (r:KT H kvs xs) (k:List Key):RelO (dW kvs k) ((atKey xs k).map (·.2)):=by
 induction r with
 | nil=>exact True.intro
 | @cons p q ps qs h t ih =>
  obtain ⟨h1,_,h2⟩:=h
  by_cases e:p.1=k
  ·have e':q.1=k:=h1.symm.trans e
   have b:atKey (q :: qs) k=some q.2:=by simp [atKey,List.find?_cons,e']
   rw [eU e,b]; exact h2
  ·have e':¬ q.1=k:=fun z=>e (h1.trans z)
   have b:atKey (q :: qs) k=atKey qs k:=by simp [atKey,List.find?_cons,e']
   rw [eV e,b]; exact ih
theorem KT.repl {H:Hp} {kvs:List (List Key×V)} {xs:List (List Key×Addr×Value)} (r:KT H kvs xs) (k:List Key) {y:V} {u:Value} (ry:RelV y u) :
  KT H (kvs.map fun kv=>if kv.1=k then (kv.1,y) else kv) (xs.map (putAt k u)):=by
 induction r with
 | nil=>exact .nil
 | @cons p q ps qs h t ih =>
  rw [List.map_cons,List.map_cons]
  refine .cons ?_ ih
  obtain ⟨h1,h2,h3⟩:=h
  unfold putAt
  by_cases e:p.1=k
  ·rw [if_pos e,if_pos (h1.symm.trans e)]; exact ⟨h1,h2,ry⟩
  ·rw [if_neg e,if_neg (fun z=>e (h1.trans z))]; exact ⟨h1,h2,h3⟩
theorem KT.put {H:Hp} {kvs:List (List Key×V)} {xs:List (List Key×Addr×Value)} (r:KT H kvs xs) (k:List Key) {b:Addr} {y:V} {u:Value} (hb:H b=some (.tup (k.map kV))) (ry:RelV y u) :
  KT H (eS kvs k y) (storedH xs k b u):=by
 have e:(kvs.any fun kv=>decide (kv.1=k))=(atKey xs k).isSome:=by
  rw [jL,(r.val k).isSome_eq,Option.isSome_map]
 unfold eS storedH
 rw [e]
 by_cases q:(atKey xs k).isSome=true
 ·rw [if_pos q,if_pos q]; exact r.repl k ry
 ·rw [if_neg q,if_neg q]; exact Paired.snoc r ⟨rfl,hb,ry⟩
theorem KT.keeps {H H':Hp} {kvs:List (List Key×V)} {xs:List (List Key×Addr×Value)} (r:KT H kvs xs) (ht:∀b ys,H b=some (.tup ys)→H' b=some (.tup ys)):KT H' kvs xs :=
 Paired.mapP r fun _ _ z=>⟨z.1,ht _ _ z.2.1,z.2.2⟩
section
variable {P:Program} {w:World} {H:Hp} {h:Heap} {a:Addr}
theorem uw {u:HO} (ok:HOk P w H h) (e:Rd H a u):ObjOk P w H h a u:=e.ok ok
theorem qR {kvs:List (Key×V)} (ok:HOk P w H h) (e:Rd H a (.dK kvs)):kvs.length≤sizeLine∧(a == sysModules)=false∧∃vs,KV kvs vs∧h.DictOf (br P w) a vs :=
 show ObjOk P w H h a (.dK kvs) from uw ok e
theorem xE {kvs:List (Key×V)} (ok:HOk P w H h) (e:H a=some (.dK kvs)):kvs.length≤sizeLine∧(a == sysModules)=false∧∃vs,KV kvs vs∧h.DictOf (br P w) a vs:=qR ok (.inl e)
theorem lB {ks:List Key} (ok:HOk P w H h) (e:H a=some (.tup (ks.map kV))):(tupleKind (br P w)).is h ks a:=by
 obtain ⟨_,its,r,o,h1,h2,n,h3⟩:=(show ObjOk P w H h a (.tup (ks.map kV)) from ok a _ e)
 exact ⟨o,its.toArray,n,h1,h2,h3,by simpa using iH r⟩
theorem qS {kvs:List (List Key×V)} (ok:HOk P w H h) (e:Rd H a (.dT kvs)):kvs.length≤sizeLine∧(a == sysModules)=false ∧
  ∃xs,KT H kvs xs∧h.DictOfH (tupleKind (br P w)) a xs:=by
 obtain ⟨z,y,xs,r,o,es,ep,h1,h2,h3,h4,h5⟩:=(show ObjOk P w H h a (.dT kvs) from uw ok e)
 refine ⟨z,y,xs,r,o,es,ep,h1,h2,h3,h4,fun x hx=>?_,h5⟩
 have all:∀ {l:List (List Key×V)} {m:List (List Key×Addr×Value)},KT H l m→∀x∈m,(tupleKind (br P w)).is h x.1 x.2.1:=by
  intro l m q
  induction q with
  | nil=>intro x hx; exact nomatch hx
  | @cons p q ps qs hq t ih =>
   intro x hx
   rcases List.mem_cons.mp hx with e | hx
   ·subst e
    exact lB ok (by rw [← hq.1]; exact hq.2.1)
   ·exact ih x hx
 exact all r x hx
theorem xF {kvs:List (List Key×V)} (ok:HOk P w H h) (e:H a=some (.dT kvs)):kvs.length≤sizeLine∧(a == sysModules)=false ∧
  ∃xs,KT H kvs xs∧h.DictOfH (tupleKind (br P w)) a xs:=qS ok (.inl e)
end
def DGet (H:Hp) (a:Addr) (y:V) (r:Option V):Prop :=
 (∃kvs k,Rd H a (.dK kvs)∧y=kV k∧r=dW kvs k)∨∃kvs k b,Rd H a (.dT kvs)∧y=.ref b∧H b=some (.tup (k.map kV))∧r=dW kvs k
def DPut (H:Hp) (a:Addr) (y v:V) (H':Hp):Prop :=
 (∃kvs k,H a=some (.dK kvs)∧y=kV k∧kvs.length < sizeLine∧H'=upd H a (.dK (eS kvs k v))) ∨
 ∃kvs k b,H a=some (.dT kvs)∧y=.ref b∧H b=some (.tup (k.map kV))∧kvs.length < sizeLine∧H'=upd H a (.dT (eS kvs k v))
theorem DGet.t {H:Hp} {a b:Addr} {kvs:List (List Key×V)} {k:List Key} (e:H a=some (.dT kvs)) (eb:H b=some (.tup (k.map kV))):DGet H a (.ref b) (dW kvs k):=.inr ⟨kvs,k,b,.inl e,rfl,eb,rfl⟩
theorem DPut.t {H:Hp} {a b:Addr} {kvs:List (List Key×V)} {k:List Key} {v:V} (e:H a=some (.dT kvs)) (eb:H b=some (.tup (k.map kV))) (hl:kvs.length < sizeLine) :
  DPut H a (.ref b) v (upd H a (.dT (eS kvs k v))):=.inr ⟨kvs,k,b,e,rfl,eb,hl,rfl⟩
section
variable {X:Cx} {pins:List (Addr×Obj)} {σ:St} {H:Hp} {s:Shared} {a:Addr} {y v:V} {u r:Value} {o:Option V} {A:Around} {E:Value→Shared→Prop}
theorem Inv.big (I:Inv X pins σ H s):sysModules < s.heap.objs.size:=by
 have h:mainGlobals < s.heap.objs.size:=(I.mod.glob.keeps I.bk).lt
 exact Nat.lt_trans (by decide) h
theorem nQ {Q:Value→Shared→Prop} (hu:A.units + 1 < cLine) (I:Inv X pins σ H s) (g:DGet H a y (some v)) (ry:RelV y u) (h:∀w' s',Inv X pins σ H s'→RelV v w'→Q w' s') :
  wpAny (model X.prog X.w) A (getItem (.ref a) u) Q E s:=by
 rcases g with ⟨kvs,k,e,ey,l⟩ | ⟨kvs,k,b,e,ey,eb,l⟩
 ·subst ey
  obtain ⟨z,hd,vs,rel,dd⟩:=qR I.hok e
  obtain ⟨w',hw,rw'⟩:=RelO.some_of (v:=v) (o:=valueAt vs k) (by rw [l]; exact rel.val k)
  exact wpAny_getItem_of (qQ ry) dd.mapOf hw (h w' _ (I.tok _) rw')
 ·subst ey
  cases (show u=Value.ref b from ry)
  obtain ⟨z,hd,xs,rel,dd⟩:=qS I.hok e
  obtain ⟨w',hw,rw'⟩:=RelO.some_of (v:=v) (o:=(atKey xs k).map (·.2)) (by rw [l]; exact rel.val k)
  obtain ⟨p,hp,hp2⟩:=Option.map_eq_some_iff.mp hw
  refine wpAny_getItem_heap (tupleKind_room_in1 hu) (lB I.hok eb) dd hp ?_
  rw [hp2]
  exact h w' _ (I.tok _) rw'
theorem mF {h':Heap} {t':Nat} {ob:HO} (I:Inv X pins σ H s) (mu:Mut (H a)) (hs:Heap.SameBut a s.heap h') (he:∃q,h'.get? a=some q) (new:ObjOk X.prog X.w (upd H a ob) h' a ob) :
  Inv X pins σ (upd H a ob) { s with heap:=h',toks:=t' } :=
 I.write (x:=a) (e:=a) mu (.inl rfl) (fun b q hb z=>(hs.2 b hb).trans z) he new
theorem uY {P:Program} {w:World} {H':Hp} {h':Heap} {kvs:List (Key×V)} {vs:List (Key×Value)} (z:kvs.length≤sizeLine) (hd:(a == sysModules)=false) (rel:KV kvs vs) (dd:h'.DictOf (br P w) a vs) :
  ObjOk P w H' h' a (.dK kvs):=⟨z,hd,vs,rel,dd⟩
theorem nR {H':Hp} {Q:Unit→Shared→Prop} (hu:A.units + 1 < cLine) (I:Inv X pins σ H s) (g:DPut H a y v H') (ry:RelV y u) (rv:RelV v r) (h:∀s',Inv X pins σ H' s'→Q () s') :
  wpAny (model X.prog X.w) A (setItem (.ref a) u r) Q E s:=by
 rcases g with ⟨kvs,k,e,ey,l,eH⟩ | ⟨kvs,k,b,e,ey,eb,l,eH⟩
 ·subst ey eH
  obtain ⟨z,hd,vs,rel,dd⟩:=xE I.hok e
  have hz:vs.length≤sizeLine:=by rw [← rel.length]; exact z
  have hl:(eS kvs k v).length≤sizeLine:=by have:=fW kvs k v; omega
  refine wpAny_setItem_pairs (hsz:=hz) (qQ ry) dd fun h' dd' hs=>h _ ?_
  have he:∃q,h'.get? a=some q:=let ⟨q,_,_,hq,_⟩:=dd'; ⟨q,hq⟩
  exact mF I (by rw [e]; exact True.intro) hs he (uY hl hd (rel.put k rv) dd')
 ·subst ey eH
  cases (show u=Value.ref b from ry)
  obtain ⟨z,hd,xs,rel,dd⟩:=xF I.hok e
  have hz:xs.length≤sizeLine:=by rw [← Paired.length rel]; exact z
  have hl:(eS kvs k v).length≤sizeLine:=by have:=fW kvs k v; omega
  refine wpAny_setItem_heap (hsz:=hz) (tupleKind_room_in1 hu) (lB I.hok eb) dd fun h' dd' hs=>h _ ?_
  obtain ⟨q,es,ep,hq,h2,h3,h4,_,h5⟩:=dd'
  refine mF I (by rw [e]; exact True.intro) hs ⟨q,hq⟩ ⟨hl,hd,_,(rel.put k eb rv).keeps fun c ys ec=>?_,q,es,ep,hq,h2,h3,h4,h5⟩
  rw [aj (wX ec e (fun z=>nomatch z))]
  exact ec
end
section
variable {X:Cx} {pins:List (Addr×Obj)} {σ:St} {H:Hp} {s:Shared} {a:Addr} {kvs:List (Key×V)} {k:Key} {u:Value} {A:Around} {E:Value→Shared→Prop}
end
def xG (i:Expr):Prop:=∀ov iv,subscripted i false ov iv=operate [ov,iv] (getItem ov iv)
theorem tm {prog:Program} {w:World} {A:Around} {E:Value→Shared→Prop} {s:Shared} {env:Env} {value slice:Expr} {pos:Pos} {T id:String} {Q:Value→Shared→Prop}
  (hl:typeLookup (.type T) "__getitem__" = pure (some (.builtin id))) (hs:xG slice)
  (h:wpAny (model prog w) A (eval value env) (fun o s₁=>wpAny (model prog w) A (eval slice env) (fun i s₂=>s₂.TypeIs o T∧wpAny (model prog w) A (getItem o i) Q E s₂) E s₁) E s) :
  wpAny (model prog w) A (eval (.Subscript value slice pos) env) Q E s:=by
 refine Subscript_ (wpAny_mono h (fun o s₁ h₁=>wpAny_mono h₁ (fun i s₂ h₂=>?_) fun _ _ x=>x) fun _ _ x=>x)
 obtain ⟨hT,h₂⟩:=h₂
 unfold subscriptTail
 refine wpAny_bind ?_
 rw [getitemInPython_of_ne hT.not_modules]
 refine wpAny_bind (wpAny_specialOf hT hl ?_)
 have fin:wpAny (model prog w) A (subscripted slice false o i) (fun r s₃=>wpAny (model prog w) A (letTemporaryGo value o r >>= fun _=>pure r) Q E s₃) E s₂:=by
  rw [hs o i]
  exact wpAny_operating (wpAny_mono h₂ (fun r s₃ h₃=>wpAny_bind (wpAny_letTemporaryGo (wpAny_pure h₃))) fun _ _ x=>x)
 first
  | exact wpAny_pure (wpAny_bind fin)
  | exact wpAny_bind (wpAny_pure (wpAny_bind fin))
  | exact wpAny_bind fin
theorem jM {X:Cx} {pins:List (Addr×Obj)} {σ:St} {H:Hp} {s:Shared} {a:Addr} {y:V} {o:Option V} (I:Inv X pins σ H s) (g:DGet H a y o):s.TypeIs (.ref a) "dict" := by
 rcases g with ⟨kvs,k,e,_,_⟩ | ⟨kvs,k,b,e,_,_,_⟩
 ·obtain ⟨_,_,vs,_,dd⟩:=qR I.hok e
  exact dd.typeIs
 ·obtain ⟨_,_,xs,_,dd⟩:=qS I.hok e
  exact dd.typeIs
def xH (td ty:TE):TE:=fun σ H Q=>td σ H fun x H1=>ty σ H1 fun y H2=>∃a v,x=.ref a∧DGet H2 a y (some v)∧Q v H2
def xI (td ty tv:TE):TS:=fun D σ H=>tv σ H fun v H1=>td σ H1 fun x H2=>ty σ H2 fun y H3=>∃a H4,x=.ref a∧DPut H3 a y v H4∧D.nx σ H4
section
variable {X:Cx} {o i e value:Expr} {pos pos' tpos:Pos} {td ty tv:TE}
theorem gn (hu:X.A.units + 1 < cLine) (ho:PE X o td) (hi:PE X i ty) (hs:xG i):PE X (.Subscript o i pos) (xH td ty):=by
 intro pins s σ H Q I h
 refine tm PySem.F.slot_dict_getitem.lookup hs (thn (ho pins s σ H _ I h) fun u s1 ⟨x,H1,I1,rx,q1⟩=>thn (hi pins s1 σ H1 _ I1 q1) fun iv s2 ⟨y,H2,I2,ry,a,v,ex,g,q2⟩=>?_)
 subst ex
 obtain rfl:u=Value.ref a:=rx
 exact ⟨jM I2 g,nQ hu I2 g ry fun w' s3 I3 rw'=>⟨v,H2,I3,rw',q2⟩⟩
theorem mG (hu:X.A.units + 1 < cLine) (ho:PE X o td) (hi:PE X i ty) (hv:PE X value tv) (hs:swapsWith value (some (.Subscript o i pos')) pos.line X.env=pure false) :
  PS X (.Assign [.Subscript o i pos'] value pos) (xI td ty tv):=by
 intro pins s σ H D I h
 refine wpAny_Assign_Subscript (thn (hv pins s σ H _ I h) fun r s1 ⟨v,H1,I1,rv,q1⟩=>thn (ho pins s1 σ H1 _ I1 q1) fun u s2 ⟨x,H2,I2,rx,q2⟩=>thn (hi pins s2 σ H2 _ I2 q2) fun iv s3 ⟨y,H3,I3,ry,a,H4,ex,g,q3⟩=>?_) hs
 subst ex
 obtain rfl:u=Value.ref a:=rx
 exact nR hu I3 g ry rv fun s4 I4=>⟨σ,H4,I4,q3⟩
end
theorem qT {P:Program} {w:World} {H:Hp} (h:Heap) (hb:sysModules < h.objs.size):ObjOk P w H (h.push { cls:=.type "dict",data:=.dict #[] }) h.objs.size (.dT []) :=
 ⟨Nat.zero_le _,beq_eq_false_iff_ne.mpr (Ne.symm (Nat.ne_of_lt hb)),[],.nil,_,#[],0,Heap.get?_push_size _ rfl,⟨rfl,rfl,rfl⟩,rfl,rfl,List.nodup_nil⟩
def uZ:TE:=fun _ H Q=>∀p,H p=none→Q (.ref p) (upd H p (.dT []))
section
variable {X:Cx} {pos:Pos}
theorem jN:PE X (.Dict [] [] pos) uZ:=fun pins s σ H Q I h =>
 wpAny_Dict_empty ⟨.ref s.heap.objs.size,_,I.laid (a:=s.heap.objs.size) (o:=.dT []) (t':=s.toks) (fun _ _ q=>Heap.get?_push_of_some _ q) (Nat.le_refl _) (qT s.heap I.big),rfl,h _ (I.hok.fresh (Nat.le_refl _))⟩
end
structure M1 (X:Cx) (o:Expr) (m:Str) (apos:Pos) (e:Expr) (cpos:Pos):Prop where
 base:attributeBase o m X.env (eval o X.env)=eval o X.env
 few:((backTo cpos (starEach [e] X.env)).all (fun x=>!x.1) && (backToKw cpos (keywordEach [] X.env)).all (fun x=>x.1.isSome)
  && decide (([e]:List Expr).length + ([]:List Keyword).length + (if ([]:List Keyword).isEmpty then 0 else 1) < 30))=true
 line:(apos.endLine == cpos.line)=true
 trees:backTo cpos (starEach [e] X.env)=[(false,eval e X.env)]
structure M2 (X:Cx) (o:Expr) (m:Str) (apos:Pos) (e f:Expr) (cpos:Pos):Prop where
 base:attributeBase o m X.env (eval o X.env)=eval o X.env
 few:((backTo cpos (starEach [e,f] X.env)).all (fun x=>!x.1) && (backToKw cpos (keywordEach [] X.env)).all (fun x=>x.1.isSome)
  && decide (([e,f]:List Expr).length + ([]:List Keyword).length + (if ([]:List Keyword).isEmpty then 0 else 1) < 30))=true
 line:(apos.endLine == cpos.line)=true
 trees:backTo cpos (starEach [e,f] X.env)=[(false,eval e X.env),(false,eval f X.env)]
section
variable {X:Cx} {pins:List (Addr×Obj)} {σ:St} {H:Hp} {s:Shared} {a:Addr} {y d:V} {u r:Value} {o:Option V} {A:Around} {E:Value→Shared→Prop}
end
section
variable {X:Cx} {o e f:Expr} {apos cpos:Pos} {td ty tx:TE}
end
section
variable {X:Cx} {pins:List (Addr×Obj)} {σ:St} {H:Hp} {s:Shared} {a:Addr} {kvs:List (Key×V)} {A:Around} {E:Value→Shared→Prop}
end
section
variable {X:Cx} {pins:List (Addr×Obj)} {σ:St} {H:Hp} {s:Shared} {a:Addr} {y:V} {u:Value} {A:Around} {E:Value→Shared→Prop}
end
end L2
namespace Att
open PySem PySem.W PySem.Calls PyProof.Rows
section
variable {prog:Program} {w:World} {A:Around} {E:Value→Shared→Prop} {s:Shared} {K:Frag}
end
end Att
namespace L2
open PySem PySem.Spec PyProof.Rows
end L2
namespace L2
open PySem PySem.Spec PyProof.Rows
end L2
/- THE LAST THEOREM (shape; LID,My.* are yours):
   My.Adr: a structure of the addresses that your layer names (classes,functions); My.Txt K t: a structure (Prop) of the equations over K;
   My.txt_mk : {K} {implicit addresses ..} (e1 : nsIn K mainGlobals "law" = some (some (.ref f))) (e2 : K.lookup f = some ⟨oc,od,.func (fnOf "law" "law" params body scope dV kV doc pm an cdv ct),sl⟩) (e3 : codeIn K cdv "law" = true) .. : ∃ t,My.Txt K t
(the tactic k_is has no namespace: write k_is) -/
namespace L2
open PySem PySem.Spec PyProof.Rows
section
variable {P:Program} {w:World} {K:PySem.W.Frag} {mg:Str→Option Value} {base:Heap}
end
section
variable {X:Cx}
end
section
variable {κ:Type} [DecidableEq κ]
end
end L2
set_option Elab.async false
set_option linter.all false
set_option maxRecDepth 100000
namespace L2
open PySem PySem.Spec PyProof.Rows
theorem lC {X:Cx} (K:PySem.W.Frag) {x y:Str} {px py pos:Pos} {k:Nat} (hK:X.K=K) (hc:X.calm=true) (hN:X.N.Nodup) (h0:X.N[0]? = some x) (h1:X.N[1]? = some y) (l0:X.env.scope.names.lookup x=some .local) (l1:X.env.scope.names.lookup y=some .local) :
  PG X (.Tuple [.Name x px,.Name y py] k pos) (uH K 2 (ip (fQ 0) (ip (fQ 1) uG))) :=
 hK ▸ aU hc (ah (ai hN h0 (.inl l0) (.inr l0)) (ah (ai hN h1 (.inl l1) (.inr l1)) aK))
theorem qU {X:Cx} (K:PySem.W.Frag) {x y z:Str} {px py pz pos:Pos} {k:Nat} (hK:X.K=K) (hc:X.calm=true) (hN:X.N.Nodup) (h0:X.N[0]? = some x) (h1:X.N[1]? = some y) (h2:X.N[2]? = some z) (l0:X.env.scope.names.lookup x=some .local) (l1:X.env.scope.names.lookup y=some .local) (l2:X.env.scope.names.lookup z=some .local) :
  PG X (.Tuple [.Name x px,.Name y py,.Name z pz] k pos) (uH K 3 (ip (fQ 0) (ip (fQ 1) (ip (fQ 2) uG)))) :=
 hK ▸ aU hc (ah (ai hN h0 (.inl l0) (.inr l0)) (ah (ai hN h1 (.inl l1) (.inr l1)) (ah (ai hN h2 (.inl l2) (.inr l2)) aK)))
theorem qV {l1 l2:Addr} {xs ys:List V} {σ:St} {cap:List Nat} {k:Nat} {g:TG} {tt:TT} {te:TE} {Q:List V→Hp→Prop} {H:Hp} (Pv:Nat→List V→Hp→Prop) (hn:xs.length=ys.length)
  (hk:∀i zs H',Pv i zs H'→H' l1=some (.lst xs)∧H' l2=some (.lst ys)) (h0:Pv 0 [] H)
  (hz:∀i zs H',i < xs.length→Pv i zs H'→zs.length < sizeLine)
  (ht:∀i x y p zs H',xs[i]? = some x→ys[i]? = some y→H' p=none→Pv i zs H'→g (.ref p) (bf σ cap k) (upd H' p (.tup [x,y])) fun σ2 H2=>leS (bf σ cap k) σ2∧tt σ2 H2 fun ok H3=>if ok=true then te σ2 H3 (fun v H4=>Nx xs.length Pv i (zs ++ [v]) H4) else Nx xs.length Pv i zs H3)
  (hd:∀zs H',Pv xs.length zs H'→zs.length≤sizeLine∧Q zs H'):∃W,(∃m,W 0 m [] H)∧fV σ cap k (Itz l1 l2) g tt te Q W:=by
 refine ⟨fun i m zs H'=>m=xs.length - i∧i≤xs.length∧Pv i zs H',⟨_,rfl,Nat.zero_le _,h0⟩,?_⟩
 rintro i m zs H' ⟨rfl,hi,p⟩
 obtain ⟨e1,e2⟩:=hk i zs H' p
 by_cases hlt:i < xs.length
 ·have hx:xs[i]? = some xs[i]:=by simp [hlt]
  have hy:ys[i]? = some (ys[i]'(by omega)):=by simp [show i < ys.length by omega]
  refine .inr ⟨⟨xs,ys,_,_,e1,e2,hx,hy⟩,hz i zs H' hlt p,fun v H2 yl=>?_⟩
  ·obtain ⟨q,xs',ys',x,y,hq,rfl,rfl,e1',e2',ex,ey⟩:=yl
   rw [e1] at e1'; cases e1'
   rw [e2] at e2'; cases e2'
   exact ht i x y q zs H' ex ey hq p
 ·have e:i=xs.length:=by omega
  subst e
  obtain ⟨a1,a2⟩:=hd zs H' p
  exact .inl ⟨⟨xs,ys,e1,e2,.inl (Nat.le_refl _)⟩,a1,a2⟩
end L2
namespace L2
open PySem PySem.Spec PyProof.Rows
section
variable {X:Cx}
end
end L2
set_option Elab.async false
set_option linter.all false
set_option maxRecDepth 100000
namespace PySem
open Sem (wp)
section
variable {prog:Program} {w:World} {A:Around} {R:Result→Shared→Prop} {I:Addr} {fp wr:List Addr} {n:Nat} {P:Nat→Value→Prop} {St:Nat→Heap→Prop}
end
section
variable {prog:Program} {w:World} {A:Around} {E:Value→Shared→Prop} {s:Shared}
end
end PySem
namespace L2
open PySem PySem.Spec PyProof.Rows
theorem gF (val:Nat→Int):∀k,argBest (fun i j=>decide (val i < val j)) k≤k∧∀j,j≤k→val (argBest (fun i j=>decide (val i < val j)) k)≤val j
 | 0=>⟨Nat.le_refl _,fun j hj=>by rw [Nat.le_zero.mp hj]; exact Int.le_refl _⟩
 | k + 1=>by
  obtain ⟨h1,h2⟩:=gF val k
  unfold argBest
  by_cases c:val (k + 1) < val (argBest (fun i j=>decide (val i < val j)) k)
  ·rw [if_pos (decide_eq_true c)]
   refine ⟨Nat.le_refl _,fun j hj=>?_⟩
   rcases Nat.lt_or_ge k j with z | z
   ·rw [show j=k + 1 by omega]; exact Int.le_refl _
   ·have:=h2 j z; omega
  ·rw [if_neg (fun z=>c (of_decide_eq_true z))]
   refine ⟨by omega,fun j hj=>?_⟩
   rcases Nat.lt_or_ge k j with z | z
   ·rw [show j=k + 1 by omega]; omega
   ·exact h2 j z
section
variable {X:Cx} {e kv:Expr} {t:TE} {p pos kp:Pos}
end
end L2
set_option Elab.async false
set_option linter.all false
set_option maxRecDepth 100000
namespace PyProof.Rows
set_option autoImplicit false
open PySem
structure SBaseT (κ0:SortKind) (a₀:Array Keyed) (st:SortSt):Prop where
 perm:(arrOf st).Perm a₀
 kind:kindOf st=κ0
 failed:failedOf st=none
 pend:pendingOf st=#[]
def cf (prog:Program) (w:World) (A:Around) (s:Shared) (κ0:SortKind) (κ:KeyKind):Prop :=
 ∀ (E:Value→Shared→Prop) (x y:Value) (a b:κ.α) (Q:Bool→Shared→Prop),κ.keyOf x=some a→κ.keyOf y=some b→Q (κ.blt a b) s→wpAny (model prog w) A (keyLt' κ0 x y) Q E s
section
variable {prog:Program} {w:World} {A:Around} {E:Value→Shared→Prop} {s:Shared} {a₀:Array Keyed} {κ:KeyKind} {κ0:SortKind}
end
section
variable {prog:Program} {w:World} {A:Around} {E:Value→Shared→Prop} {s:Shared}
end
end PyProof.Rows
set_option Elab.async false
set_option linter.all false
set_option maxRecDepth 100000
namespace L2
open PySem PySem.Spec PyProof.Rows
def bK:List Bool→List Value→Option (List Int)
 | [],[]=>some []
 | false :: r,.int i _ :: vs=>(bK r vs).map (i :: ·)
 | true :: r,.bool b :: vs=>(bK r vs).map ((if b=true then 1 else 0) :: ·)
 | _,_=>none
def jO:List Bool→List V→Option (List Int)
 | [],[]=>some []
 | false :: r,.int i :: vs=>(jO r vs).map (i :: ·)
 | true :: r,.bl b :: vs=>(jO r vs).map ((if b=true then 1 else 0) :: ·)
 | _,_=>none
theorem lD:∀ {sh:List Bool} {vs:List V} {us:List Value} {k:List Int},Vals vs us→jO sh vs=some k→bK sh us=some k
 | [],[],_,_,r,h=>by cases r; exact h
 | [],_ :: _,_,_,_,h=>by cases h
 | false :: r,v :: vs,us,k,rv,h=>by
  cases rv with
  | cons r1 r2 =>
   cases v with
   | int i =>
    obtain ⟨t,rfl⟩:=r1
    have h:(jO r vs).map (i :: ·)=some k:=h
    show (bK r _).map (i :: ·)=some k
    cases e:jO r vs with
    | none=>rw [e] at h; cases h
    | some k'=>rw [e] at h; rw [lD r2 e]; exact h
   | _=>cases h
 | true :: r,v :: vs,us,k,rv,h=>by
  cases rv with
  | cons r1 r2 =>
   cases v with
   | bl b =>
    cases (show _=Value.bool b from r1)
    have h:(jO r vs).map ((if b=true then 1 else 0) :: ·)=some k:=h
    show (bK r _).map ((if b=true then 1 else 0) :: ·)=some k
    cases e:jO r vs with
    | none=>rw [e] at h; cases h
    | some k'=>rw [e] at h; rw [lD r2 e]; exact h
   | _=>cases h
 | false :: _,[],_,_,_,h=>by cases h
 | true :: _,[],_,_,_,h=>by cases h
def cT:List Int→List Int→Bool
 | [],[]=>false
 | [],_ :: _=>true
 | _ :: _,[]=>false
 | a :: r,b :: t=>if a=b then cT r t else decide (a < b)
theorem gG:∀a,cT a a=false
 | []=>rfl
 | a :: r=>by rw [cT,if_pos rfl]; exact gG r
theorem iI:∀a b c,cT a b=true→cT b c=true→cT a c=true
 | [],[],_,h,_=>by cases h
 | [],_ :: _,[],_,h=>by cases h
 | [],_ :: _,_ :: _,_,_=>rfl
 | _ :: _,[],_,h,_=>by cases h
 | _ :: _,_ :: _,[],_,h=>by cases h
 | a :: r,b :: t,c :: u,h1,h2=>by
  rw [cT] at h1 h2 ⊢
  by_cases e1:a=b
  ·rw [if_pos e1] at h1
   by_cases e2:b=c
   ·rw [if_pos e2] at h2
    rw [if_pos (e1.trans e2)]
    exact iI r t u h1 h2
   ·rw [if_neg e2] at h2
    rw [if_neg (by rw [e1]; exact e2),e1]; exact h2
  ·rw [if_neg e1] at h1
   have h1:=of_decide_eq_true h1
   by_cases e2:b=c
   ·rw [if_neg (by omega)]; exact decide_eq_true (by omega)
   ·rw [if_neg e2] at h2
    have h2:=of_decide_eq_true h2
    rw [if_neg (by omega)]; exact decide_eq_true (by omega)
theorem mH:∀a b c,cT a c=true→cT a b=true∨cT b c=true
 | [],[],_,h=>.inr h
 | [],_ :: _,_,_=>.inl rfl
 | _ :: _,_,[],h=>by cases h
 | _ :: _,[],_ :: _,_=>.inr rfl
 | a :: r,b :: t,c :: u,h=>by
  rw [cT] at h
  rw [cT,cT]
  by_cases e1:a=b
  ·rw [if_pos e1]
   by_cases e2:b=c
   ·rw [if_pos (e1.trans e2)] at h
    rw [if_pos e2]
    exact mH r t u h
   ·rw [if_neg (by rw [e1]; exact e2)] at h
    rw [if_neg e2]
    exact .inr (by rw [← e1]; exact h)
  ·rw [if_neg e1]
   by_cases e3:a=c
   ·rw [if_neg (by omega)]
    by_cases z:a < b
    ·exact .inl (decide_eq_true z)
    ·exact .inr (decide_eq_true (by omega))
   ·rw [if_neg e3] at h
    have h:=of_decide_eq_true h
    by_cases z:a < b
    ·exact .inl (decide_eq_true z)
    ·rw [if_neg (by omega)]; exact .inr (decide_eq_true (by omega))
theorem iJ:∀a b,cT a b=false→cT b a=false→a=b
 | [],[],_,_=>rfl
 | [],_ :: _,h,_=>by cases h
 | _ :: _,[],_,h=>by cases h
 | a :: r,b :: t,h1,h2=>by
  rw [cT] at h1 h2
  by_cases e:a=b
  ·rw [if_pos e] at h1
   rw [if_pos e.symm] at h2
   rw [e,iJ r t h1 h2]
  ·rw [if_neg e] at h1
   rw [if_neg (Ne.symm e)] at h2
   have:=of_decide_eq_false h1
   have:=of_decide_eq_false h2
   exact absurd (show a=b by omega) e
def tq (h:Heap) (sh:List Bool):KeyKind where
 α:=List Int
 blt:=cT
 irrefl:=gG
 trans:=iI
 negTrans:=mH
 total:=iJ
 keyOf:=fun v=>match v with
  | .ref a=>match h.get? a with
   | some o=>match o.data with
    | .seq xs _=>bK sh xs.toList
    | _=>none
   | none=>none
  | _=>none
 dflt:=[]
theorem mI {h:Heap} {sh:List Bool} {v:Value} {k:List Int} (e:(tq h sh).keyOf v=some k):∃a o xs n,v=.ref a∧h.get? a=some o∧o.data=.seq xs n∧bK sh xs.toList=some k:=by
 cases v with
 | ref a =>
  have e:(match h.get? a with
   | some o=>match o.data with
    | .seq xs _=>bK sh xs.toList
    | _=>none
   | none=>none)=some k:=e
  cases h1:h.get? a with
  | none=>rw [h1] at e; cases e
  | some o =>
   rw [h1] at e
   cases h2:o.data with
   | seq xs n =>
    have e:(match o.data with
     | .seq xs _=>bK sh xs.toList
     | _=>none)=some k:=e
    rw [h2] at e
    exact ⟨a,o,xs,n,rfl,h1,h2,e⟩
   | _ =>
    have e:(match o.data with
     | .seq xs _=>bK sh xs.toList
     | _=>none)=some k:=e
    rw [h2] at e; cases e
 | _=>cases e
theorem eW:∀ {sh:List Bool} {us:List Value} {k:List Int},bK sh us=some k→us.length=sh.length
 | [],[],_,_=>rfl
 | [],_ :: _,_,h=>by cases h
 | false :: r,[],_,h=>by cases h
 | true :: r,[],_,h=>by cases h
 | false :: r,v :: vs,k,h=>by
  cases v with
  | int i t =>
   have h:(bK r vs).map (i :: ·)=some k:=h
   cases e:bK r vs with
   | none=>rw [e] at h; cases h
   | some k'=>rw [List.length_cons,List.length_cons,eW e]
  | _=>cases h
 | true :: r,v :: vs,k,h=>by
  cases v with
  | bool b =>
   have h:(bK r vs).map ((if b=true then 1 else 0) :: ·)=some k:=h
   cases e:bK r vs with
   | none=>rw [e] at h; cases h
   | some k'=>rw [List.length_cons,List.length_cons,eW e]
  | _=>cases h
section
variable {prog:Program} {w:World} {A:Around} {E:Value→Shared→Prop} {s:Shared}
theorem jP {a b:Bool} {Q:Bool→Shared→Prop} (h:Q (a == b) s):wpAny (model prog w) A (eqBool (.bool a) (.bool b)) Q E s:=by
 unfold eqBool
 show wpAny _ _ (if (Value.bool a == Value.bool b)=true then _ else _) Q E s
 by_cases hab:(Value.bool a == Value.bool b)=true
 ·rw [if_pos hab]
  have e:a=b:=by have:=eq_of_beq hab; injection this
  subst e
  exact wpAny_bind (wpAny_rule (wpAny_pure (by simpa using h)))
 ·rw [if_neg hab]
  exact wpAny_bind (eq_bool (wpAny_truthy_bool h))
theorem jf {bb:Bool} {Q:Bool→Shared→Prop}:∀ (sh:List Bool) (xs ys:List Value) (a c:List Int) (i:Nat),bK sh xs=some a→bK sh ys=some c→((bb && i == 0)=true→sh.head? = some false∨sh=[])→Q (cT a c) s→PySem.W.KatLex prog w A bb false Q (xs.zip ys) i s
 | [],[],[],a,c,i,h1,h2,_,q=>by cases h1; cases h2; exact PySem.W.kat_nil q
 | [],_ :: _,_,_,_,_,h,_,_,_=>by cases h
 | [],[],_ :: _,_,_,_,_,h,_,_=>by cases h
 | false :: r,[],_,_,_,_,h,_,_,_=>by cases h
 | true :: r,[],_,_,_,_,h,_,_,_=>by cases h
 | false :: r,_ :: _,[],_,_,_,_,h,_,_=>by cases h
 | true :: r,_ :: _,[],_,_,_,_,h,_,_=>by cases h
 | false :: r,v :: vs,u :: us,a,c,i,h1,h2,hb,q=>by
  cases v with
  | int p t=>cases u with
   | int p' t' =>
    have h1:(bK r vs).map (p :: ·)=some a:=h1
    have h2:(bK r us).map (p' :: ·)=some c:=h2
    cases e1:bK r vs with
    | none=>rw [e1] at h1; cases h1
    | some a' =>
     cases e2:bK r us with
     | none=>rw [e2] at h2; cases h2
     | some c' =>
      rw [e1] at h1; rw [e2] at h2
      cases h1; cases h2
      rw [cT] at q
      refine PySem.W.kat_cons (wpAny_eqBool_int (PySem.W.kat_go (fun e=>PySem.W.kat_yes ?_) (fun e=>PySem.W.kat_no ?_)))
      ·rw [if_pos (by simpa using e)] at q
       exact jf r vs us a' c' (i + 1) e1 e2 (fun z=>by simp at z) q
      ·rw [if_neg (by simpa using e)] at q
       cases z:(bb && i == 0) with
       | true=>exact oneLt_int q
       | false=>exact PySem.W.kat_one _ _ (PyProof.Rows.lt_int q)
   | _=>cases h2
  | _=>cases h1
 | true :: r,v :: vs,u :: us,a,c,i,h1,h2,hb,q=>by
  cases v with
  | bool p=>cases u with
   | bool p' =>
    have h1:(bK r vs).map ((if p=true then 1 else 0) :: ·)=some a:=h1
    have h2:(bK r us).map ((if p'=true then 1 else 0) :: ·)=some c:=h2
    cases e1:bK r vs with
    | none=>rw [e1] at h1; cases h1
    | some a' =>
     cases e2:bK r us with
     | none=>rw [e2] at h2; cases h2
     | some c' =>
      rw [e1] at h1; rw [e2] at h2
      cases h1; cases h2
      rw [cT] at q
      refine PySem.W.kat_cons (jP (PySem.W.kat_go (fun e=>PySem.W.kat_yes ?_) (fun e=>PySem.W.kat_no ?_)))
      ·have e:p=p':=by simpa using e
       rw [if_pos (by rw [e])] at q
       exact jf r vs us a' c' (i + 1) e1 e2 (fun z=>by simp at z) q
      ·have e:p≠p':=by simpa using e
       rw [if_neg (by cases p <;> cases p' <;> simp_all)] at q
       cases z:(bb && i == 0) with
       | true=>rcases hb z with z | z <;> cases z
       | false =>
        refine PySem.W.kat_one _ _ (PyProof.Rows.lt_bool ?_)
        show Q (decide (b2i p < b2i p')) s
        rw [show decide (b2i p < b2i p')=decide ((if p=true then (1:Int) else 0) < (if p'=true then 1 else 0)) by cases p <;> cases p' <;> rfl]
        exact q
   | _=>cases h2
  | _=>cases h1
theorem nS {h:Heap} {sh:List Bool} (h0:sh.head? = some false) (k:∀b o,h.get? b=some o→s.heap.get? b=some o):cf prog w A s (tuples' true) (tq h sh):=by
 intro E x y a b Q ha hb q
 obtain ⟨x',ox,xs,n,rfl,hx,dx,fx⟩:=mI ha
 obtain ⟨y',oy,ys,m,rfl,hy,dy,fy⟩:=mI hb
 have l1:=eW fx
 have l2:=eW fy
 refine PySem.W.kat_lt (k _ _ hx) dx (k _ _ hy) dy ?_
 rw [show decide (xs.size < ys.size)=false from decide_eq_false (by rw [← Array.length_toList,← Array.length_toList]; omega)]
 exact jf sh _ _ a b 0 fx fy (fun _=>.inl h0) q
end
theorem iK:∀ {as:List Addr} {its:List Value},Vals (as.map V.ref) its→its=as.map Value.ref
 | [],_,r=>by cases r; rfl
 | a :: as,_,r=>by
  cases r with
  | cons r1 r2 =>
   have e:_=Value.ref a:=r1
   subst e
   rw [List.map_cons,iK r2]
theorem iL:∀as:List Addr,Vals (as.map V.ref) (as.map Value.ref)
 | []=>.nil
 | a :: as=>.cons rfl (iL as)
theorem qW {α β:Type} {f:α→β} (g:β→Option α) (hg:∀a,g (f a)=some a) {l:List β} {as:List α} (h:l.Perm (as.map f)):∃as':List α,l=as'.map f∧as'.Perm as:=by
 refine ⟨l.filterMap g,?_,?_⟩
 ·have all:∀x∈l,∃a,f a=x:=fun x hx=>by
   obtain ⟨a,_,e⟩:=List.mem_map.mp (h.mem_iff.mp hx)
   exact ⟨a,e⟩
  clear h
  induction l with
  | nil=>rfl
  | cons x r ih =>
   obtain ⟨a,rfl⟩:=all x List.mem_cons_self
   rw [List.filterMap_cons,hg a,List.map_cons,← ih fun y hy=>all y (List.mem_cons_of_mem _ hy)]
 ·have:=h.filterMap g
  rw [List.filterMap_map,show (g∘f)=some from funext hg,List.filterMap_some] at this
  exact this
theorem fX {h:Heap} {sh:List Bool} {key:Addr→List Int} (h0:sh.head? = some false):∀ (as:List Addr),(∀a∈as,∃o us n,h.get? a=some o∧o.cls=.type "tuple" ∧ o.data=.seq (List.toArray us) n∧bK sh us=some (key a))→∃fs,PySem.W.KatTups h (as.map Value.ref) fs∧fs.length=as.length∧∀v∈fs,∃i t,v=Value.int i t
 | [],_=>⟨[],trivial,rfl,fun v hv=>by cases hv⟩
 | a :: as,H=>by
  obtain ⟨fs,h1,h2,h3⟩:=fX h0 as fun b hb=>H b (List.mem_cons_of_mem _ hb)
  obtain ⟨o,us,n,e,c,d,f⟩:=H a List.mem_cons_self
  obtain ⟨r,hr⟩:∃r,sh=false :: r:=by
   cases sh with
   | nil=>cases h0
   | cons x r=>cases h0; exact ⟨r,rfl⟩
  subst hr
  cases us with
  | nil=>cases f
  | cons u us =>
   cases u with
   | int i t=>exact ⟨.int i t :: fs,PySem.W.KatTups.cons e c d (by simp) h1,by rw [List.length_cons,List.length_cons,h2],fun v hv=>(List.mem_cons.mp hv).elim (fun z=>⟨i,t,z⟩) (h3 v)⟩
   | _=>cases f
section
variable {X:Cx}
end
end L2
set_option Elab.async false
set_option linter.all false
set_option maxRecDepth 100000
namespace PySem
open Spec
section
variable {prog:Program} {w:World} {A:Around} {E:Value→Shared→Prop} {s:Shared} {l:Addr} {xs:Array (Int×Tok)}
end
end PySem
namespace L2
open PySem PySem.Spec PyProof.Rows
section
variable {X:Cx}
theorem jQ {lo:Int} {n:Nat} {σ:St} {cap:List Nat} {k:Nat} {g:TG} {tt:TT} {te:TE} {Q:List V→Hp→Prop} {H:Hp} (Pv:Nat→List V→Hp→Prop) (h0:Pv 0 [] H)
  (ht:∀i ys H',i < n→Pv i ys H'→ys.length < sizeLine∧g (.int (lo + i)) (bf σ cap k) H' fun σ2 H2=>leS (bf σ cap k) σ2∧tt σ2 H2 fun ok H3=>if ok=true then te σ2 H3 (fun v H4=>Nx n Pv i (ys ++ [v]) H4) else Nx n Pv i ys H3)
  (hd:∀ys H',Pv n ys H'→ys.length≤sizeLine∧Q ys H'):∃W,(∃m,W 0 m [] H)∧fV σ cap k (Itr lo n) g tt te Q W:=by
 refine ⟨fun i m ys H'=>m=n - i∧i≤n∧Pv i ys H',⟨_,rfl,Nat.zero_le _,h0⟩,?_⟩
 rintro i m ys H' ⟨rfl,hi,p⟩
 by_cases hin:i < n
 ·obtain ⟨e,hg⟩:=ht i ys H' hin p
  refine .inr ⟨hin,e,fun x H2 yl=>?_⟩
  obtain ⟨e1,e2⟩:=yl
  subst e1 e2
  exact hg
 ·have e:i=n:=by omega
  subst e
  obtain ⟨a1,a2⟩:=hd ys H' p
  exact .inl ⟨Nat.le_refl _,a1,a2⟩
end
end L2
namespace PySem
theorem Paired.getL {α β:Type} {F:α→β→Prop}:∀ {l₁:List α} {l₂:List β} {i:Nat} {y:β},Paired F l₁ l₂→l₂[i]? = some y→∃x,l₁[i]? = some x∧F x y
 | _,_,_,_,.nil,e=>by simp at e
 | _,_,0,_,.cons h _,e=>by simp at e; subst e; exact ⟨_,rfl,h⟩
 | _,_,i + 1,y,.cons _ t,e=>by
  obtain ⟨x,h1,h2⟩:=Paired.getL (i:=i) t (by simpa using e)
  exact ⟨x,by simpa using h1,h2⟩
end PySem
set_option Elab.async false
set_option linter.all false
set_option maxRecDepth 100000
namespace L2
open PySem PySem.Spec PyProof.Rows
section
variable {X:Cx}
def xJ (K:PySem.W.Frag):R2:=fun x y H Q=>∃l b xs zs,x=.ref l∧y=.ref b∧SqL K H l xs∧SqL K H b zs∧xs.length + zs.length≤sizeLine∧∀p,H p=none→Q (.ref p) (upd H p (.lst (xs ++ zs)))
theorem tw:OpR X (binaryOp .Add) (xJ X.K):=by
 intro pins s σ H x y v u Q I rx ry h
 obtain ⟨l,b,xs,zs,rfl,rfl,hl,hb,hz,q⟩:=h
 cases rx
 cases ry
 obtain ⟨its,r,pl,z⟩:=I.list hl
 obtain ⟨its2,r2,pl2,z2⟩:=I.list hb
 have hl1:=r.length
 have hl2:=r2.length
 obtain ⟨⟨cls,dd,data,sl⟩,n,ho,hc,_,hd⟩:=pl
 obtain ⟨⟨cls2,dd2,data2,sl2⟩,n2,ho2,hc2,_,hd2⟩:=pl2
 simp only at hc hd hc2 hd2
 subst hc hd hc2 hd2
 have e:its.toArray ++ its2.toArray=(its ++ its2).toArray:=by simp
 refine concat_meets ⟨_,ho,rfl⟩ ⟨_,ho2,rfl⟩ noFill_list_add seq_list_add PySem.F.slot_list_add PySem.F.entry_list_add (PySem.F.args_list_add_2 _ _) (list_addW l b its.toArray its2.toArray n n2 dd dd2 sl sl2 (by rw [List.size_toArray,List.size_toArray]; omega)) ⟨ho,ho2,?_⟩
 rw [e]
 exact ⟨.ref _,_,I.lnew (t':=s.toks) (r.append r2) (by rw [List.length_append]; omega),rfl,q _ I.fresh⟩
end
end L2
set_option Elab.async false
set_option linter.all false
set_option maxRecDepth 100000
namespace L2
open PySem PySem.Spec PyProof.Rows
theorem jg (elt tg iter:Expr) (ifs:List Expr) (tg2 iter2:Expr) (ifs2:List Expr) (scope:Scope) (pos:Pos) (it acc:Value) (env:Env) :
  compTurn (.ListComp elt [⟨tg,iter,ifs,0⟩,⟨tg2,iter2,ifs2,0⟩] scope pos) 0 it acc env=(do
   standAt iter.pos
   match←pyNext it with
   | none=>pure (.done .next)
   | some v =>
    letOwnedTupleGo tg it v
    assign tg env v
    let mut ok:=true
    for c in ifs do
     if ok then ok←isTrue c env (eval c env)
    if ok then
     let x←eval iter2 env
     standAt iter2.pos
     let x←foldedSetIterable iter2 env x
     let i2←holding [x] (pyIter x)
     let _←runOwn (.compStart (.ListComp elt [⟨tg,iter,ifs,0⟩,⟨tg2,iter2,ifs2,0⟩] scope pos) 1 i2 acc env) env
    again (.compLoop (.ListComp elt [⟨tg,iter,ifs,0⟩,⟨tg2,iter2,ifs2,0⟩] scope pos) 0 it acc env)):=by rfl
theorem jR (elt tg iter:Expr) (ifs:List Expr) (tg2 iter2:Expr) (ifs2:List Expr) (scope:Scope) (pos:Pos) (it acc:Value) (env:Env) :
  compTurn (.ListComp elt [⟨tg,iter,ifs,0⟩,⟨tg2,iter2,ifs2,0⟩] scope pos) 1 it acc env=(do
   standAt iter2.pos
   match←pyNext it with
   | none=>pure (.done .next)
   | some v =>
    letOwnedTupleGo tg2 it v
    assign tg2 env v
    let mut ok:=true
    for c in ifs2 do
     if ok then ok←isTrue c env (eval c env)
    if ok then
     (do let _←call (.builtin "list.append") [acc,← eval elt env])
    again (.compLoop (.ListComp elt [⟨tg,iter,ifs,0⟩,⟨tg2,iter2,ifs2,0⟩] scope pos) 1 it acc env)):=by rfl
theorem dA {prog:Program} {w:World} {A:Around} {R:Result→Shared→Prop} {s:Shared} {elt tg iter tg2 iter2:Expr} {ifs ifs2:List Expr} {scope:Scope} {pos:Pos} {it acc:Value} {env:Env}
  (h0:codeAny (model prog w) A (.compLoop (.ListComp elt [⟨tg,iter,ifs,0⟩,⟨tg2,iter2,ifs2,0⟩] scope pos) 1 it acc env) R s)
  (h:wpAny (model prog w) A (pyIter it) (fun it' s'=>codeAny (model prog w) A (.compLoop (.ListComp elt [⟨tg,iter,ifs,0⟩,⟨tg2,iter2,ifs2,0⟩] scope pos) 1 it' acc env) R s')
   (notedBy (model prog w) A env fun x s'=>R (.error x) s') s) :
  codeAny (model prog w) A (.compStart (.ListComp elt [⟨tg,iter,ifs,0⟩,⟨tg2,iter2,ifs2,0⟩] scope pos) 1 it acc env) R s:=by
 refine codeAny_of_tree ?_
 show wpAny _ _ ((compStart (.ListComp elt [⟨tg,iter,ifs,0⟩,⟨tg2,iter2,ifs2,0⟩] scope pos) 1 it acc env).onRaise (fun x=>do noteFrame x env; standAt theWindowsPlace)) _ _ s
 refine wpAny_notedAt ?_
 unfold compStart
 show wpAny _ _ (ask >>= _) _ _ s
 refine wpAny_bind (wpAny_askSetting (wpAny_ite ?_))
 split
 ·first
   | exact wpAny_bind (wpAny_pure (wpAny_pure (And.intro rfl h0)))
   | exact wpAny_pure (And.intro rfl h0)
 ·first
   | exact wpAny_bind (wpAny_rule (wpAny_bind (wpAny_standAt (wpAny_bind (wpAny_mono h (fun it' s' h'=>wpAny_pure (And.intro rfl h')) fun _ _ x=>x)))))
   | (refine wpAny_bind (wpAny_rule ?_); show wpAny _ _ (standAt iter2.pos >>= _) _ _ s; exact wpAny_bind (wpAny_standAt (wpAny_bind (wpAny_mono h (fun it' s' h'=>wpAny_pure (And.intro rfl h')) fun _ _ x=>x))))
def jh (σ2:St) (J:It) (g:TG) (tt:TT) (te:TE) (N:List V→Hp→Prop) (W:Nat→Nat→List V→Hp→Prop):Prop :=
 ∀i m ys H,W i m ys H→(J.stop i H∧N ys H) ∨
  (J.go i H∧ys.length < sizeLine∧∀x H',J.yld i H x H'→g x σ2 H' fun σ3 H2=>leS σ2 σ3∧tt σ3 H2 fun ok H3 =>
   if ok=true then te σ3 H3 (fun v H4=>∃m',m' < m∧W (i + 1) m' (ys ++ [v]) H4) else ∃m',m' < m∧W (i + 1) m' ys H3)
def ji (σ:St) (cap:List Nat) (k:Nat) (J:It) (g:TG) (tt:TT) (wi2:TI) (g2:TG) (tt2:TT) (te:TE) (Q:List V→Hp→Prop) (W:Nat→Nat→List V→Hp→Prop):Prop :=
 ∀i m ys H,W i m ys H→(J.stop i H∧ys.length≤sizeLine∧Q ys H) ∨
  (J.go i H∧∀x H',J.yld i H x H'→g x (bf σ cap k) H' fun σ2 H2=>leS (bf σ cap k) σ2∧tt σ2 H2 fun ok H3 =>
   if ok=true then wi2 σ2 H3 (fun J2 H4=>∃W2:Nat→Nat→List V→Hp→Prop,(∃m2,W2 0 m2 ys H4)∧jh σ2 J2 g2 tt2 te (fun zs H5=>∃m',m' < m∧W (i + 1) m' zs H5) W2) else ∃m',m' < m∧W (i + 1) m' ys H3)
section
variable {X:Cx} {pins:List (Addr×Obj)} {σ:St} {H2:Hp} {s2:Shared} {scope:Scope} {own cs:List Str} {cap:List Nat} {fp:List Addr} {it:Addr} {tn:Nat→Heap→Prop}
 {elt tg iter tg2 iter2:Expr} {ifs ifs2:List Expr} {pos:Pos} {J:It} {g g2:TG} {tt tt2:TT} {te:TE} {wi2:TI} {E:Value→Shared→Prop} {W:Nat→Nat→List V→Hp→Prop} {Qf:List V→Hp→Prop}
theorem nT {RR:Value→Addr→Result→Shared→Prop} (I:Inv X pins σ H2 s2) (ok:CompOk X scope own cs cap) (hc:X.calm=true) (T:Turn X.prog X.w X.K tg J fp it tn) (st:tn 0 s2.heap) (hf:∀b∈fp,dU X pins H2 b)
  (hg:∀C,PG (aF X pins s2 H2 scope C (own ++ cs) fp) tg g) (hi:∀C,jb (aF X pins s2 H2 scope C (own ++ cs) fp) ifs tt) (hit2:∀C,PI (aF X pins s2 H2 scope C (own ++ cs) fp) tg2 iter2 wi2) (hs2:∀C x,foldedSetIterable iter2 (compEnvC scope (aV X.env scope.names []) C X.env) x=pure x) (hg2:∀C,PG (aF X pins s2 H2 scope C (own ++ cs) fp) tg2 g2) (hi2:∀C,jb (aF X pins s2 H2 scope C (own ++ cs) fp) ifs2 tt2) (he:∀C,PE (aF X pins s2 H2 scope C (own ++ cs) fp) elt te)
  (w0:∃m,W 0 m [] H2) (turn:ji σ cap own.length J g tt wi2 g2 tt2 te Qf W)
  (hRR:∀D C s',BlkEnd X pins σ Qf D C s'→RR (.ref D) C (.ok .next) s') :
  wpAny (model X.prog X.w) X.A (newList []) (fun acc s₃=>wpAny (model X.prog X.w) X.A (newFunctionEnv scope X.env.globals (aV X.env scope.names []) [] X.env.qual none .none (some X.env)) (fun cenv s₄ =>
   codeAny (model X.prog X.w) X.A (.compStart (.ListComp elt [⟨tg,iter,ifs,0⟩,⟨tg2,iter2,ifs2,0⟩] scope pos) 0 (.ref it) acc { cenv with scope:=relabel scope X.env }) (RR acc cenv.locals) s₄) E s₃) E s2:=by
 refine wpAny_newObj_type (wpAny_newFunctionEnv ok.cell (by intro y hy; simp at hy) (fun h₁ hns₁ hsb₁=>?_) ok.kind)
 dsimp only at hns₁ hsb₁ ⊢
 generalize hHH:s2.heap.push { cls:=.type "list",dict:=none,data:=.seq ([]:List Value).toArray }=HH at hns₁ hsb₁ ⊢
 have hCs:HH.objs.size=s2.heap.objs.size + 1:=by rw [← hHH,Heap.size_push]
 have hDC:s2.heap.objs.size≠HH.objs.size:=by rw [hCs]; exact Nat.ne_of_lt (Nat.lt_succ_self _)
 have hCle:s2.heap.objs.size≤HH.objs.size:=by rw [hCs]; exact Nat.le_succ _
 have hfl:∀b∈fp,b < s2.heap.objs.size:=fun b hb=>by
  obtain ⟨o,e,_⟩:=T.obj 0 _ st b hb
  exact Heap.lt_size e
 have old:∀b o,s2.heap.get? b=some o→h₁.get? b=some o:=fun b o e=>hsb₁.extBut b o (by rw [hCs]; exact Nat.ne_of_lt (Nat.lt_succ_of_lt (Heap.lt_size e))) (Heap.get?_push_of_some _ (hHH ▸ Heap.get?_push_of_some _ e))
 have hacc:h₁.PlainList s2.heap.objs.size #[]:=⟨_,hsb₁.extBut _ _ hDC (Heap.get?_push_of_some _ (hHH ▸ Heap.get?_push_size _ rfl))⟩
 generalize hD:s2.heap.objs.size=D at *
 generalize hCC:HH.objs.size=C at *
 have hns₁':h₁.Ns C (fun _=>none):=hns₁
 have I0:Inv (aF X pins s2 H2 scope C (own ++ cs) fp) [] (bf σ cap own.length) H2 { s2 with heap:=h₁,toks:=s2.toks + ([]:List (Str×Value)).length } :=
  iE I ok hf (fun b hb=>by rw [hD]; exact hfl b hb) (by rw [hD]; exact hCle) hns₁' old
 have Dfs:D∉frs X.stack:=fun hb=>by
  obtain ⟨_,o,ho,_⟩:=I.stack.mem hb
  exact absurd (Heap.lt_size ho) (by rw [hD]; exact Nat.lt_irrefl _)
 have Dfp:∀b∈fp,D≠b:=fun b hb z=>absurd (hfl b hb) (by rw [← z]; exact Nat.lt_irrefl _)
 have clt:∀x c,(aV X.env scope.names []).lookup x=some c→c < D:=fun x c e=>by
  have e':=ci X.env scope.names [] x c (fun y hy e=>I.ok.has y.1 (ok.free y hy e)) (fun _ _ z=>by simp at z) e
  obtain ⟨v,o,ho,_⟩:=I.cell x c e'
  have:=Heap.lt_size ho
  rw [hD] at this; exact this
 have plt:∀p∈X.pn ++ pins,p.1 < D:=fun p hp=>by
  have:=Heap.lt_size (I.pin p hp).1
  rw [hD] at this; exact this
 have stat:∀ {H':Hp} {ob:Obj},(∀b∈fp,H' b=none)→∀b∈fp,dU (aF X pins s2 H2 scope C (own ++ cs) fp) [(D,ob)] H' b:=fun {H' ob} hn b hb=>by
  have q:=I0.ok.exf b hb
  refine ⟨hn b hb,q.1,I0.ok.exfs b hb,.inl hb,q.2,fun p hp=>?_⟩
  rcases List.mem_append.mp hp with z | z
  ·exact (hf b hb).2.2.2.2.2 p z
  ·have:p=(D,ob):=by simpa using z
   subst this
   exact Dfp b hb
 have loop:codeAny (model X.prog X.w) X.A (.compLoop (.ListComp elt [⟨tg,iter,ifs,0⟩,⟨tg2,iter2,ifs2,0⟩] scope pos) 0 (.ref it) (.ref D) (compEnvC scope (aV X.env scope.names []) C X.env)) (RR (.ref D) C)
   { s2 with heap:=h₁,toks:=s2.toks + ([]:List (Str×Value)).length }:=by
  obtain ⟨m0,w0⟩:=w0
  refine codeAny_loop rfl (fun n s'=>∃i H' its ys,Inv (aF X pins s2 H2 scope C (own ++ cs) fp) [] (bf σ cap own.length) H' s'∧tn i s'.heap∧(∀b∈fp,H' b=none)∧s'.heap.PlainList D its.toArray∧Vals ys its∧H' D=none∧W i n ys H') ?_ m0
   ⟨0,H2,[],[],I0,T.keep 0 _ _ st fun b _ o e=>old b o e,fun b hb=>(hf b hb).1,hacc,.nil,I.hok.fresh (by rw [hD]; exact Nat.le_refl _),w0⟩
  rintro n s3 ⟨i,H3,its,ys,I3,st3,fr3,⟨nn,pl3⟩,rv3,hD3,w3⟩
  show wpAny _ X.A ((compTurn (.ListComp elt [⟨tg,iter,ifs,0⟩,⟨tg2,iter2,ifs2,0⟩] scope pos) 0 (.ref it) (.ref D) (compEnvC scope (aV X.env scope.names []) C X.env)).onRaise (fun x=>do noteFrame x (compEnvC scope (aV X.env scope.names []) C X.env); theTreesLotGoes x)) _ _ s3
  refine wpAny_noted ?_
  rw [jg]
  refine wpAny_bind (wpAny_standAt (wpAny_bind ?_))
  have I3':Inv (aF X pins s2 H2 scope C (own ++ cs) fp) [(D, { cls:=.type "list", data:=.seq its.toArray nn })] (bf σ cap own.length) H3 s3 :=
   I3.pins_of fun p hp=>by
    have:p=(D,{ cls:=.type "list",data:=.seq its.toArray nn }):=by simpa using hp
    subst this
    exact ⟨pl3,hD3,hDC,Dfs,fun v z=>by cases z⟩
  rcases turn i n ys H3 w3 with ⟨stop,hz,qf⟩ | ⟨go,step⟩
  ·refine thn (T.done (aF X pins s2 H2 scope C (own ++ cs) fp) rfl rfl rfl hc i _ s3 _ H3 _ I3' (stat fr3) st3 stop) fun r s4 ⟨hr,I4⟩=>?_
   subst hr
   refine wpAny_pure (hRR D C s4 ⟨⟨ys,H3,hD3,qf,?_,?_⟩,?_⟩)
   ·have pl4:=(I4.pin (D,_) (List.mem_append_right _ (List.mem_singleton.mpr rfl))).1
    have u4:=I4.base
    have Ds2:s2.heap.get? D=none:=Heap.get?_none_of_le (by rw [hD]; exact Nat.le_refl _)
    refine I.call' (s':=s4) (ch:=fp) I4.os ⟨u4.keep,u4.slot,fun b o e n hx=>?_,u4.there,fun b xs e=>?_,fun b o u e=>?_,fun b ps e=>?_⟩ ?_ I4.bare fun b hb=>⟨(hf b hb).2.2.2.1,(hf b hb).2.1,(hf b hb).2.2.2.2.1,(hf b hb).2.2.2.2.2⟩
    ·rw [aj (fun z=>by rw [z,Ds2] at e; cases e)]
     exact u4.free b o e n hx
    ·have:=u4.tups b xs e
     rw [aj (am this hD3)]; exact this
    ·have:=u4.frzs b o u e
     rw [aj (am this hD3)]; exact this
    ·obtain ⟨more,e'⟩:=u4.tbls b ps e
     exact ⟨more,by rw [aj (am e' hD3)]; exact e'⟩
    ·exact I4.hok.add hD3 ⟨hz,its,nn,rv3,pl4⟩
   ·have CH:(upd H3 D (.lst ys)) C=none:=by rw [aj (Ne.symm hDC)]; exact I4.free
    exact I.fpOk (H':=upd H3 D (.lst ys)) (by rw [hD]; exact hCle) CH
   ·obtain ⟨m,hn,_⟩:=I4.loc
    exact ⟨m,hn⟩
  ·refine thn (T.item (aF X pins s2 H2 scope C (own ++ cs) fp) rfl rfl rfl hc i _ s3 _ H3 _ I3' (stat fr3) st3 go) fun r s4 ⟨u,hr,h4⟩=>?_
   subst hr
   refine wpAny_bind (thn h4 fun _ s5 ⟨x,H5,I5,r5,y5,st5,fr5⟩=>?_)
   have I5':=I5.pinned (stat fr5) (T.obj _ _ st5)
   refine wpAny_bind (wpAny_mono (hg C _ s5 _ H5 x u _ I5' r5 (step x H5 y5)) (fun _ s6 ⟨σ6,H6,I6,le6,q6⟩=>?_) fun _ _ z=>False.elim z)
   refine wpAny_bind (wpAny_mono (hi C _ s6 σ6 H6 _ I6 q6) (fun b s7 ⟨H7,I7,q7⟩=>?_) fun _ _ z=>False.elim z)
   have back:∀ {pins':List (Addr×Obj)} {H8:Hp} {s8:Shared},Inv (aF X pins s2 H2 scope C (own ++ cs) fp) pins' σ6 H8 s8→Inv (aF X pins s2 H2 scope C (own ++ cs) fp) [] (bf σ cap own.length) H8 s8:=fun I8 =>
    I8.bareP.weak le6.1.symm fun i v e=>le6.2 i v e
   cases b with
   | false =>
    rw [if_neg Bool.false_ne_true] at q7
    obtain ⟨m',hm,w7⟩:=q7
    refine wpAny_pure ⟨rfl,m',hm,i + 1,H7,its,ys,back I7,T.keep _ _ _ st5 fun b hb o e=>?_,fun b hb=>?_,⟨nn,?_⟩,rv3,?_,w7⟩
    ·exact (I7.pin (b,o) (List.mem_append_right _ (List.mem_append_right _ (aN hb e)))).1
    ·obtain ⟨o,e,d⟩:=T.obj _ _ st5 b hb
     exact (I7.pin (b,o) (List.mem_append_right _ (List.mem_append_right _ (aN hb e)))).2.1
    ·exact (I7.pin (D,_) (List.mem_append_right _ (List.mem_append_left _ (List.mem_singleton.mpr rfl)))).1
    ·exact (I7.pin (D,_) (List.mem_append_right _ (List.mem_append_left _ (List.mem_singleton.mpr rfl)))).2.1
   | true =>
    rw [if_pos rfl] at q7
    obtain ⟨P5,hP5⟩:∃P5,gv fp s5.heap=P5:=⟨_,rfl⟩
    have P5f:∀p∈P5,p.1∈fp:=fun p hp=>by rw [← hP5] at hp; exact (iu hp).1
    refine wpAny_bind (wpAny_mono (hit2 C _ s7 σ6 H7 _ I7 q7) (fun xv s8 h8=>?_) fun _ _ z=>False.elim z)
    refine wpAny_bind (wpAny_standAt (wpAny_bind (wpAny_of_eq (hs2 C xv) ?_)))
    refine wpAny_bind (wpAny_holding (wpAny_mono h8 (fun itv s9 h9=>?_) fun _ _ z=>False.elim z))
    obtain ⟨it2,fp2,tn2,J2,H9,e9,I9,T2,st9,f9,W2,⟨m2,w20⟩,turn2⟩:=h9
    subst e9
    have D2:∀b∈fp2,D≠b:=fun b hb=>(f9 b hb).2.2.2.2.2 (D,{ cls:=.type "list",data:=.seq its.toArray nn }) (List.mem_append_right _ (List.mem_append_left _ (List.mem_singleton.mpr rfl)))
    have p2:∀b∈fp2,∀p∈P5,p.1≠b:=fun b hb p hp=>(f9 b hb).2.2.2.2.2 p (List.mem_append_right _ (List.mem_append_right _ (by rw [hP5]; exact hp)))
    have stat2:∀ {H':Hp} {ob:Obj},(∀b∈fp2,H' b=none)→∀b∈fp2,dU (aF X pins s2 H2 scope C (own ++ cs) fp) (P5 ++ [(D,ob)]) H' b:=fun {H' ob} hn b hb=>by
     have q:=f9 b hb
     refine ⟨hn b hb,q.2.1,q.2.2.1,q.2.2.2.1,q.2.2.2.2.1,fun p hp=>?_⟩
     rcases List.mem_append.mp hp with z | z
     ·exact q.2.2.2.2.2 p (List.mem_append_left _ z)
     ·rcases List.mem_append.mp z with z | z
      ·exact p2 b hb p z
      ·have:p=(D,ob):=by simpa using z
       subst this
       exact D2 b hb
    have pD9:=I9.pin (D,{ cls:=.type "list",data:=.seq its.toArray nn }) (List.mem_append_right _ (List.mem_append_left _ (List.mem_singleton.mpr rfl)))
    have I9':Inv (aF X pins s2 H2 scope C (own ++ cs) fp) P5 σ6 H9 s9:=I9.pins_of fun p hp=>I9.pin p (List.mem_append_right _ (List.mem_append_right _ (by rw [hP5]; exact hp)))
    have inner:∀ (R2:Result→Shared→Prop),(∀s',(∃m' G its ys,m' < n∧Inv (aF X pins s2 H2 scope C (own ++ cs) fp) [] (bf σ cap own.length) G s'∧tn (i + 1) s'.heap∧(∀b∈fp,G b=none)∧s'.heap.PlainList D its.toArray∧Vals ys its∧G D=none∧W (i + 1) m' ys G)→R2 (.ok .next) s')→∀ (s':Shared),(∃i H' its ys,Inv (aF X pins s2 H2 scope C (own ++ cs) fp) P5 σ6 H' s'∧tn2 i s'.heap∧(∀b∈fp2,H' b=none)∧s'.heap.PlainList D its.toArray∧Vals ys its∧H' D=none∧∃m,W2 i m ys H')→codeAny (model X.prog X.w) X.A (.compLoop (.ListComp elt [⟨tg,iter,ifs,0⟩,⟨tg2,iter2,ifs2,0⟩] scope pos) 1 (.ref it2) (.ref D) (compEnvC scope (aV X.env scope.names []) C X.env)) R2 s':=by
     rintro R2 hR2 s' ⟨i',H',its',ys',J1,J2',J3,J4,J5,J6,m',J7⟩
     refine codeAny_loop rfl (fun n s'=>∃i H' its ys,Inv (aF X pins s2 H2 scope C (own ++ cs) fp) P5 σ6 H' s'∧tn2 i s'.heap∧(∀b∈fp2,H' b=none)∧s'.heap.PlainList D its.toArray∧Vals ys its∧H' D=none∧W2 i n ys H') ?_ m' ⟨i',H',its',ys',J1,J2',J3,J4,J5,J6,J7⟩
     clear J1 J2' J3 J4 J5 J6 J7
     clear i' H' its' ys' m' s'
     rintro n2 t3 ⟨j,G3,jts,zs,J3,tt3,fr3',⟨mm,pl3'⟩,rv3',hD3',w3'⟩
     show wpAny _ X.A ((compTurn (.ListComp elt [⟨tg,iter,ifs,0⟩,⟨tg2,iter2,ifs2,0⟩] scope pos) 1 (.ref it2) (.ref D) (compEnvC scope (aV X.env scope.names []) C X.env)).onRaise (fun x=>do noteFrame x (compEnvC scope (aV X.env scope.names []) C X.env); theTreesLotGoes x)) _ _ t3
     refine wpAny_noted ?_
     rw [jR]
     refine wpAny_bind (wpAny_standAt (wpAny_bind ?_))
     have J3':Inv (aF X pins s2 H2 scope C (own ++ cs) fp) (P5 ++ [(D, { cls:=.type "list", data:=.seq jts.toArray mm })]) σ6 G3 t3 :=
      J3.pins_of fun p hp=>by
       rcases List.mem_append.mp hp with z | z
       ·exact J3.pin p (List.mem_append_right _ z)
       ·have:p=(D,{ cls:=.type "list",data:=.seq jts.toArray mm }):=by simpa using z
        subst this
        exact ⟨pl3',hD3',hDC,Dfs,fun v z=>by cases z⟩
     rcases turn2 j n2 zs G3 w3' with ⟨stop2,qf2⟩ | ⟨go2,hz2,step2⟩
     ·refine thn (T2.done (aF X pins s2 H2 scope C (own ++ cs) fp) rfl rfl rfl hc j _ t3 _ G3 _ J3' (stat2 fr3') tt3 stop2) fun r t4 ⟨hr,J4⟩=>?_
      subst hr
      obtain ⟨mo,hmo,wo⟩:=qf2
      have pD4:=J4.pin (D,{ cls:=.type "list",data:=.seq jts.toArray mm }) (List.mem_append_right _ (List.mem_append_right _ (List.mem_singleton.mpr rfl)))
      refine wpAny_pure (hR2 _ ⟨mo,G3,jts,zs,hmo,back J4,T.keep _ _ _ st5 fun b hb o e=>?_,fun b hb=>?_,⟨mm,pD4.1⟩,rv3',pD4.2.1,wo⟩)
      ·exact (J4.pin (b,o) (List.mem_append_right _ (List.mem_append_left _ (by rw [← hP5]; exact aN hb e)))).1
      ·obtain ⟨o,e,d⟩:=T.obj _ _ st5 b hb
       exact (J4.pin (b,o) (List.mem_append_right _ (List.mem_append_left _ (by rw [← hP5]; exact aN hb e)))).2.1
     ·refine thn (T2.item (aF X pins s2 H2 scope C (own ++ cs) fp) rfl rfl rfl hc j _ t3 _ G3 _ J3' (stat2 fr3') tt3 go2) fun r t4 ⟨u2,hr,h4'⟩=>?_
      subst hr
      refine wpAny_bind (thn h4' fun _ t5 ⟨x2,G5,J5,r5',y5',st5',fr5'⟩=>?_)
      have J5':=J5.pinned (stat2 fr5') (T2.obj _ _ st5')
      refine wpAny_bind (wpAny_mono (hg2 C _ t5 _ G5 x2 u2 _ J5' r5' (step2 x2 G5 y5')) (fun _ t6 ⟨σ7,G6,J6,le7,q7'⟩=>?_) fun _ _ z=>False.elim z)
      refine wpAny_bind (wpAny_mono (hi2 C _ t6 σ7 G6 _ J6 q7') (fun b2 t7 ⟨G7,J7,q8'⟩=>?_) fun _ _ z=>False.elim z)
      have back2:∀ {pins':List (Addr×Obj)} {G8:Hp} {t8:Shared},Inv (aF X pins s2 H2 scope C (own ++ cs) fp) (P5 ++ pins') σ7 G8 t8→Inv (aF X pins s2 H2 scope C (own ++ cs) fp) P5 σ6 G8 t8:=fun J8 =>
       (J8.pins_of fun p hp=>J8.pin p (List.mem_append_right _ (List.mem_append_left _ hp))).weak le7.1.symm fun i v e=>le7.2 i v e
      cases b2 with
      | false =>
       rw [if_neg Bool.false_ne_true] at q8'
       obtain ⟨m',hm,w7⟩:=q8'
       rw [List.append_assoc] at J7
       refine wpAny_pure ⟨rfl,m',hm,j + 1,G7,jts,zs,back2 J7,T2.keep _ _ _ st5' fun b hb o e=>?_,fun b hb=>?_,⟨mm,?_⟩,rv3',?_,w7⟩
       ·exact (J7.pin (b,o) (List.mem_append_right _ (List.mem_append_right _ (List.mem_append_right _ (aN hb e))))).1
       ·obtain ⟨o,e,d⟩:=T2.obj _ _ st5' b hb
        exact (J7.pin (b,o) (List.mem_append_right _ (List.mem_append_right _ (List.mem_append_right _ (aN hb e))))).2.1
       ·exact (J7.pin (D,_) (List.mem_append_right _ (List.mem_append_right _ (List.mem_append_left _ (List.mem_singleton.mpr rfl))))).1
       ·exact (J7.pin (D,_) (List.mem_append_right _ (List.mem_append_right _ (List.mem_append_left _ (List.mem_singleton.mpr rfl))))).2.1
      | true =>
       rw [if_pos rfl] at q8'
       refine wpAny_bind (wpAny_bind (wpAny_mono (he C _ t7 σ7 G7 _ J7 q8') (fun y2 t8 ⟨v2,G8,J8,r8',m',hm,w8⟩=>?_) fun _ _ z=>False.elim z))
       rw [List.append_assoc] at J8
       have pD:=J8.pin (D,{ cls:=.type "list",data:=.seq jts.toArray mm }) (List.mem_append_right _ (List.mem_append_right _ (List.mem_append_left _ (List.mem_singleton.mpr rfl))))
       have hlen:=rv3'.length
       refine wpAny_bind (wpAny_list_append_plain (hsz:=by rw [List.size_toArray]; omega) ⟨mm,pD.1⟩ fun h9 pl9 sb9=>wpAny_pure (wpAny_pure ?_))
       have J8':=back2 J8
       refine ⟨rfl,m',hm,j + 1,G8,jts ++ [y2],zs ++ [v2],?_,T2.keep _ _ _ st5' fun b hb o e=>?_,fun b hb=>?_,?_,rv3'.append (.cons r8' .nil),pD.2.1,w8⟩
       ·exact J8'.turned (t':=t8.toks) (fun b o hb e=>sb9.extBut b o hb e) pD.2.1 hDC (.inr (by show s2.heap.objs.size≤D; rw [hD]; exact Nat.le_refl _)) (fun x c e=>Nat.ne_of_lt (clt x c e)) fun p hp=>by
         have hp':p∈(X.pn ++ pins) ++ P5:=hp
         rcases List.mem_append.mp hp' with z | z
         ·exact Nat.ne_of_lt (plt p z)
         ·exact Ne.symm (Dfp p.1 (P5f p z))
       ·exact sb9.extBut b o (Ne.symm (D2 b hb)) (J8.pin (b,o) (List.mem_append_right _ (List.mem_append_right _ (List.mem_append_right _ (aN hb e))))).1
       ·obtain ⟨o,e,d⟩:=T2.obj _ _ st5' b hb
        exact (J8.pin (b,o) (List.mem_append_right _ (List.mem_append_right _ (List.mem_append_right _ (aN hb e))))).2.1
       ·have e:jts.toArray.push y2=(jts ++ [y2]).toArray:=by simp
        rw [← e]; exact pl9
    have stt:∃i H' its ys,Inv (aF X pins s2 H2 scope C (own ++ cs) fp) P5 σ6 H' s9∧tn2 i s9.heap∧(∀b∈fp2,H' b=none)∧s9.heap.PlainList D its.toArray∧Vals ys its∧H' D=none∧∃m,W2 i m ys H':=⟨0,H9,its,ys,I9',st9,fun b hb=>(f9 b hb).1,⟨nn,pD9.1⟩,rv3,pD9.2.1,m2,w20⟩
    have dX:∀ (R2:Result→Shared→Prop),(∀s',(∃m' G its ys,m' < n∧Inv (aF X pins s2 H2 scope C (own ++ cs) fp) [] (bf σ cap own.length) G s'∧tn (i + 1) s'.heap∧(∀b∈fp,G b=none)∧s'.heap.PlainList D its.toArray∧Vals ys its∧G D=none∧W (i + 1) m' ys G)→R2 (.ok .next) s')→codeAny (model X.prog X.w) X.A (.compStart (.ListComp elt [⟨tg,iter,ifs,0⟩,⟨tg2,iter2,ifs2,0⟩] scope pos) 1 (.ref it2) (.ref D) (compEnvC scope (aV X.env scope.names []) C X.env)) R2 s9:=fun R2 hR2 =>
     dA (inner R2 hR2 s9 stt) (T2.self _ 0 _ _ _ st9 (inner R2 hR2 s9 stt))
    refine wpAny_bind (wpAny_runOwn (dX _ ?_))
    rintro s' ⟨m',G,its,ys,hm,c1,c2,c3,c4,c5,c6,c7⟩
    exact wpAny_pure ⟨rfl,m',hm,i + 1,G,its,ys,c1,c2,c3,c4,c5,c6,c7⟩
 exact codeAny_compStart_list loop (T.self _ 0 _ _ _ (T.keep 0 _ _ st fun b _ o e=>old b o e) loop)
def va (wi:TI) (cap:List Nat) (k:Nat) (g:TG) (tt:TT) (wi2:TI) (g2:TG) (tt2:TT) (te:TE):TE:=fun σ H Q=>wi σ H fun J H1 =>
 ∃W:Nat→Nat→List V→Hp→Prop,(∃m,W 0 m [] H1)∧ji σ cap k J g tt wi2 g2 tt2 te (fun ys H'=>∀p,H' p=none→Q (.ref p) (upd H' p (.lst ys))) W
theorem qX {wi:TI} (hc:X.calm=true) (hit:PI X tg iter wi) (ok:CompOk X scope own cs cap)
  (hg:∀pins s2 H2 C fp,PG (aF X pins s2 H2 scope C (own ++ cs) fp) tg g) (hi:∀pins s2 H2 C fp,jb (aF X pins s2 H2 scope C (own ++ cs) fp) ifs tt)
  (hit2:∀pins s2 H2 C fp,PI (aF X pins s2 H2 scope C (own ++ cs) fp) tg2 iter2 wi2) (hg2:∀pins s2 H2 C fp,PG (aF X pins s2 H2 scope C (own ++ cs) fp) tg2 g2) (hi2:∀pins s2 H2 C fp,jb (aF X pins s2 H2 scope C (own ++ cs) fp) ifs2 tt2)
  (he:∀pins s2 H2 C fp,PE (aF X pins s2 H2 scope C (own ++ cs) fp) elt te)
  (hs:∀x,foldedSetIterable iter X.env x=pure x:=by intro _; rfl) (hs2:∀C x,foldedSetIterable iter2 (compEnvC scope (aV X.env scope.names []) C X.env) x=pure x:=by intro _ _; rfl):PE X (.ListComp elt [⟨tg,iter,ifs,0⟩,⟨tg2,iter2,ifs2,0⟩] scope pos) (va wi cap own.length g tt wi2 g2 tt2 te):=by
 intro pins s σ H Q I h
 rw [eval_ListComp]
 refine wpAny_comprehension_free (use:=none) rfl hs (eg fun y hy e=>I.ok.has y.1 (ok.free y hy e)) ok.kind ok.names (thn (hit pins s σ H _ I h) fun v s1 h1=>thn h1 fun itv s2 h2=>?_)
 obtain ⟨it,fp,tn,J,H2,e,I2,T,st2,f2,W,w0,turn⟩:=h2
 subst e
 refine nT (RR:=fun acc C=>compPost (model X.prog X.w) X.A X.xe none (EP X pins σ Q) acc C) I2 ok hc T st2 f2 (fun C=>hg _ _ _ _ _) (fun C=>hi _ _ _ _ _) (fun C=>hit2 _ _ _ _ _) hs2 (fun C=>hg2 _ _ _ _ _) (fun C=>hi2 _ _ _ _ _) (fun C=>he _ _ _ _ _) w0 turn fun D C s' B=>?_
 obtain ⟨⟨ys,H',hD,q,I',fp'⟩,m,hn⟩:=B
 obtain ⟨f0,f1,f2',f3,f4,f5⟩:=fp'
 exact ⟨m,hn,fun h' sb=>⟨.ref D,_,I'.turned (t':=s'.toks) (fun b o hb e=>sb.extBut b o hb e) f0 f1 f3 f4 f5,rfl,q D hD⟩⟩
end
end L2
set_option Elab.async false
set_option linter.all false
set_option maxRecDepth 100000
namespace L2
open PySem PySem.Spec PyProof.Rows
theorem nU {lo:Int} {n:Nat} {σ:St} {cap:List Nat} {k:Nat} {g g2:TG} {tt tt2:TT} {te:TE} {wi2:TI} {Q:List V→Hp→Prop} {H:Hp} (Pv:Nat→List V→Hp→Prop) (h0:Pv 0 [] H)
  (ht:∀i ys H',i < n→Pv i ys H'→g (.int (lo + i)) (bf σ cap k) H' fun σ2 H2=>leS (bf σ cap k) σ2∧tt σ2 H2 fun ok H3=>if ok=true then wi2 σ2 H3 (fun J2 H4=>∃W2:Nat→Nat→List V→Hp→Prop,(∃m2,W2 0 m2 ys H4)∧jh σ2 J2 g2 tt2 te (fun zs H5=>Nx n Pv i zs H5) W2) else Nx n Pv i ys H3)
  (hd:∀ys H',Pv n ys H'→ys.length≤sizeLine∧Q ys H'):∃W,(∃m,W 0 m [] H)∧ji σ cap k (Itr lo n) g tt wi2 g2 tt2 te Q W:=by
 refine ⟨fun i m ys H'=>m=n - i∧i≤n∧Pv i ys H',⟨_,rfl,Nat.zero_le _,h0⟩,?_⟩
 rintro i m ys H' ⟨rfl,hi,p⟩
 by_cases hin:i < n
 ·refine .inr ⟨hin,fun x H2 yl=>?_⟩
  obtain ⟨e1,e2⟩:=yl
  subst e1 e2
  exact ht i ys _ hin p
 ·have e:i=n:=by omega
  subst e
  obtain ⟨a1,a2⟩:=hd ys H' p
  exact .inl ⟨Nat.le_refl _,a1,a2⟩
theorem vb {lo:Int} {n:Nat} {σ2:St} {g2:TG} {tt2:TT} {te:TE} {N:List V→Hp→Prop} {H:Hp} {ys:List V} (Pv:Nat→List V→Hp→Prop) (h0:Pv 0 ys H)
  (ht:∀i zs H',i < n→Pv i zs H'→zs.length < sizeLine∧g2 (.int (lo + i)) σ2 H' fun σ3 H2=>leS σ2 σ3∧tt2 σ3 H2 fun ok H3=>if ok=true then te σ3 H3 (fun v H4=>Nx n Pv i (zs ++ [v]) H4) else Nx n Pv i zs H3)
  (hd:∀zs H',Pv n zs H'→N zs H'):∃W2:Nat→Nat→List V→Hp→Prop,(∃m2,W2 0 m2 ys H)∧jh σ2 (Itr lo n) g2 tt2 te N W2:=by
 refine ⟨fun i m zs H'=>m=n - i∧i≤n∧Pv i zs H',⟨_,rfl,Nat.zero_le _,h0⟩,?_⟩
 rintro i m zs H' ⟨rfl,hi,p⟩
 by_cases hin:i < n
 ·obtain ⟨e,hg⟩:=ht i zs H' hin p
  refine .inr ⟨hin,e,fun x H2 yl=>?_⟩
  obtain ⟨e1,e2⟩:=yl
  subst e1 e2
  exact hg
 ·have e:i=n:=by omega
  subst e
  exact .inl ⟨Nat.le_refl _,hd zs H' p⟩
theorem lE {P:Program} {w:World} {K:PySem.W.Frag} {tg:Expr} (it:Addr) (lo left:Int) (h0:left≤0):Turn P w K tg (Itr lo 0) [it] it (fun i h=>IsLongIter h it lo left 1) where
 mem:=by simp
 obj:=fun i h st b hb=>by
  have e:b=it:=by simpa using hb
  subst e
  exact ⟨_,st,fun v z=>by
   have z':Data.fields _=Data.cell v:=z
   cases z'⟩
 keep:=fun i h h' st k=>k it (by simp) _ st
 item:=by
  intro X hP hw hK hc i pins s σ H E I hf st hg
  exact absurd hg (Nat.not_lt_zero _)
 done:=by
  intro X hP hw hK hc i pins s σ H E I hf st hg
  subst hP hw hK
  obtain ⟨f0,f1,f2,f3,f4,f5⟩:=hf it (by simp)
  exact wpAny_pyNext_long_end (I.ok.hd hc) st h0 fun h' eb=>⟨rfl,I.turned (t':=s.toks) (fun b o hb e=>eb b o hb e) f0 f1 f3 f4 f5⟩
 self:=fun _ _ _ _ _ st h=>wpAny_pyIter_longiter st h
section
variable {X:Cx} {tg:Expr}
def vc (ta:TA):TI:=fun σ H R=>ta σ H fun vs H1=>∃i j:Int,vs=[.int i,.int j]∧(-(2 ^ 62)≤i∧i < 2 ^ 62∧j < 2 ^ 62)∧R (Itr i (j - i).toNat) H1
theorem gH {a b:Expr} {ta:TA} {p pos:Pos} (hg:Gl X "range") (hm:X.mg "range" = none) (ha:PA X [a,b] ta) (hs:starEach [a,b] X.env=[(false,eval a X.env),(false,eval b X.env)]:=by rfl) (hs2:starEach [b] X.env=[(false,eval b X.env)]:=by rfl) :
  PI X tg (.Call (.Name "range" p) [a,b] [] pos) (vc ta):=by
 intro pins s σ H R I h
 refine Call_ (dC I hg hm boot_range (PyProof.Rows.callWith_type1 (thn (ha pos pins s σ H _ I h) fun us s1 ⟨vs,H1,I1,r1,q1⟩=>?_) (by rw [hs,hs2]) (by rw [hs2]; rfl)))
 obtain ⟨i,j,e,⟨q1,q2,q4⟩,q⟩:=q1
 subst e
 cases r1 with
 | cons r rr =>
  cases rr with
  | cons r' rr =>
   cases rr
   obtain ⟨t,rfl⟩:=r
   obtain ⟨t',rfl⟩:=r'
   by_cases q3:-(2 ^ 62)≤j
   ·exact call_range_2 (gu I1 q1 q2 q3 q4 q)
   refine call_range_2 ?_
   have z0:(j - i).toNat=0:=by omega
   rw [z0] at q
   have I2:Inv X pins σ H1 { s1 with heap:=s1.heap.push { cls:=.type "range", data:=.fields #[.int i t, .int j t', .int 1 s1.toks] }, toks:=s1.toks + 1 }:=I1.kept fun b o e=>Heap.get?_push_of_some _ e
   have rs0:Builtin.Range.rangeSize i j 1=0:=by rw [rangeSize_one,if_neg (by omega)]
   cases hsm:Builtin.Range.small i j 1 with
   | false =>
    refine wpAny_pyIter_longrange (IsRange.new ..) hsm ?_
    refine ⟨_, [(s1.heap.push { cls:=.type "range", data:=.fields #[.int i t, .int j t', .int 1 s1.toks] }).objs.size], _, _, H1, rfl, I2.kept (t':=s1.toks + 1) fun b o e=>Heap.get?_push_of_some _ e, lE _ i 0 (Int.le_refl _), ?_, fun b hb=>?_, q⟩
    ·rw [rs0]
     exact Heap.get?_push_size _ rfl
    ·have e:b=(s1.heap.push { cls:=.type "range", data:=.fields #[.int i t, .int j t', .int 1 s1.toks] }).objs.size:=by simpa using hb
     subst e
     exact I2.fpOk (Nat.le_refl _) (I2.hok.fresh (Nat.le_refl _))
   | true =>
    refine wpAny_pyIter_range (IsRange.new ..) hsm ?_
    refine ⟨_, [(s1.heap.push { cls:=.type "range", data:=.fields #[.int i t, .int j t', .int 1 s1.toks] }).objs.size], _, _, H1, rfl, I2.kept (t':=s1.toks + 1) fun b o e=>Heap.get?_push_of_some _ e, gt _ i 0, ?_, fun b hb=>?_, q⟩
    ·rw [rs0]
     show IsRangeIter _ _ (i + ((0:Nat):Int) * 1) (((0:Nat):Int) - ((0:Nat):Int)) 1
     have e1:i + ((0:Nat):Int) * 1=i:=by simp
     have e2:((0:Nat):Int) - ((0:Nat):Int)=0:=rfl
     rw [e1,e2]
     exact Heap.get?_push_size _ rfl
    ·have e:b=(s1.heap.push { cls:=.type "range", data:=.fields #[.int i t, .int j t', .int 1 s1.toks] }).objs.size:=by simpa using hb
     subst e
     exact I2.fpOk (Nat.le_refl _) (I2.hok.fresh (Nat.le_refl _))
end
end L2
set_option Elab.async false
set_option linter.all false
set_option maxRecDepth 100000
namespace L2
open PySem PySem.Spec PyProof.Rows
section
variable {X:Cx}
theorem nV (hc:X.calm=true):cO X (.builtin "min") (fun xs H Q=>∃ (p:Addr) (ns:List Int),xs=[.ref p]∧SqL X.K H p (ns.map V.int)∧ns≠[]∧∀m,m∈ns→(∀x∈ns,m≤x)→Q (.int m) H):=by
 intro pins s σ H xs us Q I r h
 obtain ⟨p,ns,rfl,hs,hne,q⟩:=h
 obtain ⟨u,rfl,rfl⟩:=eF r
 obtain ⟨its,rv,pl0,_⟩:=I.list hs
 have hi:=je rv
 obtain ⟨xs,e⟩:=hi.allInts.items
 have pl:=pl0.isList
 rw [e] at pl
 have en:(xs.toList.map (·.1))=ns:=by
  have h1:=hi.numsOf
  have h2:=nums_intItems (xs:=xs)
  rw [← e,show its.toArray.toList=its from rfl] at h2
  rw [← h1,h2]
 have sz:xs.size=ns.length:=by rw [← en,List.length_map]; rfl
 have hn:0 < xs.size:=by rw [sz]; exact List.length_pos_iff.mpr hne
 have nat:∀i,i < xs.size→numAt xs i∈ns:=fun i h=>by
  unfold numAt
  rw [← en,Array.getElem?_eq_getElem h]
  exact List.mem_map.mpr ⟨xs[i],by simp,rfl⟩
 have all:∀x∈ns,∃i,i < xs.size∧numAt xs i=x:=fun x hx=>by
  rw [← en] at hx
  obtain ⟨y,hy,rfl⟩:=List.mem_map.mp hx
  obtain ⟨i,hi',e'⟩:=List.getElem_of_mem hy
  refine ⟨i,by simpa using hi',?_⟩
  unfold numAt
  rw [Array.getElem?_eq_getElem (by simpa using hi')]
  simpa using congrArg Prod.fst e'
 obtain ⟨g1,g2⟩:=gF (numAt xs) (xs.size - 1)
 refine min_intList (I.ok.hd hc) pl hn fun v h' tk hv hk=>?_
 obtain ⟨t,rfl⟩:=intItems_at hv
 refine ⟨.int _,H,I.kept hk,⟨t,rfl⟩,q _ (nat _ (by have:argBest (fun i j=>decide (numAt xs i < numAt xs j)) (xs.size - 1)≤xs.size - 1:=g1; omega)) fun x hx=>?_⟩
 obtain ⟨i,h1,h2⟩:=all x hx
 rw [← h2]
 exact g2 i (by omega)
end
end L2
set_option Elab.async false
set_option linter.all false
set_option maxRecDepth 100000
namespace PyProof.Rows
set_option autoImplicit false
open PySem
def tD:Bool→Keyed→Array Keyed→Nat→Nat→Nat→StateT SortSt Sem (Option Nat):=sortPriv% PySem.Builtin.gallop
def qY:Array Keyed→Array Keyed→StateT SortSt Sem (Array Keyed):=sortPriv% PySem.Builtin.mergeLo
def qZ:Array Keyed→Array Keyed→StateT SortSt Sem (Array Keyed):=sortPriv% PySem.Builtin.mergeHi
def KdA (κ:KeyKind) (a:Array Keyed):Prop:=∀ (i:Nat) (p:Keyed),a[i]? = some p→∃k,κ.keyOf p.1=some k
section
variable {prog:Program} {w:World} {A:Around} {E:Value→Shared→Prop} {s:Shared} {κ:KeyKind} {κ0:SortKind}
theorem eX (hO:cf prog w A s κ0 κ) {st:SortSt} {x y:Keyed} {Q:Option Bool→SortSt→Prop} (hk:kindOf st=κ0) (hx:∃k,κ.keyOf x.1=some k) (hy:∃k,κ.keyOf y.1=some k)
  (h:∀b,Q (some b) st):wpS (model prog w) A E s (lt' x y) Q st:=by
 obtain ⟨a,ha⟩:=hx
 obtain ⟨b,hb⟩:=hy
 rw [lt'_eq]
 refine wpS_bind (wpS_get ?_)
 rw [hk]
 refine wpS_bind (wpS_lift (wpAny_attempt (hO _ _ _ a b _ ha hb ⟨rfl,?_⟩)))
 exact wpS_pure (h _)
theorem aX {st:SortSt} {arr:Array Keyed} {i:Nat} {Q:Keyed→SortSt→Prop} (hi:i < arr.size) (h:∀p,arr[i]? = some p→Q p st):wpS (model prog w) A E s (elem' arr i) Q st:=by
 rw [elem'_eq,getElem?_pos arr i hi]
 exact wpS_pure (h _ (getElem?_pos arr i hi))
theorem bR (hO:cf prog w A s κ0 κ) {st:SortSt} {left:Bool} {key:Keyed} {arr:Array Keyed} {base n hint:Nat} {Q:Option Nat→SortSt→Prop} (hk:kindOf st=κ0) (hn:base + n≤arr.size) (hh:hint < n)
  (ha:KdA κ arr) (hy:∃k,κ.keyOf key.1=some k) (h:∀k,k≤n→Q (some k) st):wpS (model prog w) A E s (tD left key arr base n hint) Q st:=by
 have ask:∀ (i:Nat),i < n→∀ (R:Option Bool→SortSt→Prop),(∀b,R (some b) st)→wpS (model prog w) A E s (elem' arr (base + i) >>= fun x=>if left=true then lt' x key else lt' key x >>= fun r=>pure (r.map (!·))) R st:=by
  intro i hi R hR
  refine wpS_bind (aX (by omega) fun p hp=>?_)
  split
  ·exact eX hO hk (ha _ _ hp) hy hR
  ·exact wpS_bind (eX hO hk hy (ha _ _ hp) fun b=>wpS_pure (hR _))
 refine wpS_bind (ask hint hh _ fun b=>?_)
 dsimp only
 split
 ·refine wpS_bind (wpS_mono (wpS_forRange (I:=fun _ c st'=>c.1=none∧st'=st) (Q:=fun c st'=>c.1=none∧st'=st) ?_ (fun c st' hc=>hc) ⟨rfl,rfl⟩) ?_)
  ·rintro i ⟨r,lo,ofs⟩ st' _ _ ⟨h1,rfl⟩
   dsimp only at h1 ⊢
   split
   ·exact wpS_pure ⟨rfl,rfl⟩
   ·refine wpS_bind (ask _ (by omega) _ fun b=>?_)
    dsimp only
    split
    ·exact wpS_pure ⟨rfl,rfl⟩
    ·exact wpS_pure ⟨rfl,rfl⟩
  ·rintro ⟨r,lo,ofs⟩ st' ⟨h1,rfl⟩
   dsimp only at h1 ⊢
   subst h1
   refine wpS_bind (wpS_mono (wpS_forRange (I:=fun _ c st2=>c.1=none∧c.2.2≤n∧st2=st') (Q:=fun c st2=>c.1=none∧c.2.2≤n∧st2=st') ?_ (fun c st2 hc=>hc) ⟨rfl,by dsimp only; omega,rfl⟩) ?_)
   ·rintro i ⟨r,l2,h2⟩ st2 _ _ ⟨g1,g2,rfl⟩
    dsimp only at g1 g2 ⊢
    split
    ·exact wpS_pure ⟨rfl,g2,rfl⟩
    ·refine wpS_bind (ask _ (by omega) _ fun b=>?_)
     dsimp only
     split
     ·exact wpS_pure ⟨rfl,g2,rfl⟩
     ·exact wpS_pure ⟨rfl,by dsimp only; omega,rfl⟩
   ·rintro ⟨r,l2,h2⟩ st2 ⟨g1,g2,rfl⟩
    dsimp only at g1 g2 ⊢
    subst g1
    exact wpS_pure (h _ g2)
 ·refine wpS_bind (wpS_mono (wpS_forRange (I:=fun _ c st'=>c.1=none∧st'=st) (Q:=fun c st'=>c.1=none∧st'=st) ?_ (fun c st' hc=>hc) ⟨rfl,rfl⟩) ?_)
  ·rintro i ⟨r,lo,ofs⟩ st' _ _ ⟨h1,rfl⟩
   dsimp only at h1 ⊢
   split
   ·exact wpS_pure ⟨rfl,rfl⟩
   ·refine wpS_bind (ask _ (by omega) _ fun b=>?_)
    dsimp only
    split
    ·exact wpS_pure ⟨rfl,rfl⟩
    ·exact wpS_pure ⟨rfl,rfl⟩
  ·rintro ⟨r,lo,ofs⟩ st' ⟨h1,rfl⟩
   dsimp only at h1 ⊢
   subst h1
   refine wpS_bind (wpS_mono (wpS_forRange (I:=fun _ c st2=>c.1=none∧c.2.2≤n∧st2=st') (Q:=fun c st2=>c.1=none∧c.2.2≤n∧st2=st') ?_ (fun c st2 hc=>hc) ⟨rfl,by dsimp only; omega,rfl⟩) ?_)
   ·rintro i ⟨r,l2,h2⟩ st2 _ _ ⟨g1,g2,rfl⟩
    dsimp only at g1 g2 ⊢
    split
    ·exact wpS_pure ⟨rfl,g2,rfl⟩
    ·refine wpS_bind (ask _ (by omega) _ fun b=>?_)
     dsimp only
     split
     ·exact wpS_pure ⟨rfl,g2,rfl⟩
     ·exact wpS_pure ⟨rfl,by dsimp only; omega,rfl⟩
   ·rintro ⟨r,l2,h2⟩ st2 ⟨g1,g2,rfl⟩
    dsimp only at g1 g2 ⊢
    subst g1
    exact wpS_pure (h _ g2)
theorem ao {α:Type} {c:Prop} [Decidable c] {x y:StateT SortSt Sem α} {Q:α→SortSt→Prop} {st:SortSt} (h1:c→wpS (model prog w) A E s x Q st) (h2:¬ c→wpS (model prog w) A E s y Q st):wpS (model prog w) A E s (if c then x else y) Q st:=by
 split
 ·exact h1 ‹_›
 ·exact h2 ‹_›
def SameG (st st':SortSt):Prop:=kindOf st'=kindOf st∧arrOf st'=arrOf st∧pendingOf st'=pendingOf st∧failedOf st'=failedOf st
theorem SameG.rfl' {st:SortSt}:SameG st st:=⟨rfl,rfl,rfl,rfl⟩
theorem jS (a:Array Keyed) (i:Nat):(a.extract i a.size).toList=a.toList.drop i:=by
 rw [Array.toList_extract,List.extract_eq_take_drop]
 exact List.take_of_length_le (by simp)
theorem mJ (a:Array Keyed) (i k:Nat):(a.extract i (i + k)).toList ++ a.toList.drop (i + k)=a.toList.drop i:=by
 rw [Array.toList_extract,List.extract_eq_take_drop,show i + k - i=k by omega,← List.drop_drop]
 exact List.take_append_drop k _
theorem mK {a:Array Keyed} {i:Nat} {p:Keyed} (e:a[i]? = some p):a.toList.drop i=p :: a.toList.drop (i + 1):=by
 rw [← Array.getElem?_toList] at e
 obtain ⟨h,rfl⟩:=List.getElem?_eq_some_iff.mp e
 exact List.drop_eq_getElem_cons h
def MLo (a b out:Array Keyed) (ia ib:Nat):Prop:=(out.toList ++ a.toList.drop ia ++ b.toList.drop ib).Perm (a.toList ++ b.toList)
theorem MLo.done {a b out:Array Keyed} {ia ib:Nat} (h:MLo a b out ia ib):(out ++ a.extract ia a.size ++ b.extract ib b.size).Perm (a ++ b):=by
 rw [Array.perm_iff_toList_perm]
 simp only [Array.toList_append,jS]
 exact h
theorem MLo.last {a b out:Array Keyed} {ia ib:Nat} (h:MLo a b out ia ib):(out ++ b.extract ib b.size ++ a.extract ia a.size).Perm (a ++ b):=by
 rw [Array.perm_iff_toList_perm]
 simp only [Array.toList_append,jS]
 refine List.Perm.trans ?_ h
 rw [List.append_assoc,List.append_assoc]
 exact List.Perm.append_left _ List.perm_append_comm
theorem MLo.pb {a b out:Array Keyed} {ia ib:Nat} {p:Keyed} (h:MLo a b out ia ib) (e:b[ib]? = some p):MLo a b (out.push p) ia (ib + 1):=by
 unfold MLo at h ⊢
 rw [mK e] at h
 refine List.Perm.trans ?_ h
 rw [Array.toList_push]
 simp only [List.append_assoc]
 exact List.Perm.append_left _ (List.perm_middle (a:=p) (l₁:=a.toList.drop ia) (l₂:=b.toList.drop (ib + 1))).symm
theorem MLo.pa {a b out:Array Keyed} {ia ib:Nat} {p:Keyed} (h:MLo a b out ia ib) (e:a[ia]? = some p):MLo a b (out.push p) (ia + 1) ib:=by
 unfold MLo at h ⊢
 rw [mK e] at h
 rw [Array.toList_push]
 simpa only [List.append_assoc,List.cons_append,List.nil_append] using h
theorem MLo.ca {a b out:Array Keyed} {ia ib:Nat} (h:MLo a b out ia ib) (k:Nat):MLo a b (out ++ a.extract ia (ia + k)) (ia + k) ib:=by
 unfold MLo at h ⊢
 rw [← mJ a ia k] at h
 rw [Array.toList_append]
 simpa only [List.append_assoc] using h
theorem MLo.cb {a b out:Array Keyed} {ia ib:Nat} (h:MLo a b out ia ib) (k:Nat):MLo a b (out ++ b.extract ib (ib + k)) ia (ib + k):=by
 unfold MLo at h ⊢
 rw [← mJ b ib k] at h
 refine List.Perm.trans ?_ h
 rw [Array.toList_append]
 simp only [List.append_assoc]
 refine List.Perm.append_left _ ?_
 rw [← List.append_assoc,← List.append_assoc]
 exact List.Perm.append_right _ List.perm_append_comm
theorem mL {α:Type} {m:StateT SortSt Sem α} {Q:α→SortSt→Prop} {st:SortSt} (h:∀Q':α→SortSt→Prop,(∀a st',Q a st'→Q' a st')→wpS (model prog w) A E s m Q' st):wpS (model prog w) A E s m Q st:=h Q fun _ _ z=>z
theorem mM {α:Type} {c:Prop} [Decidable c] {jp:Unit→Nat→StateT SortSt Sem α} {x y:Nat} {Q:α→SortSt→Prop} {st:SortSt} (h:∀g,wpS (model prog w) A E s (jp () g) Q st):wpS (model prog w) A E s (if c then jp () x else jp () y) Q st:=ao (fun _=>h _) (fun _=>h _)
def vd:Nat→StateT SortSt Sem Unit:=sortPriv% PySem.Builtin.setMinGallop
theorem jT {g:Nat} {Q:Unit→SortSt→Prop} {st:SortSt} (h:∀st',SameG st st'→Q () st'):wpS (model prog w) A E s (vd g) Q st:=wpS_modify (h _ ⟨rfl,rfl,rfl,rfl⟩)
theorem SameG.trans {st st' st'':SortSt} (a:SameG st st') (b:SameG st' st''):SameG st st'':=⟨b.1.trans a.1,b.2.1.trans a.2.1,b.2.2.1.trans a.2.2.1,b.2.2.2.trans a.2.2.2⟩
theorem jU (hO:cf prog w A s κ0 κ) {st:SortSt} {a b:Array Keyed} {Q:Array Keyed→SortSt→Prop} (hk:kindOf st=κ0) (ha:KdA κ a) (hb:KdA κ b) (la:1≤a.size) (lb:1≤b.size)
  (h:∀r st',r.Perm (a ++ b)→SameG st st'→Q r st'):wpS (model prog w) A E s (qY a b) Q st:=by
 refine wpS_bind (wpS_lift (wpAny_rule ⟨rfl,?_⟩))
 refine wpS_bind (aX (by omega) fun p hp=>?_)
 have m0:MLo a b #[p] 0 1:=by
  have:MLo a b #[] 0 0:=by unfold MLo; simp
  exact this.pb hp
 dsimp -zeta only
 extract_lets
 refine ao (fun c1=>wpS_pure (h _ _ m0.done .rfl')) (fun c1=>?_)
 refine ao (fun c2=>wpS_pure (h _ _ m0.last .rfl')) (fun c2=>?_)
 simp only [beq_iff_eq] at c1 c2
 refine wpS_bind (wpS_get ?_)
 refine wpS_bind (wpS_mono (wpS_forRange (I:=fun x c st2=>SameG st st2∧c.1=none∧MLo a b c.2.1 c.2.2.1 c.2.2.2.1∧c.2.2.1 + 1 < a.size∧c.2.2.2.1 < b.size∧x + 1≤c.2.2.1 + c.2.2.2.1)
  (Q:=fun c st2=>SameG st st2∧∃r,c.1=some r∧r.Perm (a ++ b)) ?step ?fin ⟨.rfl',rfl,m0,by dsimp only; omega,by dsimp only; omega,by dsimp only; omega⟩) ?post)
 case fin =>
  rintro ⟨r,out,ia,ib,mg⟩ st2 ⟨hs,h1,hm,b1,b2,b3⟩
  dsimp only at b1 b2 b3
  exact absurd b3 (by omega)
 case post =>
  rintro ⟨r,out,ia,ib,mg⟩ st2 ⟨hs,r',h1,hr⟩
  dsimp -zeta only at h1 ⊢
  subst h1
  exact wpS_pure (h _ _ hr hs)
 case step =>
  clear c1 c2 m0 la lb
  rintro x ⟨r,out,ia,ib,mg⟩ st2 _ hx ⟨hs,h1,hm,b1,b2,b3⟩
  dsimp -zeta only at h1 hm b1 b2 b3 ⊢
  refine wpS_bind (wpS_mono (wpS_forRange (I:=fun y c st3=>st3=st2∧c.1=none∧MLo a b c.2.1 c.2.2.1 c.2.2.2.1∧c.2.2.1 + 1 < a.size∧c.2.2.2.1 < b.size∧x + 1 + min y 1≤c.2.2.1 + c.2.2.2.1)
   (Q:=fun c st3=>SameG st st3∧((∃r,c.1=some r∧r.Perm (a ++ b))∨(c.1=none∧MLo a b c.2.1 c.2.2.1 c.2.2.2.1∧c.2.2.1 + 1 < a.size∧c.2.2.2.1 < b.size∧x + 2≤c.2.2.1 + c.2.2.2.1))) ?s1 ?f1 ⟨rfl,rfl,hm,b1,b2,by dsimp only; omega⟩) ?p1)
  case f1 =>
   rintro ⟨r,out,ia,ib,ac,bc⟩ st3 ⟨rfl,g1,g2,g3,g4,g5⟩
   dsimp only at g1 g2 g3 g4 g5
   exact ⟨hs,.inr ⟨g1,g2,g3,g4,by dsimp only; omega⟩⟩
  case s1 =>
   clear hm b1 b2 b3 hx
   rintro y ⟨r,out,ia,ib,ac,bc⟩ st3 _ hy ⟨rfl,g1,hm,b1,b2,b3⟩
   have sg:=hs
   dsimp only at g1 hm b1 b2 b3 ⊢
   refine wpS_bind (aX (by omega) fun p1 hp1=>?_)
   refine wpS_bind (aX (by omega) fun p2 hp2=>?_)
   refine wpS_bind (eX hO (sg.1.trans hk) (hb _ _ hp1) (ha _ _ hp2) fun bw=>?_)
   dsimp only
   refine ao (fun c5=>?_) (fun c5=>?_)
   ·refine wpS_bind (aX (by omega) fun q hq=>?_)
    refine ao (fun c2=>?_) (fun c2=>?_)
    ·simp only [beq_iff_eq] at c2
     exact wpS_pure ⟨sg,.inl ⟨_,rfl,(hm.pb hq).done⟩⟩
    ·simp only [beq_iff_eq] at c2
     refine ao (fun c1=>?_) (fun c1=>?_)
     ·exact wpS_pure ⟨sg,.inr ⟨rfl,hm.pb hq,by dsimp only; omega,by dsimp only; omega,by dsimp only; omega⟩⟩
     ·exact wpS_pure ⟨rfl,rfl,hm.pb hq,by dsimp only; omega,by dsimp only; omega,by dsimp only; omega⟩
   ·refine wpS_bind (aX (by omega) fun q hq=>?_)
    refine ao (fun c4=>?_) (fun c4=>?_)
    ·simp only [beq_iff_eq] at c4
     exact wpS_pure ⟨sg,.inl ⟨_,rfl,(hm.pa hq).last⟩⟩
    ·simp only [beq_iff_eq] at c4
     refine ao (fun c3=>?_) (fun c3=>?_)
     ·exact wpS_pure ⟨sg,.inr ⟨rfl,hm.pa hq,by dsimp only; omega,by dsimp only; omega,by dsimp only; omega⟩⟩
     ·exact wpS_pure ⟨rfl,rfl,hm.pa hq,by dsimp only; omega,by dsimp only; omega,by dsimp only; omega⟩
  case p1 =>
   clear hm b1 b2 b3 hx
   rintro ⟨r,out,ia,ib,ac,bc⟩ st3 ⟨hs,(⟨r',h1,hr⟩ | ⟨h1,hm,b1,b2,b3⟩)⟩
   ·dsimp -zeta only at h1 ⊢
    subst h1
    exact wpS_pure ⟨hs,r',rfl,hr⟩
   ·dsimp -zeta only at h1 hm b1 b2 b3 ⊢
    subst h1
    refine wpS_bind (wpS_lift (wpAny_rule ⟨rfl,?_⟩))
    refine wpS_bind (wpS_mono (wpS_forRange (I:=fun y c st3=>SameG st st3∧c.1=none∧MLo a b c.2.1 c.2.2.1 c.2.2.2.1∧c.2.2.1 + 1 < a.size∧c.2.2.2.1 < b.size∧x + 2≤c.2.2.1 + c.2.2.2.1)
     (Q:=fun c st3=>SameG st st3∧((∃r,c.1=some r∧r.Perm (a ++ b))∨(c.1=none∧MLo a b c.2.1 c.2.2.1 c.2.2.2.1∧c.2.2.1 + 1 < a.size∧c.2.2.2.1 < b.size∧x + 2≤c.2.2.1 + c.2.2.2.1))) ?s2 ?f2 ⟨hs,rfl,hm,b1,b2,b3⟩) ?p2)
    case f2=>exact fun c st3 z=>⟨z.1,.inr z.2⟩
    case p2 =>
     clear hm b1 b2 b3
     rintro ⟨r,out,ia,ib,mg,ac,bc⟩ st3 ⟨hs,(⟨r',h1,hr⟩ | ⟨h1,hm,b1,b2,b3⟩)⟩
     ·dsimp -zeta only at h1 ⊢
      subst h1
      exact wpS_pure ⟨hs,r',rfl,hr⟩
     ·dsimp -zeta only at h1 hm b1 b2 b3 ⊢
      subst h1
      exact wpS_bind (wpS_modify (wpS_pure ⟨hs,rfl,hm,b1,b2,by dsimp only; omega⟩))
    case s2 =>
     clear hm b1 b2 b3
     rintro y ⟨r,out,ia,ib,mg,ac,bc⟩ st2 _ hy ⟨hs,g1,hm,b1,b2,b3⟩
     dsimp only at g1 hm b1 b2 b3
     refine mL fun Qx hQ=>?_
     extract_lets
     refine mM fun mg=>?_
     dsimp -zeta +zetaDelta only
     refine wpS_bind (jT fun st3 sg3=>?_)
     have sg:=hs.trans sg3
     refine wpS_bind (aX (by omega) fun p1 hp1=>?_)
     refine wpS_bind (bR hO (sg.1.trans hk) (by omega) (by omega) ha (hb _ _ hp1) fun k1 hk1=>?_)
     dsimp -zeta only
     extract_lets _ jp1
     have hj1:∀o i,MLo a b o i ib→i + 1 < a.size→x + 2≤i + ib→wpS (model prog w) A E s (jp1 () o i) Qx st3:=by
      clear hm b1 b3 g1 hy
      intro out ia m1 b1 b3
      dsimp -zeta only [jp1]
      refine wpS_bind (aX (by omega) fun q hq=>?_)
      try extract_lets
      refine ao (fun c5=>?_) (fun c5=>?_)
      ·simp only [beq_iff_eq] at c5
       exact wpS_pure (hQ _ _ ⟨sg,.inl ⟨_,rfl,(m1.pb hq).done⟩⟩)
      ·simp only [beq_iff_eq] at c5
       refine wpS_bind (aX (by omega) fun q2 hq2=>?_)
       refine wpS_bind (bR hO (sg.1.trans hk) (by omega) (by omega) hb (ha _ _ hq2) fun k2 hk2=>?_)
       dsimp -zeta only
       extract_lets _ jp2
       have hj2:∀o i,MLo a b o ia i→i < b.size→x + 2≤ia + i→wpS (model prog w) A E s (jp2 () o i) Qx st3:=by
        intro o i m2 h1 h2
        dsimp -zeta only [jp2]
        refine wpS_bind (aX (by omega) fun q3 hq3=>?_)
        dsimp only
        refine ao (fun c2=>?_) (fun c2=>?_)
        ·simp only [beq_iff_eq] at c2
         exact wpS_pure (hQ _ _ ⟨sg,.inl ⟨_,rfl,(m2.pa hq3).last⟩⟩)
        ·simp only [beq_iff_eq] at c2
         refine ao (fun c1=>?_) (fun c1=>?_)
         ·exact wpS_pure (hQ _ _ ⟨sg,.inr ⟨rfl,m2.pa hq3,by dsimp only; omega,by dsimp only; omega,by dsimp only; omega⟩⟩)
         ·exact wpS_pure (hQ _ _ ⟨sg,rfl,m2.pa hq3,by dsimp only; omega,by dsimp only; omega,by dsimp only; omega⟩)
       refine ao (fun c4=>?_) (fun c4=>?_)
       ·try extract_lets
        refine ao (fun c3=>?_) (fun c3=>?_)
        ·simp only [beq_iff_eq] at c3
         exact wpS_pure (hQ _ _ ⟨sg,.inl ⟨_,rfl,((m1.pb hq).cb k2).done⟩⟩)
        ·simp only [beq_iff_eq] at c3
         exact hj2 _ _ ((m1.pb hq).cb k2) (by omega) (by omega)
       ·exact hj2 _ _ (m1.pb hq) (by omega) (by omega)
     refine ao (fun c8=>?_) (fun c8=>?_)
     ·try extract_lets
      refine ao (fun c7=>?_) (fun c7=>?_)
      ·simp only [beq_iff_eq] at c7
       exact wpS_pure (hQ _ _ ⟨sg,.inl ⟨_,rfl,(hm.ca k1).last⟩⟩)
      ·simp only [beq_iff_eq] at c7
       refine ao (fun c6=>?_) (fun c6=>?_)
       ·simp only [beq_iff_eq] at c6
        exact wpS_pure (hQ _ _ ⟨sg,.inl ⟨_,rfl,(hm.ca k1).done⟩⟩)
       ·simp only [beq_iff_eq] at c6
        exact hj1 _ _ (hm.ca k1) (by omega) (by omega)
     ·exact hj1 _ _ hm (by omega) (by omega)
theorem mN {a:Array Keyed} {i:Nat} {p:Keyed} (e:a[i]? = some p):a.toList.take (i + 1)=a.toList.take i ++ [p]:=by
 rw [← Array.getElem?_toList] at e
 obtain ⟨h,rfl⟩:=List.getElem?_eq_some_iff.mp e
 rw [List.take_succ,List.getElem?_eq_getElem h]; rfl
theorem jV (a:Array Keyed) (i:Nat):(a.extract 0 i).toList=a.toList.take i:=by
 rw [Array.toList_extract,List.extract_eq_take_drop]; simp
theorem eY (a:Array Keyed) {i n:Nat} (h:i≤n):a.toList.take i ++ (a.extract i n).toList=a.toList.take n:=by
 obtain ⟨k,rfl⟩:∃k,n=i + k:=⟨n - i,by omega⟩
 rw [Array.toList_extract,List.extract_eq_take_drop,show i + k - i=k by omega]
 exact List.take_add.symm
def MHi (a b out:Array Keyed) (na nb:Nat):Prop:=(a.toList.take na ++ b.toList.take nb ++ out.toList.reverse).Perm (a.toList ++ b.toList)
theorem MHi.done {a b out:Array Keyed} {na nb:Nat} (h:MHi a b out na nb):(a.extract 0 na ++ b.extract 0 nb ++ out.reverse).Perm (a ++ b):=by
 rw [Array.perm_iff_toList_perm]
 simp only [Array.toList_append,jV,Array.toList_reverse]
 exact h
theorem MHi.first {a b out:Array Keyed} {na nb:Nat} (h:MHi a b out na nb):(b.extract 0 nb ++ a.extract 0 na ++ out.reverse).Perm (a ++ b):=by
 rw [Array.perm_iff_toList_perm]
 simp only [Array.toList_append,jV,Array.toList_reverse]
 exact List.Perm.trans (List.Perm.append_right _ List.perm_append_comm) h
theorem MHi.cb {a b out:Array Keyed} {na nb i:Nat} (h:MHi a b out na nb) (hi:i≤nb):MHi a b (out ++ (b.extract i nb).reverse) na i:=by
 unfold MHi at h ⊢
 rw [← eY b hi] at h
 rw [Array.toList_append,Array.toList_reverse,List.reverse_append,List.reverse_reverse]
 simpa only [List.append_assoc] using h
theorem MHi.ca {a b out:Array Keyed} {na nb i:Nat} (h:MHi a b out na nb) (hi:i≤na):MHi a b (out ++ (a.extract i na).reverse) i nb:=by
 unfold MHi at h ⊢
 rw [← eY a hi] at h
 refine List.Perm.trans ?_ h
 rw [Array.toList_append,Array.toList_reverse,List.reverse_append,List.reverse_reverse]
 simp only [List.append_assoc]
 refine List.Perm.append_left _ ?_
 rw [← List.append_assoc,← List.append_assoc]
 exact List.Perm.append_right _ List.perm_append_comm
theorem MHi.pb {a b out:Array Keyed} {na nb:Nat} {p:Keyed} (h:MHi a b out na nb) (h1:1≤nb) (e:b[nb - 1]? = some p):MHi a b (out.push p) na (nb - 1):=by
 unfold MHi at h ⊢
 rw [← show nb - 1 + 1=nb by omega,mN e] at h
 rw [Array.toList_push,List.reverse_append]
 simpa only [List.append_assoc,List.reverse_cons,List.reverse_nil,List.nil_append] using h
theorem MHi.pa {a b out:Array Keyed} {na nb:Nat} {p:Keyed} (h:MHi a b out na nb) (h1:1≤na) (e:a[na - 1]? = some p):MHi a b (out.push p) (na - 1) nb:=by
 unfold MHi at h ⊢
 rw [← show na - 1 + 1=na by omega,mN e] at h
 refine List.Perm.trans ?_ h
 rw [Array.toList_push,List.reverse_append]
 simp only [List.append_assoc,List.reverse_cons,List.reverse_nil,List.nil_append]
 refine List.Perm.append_left _ ?_
 rw [← List.append_assoc,← List.append_assoc]
 exact List.Perm.append_right _ List.perm_append_comm
theorem jW (hO:cf prog w A s κ0 κ) {st:SortSt} {a b:Array Keyed} {Q:Array Keyed→SortSt→Prop} (hk:kindOf st=κ0) (ha:KdA κ a) (hb:KdA κ b) (la:1≤a.size) (lb:1≤b.size)
  (h:∀r st',r.Perm (a ++ b)→SameG st st'→Q r st'):wpS (model prog w) A E s (qZ a b) Q st:=by
 refine wpS_bind (wpS_lift (wpAny_rule ⟨rfl,?_⟩))
 refine wpS_bind (aX (by omega) fun p hp=>?_)
 have m0:MHi a b #[p] (a.size - 1) b.size:=by
  have:MHi a b #[] a.size b.size:=by unfold MHi; rw [List.take_of_length_le (by simp),List.take_of_length_le (by simp)]; simp
  exact this.pa la hp
 dsimp -zeta only
 extract_lets
 refine ao (fun c1=>wpS_pure (h _ _ m0.done .rfl')) (fun c1=>?_)
 refine ao (fun c2=>wpS_pure (h _ _ m0.first .rfl')) (fun c2=>?_)
 simp only [beq_iff_eq] at c1 c2
 refine wpS_bind (wpS_get ?_)
 refine wpS_bind (wpS_mono (wpS_forRange (I:=fun x c st2=>SameG st st2∧c.1=none∧MHi a b c.2.2.2.1 c.2.1 c.2.2.1∧1≤c.2.1∧c.2.1 < a.size∧2≤c.2.2.1∧c.2.2.1≤b.size∧x + 1 + c.2.1 + c.2.2.1≤a.size + b.size)
  (Q:=fun c st2=>SameG st st2∧∃r,c.1=some r∧r.Perm (a ++ b)) ?step ?fin ⟨.rfl',rfl,m0,by dsimp only; omega,by dsimp only; omega,by dsimp only; omega⟩) ?post)
 case fin =>
  rintro ⟨r,ia,ib,out,mg⟩ st2 ⟨hs,h1,hm,b1,b2,b3⟩
  dsimp only at b1 b2 b3
  exact absurd b3 (by omega)
 case post =>
  rintro ⟨r,ia,ib,out,mg⟩ st2 ⟨hs,r',h1,hr⟩
  dsimp -zeta only at h1 ⊢
  subst h1
  exact wpS_pure (h _ _ hr hs)
 case step =>
  clear c1 c2 m0 la lb
  rintro x ⟨r,ia,ib,out,mg⟩ st2 _ hx ⟨hs,h1,hm,b1,b2,b3⟩
  dsimp -zeta only at h1 hm b1 b2 b3 ⊢
  refine wpS_bind (wpS_mono (wpS_forRange (I:=fun y c st3=>st3=st2∧c.1=none∧MHi a b c.2.2.2.1 c.2.1 c.2.2.1∧1≤c.2.1∧c.2.1 < a.size∧2≤c.2.2.1∧c.2.2.1≤b.size∧x + 1 + min y 1 + c.2.1 + c.2.2.1≤a.size + b.size)
   (Q:=fun c st3=>SameG st st3∧((∃r,c.1=some r∧r.Perm (a ++ b))∨(c.1=none∧MHi a b c.2.2.2.1 c.2.1 c.2.2.1∧1≤c.2.1∧c.2.1 < a.size∧2≤c.2.2.1∧c.2.2.1≤b.size∧x + 2 + c.2.1 + c.2.2.1≤a.size + b.size))) ?s1 ?f1 ⟨rfl,rfl,hm,b1,b2,by dsimp only; omega⟩) ?p1)
  case f1 =>
   rintro ⟨r,ia,ib,out,ac,bc⟩ st3 ⟨rfl,g1,g2,g3,g4,g5⟩
   dsimp only at g1 g2 g3 g4 g5
   exact ⟨hs,.inr ⟨g1,g2,g3,g4,by dsimp only; omega⟩⟩
  case s1 =>
   clear hm b1 b2 b3 hx
   rintro y ⟨r,ia,ib,out,ac,bc⟩ st3 _ hy ⟨rfl,g1,hm,b1,b2,b3⟩
   have sg:=hs
   dsimp only at g1 hm b1 b2 b3 ⊢
   refine wpS_bind (aX (by omega) fun p1 hp1=>?_)
   refine wpS_bind (aX (by omega) fun p2 hp2=>?_)
   refine wpS_bind (eX hO (sg.1.trans hk) (hb _ _ hp1) (ha _ _ hp2) fun bw=>?_)
   dsimp only
   refine ao (fun c10=>?_) (fun c10=>?_)
   ·refine wpS_bind (aX (by omega) fun q hq=>?_)
    refine ao (fun c7=>?_) (fun c7=>?_)
    ·simp only [beq_iff_eq] at c7
     exact wpS_pure ⟨sg,.inl ⟨_,rfl,(hm.pa (by omega) hq).done⟩⟩
    ·simp only [beq_iff_eq] at c7
     refine ao (fun c6=>?_) (fun c6=>?_)
     ·exact wpS_pure ⟨sg,.inr ⟨rfl,(hm.pa (by omega) hq),by dsimp only; omega,by dsimp only; omega,by dsimp only; omega⟩⟩
     ·exact wpS_pure ⟨rfl,rfl,(hm.pa (by omega) hq),by dsimp only; omega,by dsimp only; omega,by dsimp only; omega⟩
   ·refine wpS_bind (aX (by omega) fun q hq=>?_)
    refine ao (fun c9=>?_) (fun c9=>?_)
    ·simp only [beq_iff_eq] at c9
     exact wpS_pure ⟨sg,.inl ⟨_,rfl,(hm.pb (by omega) hq).first⟩⟩
    ·simp only [beq_iff_eq] at c9
     refine ao (fun c8=>?_) (fun c8=>?_)
     ·exact wpS_pure ⟨sg,.inr ⟨rfl,(hm.pb (by omega) hq),by dsimp only; omega,by dsimp only; omega,by dsimp only; omega⟩⟩
     ·exact wpS_pure ⟨rfl,rfl,(hm.pb (by omega) hq),by dsimp only; omega,by dsimp only; omega,by dsimp only; omega⟩
  case p1 =>
   clear hm b1 b2 b3 hx
   rintro ⟨r,ia,ib,out,ac,bc⟩ st3 ⟨hs,(⟨r',h1,hr⟩ | ⟨h1,hm,b1,b2,b3⟩)⟩
   ·dsimp -zeta only at h1 ⊢
    subst h1
    exact wpS_pure ⟨hs,r',rfl,hr⟩
   ·dsimp -zeta only at h1 hm b1 b2 b3 ⊢
    subst h1
    refine wpS_bind (wpS_lift (wpAny_rule ⟨rfl,?_⟩))
    refine wpS_bind (wpS_mono (wpS_forRange (I:=fun y c st3=>SameG st st3∧c.1=none∧MHi a b c.2.2.2.1 c.2.1 c.2.2.1∧1≤c.2.1∧c.2.1 < a.size∧2≤c.2.2.1∧c.2.2.1≤b.size∧x + 2 + c.2.1 + c.2.2.1≤a.size + b.size)
     (Q:=fun c st3=>SameG st st3∧((∃r,c.1=some r∧r.Perm (a ++ b))∨(c.1=none∧MHi a b c.2.2.2.1 c.2.1 c.2.2.1∧1≤c.2.1∧c.2.1 < a.size∧2≤c.2.2.1∧c.2.2.1≤b.size∧x + 2 + c.2.1 + c.2.2.1≤a.size + b.size))) ?s2 ?f2 ⟨hs,rfl,hm,b1,b2,b3⟩) ?p2)
    case f2=>exact fun c st3 z=>⟨z.1,.inr z.2⟩
    case p2 =>
     clear hm b1 b2 b3
     rintro ⟨r,ia,ib,out,mg,ac,bc⟩ st3 ⟨hs,(⟨r',h1,hr⟩ | ⟨h1,hm,b1,b2,b3⟩)⟩
     ·dsimp -zeta only at h1 ⊢
      subst h1
      exact wpS_pure ⟨hs,r',rfl,hr⟩
     ·dsimp -zeta only at h1 hm b1 b2 b3 ⊢
      subst h1
      exact wpS_bind (wpS_modify (wpS_pure ⟨hs,rfl,hm,b1,b2,by dsimp only; omega⟩))
    case s2 =>
     clear hm b1 b2 b3
     rintro y ⟨r,ia,ib,out,mg,ac,bc⟩ st2 _ hy ⟨hs,g1,hm,b1,b2,b3⟩
     dsimp only at g1 hm b1 b2 b3
     refine mL fun Qx hQ=>?_
     extract_lets
     refine mM fun mg=>?_
     dsimp -zeta +zetaDelta only
     refine wpS_bind (jT fun st3 sg3=>?_)
     have sg:=hs.trans sg3
     refine wpS_bind (aX (by omega) fun p1 hp1=>?_)
     refine wpS_bind (bR hO (sg.1.trans hk) (by omega) (by omega) ha (hb _ _ hp1) fun k1 hk1=>?_)
     dsimp -zeta only
     extract_lets _ _ jp1
     have bB:2≤ib∧ib≤b.size:=⟨b3.1,b3.2.1⟩
     have hj1:∀i o,MHi a b o i ib→1≤i→i < a.size→x + 2 + i + ib≤a.size + b.size→wpS (model prog w) A E s (jp1 () i o) Qx st3:=by
      clear hm b1 b3 g1 hy
      intro ia out m1 b1 b1' b3
      dsimp -zeta only [jp1]
      try extract_lets
      refine wpS_bind (aX (by omega) fun q hq=>?_)
      try extract_lets
      refine ao (fun c6=>?_) (fun c6=>?_)
      ·simp only [beq_iff_eq] at c6
       exact wpS_pure (hQ _ _ ⟨sg,.inl ⟨_,rfl,(m1.pb (by omega) hq).first⟩⟩)
      ·simp only [beq_iff_eq] at c6
       refine wpS_bind (aX (by omega) fun q2 hq2=>?_)
       refine wpS_bind (bR hO (sg.1.trans hk) (by omega) (by omega) hb (ha _ _ hq2) fun k2 hk2=>?_)
       dsimp -zeta only
       extract_lets _ _ jp2
       have hj2:∀i o,MHi a b o ia i→2≤i→i≤b.size→x + 2 + ia + i≤a.size + b.size→wpS (model prog w) A E s (jp2 () i o) Qx st3:=by
        intro i o m2 h1 h2 h3
        dsimp -zeta only [jp2]
        try extract_lets
        refine wpS_bind (aX (by omega) fun q3 hq3=>?_)
        dsimp only
        refine ao (fun c2=>?_) (fun c2=>?_)
        ·simp only [beq_iff_eq] at c2
         exact wpS_pure (hQ _ _ ⟨sg,.inl ⟨_,rfl,(m2.pa (by omega) hq3).done⟩⟩)
        ·simp only [beq_iff_eq] at c2
         refine ao (fun c1=>?_) (fun c1=>?_)
         ·exact wpS_pure (hQ _ _ ⟨sg,.inr ⟨rfl,(m2.pa (by omega) hq3),by dsimp only; omega,by dsimp only; omega,by dsimp only; omega⟩⟩)
         ·exact wpS_pure (hQ _ _ ⟨sg,rfl,(m2.pa (by omega) hq3),by dsimp only; omega,by dsimp only; omega,by dsimp only; omega⟩)
       refine ao (fun c5=>?_) (fun c5=>?_)
       ·try extract_lets
        refine ao (fun c4=>?_) (fun c4=>?_)
        ·simp only [beq_iff_eq] at c4
         exact wpS_pure (hQ _ _ ⟨sg,.inl ⟨_,rfl,((m1.pb (by omega) hq).cb hk2).first⟩⟩)
        ·simp only [beq_iff_eq] at c4
         refine ao (fun c3=>?_) (fun c3=>?_)
         ·simp only [beq_iff_eq] at c3
          exact wpS_pure (hQ _ _ ⟨sg,.inl ⟨_,rfl,((m1.pb (by omega) hq).cb hk2).done⟩⟩)
         ·simp only [beq_iff_eq] at c3
          exact hj2 _ _ ((m1.pb (by omega) hq).cb hk2) (by omega) (by omega) (by omega)
       ·exact hj2 _ _ (m1.pb (by omega) hq) (by omega) (by omega) (by omega)
     refine ao (fun c8=>?_) (fun c8=>?_)
     ·try extract_lets
      refine ao (fun c7=>?_) (fun c7=>?_)
      ·simp only [beq_iff_eq] at c7
       exact wpS_pure (hQ _ _ ⟨sg,.inl ⟨_,rfl,(hm.ca hk1).done⟩⟩)
      ·simp only [beq_iff_eq] at c7
       exact hj1 _ _ (hm.ca hk1) (by omega) (by omega) (by omega)
     ·exact hj1 _ _ hm (by omega) (by omega) (by omega)
end
end PyProof.Rows
set_option Elab.async false
set_option linter.all false
set_option maxRecDepth 100000
namespace PyProof.Rows
set_option autoImplicit false
open PySem
def Tile:List (Nat×Nat×Nat)→Nat→Nat→Prop
 | [],lo,hi=>lo=hi
 | x :: l,lo,hi=>x.1=lo∧1≤x.2.1∧Tile l (lo + x.2.1) hi
theorem Tile.le:∀ {l:List (Nat×Nat×Nat)} {lo hi:Nat},Tile l lo hi→lo≤hi
 | [],_,_,h=>Nat.le_of_eq h
 | x :: l,lo,hi,h=>Nat.le_trans (Nat.le_add_right _ _) (Tile.le h.2.2)
theorem Tile.two:∀ {l:List (Nat×Nat×Nat)} {i lo hi:Nat} {x y:Nat×Nat×Nat},Tile l lo hi→l[i]? = some x→l[i + 1]? = some y→∀q:Nat,
  y.1=x.1 + x.2.1∧1≤x.2.1∧1≤y.2.1∧y.1 + y.2.1≤hi∧Tile ((l.set i (x.1,x.2.1 + y.2.1,q)).eraseIdx (i + 1)) lo hi
 | x' :: y' :: l,0,lo,hi,x,y,h,e1,e2,q=>by
  cases e1; cases e2
  obtain ⟨h1,h2,h3,h4,h5⟩:=h
  refine ⟨by omega,h2,h4,by have:=h5.le; omega,h1,by show 1≤x'.2.1 + y'.2.1; omega,?_⟩
  show Tile l (lo + (x'.2.1 + y'.2.1)) hi
  rw [← Nat.add_assoc]; exact h5
 | [x'],0,_,_,_,_,_,_,e2,_=>by cases e2
 | [],_,_,_,_,_,_,e1,_,_=>by simp at e1
 | z :: l,i + 1,lo,hi,x,y,h,e1,e2,q=>by
  obtain ⟨h1,h2,h3⟩:=h
  obtain ⟨a1,a2,a3,a4,a5⟩:=Tile.two h3 (i:=i) (x:=x) (y:=y) (by simpa using e1) (by simpa using e2) q
  exact ⟨a1,a2,a3,a4,h1,h2,a5⟩
theorem Tile.push:∀ {l:List (Nat×Nat×Nat)} {lo hi n q:Nat},Tile l lo hi→1≤n→Tile (l ++ [(hi,n,q)]) lo (hi + n)
 | [],_,_,_,_,h,hn=>by cases h; exact ⟨rfl,hn,rfl⟩
 | x :: l,_,_,_,_,h,hn=>⟨h.1,h.2.1,Tile.push h.2.2 hn⟩
theorem Tile.upd {f:Nat×Nat×Nat→Nat×Nat×Nat} (hf:∀x,(f x).1=x.1∧(f x).2.1=x.2.1):∀ {l:List (Nat×Nat×Nat)} {lo hi:Nat} (i:Nat),Tile l lo hi→Tile (l.modify i f) lo hi
 | [],_,_,i,h=>by simpa using h
 | x :: l,_,_,0,h=>by
  show Tile (f x :: l) _ _
  exact ⟨(hf x).1.trans h.1,by rw [(hf x).2]; exact h.2.1,by rw [(hf x).2]; exact h.2.2⟩
 | x :: l,_,_,i + 1,h=>by
  show Tile (x :: l.modify i f) _ _
  exact ⟨h.1,h.2.1,Tile.upd hf i h.2.2⟩
theorem iM (sa:Nat):∀ (m:List Keyed) (j:Nat) (a:Array Keyed),sa + j + m.length≤a.size →
  ((m.zipIdx j).foldl (fun a (x:Keyed×Nat)=>match x with | (p,j)=>a.setIfInBounds (sa + j) p) a).toList=a.toList.take (sa + j) ++ m ++ a.toList.drop (sa + j + m.length)
 | [],j,a,h=>by simp
 | p :: m,j,a,h=>by
  rw [List.zipIdx_cons,List.foldl_cons]
  have hl:(p :: m).length=m.length + 1:=rfl
  rw [hl] at h ⊢
  rw [iM sa m (j + 1) _ (by rw [Array.size_setIfInBounds]; omega)]
  rw [Array.toList_setIfInBounds]
  have hj:sa + j < a.toList.length:=by simp; omega
  rw [show sa + (j + 1)=sa + j + 1 by omega,List.take_succ,List.getElem?_set_self hj,List.take_set_of_le (Nat.le_refl _),List.drop_set_of_lt (by omega),show sa + j + 1 + m.length=sa + j + (m.length + 1) by omega]
  simp
theorem tE {M:Model} {A:Around} {E:Value→Shared→Prop} {s:Shared} {σ:Type} {st st2:σ} {Q:PUnit→σ→Prop} (h:Q ⟨⟩ st2):wpS M A E s (set st2:StateT σ Sem PUnit) Q st:=by
 unfold wpS; rw [StateT.run_set]; exact wpAny_pure ⟨rfl,h⟩
structure SP (κ0:SortKind) (a₀:Array Keyed) (st:SortSt):Prop where
 perm:(arrOf st).Perm a₀
 kind:kindOf st=κ0
 failed:failedOf st=none
theorem SP.size {κ0:SortKind} {a₀:Array Keyed} {st:SortSt} (h:SP κ0 a₀ st):(arrOf st).size=a₀.size:=h.perm.size_eq
theorem SP.kd {κ0:SortKind} {κ:KeyKind} {a₀:Array Keyed} {st:SortSt} (h:SP κ0 a₀ st) (h0:KeysOf κ a₀):KdA κ (arrOf st):=fun i p e=>by
 have:p∈(arrOf st).toList:=by rw [← Array.getElem?_toList] at e; exact List.mem_of_getElem? e
 exact h0 _ ((Array.perm_iff_toList_perm.mp h.perm).mem_iff.mp this)
theorem KdA.ext {κ:KeyKind} {a:Array Keyed} (h:KdA κ a) (i j:Nat):KdA κ (a.extract i j):=fun k p e=>by
 rw [Array.getElem?_extract] at e
 split at e
 ·exact h _ _ e
 ·cases e
section
variable {prog:Program} {w:World} {A:Around} {E:Value→Shared→Prop} {s:Shared} {κ:KeyKind} {κ0:SortKind} {a₀:Array Keyed}
theorem dI (hO:cf prog w A s κ0 κ) (h0:KeysOf κ a₀) {st:SortSt} {i hi:Nat} {Q:Bool→SortSt→Prop} (hP:SP κ0 a₀ st) (hi2:i + 1 < (pendingOf st).size) (T:Tile (pendingOf st).toList 0 hi) (hh:hi≤a₀.size)
  (h:∀st',SP κ0 a₀ st'→Tile (pendingOf st').toList 0 hi→Q true st'):wpS (model prog w) A E s (mergeAt' i) Q st:=by
 refine wpS_bind (wpS_get ?_)
 obtain ⟨⟨sa,na,pw⟩,e1⟩:∃x,(pendingOf st)[i]? = some x:=⟨_,getElem?_pos (pendingOf st) i (by omega)⟩
 obtain ⟨⟨sb,nb,pw2⟩,e2⟩:∃x,(pendingOf st)[i + 1]? = some x:=⟨_,getElem?_pos (pendingOf st) (i + 1) hi2⟩
 obtain ⟨t1,t2,t3,t4,t5⟩:=T.two (by rw [Array.getElem?_toList]; exact e1) (by rw [Array.getElem?_toList]; exact e2) pw
 dsimp only at t1 t2 t3 t4 t5
 have hz:=hP.size
 have kd:=hP.kd h0
 rw [e1,e2]
 dsimp only
 refine wpS_bind (tE (st2:=SortSt.mk' (kindOf st) (arrOf st) (((pendingOf st).setIfInBounds i (sa,na + nb,pw)).eraseIdxIfInBounds (i + 1)) (gallopOf st) (failedOf st)) ?_)
 have T2:Tile (((pendingOf st).setIfInBounds i (sa,na + nb,pw)).eraseIdxIfInBounds (i + 1)).toList 0 hi:=by
  simpa using t5
 generalize hst2:SortSt.mk' (kindOf st) (arrOf st) (((pendingOf st).setIfInBounds i (sa,na + nb,pw)).eraseIdxIfInBounds (i + 1)) (gallopOf st) (failedOf st)=st2
 have P2:SP κ0 a₀ st2:=by subst hst2; exact ⟨hP.perm,hP.kind,hP.failed⟩
 have A2:arrOf st2=arrOf st:=by subst hst2; rfl
 have T3:Tile (pendingOf st2).toList 0 hi:=by subst hst2; exact T2
 refine wpS_bind (aX (arr:=arrOf st) (i:=sb) (by omega) fun p hp=>?_)
 refine wpS_bind (bR (arr:=arrOf st) (base:=sa) (n:=na) hO P2.kind (by omega) (by omega) kd (kd _ _ hp) fun k hk=>?_)
 dsimp only
 refine ao (fun c1=>wpS_pure (h _ P2 T3)) (fun c1=>?_)
 simp only [beq_iff_eq] at c1
 refine wpS_bind (aX (arr:=arrOf st) (i:=sa + k + (na - k) - 1) (by omega) fun q hq=>?_)
 refine wpS_bind (bR (arr:=arrOf st) (base:=sb) (n:=nb) hO P2.kind (by omega) (by omega) kd (kd _ _ hq) fun k2 hk2=>?_)
 dsimp only
 refine ao (fun c2=>wpS_pure (h _ P2 T3)) (fun c2=>?_)
 simp only [beq_iff_eq] at c2
 have fin:∀ (r:Array Keyed) (st3:SortSt),r.Perm ((arrOf st).extract (sa + k) sb ++ (arrOf st).extract sb (sb + k2))→SameG st2 st3 →
   wpS (model prog w) A E s ((modify fun (s:SortSt)=>setArr s (r.toList.zipIdx.foldl (fun a (x:Keyed×Nat)=>match x with | (p,j)=>a.setIfInBounds (sa + k + j) p) (arrOf s))) >>= fun _=>(get:StateT SortSt Sem SortSt) >>= fun s=>pure (failedOf s).isNone) Q st3:=by
  intro r st3 hr hg
  refine wpS_bind (wpS_modify (wpS_bind (wpS_get (wpS_pure ?_))))
  have hrl:=Array.perm_iff_toList_perm.mp hr
  have hlen:r.toList.length=sb + k2 - (sa + k):=by
   rw [hrl.length_eq]; simp; omega
  have hw:=iM (sa + k) r.toList 0 (arrOf st3) (by rw [hg.2.1,A2,hlen]; omega)
  have e:failedOf st3=none:=hg.2.2.2.trans P2.failed
  show Q (failedOf st3).isNone _
  rw [e]
  refine h _ ⟨?_,hg.1.trans P2.kind,hg.2.2.2.trans P2.failed⟩ (by show Tile (pendingOf st3).toList 0 hi; rw [hg.2.2.1]; exact T3)
  refine Array.Perm.trans ?_ hP.perm
  rw [Array.perm_iff_toList_perm]
  show List.Perm (r.toList.zipIdx.foldl _ (arrOf st3)).toList _
  rw [hw,hg.2.1,A2,hlen,Nat.add_zero,show sa + k + (sb + k2 - (sa + k))=sb + k2 by omega]
  have e3:(arrOf st).toList=(arrOf st).toList.take (sa + k) ++ ((arrOf st).extract (sa + k) sb ++ (arrOf st).extract sb (sb + k2)).toList ++ (arrOf st).toList.drop (sb + k2):=by
   rw [Array.toList_append,← List.append_assoc,eY _ (by omega),eY _ (by omega),List.take_append_drop]
  conv=>rhs; rw [e3]
  exact List.Perm.append_right _ (List.Perm.append_left _ hrl)
 have sx:((arrOf st).extract (sa + k) sb).size=sb - (sa + k):=by rw [Array.size_extract]; omega
 have sy:((arrOf st).extract sb (sb + k2)).size=k2:=by rw [Array.size_extract]; omega
 refine ao (fun c3=>?_) (fun c3=>?_)
 ·exact wpS_bind (jU hO P2.kind (kd.ext _ _) (kd.ext _ _) (by rw [sx]; omega) (by rw [sy]; omega) fin)
 ·exact wpS_bind (jW hO P2.kind (kd.ext _ _) (kd.ext _ _) (by rw [sx]; omega) (by rw [sy]; omega) fin)
theorem bL (hO:cf prog w A s κ0 κ) (h0:KeysOf κ a₀) {st:SortSt} {i j:Nat} {Q:Option Bool→SortSt→Prop} (hP:SP κ0 a₀ st) (hi:i < a₀.size) (hj:j < a₀.size) (h:∀b,Q (some b) st) :
  wpS (model prog w) A E s (ltAt' i j) Q st:=by
 have kd:=hP.kd h0
 have hz:=hP.size
 refine wpS_bind (wpS_get ?_)
 refine wpS_bind (aX (arr:=arrOf st) (by omega) fun p hp=>?_)
 refine wpS_bind (aX (arr:=arrOf st) (by omega) fun q hq=>?_)
 exact eX hO hP.kind (kd _ _ hp) (kd _ _ hq) h
def SPp (κ0:SortKind) (a₀:Array Keyed) (p:Array (Nat×Nat×Nat)) (st:SortSt):Prop:=SP κ0 a₀ st∧pendingOf st=p
theorem bM {st:SortSt} {p:Array (Nat×Nat×Nat)} {i j:Nat} {Q:Unit→SortSt→Prop} (hP:SPp κ0 a₀ p st) (h:∀st',SPp κ0 a₀ p st'→Q () st'):wpS (model prog w) A E s (reverseSlice' i j) Q st:=by
 rw [reverseSlice'_eq]
 exact wpS_modify (h _ ⟨⟨(mirror_perm _ _ _ _).trans hP.1.perm,hP.1.kind,hP.1.failed⟩,hP.2⟩)
theorem nW {st:SortSt} {p:Array (Nat×Nat×Nat)} {i j:Nat} {Q:Unit→SortSt→Prop} (hP:SPp κ0 a₀ p st) (h:∀st',SPp κ0 a₀ p st'→Q () st'):wpS (model prog w) A E s (moveDown' i j) Q st:=by
 rw [moveDown'_eq]
 exact wpS_modify (h _ ⟨⟨(bubble_perm _ _ _).trans hP.1.perm,hP.1.kind,hP.1.failed⟩,hP.2⟩)
theorem jX (hO:cf prog w A s κ0 κ) (h0:KeysOf κ a₀) {st:SortSt} {p:Array (Nat×Nat×Nat)} {lo n ok:Nat} {Q:Bool→SortSt→Prop} (hP:SPp κ0 a₀ p st) (hn:lo + n≤a₀.size)
  (h:∀st',SPp κ0 a₀ p st'→Q true st'):wpS (model prog w) A E s (binarySort' lo n ok) Q st:=by
 refine wpS_bind (wpS_mono (wpS_forRange (I:=fun _ c st'=>c.1=none∧SPp κ0 a₀ p st') (Q:=fun c st'=>c.1=none∧SPp κ0 a₀ p st') ?step (fun _ _ z=>z) ⟨rfl,hP⟩) ?post)
 case post =>
  rintro ⟨r,u⟩ st' ⟨h1,hP'⟩
  dsimp only at h1 ⊢
  subst h1
  exact wpS_pure (h _ hP')
 case step =>
  rintro k ⟨r,u⟩ st' _ hk ⟨h1,hP'⟩
  dsimp only
  refine wpS_bind (wpS_mono (wpS_forRange (I:=fun _ c st2=>c.1=none∧c.2.2≤k∧st2=st') (Q:=fun c st2=>c.1=none∧st2=st') ?_ (fun _ _ z=>⟨z.1,z.2.2⟩) ⟨rfl,Nat.le_refl _,rfl⟩) ?_)
  ·rintro j ⟨r,l,q⟩ st2 _ _ ⟨g1,g2,rfl⟩
   dsimp only at g1 g2 ⊢
   refine ao (fun c1=>wpS_pure ⟨rfl,rfl⟩) (fun c1=>?_)
   refine wpS_bind (bL hO h0 hP'.1 (by omega) (by omega) fun b=>?_)
   dsimp only
   refine ao (fun c2=>wpS_pure ⟨rfl,by dsimp only; omega,rfl⟩) (fun c2=>wpS_pure ⟨rfl,by dsimp only; omega,rfl⟩)
  ·rintro ⟨r,l,q⟩ st2 ⟨g1,rfl⟩
   dsimp only at g1 ⊢
   subst g1
   exact wpS_bind (nW hP' fun st3 hP3=>wpS_pure ⟨rfl,hP3⟩)
theorem lF (hO:cf prog w A s κ0 κ) (h0:KeysOf κ a₀) {st:SortSt} {p:Array (Nat×Nat×Nat)} {lo nrem:Nat} {Q:Option Nat→SortSt→Prop} (hP:SPp κ0 a₀ p st) (hn:lo + nrem≤a₀.size) (h1:1≤nrem)
  (h:∀n st',1≤n→n≤nrem→SPp κ0 a₀ p st'→Q (some n) st'):wpS (model prog w) A E s (countRun' lo nrem) Q st:=by
 refine wpS_bind (wpS_mono (wpS_forRange (I:=fun i c st'=>c.1=none∧1≤c.2∧c.2≤i∧st'=st) (Q:=fun c st'=>c.1=none∧1≤c.2∧c.2≤nrem∧st'=st) ?step (fun c _ z=>⟨z.1,z.2.1,by have:=z.2.2.1; omega,z.2.2.2⟩) ⟨rfl,Nat.le_refl _,Nat.le_refl _,rfl⟩) ?post)
 case step =>
  rintro i ⟨r,n⟩ st' _ hi ⟨g1,g2,g3,rfl⟩
  dsimp only at g1 g2 g3 ⊢
  refine wpS_bind (bL hO h0 hP.1 (by omega) (by omega) fun b=>?_)
  dsimp only
  exact ao (fun c2=>wpS_pure ⟨rfl,g2,by dsimp only; omega,rfl⟩) (fun c2=>wpS_pure ⟨rfl,by dsimp only; omega,by dsimp only; omega,rfl⟩)
 case post =>
  rintro ⟨r,n⟩ st' ⟨g1,g2,g3,rfl⟩
  dsimp only at g1 g2 g3 ⊢
  subst g1
  refine ao (fun c1=>wpS_pure (h _ _ g2 g3 hP)) (fun c1=>?_)
  simp only [beq_iff_eq] at c1
  refine ao (fun c2=>?_) (fun c2=>?_)
  ·refine wpS_bind (bL hO h0 hP.1 (by omega) (by omega) fun b=>?_)
   dsimp only
   refine ao (fun c3=>wpS_pure (h _ _ g2 g3 hP)) (fun c3=>?_)
   refine wpS_bind (bM hP fun st2 P2=>?_)
   refine wpS_bind (wpS_lift (wpAny_rule ⟨rfl,?_⟩))
   refine wpS_bind (wpS_mono (wpS_forRange (I:=fun i c st'=>c.1=none∧1≤c.2.1∧c.2.1≤i∧SPp κ0 a₀ p st') (Q:=fun c st'=>c.1=none∧1≤c.2.1∧c.2.1≤nrem∧SPp κ0 a₀ p st') ?_ (fun c _ z=>⟨z.1,z.2.1,by have:=z.2.2.1; omega,z.2.2.2⟩) ⟨rfl,by dsimp only; omega,Nat.le_refl _,P2⟩) ?_)
   ·rintro i ⟨r,n2,nq⟩ st3 _ hi ⟨g1,g2,g3,P3⟩
    dsimp only at g1 g2 g3 ⊢
    refine wpS_bind (bL hO h0 P3.1 (by omega) (by omega) fun b=>?_)
    dsimp only
    refine ao (fun c4=>?_) (fun c4=>?_)
    ·refine ao (fun c5=>?_) (fun c5=>?_)
     ·exact wpS_bind (bM P3 fun st4 P4=>wpS_pure ⟨rfl,by dsimp only; omega,by dsimp only; omega,P4⟩)
     ·exact wpS_pure ⟨rfl,by dsimp only; omega,by dsimp only; omega,P3⟩
    ·refine wpS_bind (bL hO h0 P3.1 (by omega) (by omega) fun b=>?_)
     dsimp only
     exact ao (fun c5=>wpS_pure ⟨rfl,g2,by dsimp only; omega,P3⟩) (fun c5=>wpS_pure ⟨rfl,by dsimp only; omega,by dsimp only; omega,P3⟩)
   ·rintro ⟨r,n2,nq⟩ st3 ⟨g1,g2,g3,P3⟩
    dsimp only at g1 g2 g3 ⊢
    subst g1
    refine ao (fun c6=>?_) (fun c6=>?_)
    ·refine wpS_bind (bM P3 fun st4 P4=>?_)
     refine wpS_bind (bM P4 fun st5 P5=>?_)
     refine wpS_bind (wpS_mono (wpS_forRange (I:=fun i c st'=>c.1=none∧1≤c.2∧c.2≤i∧st'=st5) (Q:=fun c st'=>c.1=none∧1≤c.2∧c.2≤nrem∧st'=st5) ?_ (fun c _ z=>⟨z.1,z.2.1,by have:=z.2.2.1; omega,z.2.2.2⟩) ⟨rfl,g2,Nat.le_refl _,rfl⟩) ?_)
     ·rintro i ⟨r,n3⟩ st6 _ hi ⟨g1,g2,g3,rfl⟩
      dsimp only at g1 g2 g3 ⊢
      refine wpS_bind (bL hO h0 P5.1 (by omega) (by omega) fun b=>?_)
      dsimp only
      exact ao (fun c2=>wpS_pure ⟨rfl,g2,by dsimp only; omega,rfl⟩) (fun c2=>wpS_pure ⟨rfl,by dsimp only; omega,by dsimp only; omega,rfl⟩)
     ·rintro ⟨r,n3⟩ st6 ⟨g1,g2,g3,rfl⟩
      dsimp only at g1 g2 g3 ⊢
      subst g1
      exact wpS_pure (h _ _ g2 g3 P5)
    ·refine wpS_bind (bM P3 fun st5 P5=>?_)
     refine wpS_bind (wpS_mono (wpS_forRange (I:=fun i c st'=>c.1=none∧1≤c.2∧c.2≤i∧st'=st5) (Q:=fun c st'=>c.1=none∧1≤c.2∧c.2≤nrem∧st'=st5) ?_ (fun c _ z=>⟨z.1,z.2.1,by have:=z.2.2.1; omega,z.2.2.2⟩) ⟨rfl,g2,Nat.le_refl _,rfl⟩) ?_)
     ·rintro i ⟨r,n3⟩ st6 _ hi ⟨g1,g2,g3,rfl⟩
      dsimp only at g1 g2 g3 ⊢
      refine wpS_bind (bL hO h0 P5.1 (by omega) (by omega) fun b=>?_)
      dsimp only
      exact ao (fun c2=>wpS_pure ⟨rfl,g2,by dsimp only; omega,rfl⟩) (fun c2=>wpS_pure ⟨rfl,by dsimp only; omega,by dsimp only; omega,rfl⟩)
     ·rintro ⟨r,n3⟩ st6 ⟨g1,g2,g3,rfl⟩
      dsimp only at g1 g2 g3 ⊢
      subst g1
      exact wpS_pure (h _ _ g2 g3 P5)
  ·have P2:=hP
   refine wpS_bind (wpS_lift (wpAny_rule ⟨rfl,?_⟩))
   refine wpS_bind (wpS_mono (wpS_forRange (I:=fun i c st'=>c.1=none∧1≤c.2.1∧c.2.1≤i∧SPp κ0 a₀ p st') (Q:=fun c st'=>c.1=none∧1≤c.2.1∧c.2.1≤nrem∧SPp κ0 a₀ p st') ?_ (fun c _ z=>⟨z.1,z.2.1,by have:=z.2.2.1; omega,z.2.2.2⟩) ⟨rfl,by dsimp only; omega,Nat.le_refl _,P2⟩) ?_)
   ·rintro i ⟨r,n2,nq⟩ st3 _ hi ⟨g1,g2,g3,P3⟩
    dsimp only at g1 g2 g3 ⊢
    refine wpS_bind (bL hO h0 P3.1 (by omega) (by omega) fun b=>?_)
    dsimp only
    refine ao (fun c4=>?_) (fun c4=>?_)
    ·refine ao (fun c5=>?_) (fun c5=>?_)
     ·exact wpS_bind (bM P3 fun st4 P4=>wpS_pure ⟨rfl,by dsimp only; omega,by dsimp only; omega,P4⟩)
     ·exact wpS_pure ⟨rfl,by dsimp only; omega,by dsimp only; omega,P3⟩
    ·refine wpS_bind (bL hO h0 P3.1 (by omega) (by omega) fun b=>?_)
     dsimp only
     exact ao (fun c5=>wpS_pure ⟨rfl,g2,by dsimp only; omega,P3⟩) (fun c5=>wpS_pure ⟨rfl,by dsimp only; omega,by dsimp only; omega,P3⟩)
   ·rintro ⟨r,n2,nq⟩ st3 ⟨g1,g2,g3,P3⟩
    dsimp only at g1 g2 g3 ⊢
    subst g1
    refine ao (fun c6=>?_) (fun c6=>?_)
    ·refine wpS_bind (bM P3 fun st4 P4=>?_)
     refine wpS_bind (bM P4 fun st5 P5=>?_)
     refine wpS_bind (wpS_mono (wpS_forRange (I:=fun i c st'=>c.1=none∧1≤c.2∧c.2≤i∧st'=st5) (Q:=fun c st'=>c.1=none∧1≤c.2∧c.2≤nrem∧st'=st5) ?_ (fun c _ z=>⟨z.1,z.2.1,by have:=z.2.2.1; omega,z.2.2.2⟩) ⟨rfl,g2,Nat.le_refl _,rfl⟩) ?_)
     ·rintro i ⟨r,n3⟩ st6 _ hi ⟨g1,g2,g3,rfl⟩
      dsimp only at g1 g2 g3 ⊢
      refine wpS_bind (bL hO h0 P5.1 (by omega) (by omega) fun b=>?_)
      dsimp only
      exact ao (fun c2=>wpS_pure ⟨rfl,g2,by dsimp only; omega,rfl⟩) (fun c2=>wpS_pure ⟨rfl,by dsimp only; omega,by dsimp only; omega,rfl⟩)
     ·rintro ⟨r,n3⟩ st6 ⟨g1,g2,g3,rfl⟩
      dsimp only at g1 g2 g3 ⊢
      subst g1
      exact wpS_pure (h _ _ g2 g3 P5)
    ·refine wpS_bind (bM P3 fun st5 P5=>?_)
     refine wpS_bind (wpS_mono (wpS_forRange (I:=fun i c st'=>c.1=none∧1≤c.2∧c.2≤i∧st'=st5) (Q:=fun c st'=>c.1=none∧1≤c.2∧c.2≤nrem∧st'=st5) ?_ (fun c _ z=>⟨z.1,z.2.1,by have:=z.2.2.1; omega,z.2.2.2⟩) ⟨rfl,g2,Nat.le_refl _,rfl⟩) ?_)
     ·rintro i ⟨r,n3⟩ st6 _ hi ⟨g1,g2,g3,rfl⟩
      dsimp only at g1 g2 g3 ⊢
      refine wpS_bind (bL hO h0 P5.1 (by omega) (by omega) fun b=>?_)
      dsimp only
      exact ao (fun c2=>wpS_pure ⟨rfl,g2,by dsimp only; omega,rfl⟩) (fun c2=>wpS_pure ⟨rfl,by dsimp only; omega,by dsimp only; omega,rfl⟩)
     ·rintro ⟨r,n3⟩ st6 ⟨g1,g2,g3,rfl⟩
      dsimp only at g1 g2 g3 ⊢
      subst g1
      exact wpS_pure (h _ _ g2 g3 P5)
theorem ij (hO:cf prog w A s κ0 κ) (h0:KeysOf κ a₀) {st:SortSt} {Q:Unit→SortSt→Prop} (hP:SPp κ0 a₀ #[] st)
  (h:∀st',SP κ0 a₀ st'→Q () st'):wpS (model prog w) A E s sortRuns' Q st:=by
 refine wpS_bind (wpS_get ?_)
 have hz:(arrOf st).size=a₀.size:=hP.1.size
 refine wpS_bind (wpS_mono (wpS_forRange (I:=fun _ c st'=>c.1=none∧SP κ0 a₀ st'∧Tile (pendingOf st').toList 0 c.2∧c.2≤a₀.size) (Q:=fun c st'=>c.1=none∧SP κ0 a₀ st'∧Tile (pendingOf st').toList 0 c.2∧c.2≤a₀.size) ?step (fun _ _ z=>z) ⟨rfl,hP.1,by rw [hP.2]; rfl,Nat.zero_le _⟩) ?post)
 case post =>
  rintro ⟨r,lo⟩ st1 ⟨g1,P1,T1,l1⟩
  dsimp only at g1 T1 l1 ⊢
  subst g1
  refine wpS_bind (wpS_mono (wpS_forRange (I:=fun _ c st'=>c.1=none∧SP κ0 a₀ st'∧Tile (pendingOf st').toList 0 lo) (Q:=fun c st'=>c.1=none∧SP κ0 a₀ st') ?_ (fun _ _ z=>⟨z.1,z.2.1⟩) ⟨rfl,P1,T1⟩) ?_)
  ·rintro i ⟨r,u⟩ st2 _ _ ⟨g1,P2,T2⟩
   refine wpS_bind (wpS_get ?_)
   refine ao (fun c1=>wpS_pure ⟨rfl,P2⟩) (fun c1=>?_)
   have c2:1 < (pendingOf st2).size:=Nat.lt_of_not_le c1
   refine wpS_bind (dI hO h0 P2 ?_ T2 l1 fun st3 P3 T3=>?_)
   ·have ie:∀ (c:Prop) [Decidable c] (x y z:Nat),x < z→y < z→(if c then x else y) < z:=fun c _ x y z h1 h2=>by split <;> assumption
    exact Nat.lt_of_lt_of_le (Nat.add_lt_add_right (ie _ _ _ _ (show (pendingOf st2).size - 2 - 1 < (pendingOf st2).size - 1 by omega) (show (pendingOf st2).size - 2 < (pendingOf st2).size - 1 by omega)) 1) (by omega)
   ·exact ao (fun c3=>absurd c3 (by decide)) (fun c3=>wpS_pure ⟨rfl,P3,T3⟩)
  ·rintro ⟨r,u⟩ st2 ⟨g1,P2⟩
   dsimp only at g1 ⊢
   subst g1
   exact wpS_pure (h _ P2)
 case step =>
  rintro i ⟨r,lo⟩ st1 _ _ ⟨g1,P1,T1,l1⟩
  dsimp only at g1 T1 l1 ⊢
  refine ao (fun c1=>wpS_pure ⟨rfl,P1,T1,l1⟩) (fun c1=>?_)
  have c2:lo < a₀.size:=by have:¬ (arrOf st).size≤lo:=c1; omega
  refine wpS_bind (lF hO h0 ⟨P1,rfl⟩ (nrem:=(arrOf st).size - lo) (by omega) (by omega) fun n st2 n1 n2 P2=>?_)
  have hz':=hz
  unfold arrOf at hz' n2
  rw [hz'] at n2
  simp only [hz']
  refine ao (fun c3=>?_) (fun c3=>?_)
  ·refine wpS_bind (wpS_lift (wpAny_rule ⟨rfl,?_⟩))
   obtain ⟨mn,hmn⟩:∃mn,min (a₀.size - lo) (minRun' a₀.size a₀.size 0)=mn:=⟨_,rfl⟩
   have h1mn:1≤mn∧lo + mn≤a₀.size:=by
    have:n < minRun' a₀.size a₀.size 0:=c3
    omega
   unfold minRun' at hmn
   simp only [hmn]
   refine wpS_bind (jX hO h0 P2 ?_ fun st3 P3=>?_)
   ·skip
    omega
   refine ao (fun c4=>absurd c4 (by decide)) (fun c4=>?_)
   have TX:=T1
   rw [← P3.2] at TX
   have nx:1≤mn∧lo + mn≤a₀.size:=by omega
   refine wpS_bind (wpS_get ?_)
   split
   ·refine wpS_bind (wpS_mono (wpS_forRange (I:=fun _ c st'=>c.1=none∧SP κ0 a₀ st'∧Tile (pendingOf st').toList 0 lo) (Q:=fun c st'=>c.1=none∧SP κ0 a₀ st'∧Tile (pendingOf st').toList 0 lo) ?_ (fun _ _ z=>z) ⟨rfl,P3.1,TX⟩) ?_)
    ·rintro i ⟨r,u⟩ st4 _ _ ⟨_,P4,T4⟩
     refine wpS_bind (wpS_get ?_)
     split
     ·rename_i he
      refine ao (fun c5=>wpS_pure ⟨rfl,P4,T4⟩) (fun c5=>?_)
      refine wpS_bind (dI hO h0 P4 ?_ T4 l1 fun st5 P5 T5=>?_)
      ·have z:1 < (pendingOf st4).size:=by
        split at he
        ·assumption
        ·cases he
       show (pendingOf st4).size - 2 + 1 < (pendingOf st4).size
       omega
      ·exact ao (fun c=>absurd c (by decide)) (fun _=>wpS_pure ⟨rfl,P5,T5⟩)
     ·exact wpS_pure ⟨rfl,P4,T4⟩
    ·rintro ⟨r,u⟩ st4 ⟨g1,P4,T4⟩
     dsimp only at g1 ⊢
     subst g1
     refine wpS_bind (wpS_modify ?_)
     refine wpS_bind (wpS_modify (wpS_pure ⟨rfl,⟨P4.perm,P4.kind,P4.failed⟩,?_,?_⟩))
     ·show Tile (((pendingOf st4).modify _ _).push _).toList 0 _
      rw [Array.toList_push]
      refine Tile.push ?_ nx.1
      rw [Array.toList_modify]
      refine Tile.upd ?_ _ T4
      exact fun _=>⟨rfl,rfl⟩
     ·exact nx.2
   ·refine wpS_bind (wpS_modify (wpS_pure ⟨rfl,⟨P3.1.perm,P3.1.kind,P3.1.failed⟩,?_,?_⟩))
    ·show Tile (Array.push _ _).toList 0 _
     rw [Array.toList_push]
     exact Tile.push TX nx.1
    ·exact nx.2
  ·skip
   have TX:=T1
   rw [← P2.2] at TX
   have nx:1≤n∧lo + n≤a₀.size:=by omega
   refine wpS_bind (wpS_get ?_)
   split
   ·refine wpS_bind (wpS_mono (wpS_forRange (I:=fun _ c st'=>c.1=none∧SP κ0 a₀ st'∧Tile (pendingOf st').toList 0 lo) (Q:=fun c st'=>c.1=none∧SP κ0 a₀ st'∧Tile (pendingOf st').toList 0 lo) ?_ (fun _ _ z=>z) ⟨rfl,P2.1,TX⟩) ?_)
    ·rintro i ⟨r,u⟩ st4 _ _ ⟨_,P4,T4⟩
     refine wpS_bind (wpS_get ?_)
     split
     ·rename_i he
      refine ao (fun c5=>wpS_pure ⟨rfl,P4,T4⟩) (fun c5=>?_)
      refine wpS_bind (dI hO h0 P4 ?_ T4 l1 fun st5 P5 T5=>?_)
      ·have z:1 < (pendingOf st4).size:=by
        split at he
        ·assumption
        ·cases he
       show (pendingOf st4).size - 2 + 1 < (pendingOf st4).size
       omega
      ·exact ao (fun c=>absurd c (by decide)) (fun _=>wpS_pure ⟨rfl,P5,T5⟩)
     ·exact wpS_pure ⟨rfl,P4,T4⟩
    ·rintro ⟨r,u⟩ st4 ⟨g1,P4,T4⟩
     dsimp only at g1 ⊢
     subst g1
     refine wpS_bind (wpS_modify ?_)
     refine wpS_bind (wpS_modify (wpS_pure ⟨rfl,⟨P4.perm,P4.kind,P4.failed⟩,?_,?_⟩))
     ·show Tile (((pendingOf st4).modify _ _).push _).toList 0 _
      rw [Array.toList_push]
      refine Tile.push ?_ nx.1
      rw [Array.toList_modify]
      refine Tile.upd ?_ _ T4
      exact fun _=>⟨rfl,rfl⟩
     ·exact nx.2
   ·refine wpS_bind (wpS_modify (wpS_pure ⟨rfl,⟨P2.1.perm,P2.1.kind,P2.1.failed⟩,?_,?_⟩))
    ·show Tile (Array.push _ _).toList 0 _
     rw [Array.toList_push]
     exact Tile.push TX nx.1
    ·exact nx.2
end
end PyProof.Rows
set_option Elab.async false
set_option linter.all false
set_option maxRecDepth 100000
namespace PyProof.Rows
set_option autoImplicit false
open PySem
section
variable {prog:Program} {w:World} {A:Around} {E:Value→Shared→Prop} {s:Shared}
theorem gg {κ:KeyKind} {κ0:SortKind} {a:Addr} {vs:List Value} {n:Nat} {P:Fin→Shared→Prop} (ho:s.heap.get? a=some (seqObj "list" vs.toArray n))
  (h0:KeysOf κ (pairsOf vs)) (hkk:∀s':Shared,(∀b o,b≠a→s.heap.get? b=some o→s'.heap.get? b=some o)→cf prog w A s' κ0 κ∧∀v₁ v₂ rest,vs=v₁ :: v₂ :: rest→∀ (Q:SortKind→Shared→Prop),Q κ0 s'→wpAny (model prog w) A (keyKind' (v₁ :: v₂ :: rest).toArray) Q E s') (h64:vs.length < 4096)
  (h:∀st':SortSt,(arrOf st').Perm (pairsOf vs)→P (.done (.ret .none)) { s with heap:=sortedHeap s.heap a vs ((arrOf st').map (·.2)) }) :
  wpAny (model prog w) A (Builtin.«list.sort» ⟨[.ref a],[]⟩) P E s:=by
 rw [list_sort_plain]
 have ha:a < s.heap.objs.size:=Heap.lt_size ho
 refine wpAny_bind (listItems_at ho rfl ?_)
 refine wpAny_bind (listUpdate_at ho rfl ?_)
 obtain ⟨e1,ho1⟩:∃e1,(s.heap.update a (Obj.mapSeq fun _=>#[])).get? a=some (seqObj "list" #[] e1):=⟨_,get?_update_seq ho (fun _=>#[])⟩
 refine wpAny_bind (seqEpoch_at ho1 rfl ?_)
 refine wpAny_bind (wpAny_newTuple ?_)
 refine wpAny_bind (wpAny_newList ?_)
 refine wpAny_holding ?_
 have ho6:(((s.heap.update a (Obj.mapSeq fun _=>#[])).push (seqObj "tuple" vs.toArray 0)).push (seqObj "list" #[] 0)).get? a=some (seqObj "list" #[] e1):=by
  rw [Heap.get?_push_ne _ _ _ (by rw [size_push',Heap.size_update]; exact Nat.ne_of_lt (Nat.lt_succ_of_lt ha)),Heap.get?_push_ne _ _ _ (by rw [Heap.size_update]; exact Nat.ne_of_lt ha)]
  exact ho1
 show wpAny (model prog w) A _ P E { s with heap:=((s.heap.update a (Obj.mapSeq fun _=>#[])).push (seqObj "tuple" vs.toArray 0)).push (seqObj "list" #[] 0) }
 dsimp only
 have hsz:vs.toArray.size=vs.length:=by simp
 have fin:=h
 by_cases h2:vs.toArray.size < 2
 ·rw [if_pos h2,if_pos h2]
  refine wpAny_bind (wpAny_pure ?_)
  rw [StateT.run_pure]
  refine wpAny_bind (wpAny_pure ?_)
  dsimp only
  refine wpAny_bind (seqEpoch_at ho6 rfl ?_)
  refine wpAny_bind (listUpdate_at ho6 rfl ?_ (hsz2:=by rw [Array.size_map]; show (pairsOf vs).size≤_; rw [pairsOf_size,sizeLine_eq]; omega))
  simp only [bne_self_eq_false,Bool.false_eq_true,if_false]
  exact wpAny_pure (fin (SortSt.mk' general' (vs.toArray.zip vs.toArray) #[] 7 none) (Array.Perm.refl _))
 ·rw [if_neg h2,if_neg h2]
  obtain ⟨v₁,v₂,rest,rfl⟩:∃v₁ v₂ rest,vs=v₁ :: v₂ :: rest:=by
   match vs,hsz,h2 with
   | [],_,h2=>simp at h2
   | [_],_,h2=>simp at h2
   | v₁ :: v₂ :: rest,_,_=>exact ⟨v₁,v₂,rest,rfl⟩
  have kp:∀b o,b≠a→s.heap.get? b=some o→(((s.heap.update a (Obj.mapSeq fun _=>#[])).push (seqObj "tuple" (v₁ :: v₂ :: rest).toArray 0)).push (seqObj "list" #[] 0)).get? b=some o:=fun b o nb e =>
   Heap.get?_push_of_some _ (Heap.get?_push_of_some _ (by rw [Heap.get?_update_ne _ _ _ _ nb]; exact e))
  obtain ⟨hO,hK⟩:=hkk { s with heap:=((s.heap.update a (Obj.mapSeq fun _=>#[])).push (seqObj "tuple" (v₁ :: v₂ :: rest).toArray 0)).push (seqObj "list" #[] 0) } kp
  refine wpAny_bind (hK _ _ _ rfl _ ?_)
  refine wpAny_bind (wpAny_mono (ij (κ:=κ) (κ0:=κ0) hO (a₀:=pairsOf (v₁ :: v₂ :: rest)) h0 (st:=SortSt.mk' κ0 ((v₁ :: v₂ :: rest).toArray.zip (v₁ :: v₂ :: rest).toArray) #[] 7 none)
   (Q:=fun _ st'=>SP κ0 (pairsOf (v₁ :: v₂ :: rest)) st') ⟨⟨Array.Perm.refl _,rfl,rfl⟩,rfl⟩ fun st' z=>z) ?_ fun _ _ e=>e)
  rintro ⟨⟨⟩,st'⟩ s' ⟨rfl,hp,hk2,hf⟩
  dsimp only
  refine wpAny_bind (seqEpoch_at ho6 rfl ?_)
  refine wpAny_bind (listUpdate_at ho6 rfl ?_ (hsz2:=by refine Nat.le_trans (Nat.le_of_eq ((Array.size_map ..).trans (hp.size_eq.trans (pairsOf_size _)))) ?_; rw [sizeLine_eq]; omega))
  rw [hf]
  simp only [bne_self_eq_false,Bool.false_eq_true,if_false]
  exact wpAny_pure (fin st' hp)
theorem tF {κ:KeyKind} {κ0:SortKind} {l:Addr} {vs:List Value} {Q:Value→Shared→Prop} (hl:s.heap.IsList l vs.toArray) (h0:KeysOf κ (pairsOf vs)) (hkk:∀ (A':Around) (s':Shared),(∀b o,s.heap.get? b=some o→s'.heap.get? b=some o)→cf prog w A' s' κ0 κ∧∀v₁ v₂ rest,vs=v₁ :: v₂ :: rest→∀ (Q:SortKind→Shared→Prop) (E':Value→Shared→Prop),Q κ0 s'→wpAny (model prog w) A' (keyKind' (v₁ :: v₂ :: rest).toArray) Q E' s') (h64:vs.length < 4096)
  (h:∀st':SortSt,(arrOf st').Perm (pairsOf vs)→Q (.ref (s.heap.objs.size + 1)) { s with heap:=sortedAll s.heap vs ((arrOf st').map (·.2)) }) :
  wpAny (model prog w) A (call (.builtin "sorted") [.ref l]) Q E s:=by
 refine Calls.call_function_entry kind_sorted plain_sorted entry_sorted (args_sorted1 _) ?_
 unfold Builtin.«sorted»
 refine wpAny_bind (m:=checkCount "sorted" 1 1 _) (wpAny_pure ?_)
 refine wpAny_bind (collect_list hl ?_)
 refine wpAny_bind (wpAny_newList ?_)
 have hsz:((s.heap.push (seqObj "list" #[] 0)).update s.heap.objs.size (Obj.mapSeq (· ++ vs.toArray))).objs.size=s.heap.objs.size + 1:=by
  rw [Heap.size_update,size_push']
 have hoL:(((s.heap.push (seqObj "list" #[] 0)).update s.heap.objs.size (Obj.mapSeq (· ++ vs.toArray))).push (seqObj "list" vs.toArray 0)).get? (s.heap.objs.size + 1)=some (seqObj "list" vs.toArray 0):=by
  rw [← hsz]; exact Heap.get?_push_size _ rfl
 show wpAny _ _ _ _ _ { s with heap:=((s.heap.push (seqObj "list" #[] 0)).update s.heap.objs.size (Obj.mapSeq (· ++ vs.toArray))).push (seqObj "list" vs.toArray 0) }
 rw [hsz]
 refine wpAny_bind (wpAny_holding (wpAny_call_entry slot_list_sort ⟨_,hoL,rfl⟩ entry_list_sort (gg hoL h0 (fun s' k=>by obtain ⟨a1,a2⟩:=hkk _ s' (fun b o e=>k b o (Nat.ne_of_lt (Nat.lt_succ_of_lt (Heap.lt_size e))) (Heap.get?_push_of_some _ (by rw [Heap.get?_update_ne _ _ _ _ (Nat.ne_of_lt (Heap.lt_size e))]; exact Heap.get?_push_of_some _ e))); exact ⟨a1,fun v1 v2 r e Q q=>a2 v1 v2 r e Q _ q⟩) h64 fun st' a1=>⟨_,rfl,?_⟩) (args_list_sort _)))
 exact wpAny_pure ⟨_,rfl,h st' a1⟩
end
end PyProof.Rows
namespace L2
open PySem PySem.Spec PyProof.Rows
section
variable {X:Cx}
def ve (K:PySem.W.Frag) (xs:List V) (H:Hp) (Q:VK):Prop:=∃ (p:Addr) (as:List Addr) (sh:List Bool) (key:Addr→List Int),xs=[.ref p]∧SqL K H p (as.map V.ref)∧as.length < 4096∧sh.head? = some false∧(∀a∈as,∃vs,SqT K H a vs∧jO sh vs=some (key a)) ∧
 ∀ (l:Addr) (as':List Addr),H l=none→as'.Perm as→Q (.ref l) (upd H l (.lst (as'.map V.ref)))
theorem jj:cO X (.builtin "sorted") (ve X.K):=by
 intro pins s σ H xs us Q I r h
 obtain ⟨p,as,sh,key,rfl,hs,h64,h0,hk,q⟩:=h
 obtain ⟨u,rfl,rfl⟩:=eF r
 obtain ⟨its,rv,pl,_⟩:=I.list hs
 have ei:=iK rv
 subst ei
 have tu:∀a∈as,∃o us n,s.heap.get? a=some o∧o.cls=.type "tuple" ∧ o.data=.seq (List.toArray us) n∧bK sh us=some (key a):=fun a ha=>by
  obtain ⟨vs,hv,hf⟩:=hk a ha
  obtain ⟨us,r,⟨o,e,c,n,d⟩,_⟩:=I.tuple hv
  exact ⟨o,us,n,e,c,d,lD r hf⟩
 have kof:∀a∈as,(tq s.heap sh).keyOf (.ref a)=some (key a):=fun a ha=>by
  obtain ⟨o,us,n,e,c,d,f⟩:=tu a ha
  show (match s.heap.get? a with
   | some o=>match o.data with
    | .seq xs _=>bK sh xs.toList
    | _=>none
   | none=>none)=some (key a)
  rw [e]
  show (match o.data with
    | .seq xs _=>bK sh xs.toList
    | _=>none)=some (key a)
  rw [d]
  exact f
 refine tF (κ:=tq s.heap sh) (κ0:=tuples' true) pl.isList ?keys ?kk (by rw [List.length_map]; exact h64) fun st' hp=>?_
 case keys =>
  intro pr hpr
  rw [pairsOf_toList] at hpr
  obtain ⟨a,ha,e⟩:=List.mem_map.mp (List.of_mem_zip (show (pr.1,pr.2)∈_ from hpr)).1
  exact ⟨key a,by rw [← e]; exact kof a ha⟩
 case kk =>
  intro A' s' k
  refine ⟨nS h0 k,fun v1 v2 rest e Q E' q=>?_⟩
  obtain ⟨fs,f1,f2,f3⟩:=fX (h:=s'.heap) (key:=key) h0 as fun a ha=>by
   obtain ⟨o,us,n,e,c,d,f⟩:=tu a ha
   exact ⟨o,us,n,k _ _ e,c,d,f⟩
  rw [e] at f1
  have:(as.map Value.ref).length=rest.length + 2:=by rw [e]; rfl
  rw [List.length_map] at this
  refine PySem.W.kat_kind (T:=.type "int") f1 (by omega) (fun v hv=>?_) rfl q
  obtain ⟨i,t,rfl⟩:=f3 v hv
  exact PySem.W.Looks.of_pure rfl
 have pz:∀l:List Addr,(l.map Value.ref).zip (l.map Value.ref)=l.map fun a=>(Value.ref a,Value.ref a):=fun l=>by
  induction l with
  | nil=>rfl
  | cons a l ih=>rw [List.map_cons,List.zip_cons_cons,ih,List.map_cons]
 have hp':=Array.perm_iff_toList_perm.mp hp
 rw [pairsOf_toList,pz] at hp'
 obtain ⟨as',ea,pa⟩:=qW (f:=fun a=>(Value.ref a,Value.ref a)) (fun pr=>match pr.1 with
  | .ref a=>some a
  | _=>none) (fun a=>rfl) hp'
 have eo:((arrOf st').map (·.2)).toList=as'.map Value.ref:=by
  rw [Array.toList_map,ea,List.map_map]; rfl
 obtain ⟨e,he⟩:=sortedAll_at s.heap (as.map Value.ref) ((arrOf st').map (·.2))
 have hn:H (s.heap.objs.size + 1)=none:=I.hok.fresh (Nat.le_succ _)
 refine ⟨.ref (s.heap.objs.size + 1),upd H (s.heap.objs.size + 1) (.lst (as'.map V.ref)),I.laid (o:=.lst (as'.map V.ref)) (t':=s.toks) (fun _ _=>sortedAll_old) (Nat.le_succ _) (show ObjOk _ _ _ _ _ (.lst _) from ⟨?_,((arrOf st').map (·.2)).toList,e,?_,?_⟩),rfl,q _ as' hn pa⟩
 ·rw [List.length_map,pa.length_eq]
  have:(4096:Nat)≤sizeLine:=by decide
  omega
 ·rw [eo]; exact iL as'
 ·rw [he]
end
end L2
set_option Elab.async false
set_option linter.all false
set_option maxRecDepth 100000
namespace L2
open PySem PySem.Spec PyProof.Rows
theorem jY {X:Cx}:OpR X (compareOp .IsNot) (fun x y H Q=>y=.bl true∧∃b,x=.bl b∧Q (.bl (!b)) H):=by
 intro pins s σ H x y v u Q I rx ry h
 obtain ⟨rfl,b,rfl,q⟩:=h
 cases ry
 cases rx
 unfold compareOp isSame
 cases b
 ·exact wpAny_bind (wpAny_pure (wpAny_pure (aJ I q rfl)))
 ·exact wpAny_bind (wpAny_pure (wpAny_pure (aJ I q rfl)))
end L2
set_option Elab.async false
set_option linter.all false
set_option maxRecDepth 100000
namespace Pc
open PySem L2
def top (i:Nat):Stmt:=PySem.Challenge.pw_platecuts_k42_whole_tree_worth_so.main.body.getD i (.Pass ⟨0,0,0,0⟩)
abbrev gI:Stmt:=top 10
abbrev gJ:Stmt:=top 11
abbrev rc:Stmt:=top 12
abbrev bU:Stmt:=top 13
abbrev bV:Stmt:=top 14
abbrev dw:Stmt:=top 19
abbrev cr:Stmt:=top 20
abbrev cU:Stmt:=top 21
abbrev cJ:Stmt:=top 22
abbrev bS:Stmt:=top 23
abbrev bX:Stmt:=top 30
abbrev gK:Stmt:=top 31
abbrev eZ:Stmt:=top 32
abbrev bN:Stmt:=top 33
abbrev fb:Stmt:=top 34
abbrev cD:Stmt:=top 35
abbrev cV:Stmt:=top 36
abbrev cW:Stmt:=top 39
abbrev cX:Stmt:=top 40
abbrev bm:Stmt:=top 41
abbrev fe:Stmt:=top 42
abbrev cY:Stmt:=top 44
abbrev cu:Stmt:=top 45
abbrev cZ:Stmt:=top 46
abbrev ff:Stmt:=top 50
abbrev fg:Stmt:=top 51
abbrev cw:Stmt:=inClass (top 52) 0
abbrev cF:Stmt:=inClass (top 52) 1
abbrev cG:Stmt:=inClass (top 52) 2
abbrev jZ:Stmt:=inClass (top 52) 3
abbrev bY:Stmt:=inClass (top 52) 4
abbrev bO:Stmt:=inClass (top 52) 5
abbrev cH:Stmt:=inClass (top 52) 6
abbrev rd:Stmt:=top 54
abbrev kh:Stmt:=top 55
abbrev gL:Stmt:=top 56
abbrev gM:Stmt:=top 57
abbrev kj:Stmt:=top 58
abbrev gN:Stmt:=top 59
abbrev gO:Stmt:=top 60
abbrev fh:Stmt:=top 61
abbrev bZ:Stmt:=top 62
abbrev dJ:Stmt:=top 63
abbrev cK:Stmt:=top 64
abbrev km:Stmt:=top 65
abbrev kn:Stmt:=top 66
section
variable {P:Program} {w:World} {K:PySem.W.Frag} {mg:Str→Option Value} {base:Heap}
structure Blt (mg:Str→Option Value):Prop where
 isi:mg "isinstance" = none
 int:mg "int" = none
 bool:mg "bool" = none
 list:mg "list" = none
 tuple:mg "tuple" = none
 len:mg "len" = none
 range:mg "range" = none
 max:mg "max" = none
 min:mg "min" = none
 abs:mg "abs" = none
 divmod:mg "divmod" = none
 sum:mg "sum" = none
 sorted:mg "sorted" = none
 all:mg "all" = none
 repr:mg "repr" = none
 zip:mg "zip" = none
 enumerate:mg "enumerate" = none
 mostk:∃t,mg "MOST_KINDS" = some (.int 8 t)
 fivek:∃t,mg "THINGS_OF_A_KIND" = some (.int 5 t)
end
theorem gP {p c:Addr} {H0 H:Hp} {o:HO} (b:But p H0 H) (pt:PotB H p) (h:H c=none):∃H',upd H c o=H'∧H' c=some o∧c≠p∧Same H H'∧But p H0 H'∧PotB H' p :=
 ⟨_,rfl,af,Ne.symm (pt.ne h),Same.new h,b.trans (But.new h),pt.new h⟩
theorem Eu {H H':Hp} {p:Addr} (s:Same H H'):But p H H':=fun c o _ e=>s c o e
theorem ap {t u:TS} {D:Ends} {σ:St} {H:Hp} (J:St→Hp→Prop) (h1:∀R:St→Hp→Prop,(∀σ' H',J σ' H'→R σ' H')→t { D with nx:=R } σ H) (h2:∀σ' H',J σ' H'→u D σ' H'):xc t u D σ H:=h1 _ h2
section
variable {P:Program} {w:World} {K:PySem.W.Frag} {mg:Str→Option Value} {base:Heap}
theorem tG:FnScope ["thing","least"] ["thing","least"] (defScope gI):=⟨rfl,rfl,rfl,by decide +kernel,rfl,by decide +kernel,by decide +kernel⟩
theorem re {f:Addr} {fd:FuncData} (F:Fun K "is_whole" "is_whole" gI f fd) (B:Blt mg):FnOk P w K mg base CX0 1 f fd ["thing","least"] (cj K):=by
 refine F.ok tG (fun vs H Q E h=>?_) (fun cdv A outer s H vs Q E hr h=>?_)
 ·obtain ⟨x,T,l,rfl,_⟩:=h
  rfl
 obtain ⟨x,T,l,rfl,⟨tn,ty⟩,q⟩:=h
 refine ⟨_,ag (aq (cx (aI aT rfl B.isi PyProof.Rows.boot_isinstance (aa (pv 0) (aa (bE (v:=.ty "int") rfl B.int PyProof.Rows.boot_int rfl) ab)))
  (cx (kQ (aI aT rfl B.isi PyProof.Rows.boot_isinstance (aa (pv 0) (aa (bE (v:=.ty "bool") rfl B.bool PyProof.Rows.boot_bool rfl) ab))))
  (dj (bg jB (pv 0) (pv 1) (aw _)))))),?_⟩
 refine ⟨_,rfl,x,_,_,_,_,rfl,ty,rfl,sW T tn,_,rfl,?_⟩
 have tb:=mD ty
 refine cC (fun c=>?_) (fun c=>?_)
 ·refine ⟨_,rfl,x,_,_,_,_,rfl,ty,rfl,jH T tn,_,rfl,_,rfl,?_⟩
  refine cC (fun c2=>?_) (fun c2=>?_)
  ·have hT:(T == "int")=true:=by
    have:(T == "bool")=false:=by simpa using c2
    rw [this,Bool.or_false] at c; exact c
   obtain ⟨i,rfl⟩:=uX ty tn hT
   exact ⟨_,rfl,_,rfl,_,_,rfl,rfl,q⟩
  ·have hT:nM x=true:=by
    rw [← tb]
    cases e:(T == "bool") with
    | true=>rfl
    | false=>rw [e] at c2; exact absurd rfl c2
   cases x <;> first | exact q | (exact absurd hT Bool.false_ne_true)
 ·have hx:aQ x l=false:=by
   cases x with
   | int i =>
    exfalso
    have ty':=ty
    generalize hv:Value.type T=tv at ty'
    cases ty' with
    | int=>cases hv; exact c rfl
   | _=>rfl
  rw [hx] at q
  exact q
theorem tH:FnScope ["thing"] ["thing"] (defScope gJ):=⟨rfl,rfl,rfl,by decide +kernel,rfl,by decide +kernel,by decide +kernel⟩
theorem rf {f:Addr} {fd:FuncData} (F:Fun K "is_truth" "is_truth" gJ f fd) (B:Blt mg):FnOk P w K mg base CX0 1 f fd ["thing"] (gm K):=by
 refine F.ok tH (fun vs H Q E h=>?_) (fun cdv A outer s H vs Q E hr h=>?_)
 ·obtain ⟨x,T,rfl,_⟩:=h
  rfl
 obtain ⟨x,T,rfl,⟨tn,ty⟩,q⟩:=h
 refine ⟨_,ag (aq (aI aT rfl B.isi PyProof.Rows.boot_isinstance (aa (pv 0) (aa (bE (v:=.ty "bool") rfl B.bool PyProof.Rows.boot_bool rfl) ab)))),?_⟩
 refine ⟨_,rfl,x,_,_,_,_,rfl,ty,rfl,jH T tn,?_⟩
 rw [mD ty]
 exact q
theorem xK:FnScope ["thing"] ["thing"] (defScope rc):=⟨rfl,rfl,rfl,by decide +kernel,rfl,by decide +kernel,by decide +kernel⟩
theorem vf {f:Addr} {fd:FuncData} (F:Fun K "is_row" "is_row" rc f fd) (B:Blt mg):FnOk P w K mg base CX0 1 f fd ["thing"] (jI K):=by
 refine F.ok xK (fun vs H Q E h=>?_) (fun cdv A outer s H vs Q E hr h=>?_)
 ·obtain ⟨x,T,rfl,_⟩:=h
  rfl
 obtain ⟨x,T,rfl,ty,q⟩:=h
 refine ⟨_,ag (aq (aI jc rfl B.isi PyProof.Rows.boot_isinstance (aa (pv 0) (aa (aB (aa (bE (v:=.ty "list") rfl B.list PyProof.Rows.boot_list rfl) (aa (bE (v:=.ty "tuple") rfl B.tuple PyProof.Rows.boot_tuple rfl) ab))) ab)))),?_⟩
 refine ⟨_,rfl,(by show 2≤sizeLine; decide),fun p hp=>?_⟩
 have s1:Same H (upd H p (.tup [.ty "list",.ty "tuple"])):=fun b o e=>by rw [aj (am e hp)]; exact e
 have t2:=Ty.same s1 ty
 exact ⟨x,p,_,_,_,_,rfl,t2.2,af,rfl,sX T ty.1,q _ s1⟩
theorem scIsKind:FnScope ["thing","wide","high","worth","wanted","turns"] ["thing"] (defScope ff):=⟨rfl,rfl,rfl,by decide +kernel,rfl,by decide +kernel,by decide +kernel⟩
theorem nX {f:Addr} {fd:FuncData} (F:Fun K "is_kind" "is_kind" ff f fd) (B:Blt mg) (DW:Dn P w K mg base "is_whole" ["thing","least"] 1 (cj K)) (DT:Dn P w K mg base "is_truth" ["thing"] 1 (gm K)) (DR:Dn P w K mg base "is_row" ["thing"] 1 (jI K)) :
  FnOk P w K mg base CX0 2 f fd ["thing"] (eO K):=by
 refine F.ok scIsKind (fun vs H Q E h=>?_) (fun cdv A outer s H vs Q E hr h=>?_)
 ·obtain ⟨x,T,rfl,_⟩:=h
  rfl
 obtain ⟨x,T,rfl,ty,q⟩:=h
 obtain ⟨tk,htk⟩:=B.fivek
 have nd:=scIsKind.nd
 refine ⟨_,ae (aH (PW.pt (bh (aL (aE (ar DR hr rfl (aa (pv 0) ab)))) (bo (ax eE (aI bj rfl B.len PySem.boot_len (aa (pv 0) ab)) (aR (v:=.int 5) rfl htk ⟨tk,rfl⟩) (aw _))))) (ag (aq bQ)) au)
  (ae (bi (pv 0) (lm rfl (ah (ai (i:=1) nd rfl (Or.inl rfl)) (ah (ai (i:=2) nd rfl (Or.inl rfl)) (ah (ai (i:=3) nd rfl (Or.inl rfl)) (ah (ai (i:=4) nd rfl (Or.inl rfl)) (ah (ai (i:=5) nd rfl (Or.inl rfl)) aK)))))))
  (ae (aH (PW.pt (bh (aL (aE (ar DW hr rfl (aa (pv 1) (aa ad ab))))) (bo (aL (aE (ar DW hr rfl (aa (pv 2) (aa ad ab)))))))) (ag (aq bQ)) au)
  (ag (aq (cx (ar DW hr rfl (aa (pv 3) (aa ad ab))) (cx (ar DW hr rfl (aa (pv 4) (aa ad ab))) (dj (ar DT hr rfl (aa (pv 5) ab))))))))),?_⟩
 refine ⟨_,rfl,x,T,rfl,ty,fun H1 s1=>⟨_,rfl,?_⟩⟩
 rcases q with ⟨n1,n2,q⟩ | ⟨a,xs,rfl,hx,its,q⟩
 ·have e:(T == "list" || T == "tuple")=false:=by simp [n1,n2]
  rw [e]
  refine be (be ?_)
  exact q H1 s1
 ·have e:(T == "list" || T == "tuple")=true:=by
   have t2:=ty.2
   generalize hv:Value.type T=tv at t2
   generalize hr:V.ref a=rv at t2
   cases t2 with
   | lst _=>cases hv; rfl
   | frz _=>cases hv; rfl
   | tup _=>cases hv; rfl
   | dK e=>cases hr; rcases hx with z | z <;> (rw [z] at e; cases e)
   | dT e=>cases hr; rcases hx with z | z <;> (rw [z] at e; cases e)
   | ins=>cases hv
   | _=>cases hr
  rw [e]
  have sq:SqL K H1 a xs∨SqT K H1 a xs:=by
   rcases hx with z | z
   ·exact .inl (SqL.of (s1 _ _ z))
   ·exact .inr (SqT.of (s1 _ _ z))
  refine az ⟨_,rfl,a,xs,rfl,sq,rfl,_,rfl,?_⟩
  refine cC (fun c=>?_) (fun c=>?_)
  ·have hl:xs.length≠5:=fun z=>by rw [z] at c; exact absurd c (by decide)
   have:iF xs=false:=by
    unfold iF
    split
    ·exact absurd rfl hl
    ·rfl
   rw [this] at q
   exact q H1 s1
  ·have hl:xs.length=5:=by
    by_cases z:xs.length=5
    ·exact z
    ·exfalso
     apply c
     have:¬ (V.int (xs.length:Int)=V.int 5):=fun h=>z (by have:=V.int.inj h; omega)
     rw [decide_eq_false this]; rfl
   obtain ⟨x1,x2,x3,x4,x5,rfl⟩:∃x1 x2 x3 x4 x5,xs=[x1,x2,x3,x4,x5]:=by
    match xs,hl with
    | [a,b,c,d,e],_=>exact ⟨a,b,c,d,e,rfl⟩
   obtain ⟨T1,t1⟩:=its x1 (by simp)
   obtain ⟨T2,t2⟩:=its x2 (by simp)
   obtain ⟨T3,t3⟩:=its x3 (by simp)
   obtain ⟨T4,t4⟩:=its x4 (by simp)
   obtain ⟨T5,t5⟩:=its x5 (by simp)
   refine ⟨_,rfl,a,_,rfl,sq,rfl,x1,_,rfl,x2,_,rfl,x3,_,rfl,x4,_,rfl,x5,_,rfl,rfl,?_⟩
   refine ⟨_,rfl,x1,T1,1,rfl,Ty.same s1 t1,_,rfl,?_⟩
   have q':∀b,iF [x1,x2,x3,x4,x5]=b→Q (.bl b) H1:=fun b e=>by rw [← e]; exact q H1 s1
   have k5:iF [x1,x2,x3,x4,x5]=(aQ x1 1 && aQ x2 1 && aQ x3 0 && aQ x4 0 && nM x5):=rfl
   cases w1:aQ x1 1 with
   | false =>
    refine be (be ?_)
    exact q' false (by rw [k5,w1]; rfl)
   | true =>
    refine az ⟨_,rfl,x2,T2,1,rfl,Ty.same s1 t2,_,rfl,?_⟩
    cases w2:aQ x2 1 with
    | false =>
     refine be ?_
     exact q' false (by rw [k5,w1,w2]; rfl)
    | true =>
     refine az ⟨_,rfl,x3,T3,0,rfl,Ty.same s1 t3,_,rfl,?_⟩
     cases w3:aQ x3 0 with
     | false =>
      refine az ?_
      exact q' false (by rw [k5,w1,w2,w3]; rfl)
     | true =>
      refine be ⟨_,rfl,x4,T4,0,rfl,Ty.same s1 t4,_,rfl,?_⟩
      cases w4:aQ x4 0 with
      | false =>
       refine az ?_
       exact q' false (by rw [k5,w1,w2,w3,w4]; rfl)
      | true =>
       refine be ⟨_,rfl,x5,T5,rfl,Ty.same s1 t5,?_⟩
       exact q' _ (by rw [k5,w1,w2,w3,w4]; rfl)
end
section
variable {P:Program} {w:World} {K:PySem.W.Frag} {mg:Str→Option Value} {base:Heap}
theorem scInit:FnScope ["self","blade","kinds","kind"] ["self","blade","kinds"] (defScope cw):=⟨rfl,rfl,rfl,by decide +kernel,rfl,by decide +kernel,by decide +kernel⟩
theorem tI {f C:Addr} {fd:FuncData} (F:Fun K "__init__" "Shop.__init__" cw f fd) (B:Blt mg) (T:ShopTxt K C) (DW:Dn P w K mg base "is_whole" ["thing","least"] 1 (cj K)) (DR:Dn P w K mg base "is_row" ["thing"] 1 (jI K))
  (DK:Dn P w K mg base "is_kind" ["thing"] 2 (eO K)):FnOk P w K mg base CX0 3 f fd ["self","blade","kinds"] (lr C):=by
 refine F.ok scInit (fun vs H Q E h=>?_) (fun cdv A outer s H vs Q E hr h=>?_)
 ·obtain ⟨x,dx,ks,b,rs,kds,rfl,_⟩:=h
  rfl
 obtain ⟨x,dx,ks,b,rs,kds,rfl,hx,b0,hks,hrs,hgd,n1,n8,q⟩:=h
 have hr1:=hr.mono (show 1≤2 by decide)
 obtain ⟨tk,htk⟩:=B.mostk
 have nd:=scInit.nd
 have n8':(8:Nat) < sizeLine:=by decide
 refine ⟨_,ae (aH (aL (aE (ar DW hr1 rfl (aa (pv 1) (aa ad ab))))) fE au)
  (ae (aH (PW.pt (bh (aL (aE (ar DR hr1 rfl (aa (pv 2) ab)))) (bo (aL (qm ix ix ad (aI bj rfl B.len PySem.boot_len (aa (pv 2) ab)) (aR (v:=.int 8) rfl htk ⟨tk,rfl⟩)))))) fE au)
  (ae (cz PassesOwn.never rfl (qI (pv 2)) (ai (i:=3) nd rfl (Or.inl rfl)) (ag (aH (aL (aE (ar DK hr rfl (aa (pv 3) ab)))) fE au)))
  (ae (qt (pv 0) (pv 1) rfl)
  (ag (qt (pv 0) (bv dY rfl B.tuple PyProof.Rows.boot_tuple (aa (eM (own:=["kind"]) (cs:=[]) (cap:=[]) rfl (qI (pv 2))
   (bn (sc:=defScope cw) (N:=["self","blade","kinds","kind"]) rfl rfl (by decide +kernel))
   (fun _ _ _ _ _=>ai (i:=0) (by show List.Nodup (["kind"]:List Str); decide +kernel) rfl (Or.inl rfl) (Or.inr rfl)) (fun _ _ _ _ _=>bA)
   (fun _ _ _ _ _=>bv (r:=qK K) dY rfl B.tuple PyProof.Rows.boot_tuple (aa (pv 0) ab))) ab)) rfl))))),?_⟩
 refine ⟨_,rfl,.int b,_,0,rfl,.int,_,rfl,?_⟩
 have wb:aQ (.int b) 0=true:=decide_eq_true b0
 rw [wb]
 refine az ?_
 have tyk:∃T,Ty K H (.ref ks) T∧(T == "list" || T == "tuple")=true:=by
  rcases hks with e | e
  ·exact ⟨_,.lst e,rfl⟩
  ·exact ⟨_,.tup e,rfl⟩
 obtain ⟨T0,ty0,te0⟩:=tyk
 refine ⟨_,rfl,.ref ks,T0,rfl,ty0,fun H1 s1=>⟨_,rfl,?_⟩⟩
 rw [te0]
 have sq:∀ {H2:Hp},Same H H2→SqL K H2 ks rs∨SqT K H2 ks rs:=fun s2=>by
  rcases hks with z | z
  ·exact .inl (SqL.of (s2 _ _ z))
  ·exact .inr (SqT.of (s2 _ _ z))
 refine az ⟨_,rfl,ks,rs,rfl,sq s1,_,_,rfl,rfl,_,rfl,?_⟩
 rw [decide_eq_true (show (1:Int)≤(rs.length:Int) by omega)]
 refine be ⟨_,_,rfl,rfl,_,rfl,?_⟩
 rw [decide_eq_true (show (rs.length:Int)≤8 by omega)]
 refine az ?_
 have eB:=Paired.length hrs
 refine qL (j:=2) (a:=ks) (xs:=rs) rfl (hks.imp (fun z=>s1 _ _ z) fun z=>s1 _ _ z) (fun i σ H2=>∃v,σ=[some (.ref x),some (.int b),some (.ref ks),v]∧Same H1 H2) ⟨none,rfl,Same.refl _⟩ (fun i σ H2 _ ⟨_,_,s2⟩ o e=>s2 _ _ e) ?_ ?_
 ·rintro i y σ H2 hi ⟨v,rfl,s2⟩
  obtain ⟨k,hk,rk⟩:=Paired.getR hrs hi
  refine ⟨_,rfl,?_⟩
  simp only [sL,List.append_nil]
  refine nO ((rk.same s1).same s2) (hgd k (List.mem_of_getElem? hk)) fun H3 s3=>⟨_,rfl,az ?_⟩
  exact ⟨_,rfl,s2.trans s3⟩
 rintro σ H2 ⟨v,rfl,s12⟩
 have s2:Same H H2:=s1.trans s12
 refine ⟨_,rfl,_,rfl,x,C,dx,[],rfl,s2 _ _ hx,T.cl,T.nB,(by show 0 < 1000; decide),?_⟩
 have k3:∀c o,c≠x→H c=some o→(upd H2 x (.ins C dx (cI "blade_width" (.int b) []))) c=some o:=fun c o n e=>by rw [aj n]; exact s2 c o e
 have x3:(upd H2 x (.ins C dx (cI "blade_width" (.int b) []))) x=some (.ins C dx (cI "blade_width" (.int b) [])):=af
 generalize upd H2 x (.ins C dx (cI "blade_width" (.int b) []))=H3 at k3 x3 ⊢
 have rx:∀c xs,H c=some (.lst xs)∨H c=some (.tup xs)→c≠x:=fun c xs e z=>by
  subst z
  rcases e with e | e <;> (rw [hx] at e; cases e)
 dsimp only [xt,tCB,uq]
 refine nN (j:=2) (a:=ks) (xs:=rs) rfl (hks.imp (fun z=>k3 _ _ (rx _ _ (.inl z)) z) fun z=>k3 _ _ (rx _ _ (.inr z)) z) (fun i ys H4=>ys.length=i∧Same H3 H4∧Tups H4 ys (kds.take i)) (fun i ys H4 _ ⟨_,s4,_⟩ o e=>s4 _ _ e) ⟨rfl,Same.refl _,.nil⟩ ?_ ?_
 ·rintro i y ys H4 hi ⟨hy,s4,ty4⟩
  have hin:i < rs.length:=(List.getElem?_eq_some_iff.mp hi).1
  obtain ⟨k,hk,rk⟩:=Paired.getR hrs hi
  have tk1:kds.take (i + 1)=kds.take i ++ [k]:=by rw [List.take_add_one,hk]; rfl
  refine ⟨by omega,leS.set rfl,bD ?_⟩
  rcases rk with ⟨a,rfl,h⟩ | ⟨a,rfl,h⟩
  ·have h4:=s4 _ _ (k3 _ _ (rx _ _ (.inr h)) h)
   exact ⟨_,rfl,a,_,rfl,.inr ⟨SqT.of h4,Nx.of hin ⟨by rw [List.length_append,hy]; rfl,s4,by rw [tk1]; exact Paired.snoc ty4 ⟨a,rfl,h4⟩⟩⟩⟩
  ·have h4:=s4 _ _ (k3 _ _ (rx _ _ (.inl h)) h)
   refine ⟨_,rfl,a,_,rfl,.inl ⟨SqL.of h4,fun l hl=>Nx.of hin ⟨by rw [List.length_append,hy]; rfl,fun c o e=>?_,?_⟩⟩⟩
   ·have e4:=s4 c o e
    rw [aj (am e4 hl)]; exact e4
   ·rw [tk1]
    exact Paired.snoc (Tups.keep (fun c xs e=>by rw [aj (am e hl)]; exact e) ty4) ⟨l,rfl,af⟩
 rintro ys H4 ⟨hy,s4,ty4⟩
 refine ⟨by omega,fun p hp=>?_⟩
 refine ⟨p,ys,rfl,.inl ⟨SqL.of af,fun r hr'=>?_⟩⟩
 have hpr:r≠p:=fun z=>by rw [z,af] at hr'; cases hr'
 have hr4:H4 r=none:=by rw [aj hpr] at hr'; exact hr'
 have x4:=s4 _ _ x3
 have xp:x≠p:=am x4 hp
 have xr:x≠r:=am x4 hr4
 refine ⟨_,rfl,x,C,dx,_,rfl,(by rw [aj xr,aj xp]; exact x4),T.cl,T.nK,(Nat.lt_of_le_of_lt (dF _ _ _) (by decide)),?_⟩
 rw [eB,List.take_length] at ty4
 refine q _ ⟨dx,r,ys,af,by rw [aj (Ne.symm xr),af],?_⟩ fun c o n e=>?_
 ·refine Tups.keep (fun c xs e=>?_) ty4
  rw [aj (fun z=>by rw [z,x4] at e; cases e),aj (am e hr4),aj (am e hp)]
  exact e
 ·have e4:=s4 _ _ (k3 c o n e)
  rw [aj n,aj (am e4 hr4),aj (am e4 hp)]
  exact e4
theorem tJ:FnScope ["self"] ["self"] (defScope cF):=⟨rfl,rfl,rfl,by decide +kernel,rfl,by decide +kernel,by decide +kernel⟩
theorem rg {f C:Addr} {fd:FuncData} (F:Fun K "blade" "Shop.blade" cF f fd) (T:ShopTxt K C):FnOk P w K mg base CX0 1 f fd ["self"] (eP C):=by
 refine F.ok tJ (fun vs H Q E h=>?_) (fun cdv A outer s H vs Q E hr h=>?_)
 ·obtain ⟨x,b,ks,rfl,_⟩:=h
  rfl
 obtain ⟨x,b,ks,rfl,⟨dx,r,rs,h1,h2,h3⟩,q⟩:=h
 exact ⟨_,ag (aq (fI (pv 0) rfl)),_,rfl,x,C,dx,_,_,rfl,h1,T.cl,T.nB,lq _ _,q⟩
theorem tK:FnScope ["self"] ["self"] (defScope cG):=⟨rfl,rfl,rfl,by decide +kernel,rfl,by decide +kernel,by decide +kernel⟩
theorem rh {f C:Addr} {fd:FuncData} (F:Fun K "kinds" "Shop.kinds" cG f fd) (T:ShopTxt K C) (ml:mg "list" = none):FnOk P w K mg base CX0 1 f fd ["self"] (eQ C):=by
 refine F.ok tK (fun vs H Q E h=>?_) (fun cdv A outer s H vs Q E hr h=>?_)
 ·obtain ⟨x,b,ks,rfl,_⟩:=h
  rfl
 obtain ⟨x,b,ks,rfl,⟨dx,r,rs,h1,h2,h3⟩,q⟩:=h
 refine ⟨_,ag (aq (bv eL rfl ml PyProof.Rows.boot_list (aa (fI (pv 0) rfl) ab))),?_⟩
 exact ⟨_,rfl,x,C,dx,_,_,rfl,h1,T.cl,T.nK,cR _ _,r,rs,rfl,.inr (SqT.of h2),fun l hl=>q l rs hl h3⟩
end
section
variable {P:Program} {w:World} {K:PySem.W.Frag} {mg:Str→Option Value} {base:Heap}
theorem rj:FnScope ["kind"] ["kind"] (defScope fg):=⟨rfl,rfl,rfl,by decide +kernel,rfl,by decide +kernel,by decide +kernel⟩
theorem nY {f:Addr} {fd:FuncData} (F:Fun K "can_lie_turned" "can_lie_turned" fg f fd):FnOk P w K mg base CX0 1 f fd ["kind"] (eR K):=by
 refine F.ok rj (fun vs H Q E h=>?_) (fun cdv A outer s H vs Q E hr h=>?_)
 ·obtain ⟨a,k,rfl,_⟩:=h
  rfl
 obtain ⟨a,k,rfl,ha,q⟩:=h
 refine ⟨_,ag (aq (cx (av ix_tup (pv 0) ad (fun _ _=>rfl)) (dj (bg eE (av ix_tup (pv 0) ad (fun _ _=>rfl)) (av ix_tup (pv 0) ad (fun _ _=>rfl)) (aw _))))),?_⟩
 refine ⟨_,rfl,a,_,4,_,rfl,rfl,SqT.of ha,rfl,_,rfl,?_⟩
 unfold aW at q
 refine cC (fun c=>?_) (fun c=>?_)
 ·rw [c,Bool.true_and] at q
  refine ⟨_,rfl,a,_,0,_,rfl,rfl,SqT.of ha,rfl,_,rfl,a,_,1,_,rfl,rfl,SqT.of ha,rfl,rfl,?_⟩
  rw [iW]
  rw [show (decide (k.w=k.h))=(k.w == k.h) from rfl] at q
  exact q
 ·have c':k.tu=false:=by simpa using c
  rw [c',Bool.false_and] at q
  exact q
theorem scLyings:FnScope ["self","told","number","kind"] ["self"] (defScope bY):=⟨rfl,rfl,rfl,by decide +kernel,rfl,by decide +kernel,by decide +kernel⟩
theorem nZ {f C:Addr} {fd:FuncData} (F:Fun K "lyings" "Shop.lyings" bY f fd) (T:ShopTxt K C) (me:mg "enumerate" = none) (DT:Dn P w K mg base "can_lie_turned" ["kind"] 1 (eR K)) :
  FnOk P w K mg base CX0 2 f fd ["self"] (gE C):=by
 refine F.ok scLyings (fun vs H Q E h=>?_) (fun cdv A outer s H vs Q E hr h=>?_)
 ·obtain ⟨x,b,ks,rfl,_⟩:=h
  rfl
 obtain ⟨x,b,ks,rfl,⟨dx,r,rs,h1,h2,h3⟩,n8,q⟩:=h
 have nd:=scLyings.nd
 refine ⟨_,ae (aG (i:=1) nd rfl (Or.inl rfl) (bp ab))
  (ae (cz PassesOwn.never rfl (sY rfl me (aa (fI (pv 0) rfl) ab)) (aU rfl (ah (ai (i:=2) nd rfl (Or.inl rfl)) (ah (ai (i:=3) nd rfl (Or.inl rfl)) aK)))
   (ae (bG (fU PySem.F.plainAttrs_list PySem.F.slot_list_append PySem.F.type_list_append cq (pv 1) (aa (aB (aa (pv 2) (aa bQ ab))) ab)))
   (ag (aH (aE (ar DT hr rfl (aa (pv 3) ab)))
    (ag (bG (fU PySem.F.plainAttrs_list PySem.F.slot_list_append PySem.F.type_list_append cq (pv 1) (aa (aB (aa (pv 2) (aa bQ ab))) ab)))) au))))
  (ag (aq (pv 1)))),?_⟩
 refine ⟨by decide,fun l hl=>?_⟩
 have s1:Same H (upd H l (.lst [])):=Same.new hl
 have l1:(upd H l (.lst ([]:List V))) l=some (.lst []):=af
 generalize upd H l (.lst ([]:List V))=H1 at s1 l1 ⊢
 have ic:=Paired.length h3
 have n8':(100:Nat) < sizeLine:=by decide
 refine ⟨_,rfl,x,C,dx,_,_,rfl,s1 _ _ h1,T.cl,T.nK,cR _ _,r,rs,rfl,.inr ⟨s1 _ _ h2,?_⟩⟩
 refine qN (f:=HO.tup) (fun _ _ e=>HO.tup.inj e) (xs:=rs) (fun i σ H2=>∃v2 v3 ys,σ=[some (.ref x),some (.ref l),v2,v3]∧Same H H2∧H2 l=some (.lst ys)∧Lys H2 ys (lyK (ks.take i) 0)) ⟨none,none,[],rfl,s1,l1,.nil⟩
  (fun i σ H2 ⟨_,_,_,_,s2,_⟩=>s2 _ _ h2) ?_ ?_
 ·rintro i y p σ H2 hi hp ⟨v2,v3,ys,rfl,s2,l2,y2⟩
  obtain ⟨k,hk,a,rfl,ha⟩:=Paired.getR h3 hi
  have s3:Same H (upd H2 p (.tup [.int i,.ref a])):=s2.trans (Same.new hp)
  have l3:(upd H2 p (.tup [.int (i:Int),.ref a])) l=some (.lst ys):=by rw [aj (am l2 hp)]; exact l2
  have y3:Lys (upd H2 p (.tup [.int (i:Int),.ref a])) ys (lyK (ks.take i) 0):=Lys.keep (fun c xs e=>by rw [aj (am e hp)]; exact e) y2
  have p3:(upd H2 p (.tup [.int (i:Int),.ref a])) p=some (.tup [.int (i:Int),.ref a]):=af
  generalize upd H2 p (.tup [.int (i:Int),.ref a])=H3 at s3 l3 y3 p3 ⊢
  have hli:i < ks.length:=(List.getElem?_eq_some_iff.mp hk).1
  have ylen:ys.length≤16:=by
   have e1:=Paired.length y2
   have e2:=jd (ks.take i) 0
   rw [List.length_take] at e2
   omega
  have tk1:lyK (ks.take (i + 1)) 0=lyK (ks.take i) 0 ++ lyT i k:=by
   rw [List.take_add_one,hk]
   show lyK (ks.take i ++ [k]) 0=_
   rw [jJ,List.length_take,Nat.zero_add,Nat.min_eq_left (Nat.le_of_lt hli)]
  refine ⟨p,_,rfl,SqT.of p3,rfl,_,_,rfl,_,_,rfl,rfl,?_⟩
  refine ⟨_,rfl,.inl ⟨rfl,_,SqL.of l3⟩,_,rfl,(by show 2≤sizeLine; decide),fun t ht=>?_⟩
  have lt:l≠t:=am l3 ht
  refine ⟨l,ys,_,rfl,rfl,(by rw [aj lt]; exact l3),(by omega),?_⟩
  obtain ⟨s4,l4,y4⟩:=qO (b:=false) hl s3 l3 y3 ht
  generalize upd (upd H3 t (.tup [.int (i:Int),.bl false])) l (.lst (ys ++ [.ref t]))=H4 at s4 l4 y4 ⊢
  refine ⟨_,rfl,a,k,rfl,s4 _ _ ha,_,rfl,?_⟩
  refine cC (fun c=>?_) (fun c=>?_)
  ·refine ⟨_,rfl,.inl ⟨rfl,_,SqL.of l4⟩,_,rfl,(by show 2≤sizeLine; decide),fun t' ht'=>?_⟩
   have lt':l≠t':=am l4 ht'
   refine ⟨l,_,_,rfl,rfl,(by rw [aj lt']; exact l4),(by rw [List.length_append]; show ys.length + 1 < sizeLine; omega),?_⟩
   obtain ⟨s5,l5,y5⟩:=qO (b:=true) hl s4 l4 y4 ht'
   refine ⟨_,_,_,rfl,s5,l5,?_⟩
   rw [tk1]
   unfold lyT
   rw [if_pos c]
   rw [show lyK (ks.take i) 0 ++ [(i,false),(i,true)]=lyK (ks.take i) 0 ++ [(i,false)] ++ [(i,true)] by simp]
   exact y5
  ·refine ⟨_,_,_,rfl,s4,l4,?_⟩
   rw [tk1]
   unfold lyT
   rw [if_neg c]
   exact y4
 ·rintro σ H2 ⟨v2,v3,ys,rfl,s2,l2,y2⟩
  rw [ic,List.take_length] at y2
  exact ⟨_,rfl,q l ys H2 hl l2 y2 s2⟩
theorem oa:FnScope ["self","kind","turned"] ["self","kind","turned"] (defScope bO):=⟨rfl,rfl,rfl,by decide +kernel,rfl,by decide +kernel,by decide +kernel⟩
theorem lG {f C:Addr} {fd:FuncData} (F:Fun K "is_lying" "Shop.is_lying" bO f fd) (B:Blt mg) (T:ShopTxt K C) (DW:Dn P w K mg base "is_whole" ["thing","least"] 1 (cj K)) (DU:Dn P w K mg base "is_truth" ["thing"] 1 (gm K)) (DT:Dn P w K mg base "can_lie_turned" ["kind"] 1 (eR K)) :
  FnOk P w K mg base CX0 2 f fd ["self","kind","turned"] (cS K C):=by
 refine F.ok oa (fun vs H Q E h=>?_) (fun cdv A outer s H vs Q E hr h=>?_)
 ·obtain ⟨s,b,ks,x,t,T0,U,rfl,_⟩:=h
  rfl
 obtain ⟨s,b,ks,x,t,T0,U,rfl,⟨dx,r,rs,h1,h2,h3⟩,tx,tt,q⟩:=h
 have ic:=Paired.length h3
 refine ⟨_,ae (aH (PW.pt (bh (aL (aE (ar DW hr rfl (aa (pv 1) (aa ad ab))))) (bh (ax jB (pv 1) (aI bj rfl B.len PySem.boot_len (aa (fI (pv 0) rfl) ab)) (aw _))
   (bo (aL (aE (ar DU hr rfl (aa (pv 2) ab)))))))) (ag (aq bQ)) au)
  (ag (aq (xa (kQ (pv 2)) (dj (ar DT hr rfl (aa (av ix_tup (fI (pv 0) rfl) (pv 1) (fun _ _=>rfl)) ab)))))),?_⟩
 refine ⟨_,rfl,x,_,0,rfl,tx,_,rfl,?_⟩
 cases hw:aQ x 0 with
 | false =>
  have e:dq ks x t=false:=by
   cases x with
   | int i =>
    have h0:decide (0≤i)=false:=hw
    cases t <;> first | rfl | (show (decide (0≤i) && _)=false; rw [h0,Bool.false_and])
   | _=>rfl
  rw [e] at q
  exact be (be q)
 | true =>
  have ex:∃i,x=.int i∧0≤i:=by
   cases x with
   | int i=>exact ⟨i,rfl,of_decide_eq_true hw⟩
   | _=>cases hw
  obtain ⟨i,rfl,i0⟩:=ex
  refine az ⟨_,rfl,_,rfl,s,C,dx,_,_,rfl,h1,T.cl,T.nK,cR _ _,r,rs,rfl,.inr (SqT.of h2),i,_,rfl,rfl,_,rfl,?_⟩
  by_cases hi:(rs.length:Int)≤i
  ·rw [decide_eq_true hi]
   have e:dq ks (.int i) t=false:=by
    have hn:ks[i.toNat]? = none:=List.getElem?_eq_none (by omega)
    cases t <;> first | rfl | (show (decide (0≤i) && match ks[i.toNat]? with | some k=>_ | none=>false)=false; rw [hn,Bool.and_false])
   rw [e] at q
   exact be (be q)
  ·rw [decide_eq_false hi]
   refine az ⟨_,rfl,t,_,rfl,tt,_,rfl,?_⟩
   have hlt:i.toNat < ks.length:=by omega
   cases hb:nM t with
   | false =>
    have e:dq ks (.int i) t=false:=by cases t <;> first | rfl | cases hb
    rw [e] at q
    exact be q
   | true =>
    have ex:∃c,t=.bl c:=by cases t <;> first | exact ⟨_,rfl⟩ | cases hb
    obtain ⟨c,rfl⟩:=ex
    obtain ⟨y,hy⟩:∃y,rs[i.toNat]? = some y:=⟨rs[i.toNat]'(by omega),by simp [show i.toNat < rs.length by omega]⟩
    obtain ⟨k,hk,a,rfl,ha⟩:=Paired.getR h3 hy
    have e:dq ks (.int i) (.bl c)=(!c || aW k):=by
     show (decide (0≤i) && match ks[i.toNat]? with | some k=>(!c || aW k) | none=>false)=_
     rw [hk,decide_eq_true i0,Bool.true_and]
    rw [e] at q
    refine az ⟨_,rfl,c,rfl,_,rfl,?_⟩
    refine cC (fun d=>?_) (fun d=>?_)
    ·rw [d,Bool.true_or] at q
     exact q
    ·have d':(!c)=false:=by simpa using d
     rw [d',Bool.false_or] at q
     have at':atI rs i=some (.ref a):=by
      have en:ixN rs.length i=some i.toNat:=by
       unfold ixN
       rw [if_pos i0,if_pos (by omega)]
      unfold atI
      rw [en]
      exact hy
     exact ⟨_,rfl,s,C,dx,_,_,rfl,h1,T.cl,T.nK,cR _ _,_,rfl,r,rs,i,_,rfl,rfl,SqT.of h2,at',a,k,rfl,ha,q⟩
end
def rm (k:Kd) (c:Bool):List V:=if c=true then [.int k.h,.int k.w] else [.int k.w,.int k.h]
def gp (K:PySem.W.Frag) (C:Addr):Sp:=fun vs H Q _=>∃ (s:Addr) (b:Int) (ks:List Kd) (x t:V) (T U:String),vs=[.ref s,x,t]∧ShopAt C H s b ks∧Ty K H x T∧Ty K H t U ∧
 dq ks x t=true∧∀ (i:Int) (c:Bool) (k:Kd) (p:Addr),x=.int i→t=.bl c→ks[i.toNat]? = some k→dq ks x t=true→H p=none→Q (.ref p) (upd H p (.tup (rm k c)))
theorem iN {ks:List Kd} {x t:V} (h:dq ks x t=true):∃ (i:Int) (c:Bool) (k:Kd),x=.int i∧t=.bl c∧0≤i∧ks[i.toNat]? = some k:=by
 unfold dq at h
 split at h
 ·rename_i i c
  rw [Bool.and_eq_true] at h
  obtain ⟨h1,h2⟩:=h
  split at h2
  ·rename_i k hk
   exact ⟨i,c,k,rfl,rfl,of_decide_eq_true h1,hk⟩
  ·cases h2
 ·cases h
theorem vg {rs:List V} {i:Int} {v:V} (i0:0≤i) (h:rs[i.toNat]? = some v):atI rs i=some v:=by
 have en:ixN rs.length i=some i.toNat:=by
  unfold ixN
  have:=(List.getElem?_eq_some_iff.mp h).1
  rw [if_pos i0,if_pos (by omega)]
 unfold atI
 rw [en]
 exact h
section
variable {P:Program} {w:World} {K:PySem.W.Frag} {mg:Str→Option Value} {base:Heap}
theorem scSides:FnScope ["self","kind","turned","row"] ["self","kind","turned"] (defScope cH):=⟨rfl,rfl,rfl,by decide +kernel,rfl,by decide +kernel,by decide +kernel⟩
theorem rn {f C:Addr} {fd:FuncData} (F:Fun K "sides" "Shop.sides" cH f fd) (T:ShopTxt K C) (ML:Mn P w K mg base C "is_lying" ["self","kind","turned"] 2 (cS K C)) :
  FnOk P w K mg base CX0 3 f fd ["self","kind","turned"] (gp K C):=by
 refine F.ok scSides (fun vs H Q E h=>?_) (fun cdv A outer s H vs Q E hr h=>?_)
 ·obtain ⟨s,b,ks,x,t,T0,U,rfl,_⟩:=h
  rfl
 obtain ⟨s,b,ks,x,t,T0,U,rfl,S,tx,tt,he,hq⟩:=h
 have nd:=scSides.nd
 refine ⟨_,ae (aH (aL (aE (jK (pv 0) T.cl ML hr (aa (pv 1) (aa (pv 2) ab))))) (ag eD) au)
  (ae (aG (i:=3) nd rfl (Or.inl rfl) (av ix_tup (fI (pv 0) rfl) (pv 1) (fun _ _=>rfl)))
  (ae (aH (aE (pv 2)) (ag (aq (aB (aa (av ix_tup (pv 3) ad (fun _ _=>rfl)) (aa (av ix_tup (pv 3) ad (fun _ _=>rfl)) ab))))) au)
  (ag (aq (aB (aa (av ix_tup (pv 3) ad (fun _ _=>rfl)) (aa (av ix_tup (pv 3) ad (fun _ _=>rfl)) ab))))))),?_⟩
 obtain ⟨dx,r,rs,h1,h2,h3⟩:=id S
 refine ⟨_,rfl,s,dx,_,rfl,h1,bH _ _ (by decide +kernel) (by decide +kernel),_,rfl,_,rfl,s,b,ks,x,t,T0,U,rfl,S,tx,tt,_,rfl,?_⟩
 cases hl:dq ks x t with
 | false=>rw [hl] at he; cases he
 | true =>
  obtain ⟨i,c,k,rfl,rfl,i0,hk⟩:=iN hl
  have ic:=Paired.length h3
  have hik:=(List.getElem?_eq_some_iff.mp hk).1
  obtain ⟨y,hy⟩:∃y,rs[i.toNat]? = some y:=⟨rs[i.toNat]'(by omega),by simp [show i.toNat < rs.length by omega]⟩
  obtain ⟨k',hk',a,rfl,ha⟩:=Paired.getR h3 hy
  rw [hk] at hk'
  obtain rfl:=Option.some.inj hk'
  refine az ?_
  refine ⟨_,rfl,s,C,dx,_,_,rfl,h1,T.cl,T.nK,cR _ _,_,rfl,r,rs,i,_,rfl,rfl,SqT.of h2,vg i0 hy,?_⟩
  refine ⟨_,rfl,_,rfl,?_⟩
  cases c with
  | true =>
   refine be ?_
   refine ⟨_,rfl,a,_,1,_,rfl,rfl,SqT.of ha,rfl,_,rfl,a,_,0,_,rfl,rfl,SqT.of ha,rfl,(by show 2≤sizeLine; decide),fun p hp=>?_⟩
   exact hq i true k p rfl rfl hk hl hp
  | false =>
   refine az ?_
   refine ⟨_,rfl,a,_,0,_,rfl,rfl,SqT.of ha,rfl,_,rfl,a,_,1,_,rfl,rfl,SqT.of ha,rfl,(by show 2≤sizeLine; decide),fun p hp=>?_⟩
   exact hq i false k p rfl rfl hk hl hp
end
mutual
inductive Dt (p:Addr) (H:Hp):V→PyData→Prop
 | non:Dt p H .non .none
 | bl (b:Bool):Dt p H (.bl b) (.bool b)
 | int (i:Int):Dt p H (.int i) (.int i)
 | str (z:Str):Dt p H (.str z) (.str z)
 | lst {a:Addr} {xs:List V} {ds:List PyData}:a≠p→H a=some (.lst xs)→Dts p H xs ds→Dt p H (.ref a) (.list ds)
 | tup {a:Addr} {xs:List V} {ds:List PyData}:H a=some (.tup xs)→Dts p H xs ds→Dt p H (.ref a) (.tuple ds)
 | emp {a:Addr}:H a=some (.dK [])→Dt p H (.ref a) (.dict [])
inductive Dts (p:Addr) (H:Hp):List V→List PyData→Prop
 | nil:Dts p H [] []
 | cons {x:V} {d:PyData} {xs:List V} {ds:List PyData}:Dt p H x d→Dts p H xs ds→Dts p H (x :: xs) (d :: ds)
end
mutual
theorem Dt.same {p:Addr} {H H':Hp} (s:Same H H'):∀ {v:V} {d:PyData},Dt p H v d→Dt p H' v d
 | _,_,.non=>.non
 | _,_,.bl b=>.bl b
 | _,_,.int i=>.int i
 | _,_,.str z=>.str z
 | _,_,.lst n h r=>.lst n (s _ _ h) (r.same s)
 | _,_,.tup h r=>.tup (s _ _ h) (r.same s)
 | _,_,.emp h=>.emp (s _ _ h)
theorem Dts.same {p:Addr} {H H':Hp} (s:Same H H'):∀ {vs:List V} {ds:List PyData},Dts p H vs ds→Dts p H' vs ds
 | _,_,.nil=>.nil
 | _,_,.cons a r=>.cons (a.same s) (r.same s)
end
theorem Dts.length {p:Addr} {H:Hp}:∀ {vs:List V} {ds:List PyData},Dts p H vs ds→vs.length=ds.length
 | _,_,.nil=>rfl
 | _,_,.cons _ r=>by rw [List.length_cons,List.length_cons,r.length]
theorem Dt.ty {K:PySem.W.Frag} {p:Addr} {H:Hp} {v:V} {d:PyData} (h:Dt p H v d):∃T,Ty K H v T:=by
 cases h with
 | non=>exact ⟨_,Ty.non⟩
 | bl b=>exact ⟨_,Ty.bl⟩
 | int i=>exact ⟨_,Ty.int⟩
 | str z=>exact ⟨_,Ty.str⟩
 | lst _ h _=>exact ⟨_,Ty.lst h⟩
 | tup h _=>exact ⟨_,Ty.tup h⟩
 | emp h=>exact ⟨_,Ty.dK h⟩
mutual
theorem Dt.but {p:Addr} {H H':Hp} (hp:∃xs,H p=some (.lst xs)) (b:But p H H'):∀ {v:V} {d:PyData},Dt p H v d→Dt p H' v d
 | _,_,.non=>.non
 | _,_,.bl b=>.bl b
 | _,_,.int i=>.int i
 | _,_,.str z=>.str z
 | _,_,.lst n h r=>.lst n (b _ _ n h) (r.but hp b)
 | _,_,.tup h r=>.tup (b _ _ (fun z=>by obtain ⟨_,e⟩:=hp; rw [z,e] at h; cases h) h) (r.but hp b)
 | _,_,.emp h=>.emp (b _ _ (fun z=>by obtain ⟨_,e⟩:=hp; rw [z,e] at h; cases h) h)
theorem Dts.but {p:Addr} {H H':Hp} (hp:∃xs,H p=some (.lst xs)) (b:But p H H'):∀ {vs:List V} {ds:List PyData},Dts p H vs ds→Dts p H' vs ds
 | _,_,.nil=>.nil
 | _,_,.cons a r=>.cons (a.but hp b) (r.but hp b)
end
mutual
def wt:PyData→Nat
 | .str z=>z.length + 1
 | .list ds=>wts ds + 1
 | .tuple ds=>wts ds + 1
 | _=>1
def wts:List PyData→Nat
 | []=>0
 | d :: r=>wt d + wts r
end
theorem rp (d:PyData):1≤wt d:=by cases d <;> simp only [wt] <;> omega
def aZ:PyData→Option (List PyData)
 | .list ds=>some ds
 | .tuple ds=>some ds
 | _=>none
theorem rq {d x:PyData} {ds:List PyData} (h:aZ d=some ds) (hx:x∈ds):sizeOf x < sizeOf d:=by
 have:=List.sizeOf_lt_of_mem hx
 cases d <;> simp only [aZ,Option.some.injEq,reduceCtorEq] at h
 ·subst h; simp; omega
 ·subst h; simp; omega
theorem Dt.row {K:PySem.W.Frag} {p:Addr} {H:Hp} {v:V} {d:PyData} (h:Dt p H v d):(aZ d=none∧∃T,Ty K H v T∧(T == "list" || T == "tuple")=false)∨∃a xs ds T,aZ d=some ds∧v=.ref a∧(H a=some (.lst xs)∨H a=some (.tup xs))∧Dts p H xs ds∧Ty K H v T∧(T == "list" || T == "tuple")=true:=by
 cases h with
 | non=>exact .inl ⟨rfl,_,Ty.non,rfl⟩
 | bl b=>exact .inl ⟨rfl,_,Ty.bl,rfl⟩
 | int i=>exact .inl ⟨rfl,_,Ty.int,rfl⟩
 | str z=>exact .inl ⟨rfl,_,Ty.str,rfl⟩
 | lst _ h r=>exact .inr ⟨_,_,_,_,rfl,rfl,.inl h,r,Ty.lst h,rfl⟩
 | tup h r=>exact .inr ⟨_,_,_,_,rfl,rfl,.inr h,r,Ty.tup h,rfl⟩
 | emp h=>exact .inl ⟨rfl,_,Ty.dK h,rfl⟩
def bw (d:PyData) (z:Str) (n:Nat):Bool:=match aZ d with
 | some (.str y :: r)=>decide (r.length + 1=n) && decide (y=z)
 | _=>false
section
variable {P:Program} {w:World} {K:PySem.W.Frag} {mg:Str→Option Value} {base:Heap}
def fi:Sp:=fun vs H Q _=>∃ (pp:Addr) (v:V) (d:PyData) (z:Str) (n:Nat),vs=[v,.str z,.int n]∧1≤n∧Dt pp H v d∧∀H',Same H H'→Q (.bl (bw d z n)) H'
theorem scbegins:FnScope ["thing","word","many"] ["thing","word","many"] (defScope bX):=⟨rfl,rfl,rfl,by decide +kernel,rfl,by decide +kernel,by decide +kernel⟩
theorem oe {f:Addr} {fd:FuncData} (F:Fun K "begins_with" "begins_with" bX f fd) (B:Blt mg) (bs:mg "str" = none) (DR:Dn P w K mg base "is_row" ["thing"] 1 (jI K)):FnOk P w K mg base CX0 2 f fd ["thing","word","many"] (fi):=by
 refine F.ok scbegins (fun vs H Q E h=>?_) (fun cdv A outer s H vs Q E hr h=>?_)
 ·obtain ⟨pp,v,d,z,n,rfl,_⟩:=h
  rfl
 obtain ⟨pp,v,d,z,n,rfl,n1,hd,q⟩:=h
 have nd:=scbegins.nd
 refine ⟨_,(@ae _ _ _ _ _ (@aH _ _ _ _ _ _ _ _ (PW.pt (bh (@aL _ _ _ _ (@aE _ _ _ (@ar _ _ _ _ _ _ _ _ _ _ DR hr rfl (@aa _ _ _ _ _ (pv 0) ab rfl) (by decide) rfl rfl) (by intro _; rfl))) (bo (@ax _ _ _ _ _ _ _ _ eE (@aI _ _ _ _ _ _ _ _ _ bj rfl B.len PySem.boot_len (@aa _ _ _ _ _ (pv 0) ab rfl) (by decide) (by decide) rfl rfl) (pv 2) (aw _))))) (@ag _ _ _ (@aq _ _ _ _ bQ)) au) (@ag _ _ _ (@aq _ _ _ _ (cx (@aI _ _ _ _ _ _ _ _ _ aT rfl B.isi PyProof.Rows.boot_isinstance (@aa _ _ _ _ _ (@av _ _ _ _ _ _ _ cN (pv 0) ad (fun _ _=>rfl)) (@aa _ _ _ _ _ (bE (v:=.ty "str") rfl bs PyProof.Rows.boot_str rfl) ab rfl) rfl) (by decide) (by decide) rfl rfl) (dj (@bg _ _ _ _ _ _ _ _ cB (@av _ _ _ _ _ _ _ cN (pv 0) ad (fun _ _=>rfl)) (pv 1) (aw _))))))),?_⟩
 rcases hd.row (K:=K) with ⟨e,T,ty,hT⟩ | ⟨a,xs,ds,T,e,rfl,hx,dx,ty,hT⟩
 ·refine ⟨_,rfl,v,T,rfl,ty,fun H1 s1=>⟨_,rfl,?_⟩⟩
  rw [hT]
  have q1:=q H1 s1
  unfold bw at q1
  rw [e] at q1
  exact be (be q1)
 refine ⟨_,rfl,_,T,rfl,ty,fun H1 s1=>⟨_,rfl,?_⟩⟩
 rw [hT]
 have sq:SqL K H1 a xs∨SqT K H1 a xs:=hx.imp (fun z=>SqL.of (s1 _ _ z)) fun z=>SqT.of (s1 _ _ z)
 refine az ⟨_,rfl,a,_,rfl,sq,_,rfl,rfl,_,rfl,?_⟩
 have q1:=q H1 s1
 have len:=dx.length
 cases dx with
 | nil =>
  rw [show decide (V.int (([]:List V).length:Int)=V.int (n:Int))=false from decide_eq_false (fun z=>by have:=V.int.inj z; simp at this; omega)]
  unfold bw at q1
  rw [e] at q1
  exact be q1
 | @cons x d1 xs ds hd1 dr =>
  have a0:atI (x :: xs) 0=some x:=aY (Int.le_refl _) rfl
  have ixs:∀Q':VK,Q' x H1→rIx K (.ref a) (.int 0) H1 Q':=fun Q' h=>sq.elim (fun z=>.inl ⟨a,_,0,x,rfl,rfl,z,a0,h⟩) (fun z=>.inr (.inl ⟨a,_,0,x,rfl,rfl,z,a0,h⟩))
  rw [List.length_cons,List.length_cons] at len
  by_cases hn:ds.length + 1=n
  ·rw [show decide (V.int ((x :: xs).length:Int)=V.int (n:Int))=true from decide_eq_true (by rw [List.length_cons,len,hn])]
   refine az ⟨_,rfl,ixs _ ?_⟩
   cases hd1 with
   | str y =>
    refine ⟨_,_,_,_,_,rfl,(Ty.str (K:=K)).2,rfl,dk "str" (by simp [aA]),_,rfl,be ?_⟩
    refine ⟨_,rfl,ixs _ ⟨_,rfl,rfl,?_⟩⟩
    unfold bw at q1
    rw [e] at q1
    simp only [hn,decide_true,Bool.true_and] at q1
    rw [show decide (V.str y=V.str z)=decide (y=z) from decide_eq_decide.mpr ⟨V.str.inj,congrArg _⟩]
    exact q1
   | non=>exact ⟨_,_,_,_,_,rfl,(Ty.non (K:=K)).2,rfl,dk "NoneType" (by simp [aA]),_,rfl,az (by unfold bw at q1; rw [e] at q1; exact q1)⟩
   | bl b=>exact ⟨_,_,_,_,_,rfl,(Ty.bl (K:=K)).2,rfl,dk "bool" (by simp [aA]),_,rfl,az (by unfold bw at q1; rw [e] at q1; exact q1)⟩
   | int i=>exact ⟨_,_,_,_,_,rfl,(Ty.int (K:=K)).2,rfl,dk "int" (by simp [aA]),_,rfl,az (by unfold bw at q1; rw [e] at q1; exact q1)⟩
   | lst _ h r=>exact ⟨_,_,_,_,_,rfl,(Ty.lst (s1 _ _ h) (K:=K)).2,rfl,dk "list" (by simp [aA]),_,rfl,az (by unfold bw at q1; rw [e] at q1; exact q1)⟩
   | tup h r=>exact ⟨_,_,_,_,_,rfl,(Ty.tup (s1 _ _ h) (K:=K)).2,rfl,dk "tuple" (by simp [aA]),_,rfl,az (by unfold bw at q1; rw [e] at q1; exact q1)⟩
   | emp h=>exact ⟨_,_,_,_,_,rfl,(Ty.dK (s1 _ _ h) (K:=K)).2,rfl,dk "dict" (by simp [aA]),_,rfl,az (by unfold bw at q1; rw [e] at q1; exact q1)⟩
  ·rw [show decide (V.int ((x :: xs).length:Int)=V.int (n:Int))=false from decide_eq_false (fun z=>hn (by have:=V.int.inj z; rw [List.length_cons,len] at this; omega))]
   refine be ?_
   have z:bw d z n=false:=by
    unfold bw
    rw [e]
    cases d1 <;> simp [hn]
   rw [z] at q1
   exact q1
def sd1 (k:Kd) (c:Bool):Int:=if c=true then k.h else k.w
def sd2 (k:Kd) (c:Bool):Int:=if c=true then k.w else k.h
theorem ko (k:Kd) (c:Bool):rm k c=[.int (sd1 k c),.int (sd2 k c)]:=by cases c <;> rfl
def ez (ks:List Kd) (w h:Int) (kv tv xv yv:V):Bool:=dq ks kv tv && aQ xv 0 && aQ yv 0 && (match kv,tv,xv,yv with
 | .int i,.bl c,.int x,.int y=>(match ks[i.toNat]? with
  | some k=>decide (x + sd1 k c≤w) && decide (y + sd2 k c≤h)
  | none=>false)
 | _,_,_,_=>false)
def jk (K:PySem.W.Frag) (C:Addr):Sp:=fun vs H Q _=>∃ (s:Addr) (b:Int) (ks:List Kd) (w h:Int) (kv tv xv yv:V) (T1 T2 T3 T4:String),vs=[.ref s,.int w,.int h,kv,tv,xv,yv]∧ShopAt C H s b ks∧Ty K H kv T1∧Ty K H tv T2∧Ty K H xv T3∧Ty K H yv T4∧∀H',Same H H'→Q (.bl (ez ks w h kv tv xv yv)) H'
theorem scliesG:FnScope ["shop","wide","high","kind","turned","x","y","piece_wide","piece_high"] ["shop","wide","high","kind","turned","x","y"] (defScope dw):=⟨rfl,rfl,rfl,by decide +kernel,rfl,by decide +kernel,by decide +kernel⟩
theorem rz {f C:Addr} {fd:FuncData} (F:Fun K "lies_in" "lies_in" dw f fd) (T:ShopTxt K C) (DW:Dn P w K mg base "is_whole" ["thing","least"] 1 (cj K)) (MI:Mn P w K mg base C "is_lying" ["self","kind","turned"] 2 (cS K C)) (MS:Mn P w K mg base C "sides" ["self","kind","turned"] 3 (gp K C)):FnOk P w K mg base CX0 4 f fd ["shop","wide","high","kind","turned","x","y"] (jk K C):=by
 refine F.ok scliesG (fun vs H Q E h=>?_) (fun cdv A outer s H vs Q E hr h=>?_)
 ·obtain ⟨s,b,ks,w1,h1,kv,tv,xv,yv,T1,T2,T3,T4,rfl,_⟩:=h
  rfl
 obtain ⟨s,b,ks,w1,h1',kv,tv,xv,yv,T1,T2,T3,T4,rfl,S,t1,t2,t3,t4,q⟩:=h
 have nd:=scliesG.nd
 have hr1:=hr.mono (show 1≤3 by decide)
 have hr2:=hr.mono (show 2≤3 by decide)
 refine ⟨_,(@ae _ _ _ _ _ (@aH _ _ _ _ _ _ _ _ (PW.pt (bh (@aL _ _ _ _ (@aE _ _ _ (jK (pv 0) T.cl MI hr2 (@aa _ _ _ _ _ (pv 3) (@aa _ _ _ _ _ (pv 4) ab rfl) rfl)) (by intro _; rfl))) (bh (@aL _ _ _ _ (@aE _ _ _ (@ar _ _ _ _ _ _ _ _ _ _ DW hr1 rfl (@aa _ _ _ _ _ (pv 5) (@aa _ _ _ _ _ ad ab rfl) rfl) (by decide) rfl rfl) (by intro _; rfl))) (bo (@aL _ _ _ _ (@aE _ _ _ (@ar _ _ _ _ _ _ _ _ _ _ DW hr1 rfl (@aa _ _ _ _ _ (pv 6) (@aa _ _ _ _ _ ad ab rfl) rfl) (by decide) rfl rfl) (by intro _; rfl))))))) (@ag _ _ _ (@aq _ _ _ _ bQ)) au) (@ae _ _ _ _ _ (@bi _ _ _ _ _ _ (jK (pv 0) T.cl MS hr (@aa _ _ _ _ _ (pv 3) (@aa _ _ _ _ _ (pv 4) ab rfl) rfl)) (aU rfl (ah (ai (i:=7) nd rfl (Or.inl rfl)) (ah (ai (i:=8) nd rfl (Or.inl rfl)) aK))) rfl rfl rfl) (@ag _ _ _ (@aq _ _ _ _ (cx (@bg _ _ _ _ _ _ _ _ ix (@aD _ _ _ _ _ _ _ _ aS (pv 5) (pv 7)) (pv 1) (aw _)) (dj (@bg _ _ _ _ _ _ _ _ ix (@aD _ _ _ _ _ _ _ _ aS (pv 6) (pv 8)) (pv 2) (aw _)))))))),?_⟩
 obtain ⟨dx,r,rs,h1,h2,h3⟩:=id S
 refine ⟨_,rfl,s,dx,_,rfl,h1,(bH _ _ (by decide +kernel) (by decide +kernel)),_,rfl,_,rfl,s,b,ks,kv,tv,T1,T2,rfl,S,t1,t2,_,rfl,?_⟩
 cases ly:dq ks kv tv with
 | false =>
  have q1:=q H (Same.refl _)
  unfold ez at q1
  rw [ly] at q1
  exact be (be q1)
 | true =>
 refine az ⟨_,rfl,xv,T3,0,rfl,t3,_,rfl,?_⟩
 cases hx:aQ xv 0 with
 | false =>
  have q1:=q H (Same.refl _)
  unfold ez at q1
  rw [ly,hx] at q1
  exact be (be q1)
 | true =>
 refine az ⟨_,rfl,yv,T4,0,rfl,t4,_,rfl,?_⟩
 cases hy:aQ yv 0 with
 | false =>
  have q1:=q H (Same.refl _)
  unfold ez at q1
  rw [ly,hx,hy] at q1
  exact be q1
 | true =>
 refine az ?_
 obtain ⟨i,c,k,rfl,rfl,i0,hk⟩:=iN ly
 obtain ⟨x1,rfl⟩:∃i,xv=.int i:=by cases xv <;> first | exact ⟨_,rfl⟩ | cases hx
 obtain ⟨y1,rfl⟩:∃i,yv=.int i:=by cases yv <;> first | exact ⟨_,rfl⟩ | cases hy
 refine ⟨_,rfl,s,dx,_,rfl,h1,(bH _ _ (by decide +kernel) (by decide +kernel)),_,rfl,_,rfl,s,b,ks,.int i,.bl c,T1,T2,rfl,S,t1,t2,ly,fun i' c' k' p e1 e2 hk' _ hp=>?_⟩
 cases e1
 cases e2
 rw [hk] at hk'
 cases hk'
 rw [ko]
 have q1:=q _ (Same.new hp (o:=.tup [.int (sd1 k c),.int (sd2 k c)]))
 refine ⟨p,_,rfl,SqT.of af,rfl,_,_,rfl,_,_,rfl,rfl,?_⟩
 refine ⟨_,rfl,_,rfl,_,_,rfl,rfl,_,rfl,_,_,rfl,rfl,_,rfl,?_⟩
 unfold ez at q1
 rw [ly,hx,hy] at q1
 simp only [hk,Bool.true_and] at q1
 refine cC (fun cc=>?_) (fun cc=>?_)
 ·refine ⟨_,rfl,_,rfl,_,_,rfl,rfl,_,rfl,_,_,rfl,rfl,?_⟩
  rw [cc,Bool.true_and] at q1
  exact q1
 ·rw [show decide (x1 + sd1 k c≤w1)=false by simpa using cc,Bool.false_and] at q1
  exact q1
end
theorem Dts.one {p:Addr} {H:Hp} {xs:List V} {ds:List PyData} {n:Nat} (h:Dts p H xs ds) (hl:ds.length=n + 1):∃x d xs' ds',xs=x :: xs'∧ds=d :: ds'∧Dt p H x d∧Dts p H xs' ds'∧ds'.length=n:=by
 cases h with
 | nil=>cases hl
 | cons a r=>exact ⟨_,_,_,_,rfl,rfl,a,r,Nat.succ.inj hl⟩
theorem Dts.zero {p:Addr} {H:Hp} {xs:List V} {ds:List PyData} (h:Dts p H xs ds) (hl:ds.length=0):xs=[]∧ds=[]:=by
 cases h with
 | nil=>exact ⟨rfl,rfl⟩
 | cons a r=>cases hl
theorem Dts.three {p:Addr} {H:Hp} {xs:List V} {ds:List PyData} (h:Dts p H xs ds) (hl:ds.length=3):∃x1 x2 x3 d1 d2 d3,xs=[x1,x2,x3]∧ds=[d1,d2,d3]∧Dt p H x1 d1∧Dt p H x2 d2∧Dt p H x3 d3:=by
 obtain ⟨x1,d1,xs,ds,rfl,rfl,h1,h,hl⟩:=h.one hl
 obtain ⟨x2,d2,xs,ds,rfl,rfl,h2,h,hl⟩:=h.one hl
 obtain ⟨x3,d3,xs,ds,rfl,rfl,h3,h,hl⟩:=h.one hl
 obtain ⟨rfl,rfl⟩:=h.zero hl
 exact ⟨_,_,_,_,_,_,rfl,rfl,h1,h2,h3⟩
theorem Dts.four {p:Addr} {H:Hp} {xs:List V} {ds:List PyData} (h:Dts p H xs ds) (hl:ds.length=4):∃x1 x2 x3 x4 d1 d2 d3 d4,xs=[x1,x2,x3,x4]∧ds=[d1,d2,d3,d4]∧Dt p H x1 d1∧Dt p H x2 d2∧Dt p H x3 d3∧Dt p H x4 d4:=by
 obtain ⟨x1,d1,xs,ds,rfl,rfl,h1,h,hl⟩:=h.one hl
 obtain ⟨x2,x3,x4,d2,d3,d4,rfl,rfl,h2,h3,h4⟩:=h.three hl
 exact ⟨_,_,_,_,_,_,_,_,rfl,rfl,h1,h2,h3,h4⟩
section
variable {P:Program} {w:World} {K:PySem.W.Frag} {mg:Str→Option Value} {base:Heap}
structure TrC (K:PySem.W.Frag) (mg:Str→Option Value) (wa:Addr):Prop where
 dn:∃t,mg "DOWN" = some (.str "down" t)
 rs:∃t,mg "REST" = some (.str "rest" t)
 pc:∃t,mg "PIECE" = some (.str "piece" t)
 n1:∃t,mg "THINGS_OF_A_REST" = some (.int 1 t)
 n5:∃t,mg "THINGS_OF_A_PIECE" = some (.int 5 t)
 n4:∃t,mg "THINGS_OF_A_CUT" = some (.int 4 t)
 wy:mg "WAYS" = some (.ref wa)
 wq:∀H,SqT K H wa [.str "down",.str "across"]
def tL (b side:Int):PyData→Bool
 | .int p=>decide (1≤p) && decide (p + b < side)
 | _=>false
def dZ (b side:Int) (d:PyData):Bool:=match aZ d with
 | some [_,p,_,_]=>tL b side p
 | _=>false
def isC (b w h:Int) (d:PyData):Bool:=if bw d "down" 4=true then dZ b w d else if bw d "across" 4=true then dZ b h d else false
def kq (ks:List Kd) (w h:Int):PyData→PyData→PyData→PyData→Bool
 | .int i,.bool c,.int x,.int y=>ez ks w h (.int i) (.bl c) (.int x) (.int y)
 | _,_,_,_=>false
def isL (ks:List Kd) (w h:Int) (d:PyData):Bool:=if bw d "piece" 5=true then (match aZ d with
 | some [_,k,t,x,y]=>kq ks w h k t x y
 | _=>false) else bw d "rest" 1
def fj:Sp:=fun vs H Q _=>∃ (b w h p:Int) (t:Addr) (dn:Bool),vs=[.int b,.ref t,.str (if dn=true then "down" else "across"),.int p]∧H t=some (.tup [.int w,.int h]) ∧
 ∀ (u t1 t2:Addr) (H':Hp),H' u=some (.tup [.ref t1,.ref t2])→H' t1=some (.tup (if dn=true then [.int p,.int h] else [.int w,.int p]))→H' t2=some (.tup (if dn=true then [.int (w - p - b),.int h] else [.int w,.int (h - p - b)]))→Same H H'→Q (.ref u) H'
def rA:Sp:=fun vs H Q _=>∃ (pp:Addr) (b x y w h:Int) (sp:Addr) (v:V) (d:PyData),vs=[.int b,.ref sp]∧H sp=some (.tup [.int x,.int y,.int w,.int h,v])∧Dt pp H v d∧∀H',Same H H'→Q (.bl (isC b w h d)) H'
def lH (C:Addr):Sp:=fun vs H Q _=>∃ (pp:Addr) (b' x y w h:Int) (s sp:Addr) (ks:List Kd) (v:V) (d:PyData),vs=[.ref s,.ref sp]∧ShopAt C H s b' ks∧H sp=some (.tup [.int x,.int y,.int w,.int h,v])∧Dt pp H v d∧∀H',Same H H'→Q (.bl (isL ks w h d)) H'
def fk:Sp:=fun vs H Q _=>∃ (b x y w h p:Int) (sp a:Addr) (dn:Bool) (l r:V),vs=[.int b,.ref sp]∧H sp=some (.tup [.int x,.int y,.int w,.int h,.ref a])∧(H a=some (.lst [.str (if dn=true then "down" else "across"),.int p,l,r])∨H a=some (.tup [.str (if dn=true then "down" else "across"),.int p,l,r])) ∧
 ∀ (u t1 t2:Addr) (H':Hp),H u=none→H' u=some (.lst [.ref t1,.ref t2])→H' t1=some (.tup (if dn=true then [.int x,.int y,.int p,.int h,l] else [.int x,.int y,.int w,.int p,l])) →
  H' t2=some (.tup (if dn=true then [.int (x + (p + b)),.int y,.int (w - p - b),.int h,r] else [.int x,.int (y + (p + b)),.int w,.int (h - p - b),r]))→Same H H'→Q (.ref u) H'
theorem scparts2:FnScope ["blade","part","way","p","wide","high"] ["blade","part","way","p"] (defScope cU):=⟨rfl,rfl,rfl,by decide +kernel,rfl,by decide +kernel,by decide +kernel⟩
theorem og {f wa:Addr} {fd:FuncData} (F:Fun K "cut_parts" "cut_parts" cU f fd) (Z:TrC K mg wa):FnOk P w K mg base CX0 1 f fd ["blade","part","way","p"] (fj):=by
 refine F.ok scparts2 (fun vs H Q E h=>?_) (fun cdv A outer s H vs Q E hr h=>?_)
 ·obtain ⟨b,w1,h1,p1,t,dn,rfl,_⟩:=h
  rfl
 obtain ⟨b,w1,h1,p1,t,dn,rfl,ht,q⟩:=h
 have nd:=scparts2.nd
 obtain ⟨tdn,hdn⟩:=Z.dn
 obtain ⟨trs,hrs⟩:=Z.rs
 obtain ⟨tpc,hpc⟩:=Z.pc
 obtain ⟨tn1,hn1⟩:=Z.n1
 obtain ⟨tn5,hn5⟩:=Z.n5
 obtain ⟨tn4,hn4⟩:=Z.n4
 refine ⟨_,(@ae _ _ _ _ _ (@bi _ _ _ _ _ _ (pv 1) (aU rfl (ah (ai (i:=4) nd rfl (Or.inl rfl)) (ah (ai (i:=5) nd rfl (Or.inl rfl)) aK))) rfl rfl rfl) (@ae _ _ _ _ _ (@aH _ _ _ _ _ _ _ _ (@ax _ _ _ _ _ _ _ _ cB (pv 2) (aR (v:=.str "down") rfl hdn ⟨tdn,rfl⟩) (aw _)) (@ag _ _ _ (@aq _ _ _ _ (@aB _ _ _ _ _ (@aa _ _ _ _ _ (@aB _ _ _ _ _ (@aa _ _ _ _ _ (pv 3) (@aa _ _ _ _ _ (pv 5) ab rfl) rfl)) (@aa _ _ _ _ _ (@aB _ _ _ _ _ (@aa _ _ _ _ _ (@aD _ _ _ _ _ _ _ _ cM (@aD _ _ _ _ _ _ _ _ cM (pv 4) (pv 3)) (pv 0)) (@aa _ _ _ _ _ (pv 5) ab rfl) rfl)) ab rfl) rfl)))) au) (@ag _ _ _ (@aq _ _ _ _ (@aB _ _ _ _ _ (@aa _ _ _ _ _ (@aB _ _ _ _ _ (@aa _ _ _ _ _ (pv 4) (@aa _ _ _ _ _ (pv 3) ab rfl) rfl)) (@aa _ _ _ _ _ (@aB _ _ _ _ _ (@aa _ _ _ _ _ (pv 4) (@aa _ _ _ _ _ (@aD _ _ _ _ _ _ _ _ cM (@aD _ _ _ _ _ _ _ _ cM (pv 5) (pv 3)) (pv 0)) ab rfl) rfl)) ab rfl) rfl)))))),?_⟩
 refine ⟨_,rfl,t,_,rfl,SqT.of ht,rfl,_,_,rfl,_,_,rfl,rfl,?_⟩
 cases dn with
 | true =>
  refine ⟨_,rfl,rfl,_,rfl,be ?_⟩
  refine ⟨_,rfl,_,rfl,(by show 2≤sizeLine; decide),fun t1 h1'=>?_⟩
  have sa:Same H (upd H t1 (.tup [.int p1,.int h1])):=Same.new h1'
  have ka:(upd H t1 (.tup [.int p1,.int h1])) t1=some (.tup [.int p1,.int h1]):=af
  generalize upd H t1 (.tup [.int p1,.int h1])=Ha at sa ka ⊢
  refine ⟨_,rfl,_,rfl,_,_,rfl,rfl,_,rfl,_,_,rfl,rfl,_,rfl,(by show 2≤sizeLine; decide),fun t2 h2'=>?_⟩
  have sb:Same Ha (upd Ha t2 (.tup [.int (w1 - p1 - b),.int h1])):=Same.new h2'
  have kb:(upd Ha t2 (.tup [.int (w1 - p1 - b),.int h1])) t2=some (.tup [.int (w1 - p1 - b),.int h1]):=af
  generalize upd Ha t2 (.tup [.int (w1 - p1 - b),.int h1])=Hb at sb kb ⊢
  refine ⟨(by show 2≤sizeLine; decide),fun u hu=>?_⟩
  have sc:Same Hb (upd Hb u (.tup [.ref t1,.ref t2])):=Same.new hu
  have kc:(upd Hb u (.tup [.ref t1,.ref t2])) u=some (.tup [.ref t1,.ref t2]):=af
  generalize upd Hb u (.tup [.ref t1,.ref t2])=Hc at sc kc ⊢
  exact q u t1 t2 Hc kc (sc _ _ (sb _ _ ka)) (sc _ _ kb) ((sa.trans sb).trans sc)
 | false =>
  refine ⟨_,rfl,rfl,_,rfl,az ?_⟩
  refine ⟨_,rfl,_,rfl,(by show 2≤sizeLine; decide),fun t1 h1'=>?_⟩
  have sa:Same H (upd H t1 (.tup [.int w1,.int p1])):=Same.new h1'
  have ka:(upd H t1 (.tup [.int w1,.int p1])) t1=some (.tup [.int w1,.int p1]):=af
  generalize upd H t1 (.tup [.int w1,.int p1])=Ha at sa ka ⊢
  refine ⟨_,rfl,_,rfl,_,rfl,_,_,rfl,rfl,_,rfl,_,_,rfl,rfl,(by show 2≤sizeLine; decide),fun t2 h2'=>?_⟩
  have sb:Same Ha (upd Ha t2 (.tup [.int w1,.int (h1 - p1 - b)])):=Same.new h2'
  have kb:(upd Ha t2 (.tup [.int w1,.int (h1 - p1 - b)])) t2=some (.tup [.int w1,.int (h1 - p1 - b)]):=af
  generalize upd Ha t2 (.tup [.int w1,.int (h1 - p1 - b)])=Hb at sb kb ⊢
  refine ⟨(by show 2≤sizeLine; decide),fun u hu=>?_⟩
  have sc:Same Hb (upd Hb u (.tup [.ref t1,.ref t2])):=Same.new hu
  have kc:(upd Hb u (.tup [.ref t1,.ref t2])) u=some (.tup [.ref t1,.ref t2]):=af
  generalize upd Hb u (.tup [.ref t1,.ref t2])=Hc at sc kc ⊢
  exact q u t1 t2 Hc kc (sc _ _ (sb _ _ ka)) (sc _ _ kb) ((sa.trans sb).trans sc)
theorem gQ {d:PyData} {z:Str} {n:Nat} (h:bw d z n=true):∃r,aZ d=some (.str z :: r)∧r.length + 1=n:=by
 unfold bw at h
 split at h
 ·rename_i y r e
  rw [Bool.and_eq_true] at h
  have:=of_decide_eq_true h.2
  subst this
  exact ⟨r,e,of_decide_eq_true h.1⟩
 ·cases h
theorem Dt.ref_row {p:Addr} {H:Hp} {v:V} {d:PyData} {ds:List PyData} (h:Dt p H v d) (e:aZ d=some ds):∃a xs,v=.ref a∧(H a=some (.lst xs)∨H a=some (.tup xs))∧Dts p H xs ds:=by
 cases h <;> simp only [aZ,Option.some.injEq,reduceCtorEq] at e
 ·subst e; exact ⟨_,_,rfl,.inl ‹_›,‹_›⟩
 ·subst e; exact ⟨_,_,rfl,.inr ‹_›,‹_›⟩
theorem ixR {H H1:Hp} {a:Addr} {xs:List V} (s1:Same H H1) (hx:H a=some (.lst xs)∨H a=some (.tup xs)) {i:Int} {x:V} (e:atI xs i=some x) {Q':VK} (h:Q' x H1):rIx K (.ref a) (.int i) H1 Q' :=
 hx.elim (fun z=>.inl ⟨a,_,i,x,rfl,rfl,SqL.of (s1 _ _ z),e,h⟩) (fun z=>.inr (.inl ⟨a,_,i,x,rfl,rfl,SqT.of (s1 _ _ z),e,h⟩))
theorem sccut:FnScope ["blade","spot","tree","way","side"] ["blade","spot"] (defScope gK):=⟨rfl,rfl,rfl,by decide +kernel,rfl,by decide +kernel,by decide +kernel⟩
theorem vh {f wa:Addr} {fd:FuncData} (F:Fun K "is_cut" "is_cut" gK f fd) (Z:TrC K mg wa) (DB:Dn P w K mg base "begins_with" ["thing","word","many"] 2 fi) (DW:Dn P w K mg base "is_whole" ["thing","least"] 1 (cj K)):FnOk P w K mg base CX0 3 f fd ["blade","spot"] (rA):=by
 refine F.ok sccut (fun vs H Q E h=>?_) (fun cdv A outer s H vs Q E hr h=>?_)
 ·obtain ⟨pp,b,x1,y1,w1,h1,sp,v,d,rfl,_⟩:=h
  rfl
 obtain ⟨pp,b,x0',y0',w1,h1,sp,v,d,rfl,hsp,hd,q⟩:=h
 have nd:=sccut.nd
 obtain ⟨tdn,hdn⟩:=Z.dn
 obtain ⟨trs,hrs⟩:=Z.rs
 obtain ⟨tpc,hpc⟩:=Z.pc
 obtain ⟨tn1,hn1⟩:=Z.n1
 obtain ⟨tn5,hn5⟩:=Z.n5
 obtain ⟨tn4,hn4⟩:=Z.n4
 have hr1:=hr.mono (show 1≤2 by decide)
 refine ⟨_,(@ae _ _ _ _ _ (@aG _ _ 2 _ _ _ _ nd rfl (Or.inl rfl) (@av _ _ _ _ _ _ _ ix_tup (pv 1) ad (fun _ _=>rfl)) rfl (Or.inl rfl)) (@ae _ _ _ _ _ (@cz _ _ _ _ _ _ _ _ PassesOwn.never rfl (kS (aR (v:=.ref wa) rfl Z.wy rfl)) (ai (i:=3) nd rfl (Or.inl rfl)) (@ag _ _ _ (@aH _ _ _ _ _ _ _ _ (@aE _ _ _ (@ar _ _ _ _ _ _ _ _ _ _ DB hr rfl (@aa _ _ _ _ _ (pv 2) (@aa _ _ _ _ _ (pv 3) (@aa _ _ _ _ _ (aR (v:=.int 4) rfl hn4 ⟨tn4,rfl⟩) ab rfl) rfl) rfl) (by decide) rfl rfl) (by intro _; rfl)) (@ae _ _ _ _ _ (@aG _ _ 4 _ _ _ _ nd rfl (Or.inl rfl) (gs (@ax _ _ _ _ _ _ _ _ cB (pv 3) (aR (v:=.str "down") rfl hdn ⟨tdn,rfl⟩) (aw _)) (@av _ _ _ _ _ _ _ ix_tup (pv 1) ad (fun _ _=>rfl)) (@av _ _ _ _ _ _ _ ix_tup (pv 1) ad (fun _ _=>rfl))) rfl (Or.inl rfl)) (@ag _ _ _ (@aq _ _ _ _ (cx (@ar _ _ _ _ _ _ _ _ _ _ DW hr1 rfl (@aa _ _ _ _ _ (@av _ _ _ _ _ _ _ cN (pv 2) ad (fun _ _=>rfl)) (@aa _ _ _ _ _ ad ab rfl) rfl) (by decide) rfl rfl) (dj (@bg _ _ _ _ _ _ _ _ um (@aD _ _ _ _ _ _ _ _ aS (@av _ _ _ _ _ _ _ cN (pv 2) ad (fun _ _=>rfl)) (pv 0)) (pv 4) (aw _))))))) au)) (by intro _; rfl)) (@ag _ _ _ (@aq _ _ _ _ bQ)))),?_⟩
 refine ⟨_,rfl,sp,_,4,_,rfl,rfl,SqT.of hsp,rfl,?_⟩
 refine ⟨wa, rfl, ⟨_, Z.wq H⟩, mt (xs:=[.str "down", .str "across"]) (fun i σ H'=>(∃v3 v4, σ=[some (.int b), some (.ref sp), some v, v3, v4])∧Same H H'∧(1≤i→bw d "down" 4=false)∧(2≤i→bw d "across" 4=false)) ⟨⟨_, _, rfl⟩, Same.refl _, fun z=>absurd z (by decide), fun z=>absurd z (by decide)⟩ (fun i σ H' _ _=>Z.wq H') ?_ ?_⟩
 ·rintro i y σ H1 hi ⟨⟨v3,v4,rfl⟩,s1,g1,g2⟩
  match i,hi with
  | 0,hi =>
   cases hi
   refine ⟨_,rfl,_,rfl,pp,v,d,"down",4,rfl,by decide,hd.same s1,fun H2 s12=>⟨_,rfl,?_⟩⟩
   have s2:=s1.trans s12
   refine cC (fun hb=>?_) (fun hb=>⟨⟨_,_,rfl⟩,s2,fun _=>by simpa using hb,fun z=>absurd z (by decide)⟩)
   obtain ⟨r0,er,rl⟩:=gQ hb
   obtain ⟨a,xs,rfl,hx,dx⟩:=hd.ref_row er
   cases dx with
   | @cons x0 _ xs0 _ hd0 dx =>
   obtain ⟨x1,x2,x3,d1,d2,d3,rfl,rfl,hd1,hd2,hd3⟩:=dx.three (by simpa using rl)
   have sp2:=s2 _ _ hsp
   have co:dZ b w1 d=tL b w1 d1:=by
    unfold dZ
    rw [er]
   refine ⟨_,rfl,rfl,_,rfl,be ⟨_,rfl,sp,_,2,_,rfl,rfl,SqT.of sp2,rfl,?_⟩⟩
   have at1:atI [x0,x1,x2,x3] 1=some x1:=aY (by decide) rfl
   obtain ⟨T1,t1⟩:=(hd1.same s2).ty (K:=K)
   refine ⟨_,rfl,ixR s2 hx at1 ⟨x1,T1,1,rfl,t1,_,rfl,?_⟩⟩
   have q1:=q H2 s2
   unfold isC at q1
   rw [if_pos hb,co] at q1
   cases hd1 with
   | int p =>
    have q1:Q (.bl (decide (1≤p) && decide (p + b < w1))) H2:=q1
    refine cC (fun cc=>?_) (fun cc=>?_)
    ·have cc:decide (1≤p)=true:=cc
     refine ⟨_,rfl,ixR s2 hx at1 ⟨_,rfl,_,_,rfl,rfl,_,rfl,_,_,rfl,rfl,?_⟩⟩
     rw [cc,Bool.true_and] at q1
     exact q1
    ·have cc:¬ decide (1≤p)=true:=cc
     rw [show decide (1≤p)=false by simpa using cc,Bool.false_and] at q1
     exact q1
   | _=>exact az q1
  | 1,hi =>
   cases hi
   have hb0:=g1 (by decide)
   refine ⟨_,rfl,_,rfl,pp,v,d,"across",4,rfl,by decide,hd.same s1,fun H2 s12=>⟨_,rfl,?_⟩⟩
   have s2:=s1.trans s12
   refine cC (fun hb=>?_) (fun hb=>⟨⟨_,_,rfl⟩,s2,fun _=>hb0,fun _=>by simpa using hb⟩)
   obtain ⟨r0,er,rl⟩:=gQ hb
   obtain ⟨a,xs,rfl,hx,dx⟩:=hd.ref_row er
   cases dx with
   | @cons x0 _ xs0 _ hd0 dx =>
   obtain ⟨x1,x2,x3,d1,d2,d3,rfl,rfl,hd1,hd2,hd3⟩:=dx.three (by simpa using rl)
   have sp2:=s2 _ _ hsp
   have co:dZ b h1 d=tL b h1 d1:=by
    unfold dZ
    rw [er]
   refine ⟨_,rfl,rfl,_,rfl,az ⟨_,rfl,sp,_,3,_,rfl,rfl,SqT.of sp2,rfl,?_⟩⟩
   have at1:atI [x0,x1,x2,x3] 1=some x1:=aY (by decide) rfl
   obtain ⟨T1,t1⟩:=(hd1.same s2).ty (K:=K)
   refine ⟨_,rfl,ixR s2 hx at1 ⟨x1,T1,1,rfl,t1,_,rfl,?_⟩⟩
   have q1:=q H2 s2
   unfold isC at q1
   rw [if_neg (by rw [hb0]; decide),if_pos hb,co] at q1
   cases hd1 with
   | int p =>
    have q1:Q (.bl (decide (1≤p) && decide (p + b < h1))) H2:=q1
    refine cC (fun cc=>?_) (fun cc=>?_)
    ·have cc:decide (1≤p)=true:=cc
     refine ⟨_,rfl,ixR s2 hx at1 ⟨_,rfl,_,_,rfl,rfl,_,rfl,_,_,rfl,rfl,?_⟩⟩
     rw [cc,Bool.true_and] at q1
     exact q1
    ·have cc:¬ decide (1≤p)=true:=cc
     rw [show decide (1≤p)=false by simpa using cc,Bool.false_and] at q1
     exact q1
   | _=>exact az q1
 ·rintro σ H1 ⟨⟨v3,v4,rfl⟩,s1,g1,g2⟩
  have q1:=q H1 s1
  unfold isC at q1
  rw [if_neg (by rw [g1 (by decide)]; decide),if_neg (by rw [g2 (by decide)]; decide)] at q1
  exact q1
theorem mO {C:Addr} {H H':Hp} {s:Addr} {b:Int} {ks:List Kd} (k:Same H H') (S:ShopAt C H s b ks):ShopAt C H' s b ks:=S.keep (fun c o e=>k _ _ e) (fun c C' d fs e=>k _ _ e)
theorem scleaf:FnScope ["shop","spot","x","y","wide","high","tree"] ["shop","spot"] (defScope eZ):=⟨rfl,rfl,rfl,by decide +kernel,rfl,by decide +kernel,by decide +kernel⟩
theorem tM {f wa C:Addr} {fd:FuncData} (F:Fun K "is_leaf" "is_leaf" eZ f fd) (Z:TrC K mg wa) (DB:Dn P w K mg base "begins_with" ["thing","word","many"] 2 fi) (DL:Dn P w K mg base "lies_in" ["shop","wide","high","kind","turned","x","y"] 4 (jk K C)):FnOk P w K mg base CX0 5 f fd ["shop","spot"] (lH C):=by
 refine F.ok scleaf (fun vs H Q E h=>?_) (fun cdv A outer s H vs Q E hr h=>?_)
 ·obtain ⟨pp,b',x1,y1,w1,h1,s,sp,ks,v,d,rfl,_⟩:=h
  rfl
 obtain ⟨pp,b',x0',y0',w1,h1,s,sp,ks,v,d,rfl,S,hsp,hd,q⟩:=h
 have nd:=scleaf.nd
 obtain ⟨tdn,hdn⟩:=Z.dn
 obtain ⟨trs,hrs⟩:=Z.rs
 obtain ⟨tpc,hpc⟩:=Z.pc
 obtain ⟨tn1,hn1⟩:=Z.n1
 obtain ⟨tn5,hn5⟩:=Z.n5
 obtain ⟨tn4,hn4⟩:=Z.n4
 have hr2:=hr.mono (show 2≤4 by decide)
 refine ⟨_,(@ae _ _ _ _ _ (@bi _ _ _ _ _ _ (pv 1) (aU rfl (ah (ai (i:=2) nd rfl (Or.inl rfl)) (ah (ai (i:=3) nd rfl (Or.inl rfl)) (ah (ai (i:=4) nd rfl (Or.inl rfl)) (ah (ai (i:=5) nd rfl (Or.inl rfl)) (ah (ai (i:=6) nd rfl (Or.inl rfl)) aK)))))) rfl rfl rfl) (@ae _ _ _ _ _ (@aH _ _ _ _ _ _ _ _ (@aE _ _ _ (@ar _ _ _ _ _ _ _ _ _ _ DB hr2 rfl (@aa _ _ _ _ _ (pv 6) (@aa _ _ _ _ _ (aR (v:=.str "piece") rfl hpc ⟨tpc,rfl⟩) (@aa _ _ _ _ _ (aR (v:=.int 5) rfl hn5 ⟨tn5,rfl⟩) ab rfl) rfl) rfl) (by decide) rfl rfl) (by intro _; rfl)) (@ag _ _ _ (@aq _ _ _ _ (@ar _ _ _ _ _ _ _ _ _ _ DL hr rfl (@aa _ _ _ _ _ (pv 0) (@aa _ _ _ _ _ (pv 4) (@aa _ _ _ _ _ (pv 5) (@aa _ _ _ _ _ (@av _ _ _ _ _ _ _ cN (pv 6) ad (fun _ _=>rfl)) (@aa _ _ _ _ _ (@av _ _ _ _ _ _ _ cN (pv 6) ad (fun _ _=>rfl)) (@aa _ _ _ _ _ (@av _ _ _ _ _ _ _ cN (pv 6) ad (fun _ _=>rfl)) (@aa _ _ _ _ _ (@av _ _ _ _ _ _ _ cN (pv 6) ad (fun _ _=>rfl)) ab rfl) rfl) rfl) rfl) rfl) rfl) rfl) (by decide) rfl rfl))) au) (@ag _ _ _ (@aq _ _ _ _ (@ar _ _ _ _ _ _ _ _ _ _ DB hr2 rfl (@aa _ _ _ _ _ (pv 6) (@aa _ _ _ _ _ (aR (v:=.str "rest") rfl hrs ⟨trs,rfl⟩) (@aa _ _ _ _ _ (aR (v:=.int 1) rfl hn1 ⟨tn1,rfl⟩) ab rfl) rfl) rfl) (by decide) rfl rfl))))),?_⟩
 refine ⟨_,rfl,sp,_,rfl,SqT.of hsp,rfl,_,_,rfl,_,_,rfl,_,_,rfl,_,_,rfl,_,_,rfl,rfl,?_⟩
 refine ⟨_,rfl,pp,v,d,"piece",5,rfl,by decide,hd,fun H1 s1=>⟨_,rfl,?_⟩⟩
 refine cC (fun hb=>?_) (fun hb=>?_)
 ·obtain ⟨r0,er,rl⟩:=gQ hb
  obtain ⟨a,xs,rfl,hx,dx⟩:=hd.ref_row er
  cases dx with
  | @cons x0 _ xs0 _ hd0 dx =>
  obtain ⟨x1,x2,x3,x4,d1,d2,d3,d4,rfl,rfl,hd1,hd2,hd3,hd4⟩:=dx.four (by simpa using rl)
  have a1:atI [x0,x1,x2,x3,x4] 1=some x1:=aY (by decide) rfl
  have a2:atI [x0,x1,x2,x3,x4] 2=some x2:=aY (by decide) rfl
  have a3:atI [x0,x1,x2,x3,x4] 3=some x3:=aY (by decide) rfl
  have a4:atI [x0,x1,x2,x3,x4] 4=some x4:=aY (by decide) rfl
  obtain ⟨T1,t1⟩:=(hd1.same s1).ty (K:=K)
  obtain ⟨T2,t2⟩:=(hd2.same s1).ty (K:=K)
  obtain ⟨T3,t3⟩:=(hd3.same s1).ty (K:=K)
  obtain ⟨T4,t4⟩:=(hd4.same s1).ty (K:=K)
  refine ⟨_,rfl,_,rfl,_,rfl,_,rfl,ixR s1 hx a1 ⟨_,rfl,ixR s1 hx a2 ⟨_,rfl,ixR s1 hx a3 ⟨_,rfl,ixR s1 hx a4 ?_⟩⟩⟩⟩
  refine ⟨s,b',ks,w1,h1,x1,x2,x3,x4,T1,T2,T3,T4,rfl,mO s1 S,t1,t2,t3,t4,fun H2 s2=>?_⟩
  have q1:=q H2 (s1.trans s2)
  unfold isL at q1
  rw [if_pos hb,er] at q1
  have e:kq ks w1 h1 d1 d2 d3 d4=ez ks w1 h1 x1 x2 x3 x4:=by
   cases hd1 with
   | int i=>cases hd2 with
    | bl c=>cases hd3 with
     | int x=>cases hd4 with
      | int y=>rfl
      | _=>simp [kq,ez,aQ]
     | _=>simp [kq,ez,aQ]
    | _=>simp [kq,ez,dq]
   | _=>simp [kq,ez,dq]
  have q1:Q (.bl (kq ks w1 h1 d1 d2 d3 d4)) H2:=q1
  rw [e] at q1
  exact q1
 ·refine ⟨_,rfl,pp,v,d,"rest",1,rfl,by decide,hd.same s1,fun H2 s2=>?_⟩
  have q1:=q H2 (s1.trans s2)
  unfold isL at q1
  rw [if_neg hb] at q1
  exact q1
theorem scbehind:FnScope ["blade","spot","x","y","wide","high","tree","way","p","first","second","wide_ahead","high_ahead","wide_behind","high_behind","step","far_x","far_y"] ["blade","spot"] (defScope bN):=⟨rfl,rfl,rfl,by decide +kernel,rfl,by decide +kernel,by decide +kernel⟩
set_option maxHeartbeats 1000000 in
theorem oh {f wa:Addr} {fd:FuncData} (F:Fun K "spots_behind" "spots_behind" bN f fd) (Z:TrC K mg wa) (DP:Dn P w K mg base "cut_parts" ["blade","part","way","p"] 1 fj):FnOk P w K mg base CX0 2 f fd ["blade","spot"] (fk):=by
 refine F.ok scbehind (fun vs H Q E h=>?_) (fun cdv A outer s H vs Q E hr h=>?_)
 ·obtain ⟨b,x1,y1,w1,h1,p1,sp,a,dn,l,r,rfl,_⟩:=h
  rfl
 obtain ⟨b,x1,y1,w1,h1,p1,sp,a,dn,l,r,rfl,hsp,ha,q⟩:=h
 have nd:=scbehind.nd
 obtain ⟨tdn,hdn⟩:=Z.dn
 obtain ⟨trs,hrs⟩:=Z.rs
 obtain ⟨tpc,hpc⟩:=Z.pc
 obtain ⟨tn1,hn1⟩:=Z.n1
 obtain ⟨tn5,hn5⟩:=Z.n5
 obtain ⟨tn4,hn4⟩:=Z.n4
 refine ⟨_,(@ae _ _ _ _ _ (@bi _ _ _ _ _ _ (pv 1) (aU rfl (ah (ai (i:=2) nd rfl (Or.inl rfl)) (ah (ai (i:=3) nd rfl (Or.inl rfl)) (ah (ai (i:=4) nd rfl (Or.inl rfl)) (ah (ai (i:=5) nd rfl (Or.inl rfl)) (ah (ai (i:=6) nd rfl (Or.inl rfl)) aK)))))) rfl rfl rfl) (@ae _ _ _ _ _ (@bi _ _ _ _ _ _ (pv 6) (lm rfl (ah (ai (i:=7) nd rfl (Or.inl rfl)) (ah (ai (i:=8) nd rfl (Or.inl rfl)) (ah (ai (i:=9) nd rfl (Or.inl rfl)) (ah (ai (i:=10) nd rfl (Or.inl rfl)) aK))))) rfl rfl rfl) (@ae _ _ _ _ _ (@bi _ _ _ _ _ _ (@ar _ _ _ _ _ _ _ _ _ _ DP hr rfl (@aa _ _ _ _ _ (pv 0) (@aa _ _ _ _ _ (@aB _ _ _ _ _ (@aa _ _ _ _ _ (pv 4) (@aa _ _ _ _ _ (pv 5) ab rfl) rfl)) (@aa _ _ _ _ _ (pv 7) (@aa _ _ _ _ _ (pv 8) ab rfl) rfl) rfl) rfl) (by decide) rfl rfl) (aU rfl (ah (aU rfl (ah (ai (i:=11) nd rfl (Or.inl rfl)) (ah (ai (i:=12) nd rfl (Or.inl rfl)) aK))) (ah (aU rfl (ah (ai (i:=13) nd rfl (Or.inl rfl)) (ah (ai (i:=14) nd rfl (Or.inl rfl)) aK))) aK))) rfl rfl rfl) (@ae _ _ _ _ _ (@aG _ _ 15 _ _ _ _ nd rfl (Or.inl rfl) (@aD _ _ _ _ _ _ _ _ aS (pv 8) (pv 0)) rfl (Or.inl rfl)) (@ae _ _ _ _ _ (@bi _ _ _ _ _ _ (gs (@ax _ _ _ _ _ _ _ _ cB (pv 7) (aR (v:=.str "down") rfl hdn ⟨tdn,rfl⟩) (aw _)) (@aB _ _ _ _ _ (@aa _ _ _ _ _ (@aD _ _ _ _ _ _ _ _ aS (pv 2) (pv 15)) (@aa _ _ _ _ _ (pv 3) ab rfl) rfl)) (@aB _ _ _ _ _ (@aa _ _ _ _ _ (pv 2) (@aa _ _ _ _ _ (@aD _ _ _ _ _ _ _ _ aS (pv 3) (pv 15)) ab rfl) rfl))) (aU rfl (ah (ai (i:=16) nd rfl (Or.inl rfl)) (ah (ai (i:=17) nd rfl (Or.inl rfl)) aK))) rfl rfl rfl) (@ag _ _ _ (@aq _ _ _ _ (@bp _ _ _ _ (@aa _ _ _ _ _ (@aB _ _ _ _ _ (@aa _ _ _ _ _ (pv 2) (@aa _ _ _ _ _ (pv 3) (@aa _ _ _ _ _ (pv 11) (@aa _ _ _ _ _ (pv 12) (@aa _ _ _ _ _ (pv 9) ab rfl) rfl) rfl) rfl) rfl)) (@aa _ _ _ _ _ (@aB _ _ _ _ _ (@aa _ _ _ _ _ (pv 16) (@aa _ _ _ _ _ (pv 17) (@aa _ _ _ _ _ (pv 13) (@aa _ _ _ _ _ (pv 14) (@aa _ _ _ _ _ (pv 10) ab rfl) rfl) rfl) rfl) rfl)) ab rfl) rfl))))))))),?_⟩
 refine ⟨_,rfl,sp,_,rfl,SqT.of hsp,rfl,_,_,rfl,_,_,rfl,_,_,rfl,_,_,rfl,_,_,rfl,rfl,?_⟩
 have sq:SqL K H a [.str (if dn=true then "down" else "across"),.int p1,l,r]∨SqT K H a [.str (if dn=true then "down" else "across"),.int p1,l,r]:=ha.imp (fun z=>SqL.of z) fun z=>SqT.of z
 refine ⟨_,rfl,a,_,rfl,sq,rfl,_,_,rfl,_,_,rfl,_,_,rfl,_,_,rfl,rfl,?_⟩
 clear sq
 cases dn with
 | true =>
  refine ⟨_,rfl,_,rfl,_,rfl,(by show 2≤sizeLine; decide),fun tp htp=>?_⟩
  have sa:Same H (upd H tp (.tup [.int w1,.int h1])):=Same.new htp
  have ka:(upd H tp (.tup [.int w1,.int h1])) tp=some (.tup [.int w1,.int h1]):=af
  generalize upd H tp (.tup [.int w1,.int h1])=Ha at sa ka ⊢
  refine ⟨_,rfl,_,rfl,b,w1,h1,p1,tp,true,rfl,ka,fun u t1 t2 Hb ku k1 k2 sb=>?_⟩
  refine ⟨u,_,rfl,SqT.of ku,rfl,_,_,rfl,t1,_,rfl,SqT.of k1,rfl,_,_,rfl,_,_,rfl,rfl,_,_,rfl,t2,_,rfl,SqT.of k2,rfl,_,_,rfl,_,_,rfl,rfl,rfl,?_⟩
  refine ap (fun σ' H'=>σ'=[some (.int b), some (.ref sp), some (.int x1), some (.int y1), some (.int w1), some (.int h1), some (.ref a), some (.str "down"), some (.int p1), some l, some r, some (.int p1), some (.int h1), some (.int (w1 - p1 - b)), some (.int h1), none, none, none]∧Hb=H') (fun R hR=>hR _ _ ⟨rfl, rfl⟩) ?_
  rintro _ _ ⟨rfl,rfl⟩
  refine ⟨_,rfl,_,rfl,_,_,rfl,rfl,?_⟩
  refine ⟨_,rfl,rfl,_,rfl,be ⟨_,rfl,_,rfl,_,_,rfl,rfl,_,rfl,(by show 2≤sizeLine; decide),fun tf hf=>?_⟩⟩
  have sd:Same Hb (upd Hb tf (.tup [.int (x1 + (p1 + b)),.int y1])):=Same.new hf
  have kd:(upd Hb tf (.tup [.int (x1 + (p1 + b)),.int y1])) tf=some (.tup [.int (x1 + (p1 + b)),.int y1]):=af
  generalize upd Hb tf (.tup [.int (x1 + (p1 + b)),.int y1])=Hd at sd kd ⊢
  refine ⟨tf,_,rfl,SqT.of kd,rfl,_,_,rfl,_,_,rfl,rfl,?_⟩
  refine ⟨_,rfl,_,rfl,_,rfl,_,rfl,_,rfl,(by show 5≤sizeLine; decide),fun g1 hg1=>?_⟩
  have se:Same Hd (upd Hd g1 (.tup [.int x1,.int y1,.int p1,.int h1,l])):=Same.new hg1
  have ke:(upd Hd g1 (.tup [.int x1,.int y1,.int p1,.int h1,l])) g1=some (.tup [.int x1,.int y1,.int p1,.int h1,l]):=af
  generalize upd Hd g1 (.tup [.int x1,.int y1,.int p1,.int h1,l])=He at se ke ⊢
  refine ⟨_,rfl,_,rfl,_,rfl,_,rfl,_,rfl,(by show 5≤sizeLine; decide),fun g2 hg2=>?_⟩
  have sf:Same He (upd He g2 (.tup [.int (x1 + (p1 + b)),.int y1,.int (w1 - p1 - b),.int h1,r])):=Same.new hg2
  have kf:(upd He g2 (.tup [.int (x1 + (p1 + b)),.int y1,.int (w1 - p1 - b),.int h1,r])) g2=some (.tup [.int (x1 + (p1 + b)),.int y1,.int (w1 - p1 - b),.int h1,r]):=af
  generalize upd He g2 (.tup [.int (x1 + (p1 + b)),.int y1,.int (w1 - p1 - b),.int h1,r])=Hf at sf kf ⊢
  refine ⟨(by show 2≤sizeLine; decide),fun lu hlu=>?_⟩
  have sg:Same Hf (upd Hf lu (.lst [.ref g1,.ref g2])):=Same.new hlu
  have kg:(upd Hf lu (.lst [.ref g1,.ref g2])) lu=some (.lst [.ref g1,.ref g2]):=af
  generalize upd Hf lu (.lst [.ref g1,.ref g2])=Hg at sg kg ⊢
  have sA:=((((sa.trans sb).trans sd).trans se).trans sf)
  exact q lu g1 g2 Hg (sA.free hlu) kg (sg _ _ (sf _ _ ke)) (sg _ _ kf) (sA.trans sg)
 | false =>
  refine ⟨_,rfl,_,rfl,_,rfl,(by show 2≤sizeLine; decide),fun tp htp=>?_⟩
  have sa:Same H (upd H tp (.tup [.int w1,.int h1])):=Same.new htp
  have ka:(upd H tp (.tup [.int w1,.int h1])) tp=some (.tup [.int w1,.int h1]):=af
  generalize upd H tp (.tup [.int w1,.int h1])=Ha at sa ka ⊢
  refine ⟨_,rfl,_,rfl,b,w1,h1,p1,tp,false,rfl,ka,fun u t1 t2 Hb ku k1 k2 sb=>?_⟩
  refine ⟨u,_,rfl,SqT.of ku,rfl,_,_,rfl,t1,_,rfl,SqT.of k1,rfl,_,_,rfl,_,_,rfl,rfl,_,_,rfl,t2,_,rfl,SqT.of k2,rfl,_,_,rfl,_,_,rfl,rfl,rfl,?_⟩
  refine ap (fun σ' H'=>σ'=[some (.int b), some (.ref sp), some (.int x1), some (.int y1), some (.int w1), some (.int h1), some (.ref a), some (.str "across"), some (.int p1), some l, some r, some (.int w1), some (.int p1), some (.int w1), some (.int (h1 - p1 - b)), none, none, none]∧Hb=H') (fun R hR=>hR _ _ ⟨rfl, rfl⟩) ?_
  rintro _ _ ⟨rfl,rfl⟩
  refine ⟨_,rfl,_,rfl,_,_,rfl,rfl,?_⟩
  refine ⟨_,rfl,rfl,_,rfl,az ⟨_,rfl,_,rfl,_,rfl,_,_,rfl,rfl,(by show 2≤sizeLine; decide),fun tf hf=>?_⟩⟩
  have sd:Same Hb (upd Hb tf (.tup [.int x1,.int (y1 + (p1 + b))])):=Same.new hf
  have kd:(upd Hb tf (.tup [.int x1,.int (y1 + (p1 + b))])) tf=some (.tup [.int x1,.int (y1 + (p1 + b))]):=af
  generalize upd Hb tf (.tup [.int x1,.int (y1 + (p1 + b))])=Hd at sd kd ⊢
  refine ⟨tf,_,rfl,SqT.of kd,rfl,_,_,rfl,_,_,rfl,rfl,?_⟩
  refine ⟨_,rfl,_,rfl,_,rfl,_,rfl,_,rfl,(by show 5≤sizeLine; decide),fun g1 hg1=>?_⟩
  have se:Same Hd (upd Hd g1 (.tup [.int x1,.int y1,.int w1,.int p1,l])):=Same.new hg1
  have ke:(upd Hd g1 (.tup [.int x1,.int y1,.int w1,.int p1,l])) g1=some (.tup [.int x1,.int y1,.int w1,.int p1,l]):=af
  generalize upd Hd g1 (.tup [.int x1,.int y1,.int w1,.int p1,l])=He at se ke ⊢
  refine ⟨_,rfl,_,rfl,_,rfl,_,rfl,_,rfl,(by show 5≤sizeLine; decide),fun g2 hg2=>?_⟩
  have sf:Same He (upd He g2 (.tup [.int x1,.int (y1 + (p1 + b)),.int w1,.int (h1 - p1 - b),r])):=Same.new hg2
  have kf:(upd He g2 (.tup [.int x1,.int (y1 + (p1 + b)),.int w1,.int (h1 - p1 - b),r])) g2=some (.tup [.int x1,.int (y1 + (p1 + b)),.int w1,.int (h1 - p1 - b),r]):=af
  generalize upd He g2 (.tup [.int x1,.int (y1 + (p1 + b)),.int w1,.int (h1 - p1 - b),r])=Hf at sf kf ⊢
  refine ⟨(by show 2≤sizeLine; decide),fun lu hlu=>?_⟩
  have sg:Same Hf (upd Hf lu (.lst [.ref g1,.ref g2])):=Same.new hlu
  have kg:(upd Hf lu (.lst [.ref g1,.ref g2])) lu=some (.lst [.ref g1,.ref g2]):=af
  generalize upd Hf lu (.lst [.ref g1,.ref g2])=Hg at sg kg ⊢
  have sA:=((((sa.trans sb).trans sd).trans se).trans sf)
  exact q lu g1 g2 Hg (sA.free hlu) kg (sg _ _ (sf _ _ ke)) (sg _ _ kf) (sA.trans sg)
end
def isT (b:Int) (ks:List Kd) (w h:Int) (d:PyData):Bool :=
 if isC b w h d=true then
  match e:aZ d with
  | some [_,.int p,l,r]=>if bw d "down" 4=true then isT b ks p h l && isT b ks (w - p - b) h r else isT b ks w p l && isT b ks w (h - p - b) r
  | _=>false
 else isL ks w h d
termination_by sizeOf d
decreasing_by all_goals (apply rq e; simp)
theorem dL {b:Int} {ks:List Kd} {w h:Int} {d:PyData} (hc:isC b w h d=false):isT b ks w h d=isL ks w h d:=by
 rw [isT,if_neg (by rw [hc]; decide)]
theorem gq {b:Int} {ks:List Kd} {w h:Int} {d:PyData} (hc:isC b w h d=true):∃ (dn:Bool) (p:Int) (l r:PyData),aZ d=some [.str (if dn=true then "down" else "across"),.int p,l,r]∧1≤p∧(dn=true→p + b < w)∧(dn=false→p + b < h) ∧
  isT b ks w h d=(if dn=true then isT b ks p h l && isT b ks (w - p - b) h r else isT b ks w p l && isT b ks w (h - p - b) r):=by
 have key:∀side,dZ b side d=true→∃x p l r,aZ d=some [x,.int p,l,r]∧1≤p∧p + b < side:=fun side h=>by
  unfold dZ at h
  split at h
  ·rename_i x p l r e
   unfold tL at h
   split at h
   ·rename_i p'
    rw [Bool.and_eq_true] at h
    exact ⟨x,p',l,r,e,of_decide_eq_true h.1,of_decide_eq_true h.2⟩
   ·cases h
  ·cases h
 have hc':=hc
 unfold isC at hc
 by_cases hb:bw d "down" 4=true
 ·rw [if_pos hb] at hc
  obtain ⟨x,p,l,r,e,p1,p2⟩:=key _ hc
  obtain ⟨r',e',_⟩:=gQ hb
  rw [e] at e'
  cases e'
  refine ⟨true,p,l,r,e,p1,fun _=>p2,fun z=>(by cases z),?_⟩
  rw [isT,if_pos hc']
  split
  ·rename_i y p' l' r' e2
   rw [e] at e2
   cases e2
   rw [if_pos hb]; rfl
  ·rename_i z
   exact absurd e (z _ _ _ _)
 ·rw [if_neg hb] at hc
  by_cases hb2:bw d "across" 4=true
  ·rw [if_pos hb2] at hc
   obtain ⟨x,p,l,r,e,p1,p2⟩:=key _ hc
   obtain ⟨r',e',_⟩:=gQ hb2
   rw [e] at e'
   cases e'
   refine ⟨false,p,l,r,e,p1,fun z=>(by cases z),fun _=>p2,?_⟩
   rw [isT,if_pos hc']
   split
   ·rename_i y p' l' r' e2
    rw [e] at e2
    cases e2
    rw [if_neg hb]; rfl
   ·rename_i z
    exact absurd e (z _ _ _ _)
  ·rw [if_neg hb2] at hc
   cases hc
structure Spot where
 x:Int
 y:Int
 w:Int
 h:Int
 d:PyData
def SpAt (p:Addr) (H0 H:Hp) (v:V) (t:Spot):Prop:=∃a u,v=.ref a∧H a=some (.tup [.int t.x,.int t.y,.int t.w,.int t.h,u])∧Dt p H0 u t.d
theorem SpAt.keep {p:Addr} {H0 H H':Hp} (k:∀a xs,H a=some (.tup xs)→H' a=some (.tup xs)) {v:V} {t:Spot} (h:SpAt p H0 H v t):SpAt p H0 H' v t:=by
 obtain ⟨a,u,e,h1,h2⟩:=h
 exact ⟨a,u,e,k _ _ h1,h2⟩
def fL (ts:List Spot):Nat:=(ts.map fun t=>wt t.d).sum
theorem dM (a b:List Spot):fL (a ++ b)=fL a + fL b:=by unfold fL; rw [List.map_append,List.sum_append]
theorem kr:∀ts:List Spot,ts.length≤fL ts
 | []=>Nat.le_refl _
 | t :: r=>by
  have:=kr r
  have:=rp t.d
  show r.length + 1≤wt t.d + fL r
  omega
theorem oi {d x y l r:PyData} (h:aZ d=some [x,y,l,r]):wt l + wt r < wt d:=by
 cases d <;> simp only [aZ,Option.some.injEq,reduceCtorEq] at h
 ·subst h; simp only [wt,wts]; omega
 ·subst h; simp only [wt,wts]; omega
theorem rB {α β:Type} {R:α→β→Prop} {x:α}:∀ {xs:List α} {zs:List β},Paired R (xs ++ [x]) zs→∃ys y,zs=ys ++ [y]∧Paired R xs ys∧R x y
 | [],zs,h=>by
  cases h with
  | cons a t=>cases t; exact ⟨[],_,rfl,.nil,a⟩
 | z :: xs,zs,h=>by
  cases h with
  | cons a t =>
   obtain ⟨ys,y,rfl,p,r⟩:=rB t
   exact ⟨_ :: ys,y,rfl,.cons a p,r⟩
theorem kx {α β:Type} {R:α→β→Prop}:∀ {xs:List α} {ys:List β} {xs':List α} {ys':List β},Paired R xs ys→Paired R xs' ys'→Paired R (xs ++ xs') (ys ++ ys')
 | _,_,_,_,.nil,h=>h
 | _,_,_,_,.cons a t,h=>.cons a (kx t h)
section
variable {P:Program} {w:World} {K:PySem.W.Frag} {mg:Str→Option Value} {base:Heap}
def tN:Sp:=fun vs H Q _=>∃ (w h:Int),vs=[.int w,.int h]∧1≤w∧1≤h∧Q .non H
def fm (C:Addr):Sp:=fun vs H Q _=>∃ (pp s:Addr) (b w h:Int) (ks:List Kd) (v:V) (d:PyData),vs=[.ref s,.int w,.int h,v]∧ShopAt C H s b ks∧1≤w∧1≤h∧Dt pp H v d∧wt d≤30000∧∀H',Same H H'→Q (.bl (isT b ks w h d)) H'
theorem sccplate:FnScope ["wide","high"] ["wide","high"] (defScope bU):=⟨rfl,rfl,rfl,by decide +kernel,rfl,by decide +kernel,by decide +kernel⟩
theorem oj {f:Addr} {fd:FuncData} (F:Fun K "check_plate" "check_plate" bU f fd) (DW:Dn P w K mg base "is_whole" ["thing","least"] 1 (cj K)):FnOk P w K mg base CX0 2 f fd ["wide","high"] (tN):=by
 refine F.ok sccplate (fun vs H Q E h=>?_) (fun cdv A outer s H vs Q E hr h=>?_)
 ·obtain ⟨w1,h1,rfl,_⟩:=h
  rfl
 obtain ⟨w1,h1,rfl,w0,h0,q⟩:=h
 have nd:=sccplate.nd
 refine ⟨_,(@ag _ _ _ (@aH _ _ _ _ _ _ _ _ (PW.pt (bh (@aL _ _ _ _ (@aE _ _ _ (@ar _ _ _ _ _ _ _ _ _ _ DW hr rfl (@aa _ _ _ _ _ (pv 0) (@aa _ _ _ _ _ ad ab rfl) rfl) (by decide) rfl rfl) (by intro _; rfl))) (bo (@aL _ _ _ _ (@aE _ _ _ (@ar _ _ _ _ _ _ _ _ _ _ DW hr rfl (@aa _ _ _ _ _ (pv 1) (@aa _ _ _ _ _ ad ab rfl) rfl) (by decide) rfl rfl) (by intro _; rfl)))))) (@ag _ _ _ eD) au)),?_⟩
 refine ⟨_,rfl,.int w1,"int",1,rfl,Ty.int,_,rfl,?_⟩
 rw [show aQ (.int w1) 1=true from decide_eq_true w0]
 refine az ⟨_,rfl,.int h1,"int",1,rfl,Ty.int,_,rfl,?_⟩
 rw [show aQ (.int h1) 1=true from decide_eq_true h0]
 exact az q
theorem scistree:FnScope ["shop","wide","high","thing","blade","waiting","spot"] ["shop","wide","high","thing"] (defScope fb):=⟨rfl,rfl,rfl,by decide +kernel,rfl,by decide +kernel,by decide +kernel⟩
theorem om {f C:Addr} {fd:FuncData} (F:Fun K "is_tree" "is_tree" fb f fd) (T:ShopTxt K C) (MB:Mn P w K mg base C "blade" ["self"] 1 (eP C)) (DCP:Dn P w K mg base "check_plate" ["wide","high"] 2 (tN)) (DC:Dn P w K mg base "is_cut" ["blade","spot"] 3 (rA)) (DF:Dn P w K mg base "is_leaf" ["shop","spot"] 5 (lH C)) (DS:Dn P w K mg base "spots_behind" ["blade","spot"] 2 (fk)):FnOk P w K mg base CX0 6 f fd ["shop","wide","high","thing"] (fm C):=by
 refine F.ok scistree (fun vs H Q E h=>?_) (fun cdv A outer s H vs Q E hr h=>?_)
 ·obtain ⟨pp,s,b,w1,h1,ks,v,d,rfl,_⟩:=h
  rfl
 obtain ⟨pp,s,b,w1,h1,ks,v,d,rfl,S,w0,h0,hd,dz,q⟩:=h
 have nd:=scistree.nd
 have hr1:=hr.mono (show 1≤5 by decide)
 have hr2:=hr.mono (show 2≤5 by decide)
 have hr3:=hr.mono (show 3≤5 by decide)
 refine ⟨_,(@ae _ _ _ _ _ (@bG _ _ _ _ (@ar _ _ _ _ _ _ _ _ _ _ DCP hr2 rfl (@aa _ _ _ _ _ (pv 1) (@aa _ _ _ _ _ (pv 2) ab rfl) rfl) (by decide) rfl rfl) rfl) (@ae _ _ _ _ _ (@aG _ _ 4 _ _ _ _ nd rfl (Or.inl rfl) (ej (pv 0) T.cl MB hr1) rfl (Or.inl rfl)) (@ae _ _ _ _ _ (@aG _ _ 5 _ _ _ _ nd rfl (Or.inl rfl) (@bp _ _ _ _ (@aa _ _ _ _ _ (@aB _ _ _ _ _ (@aa _ _ _ _ _ ad (@aa _ _ _ _ _ ad (@aa _ _ _ _ _ (pv 1) (@aa _ _ _ _ _ (pv 2) (@aa _ _ _ _ _ (pv 3) ab rfl) rfl) rfl) rfl) rfl)) ab rfl)) rfl (Or.inl rfl)) (@ae _ _ _ _ _ (jA PassesOwn.never (jC (pv 5) (fun _=>rfl)) (@ae _ _ _ _ _ (@aG _ _ 6 _ _ _ _ nd rfl (Or.inl rfl) (qA PySem.F.plainAttrs_list PySem.F.slot_list_pop PySem.F.type_list_pop qD (pv 5)) rfl (Or.inl rfl)) (@ag _ _ _ (@aH _ _ _ _ _ _ _ _ (@aE _ _ _ (@ar _ _ _ _ _ _ _ _ _ _ DC hr3 rfl (@aa _ _ _ _ _ (pv 4) (@aa _ _ _ _ _ (pv 6) ab rfl) rfl) (by decide) rfl rfl) (by intro _; rfl)) (@ag _ _ _ (@bG _ _ _ _ (@fU _ _ _ _ _ _ _ _ _ _ _ _ PySem.F.plainAttrs_list PySem.F.slot_list_extend PySem.F.type_list_extend iC (pv 5) (@aa _ _ _ _ _ (@ar _ _ _ _ _ _ _ _ _ _ DS hr2 rfl (@aa _ _ _ _ _ (pv 4) (@aa _ _ _ _ _ (pv 6) ab rfl) rfl) (by decide) rfl rfl) ab rfl) rfl rfl rfl rfl rfl) rfl)) (@ag _ _ _ (@aH _ _ _ _ _ _ _ _ (@aL _ _ _ _ (@aE _ _ _ (@ar _ _ _ _ _ _ _ _ _ _ DF hr rfl (@aa _ _ _ _ _ (pv 0) (@aa _ _ _ _ _ (pv 6) ab rfl) rfl) (by decide) rfl rfl) (by intro _; rfl))) (@ag _ _ _ (@aq _ _ _ _ bQ)) au)))))) (@ag _ _ _ (@aq _ _ _ _ bQ)))))),?_⟩
 have sz:(40000:Nat)≤sizeLine:=by decide
 refine ⟨_,rfl,_,rfl,w1,h1,rfl,w0,h0,?_⟩
 obtain ⟨dx,r,rs,S1,S2,S3⟩:=id S
 refine ⟨_,rfl,s,dx,_,rfl,S1,(bH _ _ (by decide +kernel) (by decide +kernel)),s,b,ks,rfl,S,?_⟩
 refine ⟨_,rfl,_,rfl,_,rfl,(by show 5≤sizeLine; decide),fun t ht=>?_⟩
 have sa:Same H (upd H t (.tup [.int 0,.int 0,.int w1,.int h1,v])):=Same.new ht
 have ka:(upd H t (.tup [.int 0,.int 0,.int w1,.int h1,v])) t=some (.tup [.int 0,.int 0,.int w1,.int h1,v]):=af
 generalize upd H t (.tup [.int 0,.int 0,.int w1,.int h1,v])=Ha at sa ka ⊢
 refine ⟨(by show 1≤sizeLine; decide),fun wl hwl=>?_⟩
 have sb:Same Ha (upd Ha wl (.lst [.ref t])):=Same.new hwl
 have kb:(upd Ha wl (.lst [.ref t])) wl=some (.lst [.ref t]):=af
 generalize upd Ha wl (.lst [.ref t])=Hb at sb kb ⊢
 have fw:H wl=none:=sa.free hwl
 have sab:=sa.trans sb
 refine ⟨fun m σ H'=>∃ (vs:List V) (ts:List Spot) (v6:Option V),σ=[some (.ref s),some (.int w1),some (.int h1),some v,some (.int b),some (.ref wl),v6]∧m=fL ts∧H' wl=some (.lst vs)∧Paired (SpAt pp H H') vs ts∧fL ts≤30000∧isT b ks w1 h1 d=ts.all (fun t=>isT b ks t.w t.h t.d)∧Same H H',⟨_,[.ref t],[⟨0,0,w1,h1,d⟩],none,rfl,rfl,kb,.cons ⟨t,v,rfl,sb _ _ ka,hd⟩ .nil,by show wt d + 0≤30000; omega,by rw [List.all_cons,List.all_nil,Bool.and_true],sab⟩,?_⟩
 rintro m σ H1 ⟨vs,ts,v6,rfl,rfl,hw,pr,sz1,al,s1⟩
 refine ⟨_,rfl,_,.inl ⟨vs,SqL.of hw,rfl⟩,?_⟩
 rcases List.eq_nil_or_concat vs with rfl | ⟨vs',v0,rfl⟩
 ·have ets:ts=[]:=by
   have:=Paired.length pr
   cases ts with
   | nil=>rfl
   | cons _ _=>simp at this
  subst ets
  have q1:=q H1 s1
  rw [al] at q1
  exact az q1
 rw [List.concat_eq_append] at pr hw ⊢
 obtain ⟨ts',t0,rfl,prp,⟨sp,u,rfl,hsp,hdu⟩⟩:=rB pr
 rw [show (!(vs' ++ [V.ref sp]).isEmpty)=true by cases vs' <;> rfl]
 have ssz:fL (ts' ++ [t0])=fL ts' + wt t0.d:=by rw [dM]; show _ + (wt t0.d + 0)=_; omega
 rw [ssz] at sz1 ⊢
 refine be ⟨fun σ' H'=>∃ (vs:List V) (ts:List Spot) (v6:Option V),σ'=[some (.ref s),some (.int w1),some (.int h1),some v,some (.int b),some (.ref wl),v6]∧fL ts < fL ts' + wt t0.d∧H' wl=some (.lst vs)∧Paired (SpAt pp H H') vs ts∧fL ts≤30000∧isT b ks w1 h1 d=ts.all (fun t=>isT b ks t.w t.h t.d)∧Same H H',fun σ' H' ⟨vs,ts,v6,e,l,r⟩=>⟨_,l,vs,ts,v6,e,rfl,r⟩,?_⟩
 rw [List.all_append,List.all_cons,List.all_nil,Bool.and_true] at al
 have ml:(vs' ++ [V.ref sp]).length=vs'.length + 1:=by rw [List.length_append]; rfl
 have keep:∀ {Hx:Hp} {o:HO},Same H Hx→Same H (upd Hx wl o):=fun {Hx o} sx c oo e=>by
  rw [aj (fun z=>by rw [z,fw] at e; cases e)]
  exact sx _ _ e
 refine ap (fun σ' H'=>σ'=[some (.ref s),some (.int w1),some (.int h1),some v,some (.int b),some (.ref wl),some (.ref sp)]∧H' wl=some (.lst vs')∧Paired (SpAt pp H H') vs' ts'∧H' sp=some (.tup [.int t0.x,.int t0.y,.int t0.w,.int t0.h,u])∧Same H H') (fun R hR=>?_) ?_
 ·refine ⟨_,rfl,.inl ⟨rfl,_,SqL.of hw⟩,wl,_,.ref sp,rfl,rfl,hw,(by rw [ml]; simp),?_⟩
  rw [List.dropLast_concat]
  have kt:∀ {c:Addr} {xs:List V},H1 c=some (.tup xs)→(upd H1 wl (.lst vs')) c=some (.tup xs):=fun {c xs} e=>by
   rw [aj (fun z=>by rw [z,hw] at e; cases e)]; exact e
  exact hR _ _ ⟨rfl,af,Paired.mapP prp fun v t h=>h.keep fun a xs e=>kt e,kt hsp,keep s1⟩
 rintro _ H2 ⟨rfl,hw2,pr2,hsp2,s2⟩
 refine ⟨_,rfl,_,rfl,pp,b,t0.x,t0.y,t0.w,t0.h,sp,u,t0.d,rfl,hsp2,hdu.same s2,fun H3 s3=>⟨_,rfl,?_⟩⟩
 have s03:=s2.trans s3
 refine cC (fun hc=>?_) (fun hc=>?_)
 ·obtain ⟨dn,p,l,r,er,p1,pw,ph,eT⟩:=gq (ks:=ks) hc
  obtain ⟨a,xs,rfl,hx,dxs⟩:=hdu.ref_row er
  cases dxs with
  | @cons x0 _ xs0 _ hd0 dxs =>
  cases dxs with
  | @cons x1 _ xs1 _ hd1 dxs =>
  cases dxs with
  | @cons lv _ xs2 _ hdl dxs =>
  cases dxs with
  | @cons rv _ xs3 _ hdr dxs =>
  cases dxs
  cases hd0
  cases hd1
  refine ⟨_,rfl,.inl ⟨rfl,_,SqL.of (s3 _ _ hw2)⟩,_,rfl,_,rfl,?_⟩
  refine ⟨b,t0.x,t0.y,t0.w,t0.h,p,sp,a,dn,lv,rv,rfl,s3 _ _ hsp2,hx.imp (s03 _ _) (s03 _ _),fun lu t1 t2 H4 hlu ku k1 k2 s4=>?_⟩
  have hw4:=s4 _ _ (s3 _ _ hw2)
  have pl:=Paired.length pr2
  have sl:=kr ts'
  have two:=oi er
  refine ⟨wl,lu,_,_,rfl,rfl,hw4,ku,by show _ + 2≤_; omega,?_⟩
  have kt:∀ {c:Addr} {xs:List V},H4 c=some (.tup xs)→(upd H4 wl (.lst (vs' ++ [.ref t1,.ref t2]))) c=some (.tup xs):=fun {c xs} e=>by
   rw [aj (fun z=>by rw [z,hw4] at e; cases e)]; exact e
  have pr4:Paired (SpAt pp H (upd H4 wl (.lst (vs' ++ [.ref t1,.ref t2])))) vs' ts':=Paired.mapP pr2 fun v t h=>h.keep fun a xs e=>kt (s4 _ _ (s3 _ _ e))
  cases dn with
  | true =>
   have k1:H4 t1=some (.tup [.int t0.x,.int t0.y,.int p,.int t0.h,lv]):=k1
   have k2:H4 t2=some (.tup [.int (t0.x + (p + b)),.int t0.y,.int (t0.w - p - b),.int t0.h,rv]):=k2
   refine ⟨vs' ++ [.ref t1,.ref t2],ts' ++ [⟨t0.x,t0.y,p,t0.h,l⟩,⟨t0.x + (p + b),t0.y,t0.w - p - b,t0.h,r⟩],_,rfl,?_,af,kx pr4 (.cons ⟨t1,lv,rfl,kt k1,hdl⟩ (.cons ⟨t2,rv,rfl,kt k2,hdr⟩ .nil)),?_,?_,keep (s03.trans s4)⟩
   ·rw [dM]; show _ + (wt l + (wt r + 0)) < _; omega
   ·rw [dM]; show _ + (wt l + (wt r + 0))≤_; omega
   ·rw [al,eT,List.all_append]
    simp only [if_true,List.all_cons,List.all_nil,Bool.and_true]
  | false =>
   have k1:H4 t1=some (.tup [.int t0.x,.int t0.y,.int t0.w,.int p,lv]):=k1
   have k2:H4 t2=some (.tup [.int t0.x,.int (t0.y + (p + b)),.int t0.w,.int (t0.h - p - b),rv]):=k2
   refine ⟨vs' ++ [.ref t1,.ref t2],ts' ++ [⟨t0.x,t0.y,t0.w,p,l⟩,⟨t0.x,t0.y + (p + b),t0.w,t0.h - p - b,r⟩],_,rfl,?_,af,kx pr4 (.cons ⟨t1,lv,rfl,kt k1,hdl⟩ (.cons ⟨t2,rv,rfl,kt k2,hdr⟩ .nil)),?_,?_,keep (s03.trans s4)⟩
   ·rw [dM]; show _ + (wt l + (wt r + 0)) < _; omega
   ·rw [dM]; show _ + (wt l + (wt r + 0))≤_; omega
   ·rw [al,eT,List.all_append]
    simp only [Bool.false_eq_true,if_false,List.all_cons,List.all_nil,Bool.and_true]
 ·have hc:isC b t0.w t0.h t0.d=false:=by simpa using hc
  have lf:=dL (ks:=ks) hc
  refine ⟨_,rfl,_,rfl,pp,b,t0.x,t0.y,t0.w,t0.h,s,sp,ks,u,t0.d,rfl,mO s03 S,s3 _ _ hsp2,hdu.same s03,fun H4 s4=>⟨_,rfl,?_⟩⟩
  have s04:=s03.trans s4
  have sp0:=rp t0.d
  cases hl:isL ks t0.w t0.h t0.d with
  | true =>
   rw [lf,hl,Bool.and_true] at al
   exact az ⟨vs',ts',_,rfl,by omega,s4 _ _ (s3 _ _ hw2),Paired.mapP pr2 fun v t h=>h.keep fun a xs e=>s4 _ _ (s3 _ _ e),by omega,al,s04⟩
  | false =>
   rw [lf,hl,Bool.and_false] at al
   have q1:=q H4 s04
   rw [al] at q1
   exact be q1
end
def lI (k:Kd) (c:Bool) (w h:Int):Bool:=decide (sd1 k c≤w) && decide (sd2 k c≤h)
def mP (k:Kd):List Bool:=if aW k=true then [false,true] else [false]
theorem rC {a b c:St} (h1:leS a b) (h2:leS b c):leS a c:=⟨h2.1.trans h1.1,fun i v e=>h2.2 i v (h1.2 i v e)⟩
inductive Tr where
 | rest
 | piece (i:Nat) (c:Bool) (x y:Int)
 | cut (dn:Bool) (p:Int) (l r:Tr)
def toD:Tr→PyData
 | .rest=>.tuple [.str "rest"]
 | .piece i c x y=>.tuple [.str "piece",.int i,.bool c,.int x,.int y]
 | .cut dn p l r=>.tuple [.str (if dn=true then "down" else "across"),.int p,toD l,toD r]
def lvN:Tr→Nat
 | .cut _ _ l r=>lvN l + lvN r
 | _=>1
theorem DM:∀t:Tr,1≤(toD t).depth
 | .rest=>by decide +kernel
 | .piece .. => by show 1≤PyData.depthAll _ + 1; omega
 | .cut .. => by show 1≤PyData.depthAll _ + 1; omega
def TrV (H:Hp):Tr→V→Prop
 | .rest,v=>∃a,v=.ref a∧H a=some (.tup [.str "rest"])
 | .piece i c x y,v=>∃a,v=.ref a∧H a=some (.tup [.str "piece",.int i,.bl c,.int x,.int y])
 | .cut dn p l r,v=>∃a x y,v=.ref a∧H a=some (.tup [.str (if dn=true then "down" else "across"),.int p,x,y])∧TrV H l x∧TrV H r y
theorem TrV.keep {H H':Hp} (k:∀a xs,H a=some (.tup xs)→H' a=some (.tup xs)):∀ (t:Tr) {v:V},TrV H t v→TrV H' t v
 | .rest,_,⟨a,e,h⟩=>⟨a,e,k _ _ h⟩
 | .piece ..,_,⟨a,e,h⟩=>⟨a,e,k _ _ h⟩
 | .cut _ _ l r,_,⟨a,x,y,e,h,h1,h2⟩=>⟨a,x,y,e,k _ _ h,TrV.keep k l h1,TrV.keep k r h2⟩
theorem TrV.dt {p:Addr} {H:Hp}:∀ (t:Tr) {v:V},TrV H t v→Dt p H v (toD t)
 | .rest,_,⟨a,e,h⟩=>by subst e; exact .tup h (.cons (.str _) .nil)
 | .piece ..,_,⟨a,e,h⟩=>by subst e; exact .tup h (.cons (.str _) (.cons (.int _) (.cons (.bl _) (.cons (.int _) (.cons (.int _) .nil)))))
 | .cut _ _ l r,_,⟨a,x,y,e,h,h1,h2⟩=>by subst e; exact .tup h (.cons (.str _) (.cons (.int _) (.cons (TrV.dt l h1) (.cons (TrV.dt r h2) .nil))))
def okT (b:Int) (ks:List Kd):Int→Int→Tr→Prop
 | _,_,.rest=>True
 | w,h,.piece i c x y=>∃k,ks[i]? = some k∧c∈mP k∧0≤x∧0≤y∧x + sd1 k c≤w∧y + sd2 k c≤h
 | w,h,.cut dn p l r=>1≤p∧(if dn=true then p + b < w∧okT b ks p h l∧okT b ks (w - p - b) h r else p + b < h∧okT b ks w p l∧okT b ks w (h - p - b) r)
theorem mQ {ks:List Kd} {i:Nat} {c:Bool} {k:Kd} (hk:ks[i]? = some k) (hc:c∈mP k):dq ks (.int i) (.bl c)=true:=by
 unfold dq
 simp only [Int.toNat_natCast,hk]
 rw [decide_eq_true (show (0:Int)≤i by omega),Bool.true_and]
 cases c with
 | false=>rfl
 | true =>
  unfold mP at hc
  cases t:aW k with
  | true=>rfl
  | false=>rw [t] at hc; simp at hc
theorem gR {b:Int} {ks:List Kd}:∀ (t:Tr) (w h:Int),okT b ks w h t→isT b ks w h (toD t)=true
 | .rest,w,h,_=>by
  rw [dL (by rfl)]
  rfl
 | .piece i c x y,w,h,⟨k,hk,hc,x0,y0,hx,hy⟩=>by
  rw [dL (by rfl)]
  show ez ks w h (.int i) (.bl c) (.int x) (.int y)=true
  unfold ez
  rw [mQ hk hc]
  simp only [Int.toNat_natCast,hk]
  rw [show aQ (.int x) 0=true from decide_eq_true x0,show aQ (.int y) 0=true from decide_eq_true y0,decide_eq_true hx,decide_eq_true hy]
  rfl
 | .cut true p l r,w,h,⟨p1,hp,hl,hr⟩=>by
  have hc:isC b w h (toD (.cut true p l r))=true:=by
   show (decide (1≤p) && decide (p + b < w))=true
   rw [decide_eq_true p1,decide_eq_true hp]; rfl
  obtain ⟨dn,p',l',r',e,_,_,_,eT⟩:=gq (ks:=ks) hc
  cases dn with
  | true =>
   cases e
   rw [eT,if_pos rfl,gR l p h hl,gR r _ h hr]; rfl
  | false =>
   exfalso
   have:(PyData.str "down")=.str "across" := by
    have:=Option.some.inj e
    exact (List.cons.inj this).1
   exact absurd (PyData.str.inj this) (by decide +kernel)
 | .cut false p l r,w,h,⟨p1,hp,hl,hr⟩=>by
  have hc:isC b w h (toD (.cut false p l r))=true:=by
   show (decide (1≤p) && decide (p + b < h))=true
   rw [decide_eq_true p1,decide_eq_true hp]; rfl
  obtain ⟨dn,p',l',r',e,_,_,_,eT⟩:=gq (ks:=ks) hc
  cases dn with
  | false =>
   cases e
   rw [eT,if_neg Bool.false_ne_true,gR l w p hl,gR r w _ hr]; rfl
  | true =>
   exfalso
   have:(PyData.str "across")=.str "down" := by
    have:=Option.some.inj e
    exact (List.cons.inj this).1
   exact absurd (PyData.str.inj this) (by decide +kernel)
def But2 (p q:Addr) (H H':Hp):Prop:=∀c o,c≠p→c≠q→H c=some o→H' c=some o
theorem But2.trans {p q:Addr} {H H' H'':Hp} (a:But2 p q H H') (b:But2 p q H' H''):But2 p q H H'':=fun c o n1 n2 e=>b c o n1 n2 (a c o n1 n2 e)
theorem But2.but {p q:Addr} {H H':Hp} (a:But p H H'):But2 p q H H':=fun c o n1 _ e=>a c o n1 e
theorem fY {d:PyData} {y:Str} {r:List PyData} (e:aZ d=some (.str y :: r)) (z:Str) (n:Nat):bw d z n=(decide (r.length + 1=n) && decide (y=z)):=by
 unfold bw
 rw [e]
def pcD (ks:List Kd) (w h:Int):List PyData→Bool
 | [k,t,x,y]=>kq ks w h k t x y
 | _=>false
theorem iO {b:Int} {ks:List Kd} {w h:Int} {d:PyData} {y:Str} {r:List PyData} (e:aZ d=some (.str y :: r)) (h1:(decide (y = "down"))=false) (h2:(decide (y = "across"))=false):isT b ks w h d=(if decide (y = "rest")=true then decide (r.length + 1=1) else if decide (y = "piece")=true then pcD ks w h r else false):=by
 have hc:isC b w h d=false:=by
  unfold isC
  rw [fY e,fY e,h1,h2]
  simp only [Bool.and_false]
  rfl
 rw [dL hc]
 unfold isL
 rw [fY e,fY e,e]
 by_cases hr:y = "rest"
 ·subst hr
  rw [show decide ((Str.ofString "rest")=(Str.ofString "piece"))=false by decide +kernel,Bool.and_false,if_neg Bool.false_ne_true,decide_eq_true (rfl:(Str.ofString "rest")=Str.ofString "rest"),if_pos rfl,Bool.and_true]
 ·rw [decide_eq_false hr,if_neg Bool.false_ne_true]
  by_cases hp:y = "piece"
  ·subst hp
   rw [decide_eq_true (rfl:(Str.ofString "piece")=Str.ofString "piece"),Bool.and_true,if_pos (rfl:true=true),Bool.and_false]
   match r with
   | []=>rfl
   | [_]=>rfl
   | [_,_]=>rfl
   | [_,_,_]=>rfl
   | [_,_,_,_]=>rfl
   | _ :: _ :: _ :: _ :: _ :: r=>simp [pcD]
  ·rw [decide_eq_false hp,Bool.and_false,Bool.and_false,if_neg Bool.false_ne_true,if_neg Bool.false_ne_true]
theorem mR {b:Int} {ks:List Kd} {w h:Int} {d:PyData} {dn:Bool} {r:List PyData} (e:aZ d=some (.str (if dn=true then "down" else "across") :: r)):isT b ks w h d=(match r with
  | [.int p,l,r']=>decide (1≤p) && (if dn=true then decide (p + b < w) && (isT b ks p h l && isT b ks (w - p - b) h r') else decide (p + b < h) && (isT b ks w p l && isT b ks w (h - p - b) r'))
  | _=>false):=by
 have leafF:isC b w h d=false→isT b ks w h d=false:=fun hc=>by
  rw [dL hc]
  unfold isL
  rw [fY e,fY e]
  cases dn
  ·rw [show decide ((if false=true then (Str.ofString "down") else Str.ofString "across")=Str.ofString "piece")=false by decide +kernel,show decide ((if false=true then (Str.ofString "down") else Str.ofString "across")=Str.ofString "rest")=false by decide +kernel,Bool.and_false,Bool.and_false,if_neg Bool.false_ne_true]
  ·rw [show decide ((if true=true then (Str.ofString "down") else Str.ofString "across")=Str.ofString "piece")=false by decide +kernel,show decide ((if true=true then (Str.ofString "down") else Str.ofString "across")=Str.ofString "rest")=false by decide +kernel,Bool.and_false,Bool.and_false,if_neg Bool.false_ne_true]
 cases hc:isC b w h d with
 | false =>
  rw [leafF hc]
  split
  ·rename_i p l r' e
   unfold isC at hc
   rw [fY e,fY e] at hc
   cases dn
   ·rw [show decide ((if false=true then (Str.ofString "down") else Str.ofString "across")=Str.ofString "down")=false by decide +kernel,show decide ((if false=true then (Str.ofString "down") else Str.ofString "across")=Str.ofString "across")=true by decide +kernel] at hc
    unfold dZ at hc
    rw [e] at hc
    have hc:(decide (1≤p) && decide (p + b < h))=false:=hc
    rw [if_neg Bool.false_ne_true,← Bool.and_assoc,hc,Bool.false_and]
   ·rw [show decide ((if true=true then (Str.ofString "down") else Str.ofString "across")=Str.ofString "down")=true by decide +kernel] at hc
    unfold dZ at hc
    rw [e] at hc
    have hc:(decide (1≤p) && decide (p + b < w))=false:=hc
    rw [if_pos rfl,← Bool.and_assoc,hc,Bool.false_and]
  ·rfl
 | true =>
  obtain ⟨dn',p,l,r',e',p1,pw,ph,eT⟩:=gq (ks:=ks) hc
  rw [e] at e'
  have hdn:dn=dn':=by
   have:=PyData.str.inj (List.cons.inj (Option.some.inj e')).1
   cases dn <;> cases dn' <;> first | rfl | exact absurd this (by decide +kernel)
  subst hdn
  cases e'
  rw [eT]
  cases dn
  ·simp only [Bool.false_eq_true,if_false]
   rw [decide_eq_true p1,decide_eq_true (ph rfl)]; rfl
  ·simp only [if_true]
   rw [decide_eq_true p1,decide_eq_true (pw rfl)]; rfl
def TrD:Tr→PyData→Prop
 | .rest,d=>aZ d=some [.str "rest"]
 | .piece i c x y,d=>aZ d=some [.str "piece",.int i,.bool c,.int x,.int y]
 | .cut dn p l r,d=>∃dl dr,aZ d=some [.str (if dn=true then "down" else "across"),.int p,dl,dr]∧TrD l dl∧TrD r dr
theorem TrD.to:∀t:Tr,TrD t (toD t)
 | .rest=>rfl
 | .piece .. => rfl
 | .cut _ _ l r=>⟨toD l,toD r,rfl,TrD.to l,TrD.to r⟩
theorem TrD.good {b:Int} {ks:List Kd}:∀ (t:Tr) (d:PyData) (w h:Int),TrD t d→okT b ks w h t→isT b ks w h d=true
 | .rest,d,w,h,e,_=>by
  have e:aZ d=some (.str "rest" :: []):=e
  rw [iO e (by decide +kernel) (by decide +kernel),if_pos (by decide +kernel)]; rfl
 | .piece i c x y,d,w,h,e,⟨k,hk,hc,x0,y0,hx,hy⟩=>by
  have e:aZ d=some (.str "piece" :: [.int i,.bool c,.int x,.int y]):=e
  rw [iO e (by decide +kernel) (by decide +kernel),if_neg (by decide +kernel),if_pos (by decide +kernel)]
  show ez ks w h (.int i) (.bl c) (.int x) (.int y)=true
  unfold ez
  rw [mQ hk hc]
  simp only [Int.toNat_natCast,hk]
  rw [show aQ (.int x) 0=true from decide_eq_true x0,show aQ (.int y) 0=true from decide_eq_true y0,decide_eq_true hx,decide_eq_true hy]
  rfl
 | .cut true p l r,d,w,h,⟨dl,dr,e,tl,tr⟩,⟨p1,hp,hl,hr⟩=>by
  have eT:isT b ks w h d=(decide (1≤p) && (decide (p + b < w) && (isT b ks p h dl && isT b ks (w - p - b) h dr))):=mR (dn:=true) (r:=[.int p,dl,dr]) e
  rw [eT,decide_eq_true p1,decide_eq_true hp,TrD.good l dl p h tl hl,TrD.good r dr _ h tr hr]; rfl
 | .cut false p l r,d,w,h,⟨dl,dr,e,tl,tr⟩,⟨p1,hp,hl,hr⟩=>by
  have eT:isT b ks w h d=(decide (1≤p) && (decide (p + b < h) && (isT b ks w p dl && isT b ks w (h - p - b) dr))):=mR (dn:=false) (r:=[.int p,dl,dr]) e
  rw [eT,decide_eq_true p1,decide_eq_true hp,TrD.good l dl w p tl hl,TrD.good r dr w _ tr hr]; rfl
structure Lf where
 x:Int
 y:Int
 w:Int
 h:Int
 t:Tr
def lvs (b:Int):Tr→Int→Int→Int→Int→List Lf
 | .cut true p l r,x,y,w,h=>lvs b r (x + (p + b)) y (w - p - b) h ++ lvs b l x y p h
 | .cut false p l r,x,y,w,h=>lvs b r x (y + (p + b)) w (h - p - b) ++ lvs b l x y w p
 | .rest,x,y,w,h=>[⟨x,y,w,h,.rest⟩]
 | .piece i c u v,x,y,w,h=>[⟨x,y,w,h,.piece i c u v⟩]
def szT:Tr→Nat
 | .cut _ _ l r=>szT l + szT r + 1
 | _=>1
def LfAt (p:Addr) (H0 H:Hp) (v:V) (t:Lf):Prop:=∃a u d,v=.ref a∧H a=some (.tup [.int t.x,.int t.y,.int t.w,.int t.h,u])∧Dt p H0 u d∧TrD t.t d
theorem LfAt.keep {p:Addr} {H0 H H':Hp} (k:∀a xs,H a=some (.tup xs)→H' a=some (.tup xs)) {v:V} {t:Lf} (h:LfAt p H0 H v t):LfAt p H0 H' v t:=by
 obtain ⟨a,u,d,e,h1,h2,h3⟩:=h
 exact ⟨a,u,d,e,k _ _ h1,h2,h3⟩
def lsz (ts:List Lf):Nat:=(ts.map fun t=>szT t.t).sum
theorem ck (a b:List Lf):lsz (a ++ b)=lsz a + lsz b:=by unfold lsz; rw [List.map_append,List.sum_append]
theorem xL (t:Tr):1≤szT t:=by cases t <;> simp only [szT] <;> omega
theorem gr:∀ts:List Lf,ts.length≤lsz ts
 | []=>Nat.le_refl _
 | t :: r=>by
  have:=gr r
  have:=xL t.t
  show r.length + 1≤szT t.t + lsz r
  omega
def oq (b:Int) (ts:List Lf):List Lf:=ts.reverse.flatMap fun t=>lvs b t.t t.x t.y t.w t.h
theorem de (b:Int) (ts:List Lf) (t:Lf):oq b (ts ++ [t])=lvs b t.t t.x t.y t.w t.h ++ oq b ts:=by
 unfold oq
 rw [List.reverse_append]
 rfl
theorem fq {d:PyData} {ds:List PyData} (h:aZ d=some ds):wt d=wts ds + 1:=by
 cases d <;> simp only [aZ,Option.some.injEq,reduceCtorEq] at h
 ·subst h; rw [wt]
 ·subst h; rw [wt]
mutual
theorem Dt.fresh {p q:Addr} {H:Hp} (hq:H q=none):∀ {v:V} {d:PyData},Dt p H v d→Dt q H v d
 | _,_,.non=>.non
 | _,_,.bl b=>.bl b
 | _,_,.int i=>.int i
 | _,_,.str z=>.str z
 | _,_,.lst n h r=>.lst (am h hq) h (r.fresh hq)
 | _,_,.tup h r=>.tup h (r.fresh hq)
 | _,_,.emp h=>.emp h
theorem Dts.fresh {p q:Addr} {H:Hp} (hq:H q=none):∀ {vs:List V} {ds:List PyData},Dts p H vs ds→Dts q H vs ds
 | _,_,.nil=>.nil
 | _,_,.cons a r=>.cons (a.fresh hq) (r.fresh hq)
end
theorem iP {x:PyData}:∀ {ds:List PyData},x∈ds→x.depth≤PyData.depthAll ds
 | d :: r,h=>by
  rw [PyData.depthAll]
  rcases List.mem_cons.mp h with h | h
  ·rw [h]; omega
  ·have:=iP h; omega
theorem ot {C x dx:Addr} {H:Hp} (hx:H x=none) (hd:H dx=none):Same H (upd (upd H dx (.own x)) x (.ins C dx [])):=fun c o e=>by
 rw [aj (am e hx),aj (am e hd)]; exact e
def dpT:Tr→Nat
 | .cut _ _ l r=>max (dpT l) (dpT r) + 1
 | _=>0
section
variable {P:Program} {w:World} {K:PySem.W.Frag} {mg:Str→Option Value} {base:Heap}
def gS (C:Addr):Sp:=fun vs H Q _=>∃ (pp s:Addr) (b w h:Int) (ks:List Kd) (v:V) (d:PyData) (t:Tr),vs=[.ref s,.int w,.int h,v]∧ShopAt C H s b ks∧Dt pp H v d∧TrD t d∧szT t≤10000 ∧
 ∀ (l:Addr) (us:List V) (H':Hp),H l=none→H' l=some (.lst us)→Paired (LfAt pp H H') us (lvs b t 0 0 w h)→Same H H'→Q (.ref l) H'
def gT (C:Addr):Sp:=fun vs H Q _=>∃ (pp s:Addr) (b w h:Int) (ks:List Kd) (v:V) (d:PyData),vs=[.ref s,.int w,.int h,v]∧ShopAt C H s b ks∧1≤w∧1≤h∧Dt pp H v d∧wt d≤30000∧isT b ks w h d=true∧∀H',Same H H'→Q .non H'
theorem scleaves:FnScope ["shop","wide","high","tree","leaves","waiting","spot"] ["shop","wide","high","tree"] (defScope cV):=⟨rfl,rfl,rfl,by decide +kernel,rfl,by decide +kernel,by decide +kernel⟩
set_option maxHeartbeats 1000000 in
theorem ou {f C wa:Addr} {fd:FuncData} (F:Fun K "leaves_of" "leaves_of" cV f fd) (T:ShopTxt K C) (Z:TrC K mg wa) (MB:Mn P w K mg base C "blade" ["self"] 1 (eP C)) (DS:Dn P w K mg base "spots_behind" ["blade","spot"] 2 (fk)):FnOk P w K mg base CX0 3 f fd ["shop","wide","high","tree"] (gS C):=by
 refine F.ok scleaves (fun vs H Q E h=>?_) (fun cdv A outer s H vs Q E hr h=>?_)
 ·obtain ⟨pp,s,b,w1,h1,ks,v,d,t,rfl,_⟩:=h
  rfl
 obtain ⟨pp,s,b,w1,h1,ks,v,d,t,rfl,SH,hd,td,tz,q⟩:=h
 have nd:=scleaves.nd
 refine ⟨_,(@ae _ _ _ _ _ (@aG _ _ 4 _ _ _ _ nd rfl (Or.inl rfl) (@bp _ _ _ _ ab) rfl (Or.inl rfl)) (@ae _ _ _ _ _ (@aG _ _ 5 _ _ _ _ nd rfl (Or.inl rfl) (@bp _ _ _ _ (@aa _ _ _ _ _ (@aB _ _ _ _ _ (@aa _ _ _ _ _ ad (@aa _ _ _ _ _ ad (@aa _ _ _ _ _ (pv 1) (@aa _ _ _ _ _ (pv 2) (@aa _ _ _ _ _ (pv 3) ab rfl) rfl) rfl) rfl) rfl)) ab rfl)) rfl (Or.inl rfl)) (@ae _ _ _ _ _ (jA PassesOwn.never (jC (pv 5) (fun _=>rfl)) (@ae _ _ _ _ _ (@aG _ _ 6 _ _ _ _ nd rfl (Or.inl rfl) (qA PySem.F.plainAttrs_list PySem.F.slot_list_pop PySem.F.type_list_pop qD (pv 5)) rfl (Or.inl rfl)) (@ag _ _ _ (@aH _ _ _ _ _ _ _ _ (@ax _ _ _ _ _ _ _ _ nI (@av _ _ _ _ _ _ _ cN (@av _ _ _ _ _ _ _ ix_tup (pv 6) ad (fun _ _=>rfl)) ad (fun _ _=>rfl)) (aR (v:=.ref wa) rfl Z.wy rfl) rfl) (@ag _ _ _ (@bG _ _ _ _ (@fU _ _ _ _ _ _ _ _ _ _ _ _ PySem.F.plainAttrs_list PySem.F.slot_list_extend PySem.F.type_list_extend iC (pv 5) (@aa _ _ _ _ _ (@ar _ _ _ _ _ _ _ _ _ _ DS hr rfl (@aa _ _ _ _ _ (ej (pv 0) T.cl MB (hr.mono (by decide))) (@aa _ _ _ _ _ (pv 6) ab rfl) rfl) (by decide) rfl rfl) ab rfl) rfl rfl rfl rfl rfl) rfl)) (@ag _ _ _ (@bG _ _ _ _ (@fU _ _ _ _ _ _ _ _ _ _ _ _ PySem.F.plainAttrs_list PySem.F.slot_list_append PySem.F.type_list_append cq (pv 4) (@aa _ _ _ _ _ (pv 6) ab rfl) rfl rfl rfl rfl rfl) rfl)))))) (@ag _ _ _ (@aq _ _ _ _ (pv 4)))))),?_⟩
 have sz:(40000:Nat)≤sizeLine:=by decide
 obtain ⟨dx,r,rs,S1,S2,S3⟩:=id SH
 refine ⟨by decide,fun ll hll=>?_⟩
 have s0:Same H (upd H ll (.lst [])):=Same.new hll
 have k0:(upd H ll (.lst [])) ll=some (.lst []):=af
 generalize upd H ll (.lst [])=H0 at s0 k0 ⊢
 refine ⟨_,rfl,_,rfl,_,rfl,(by show 5≤sizeLine; decide),fun t' ht=>?_⟩
 have sa:Same H0 (upd H0 t' (.tup [.int 0,.int 0,.int w1,.int h1,v])):=Same.new ht
 have ka:(upd H0 t' (.tup [.int 0,.int 0,.int w1,.int h1,v])) t'=some (.tup [.int 0,.int 0,.int w1,.int h1,v]):=af
 generalize upd H0 t' (.tup [.int 0,.int 0,.int w1,.int h1,v])=Ha at sa ka ⊢
 refine ⟨(by show 1≤sizeLine; decide),fun wl hwl=>?_⟩
 have sb:Same Ha (upd Ha wl (.lst [.ref t'])):=Same.new hwl
 have kb:(upd Ha wl (.lst [.ref t'])) wl=some (.lst [.ref t']):=af
 generalize upd Ha wl (.lst [.ref t'])=Hb at sb kb ⊢
 have fw:H wl=none:=(s0.trans sa).free hwl
 have nlw:ll≠wl:=fun z=>by rw [← z,sa _ _ k0] at hwl; cases hwl
 have sab:=(s0.trans sa).trans sb
 refine ⟨fun m σ H'=>∃ (vs us:List V) (ts L:List Lf) (v6:Option V),σ=[some (.ref s),some (.int w1),some (.int h1),some v,some (.ref ll),some (.ref wl),v6]∧m=lsz ts∧H' wl=some (.lst vs)∧H' ll=some (.lst us)∧Paired (LfAt pp H H') vs ts∧Paired (LfAt pp H H') us L∧lsz ts + L.length≤10000∧L ++ oq b ts=lvs b t 0 0 w1 h1∧Same H H',⟨_,[.ref t'],[],[⟨0,0,w1,h1,t⟩],[],none,rfl,rfl,kb,sb _ _ (sa _ _ k0),.cons ⟨t',v,d,rfl,sb _ _ ka,hd,td⟩ .nil,.nil,(by show szT t + 0 + 0≤10000; omega),(by show [] ++ (lvs b t 0 0 w1 h1 ++ [])=_; rw [List.append_nil]; rfl),sab⟩,?_⟩
 rintro m σ H1 ⟨vs,us,ts,L,v6,rfl,rfl,hw,hl,pr,pu,sz1,al,s1⟩
 refine ⟨_,rfl,_,.inl ⟨vs,SqL.of hw,rfl⟩,?_⟩
 rcases List.eq_nil_or_concat vs with rfl | ⟨vs',v0,rfl⟩
 ·have ets:ts=[]:=by
   have:=Paired.length pr
   cases ts with
   | nil=>rfl
   | cons _ _=>simp at this
  subst ets
  rw [show oq b []=[] from rfl,List.append_nil] at al
  rw [al] at pu
  exact az ⟨_,rfl,q ll us H1 hll hl pu s1⟩
 rw [List.concat_eq_append] at pr hw ⊢
 obtain ⟨ts',t0,rfl,prp,⟨sp,u,du,rfl,hsp,hdu,tdu⟩⟩:=rB pr
 rw [show (!(vs' ++ [V.ref sp]).isEmpty)=true by cases vs' <;> rfl]
 have ssz:lsz (ts' ++ [t0])=lsz ts' + szT t0.t:=by rw [ck]; show _ + (szT t0.t + 0)=_; omega
 rw [ssz] at sz1 ⊢
 refine be ⟨fun σ' H'=>∃ (vs us:List V) (ts L:List Lf) (v6:Option V),σ'=[some (.ref s),some (.int w1),some (.int h1),some v,some (.ref ll),some (.ref wl),v6]∧lsz ts < lsz ts' + szT t0.t∧H' wl=some (.lst vs)∧H' ll=some (.lst us)∧Paired (LfAt pp H H') vs ts∧Paired (LfAt pp H H') us L∧lsz ts + L.length≤10000∧L ++ oq b ts=lvs b t 0 0 w1 h1∧Same H H',fun σ' H' ⟨vs,us,ts,L,v6,e,l,r⟩=>⟨_,l,vs,us,ts,L,v6,e,rfl,r⟩,?_⟩
 rw [de] at al
 have ml:(vs' ++ [V.ref sp]).length=vs'.length + 1:=by rw [List.length_append]; rfl
 have keep:∀ {Hx:Hp} {o:HO},Same H Hx→Same H (upd Hx wl o):=fun {Hx o} sx c oo e=>by
  rw [aj (fun z=>by rw [z,fw] at e; cases e)]
  exact sx _ _ e
 have keepL:∀ {Hx:Hp} {o:HO},Same H Hx→Same H (upd Hx ll o):=fun {Hx o} sx c oo e=>by
  rw [aj (fun z=>by rw [z,hll] at e; cases e)]
  exact sx _ _ e
 refine ap (fun σ' H'=>σ'=[some (.ref s),some (.int w1),some (.int h1),some v,some (.ref ll),some (.ref wl),some (.ref sp)]∧H' wl=some (.lst vs')∧H' ll=some (.lst us)∧Paired (LfAt pp H H') vs' ts'∧Paired (LfAt pp H H') us L∧H' sp=some (.tup [.int t0.x,.int t0.y,.int t0.w,.int t0.h,u])∧Same H H') (fun R hR=>?_) ?_
 ·refine ⟨_,rfl,.inl ⟨rfl,_,SqL.of hw⟩,wl,_,.ref sp,rfl,rfl,hw,(by rw [ml]; simp),?_⟩
  rw [List.dropLast_concat]
  have kt:∀ {c:Addr} {xs:List V},H1 c=some (.tup xs)→(upd H1 wl (.lst vs')) c=some (.tup xs):=fun {c xs} e=>by
   rw [aj (fun z=>by rw [z,hw] at e; cases e)]; exact e
  exact hR _ _ ⟨rfl,af,by rw [aj nlw]; exact hl,Paired.mapP prp fun v t h=>h.keep fun a xs e=>kt e,Paired.mapP pu fun v t h=>h.keep fun a xs e=>kt e,kt hsp,keep s1⟩
 rintro _ H2 ⟨rfl,hw2,hl2,pr2,pu2,hsp2,s02⟩
 have a4:atI [.int t0.x,.int t0.y,.int t0.w,.int t0.h,u] 4=some u:=aY (by decide) rfl
 have inT:∀z:Str,(z = "down" ∨ z = "across")→inV (V.str z) [V.str "down",V.str "across"]=true:=fun z hz=>by
  rcases hz with e | e <;> subst e <;> decide +kernel
 have go:∀ (y:Str) (ys:List PyData),aZ du=some (.str y :: ys)→∃a xs,u=.ref a∧(H a=some (.lst (.str y :: xs))∨H a=some (.tup (.str y :: xs)))∧Dts pp H xs ys:=fun y ys er=>by
  obtain ⟨a,xs,e,hx,dxs⟩:=hdu.ref_row er
  cases dxs with
  | cons hd0 dxs =>
   cases hd0
   exact ⟨a,_,e,hx,dxs⟩
 refine ⟨_,rfl,sp,_,4,_,rfl,rfl,SqT.of hsp2,a4,?_⟩
 obtain ⟨tt,et⟩:∃tt,t0.t=tt:=⟨_,rfl⟩
 cases tt with
 | cut dn p l r =>
  rw [et] at tdu
  obtain ⟨dl,dr,er,tl,tr⟩:=tdu
  obtain ⟨a,xs,eu,hx,dxs⟩:=go _ _ er
  have hx0:=hx
  cases dxs with
  | @cons x1 _ xs1 _ hd1 dxs =>
  cases dxs with
  | @cons lv _ xs2 _ hdl dxs =>
  cases dxs with
  | @cons rv _ xs3 _ hdr dxs =>
  cases dxs
  cases hd1
  subst eu
  show rIx K (.ref a) (.int 0) H2 _
  refine ixR s02 hx (aY (Int.le_refl _) rfl) ?_
  refine ⟨wa,_,rfl,.inr (Z.wq _),rfl,rfl,_,rfl,?_⟩
  show (if (inV (V.str (if dn=true then "down" else "across")) [V.str "down",V.str "across"])=true then _ else _)
  rw [inT _ (by cases dn <;> first | exact .inl rfl | exact .inr rfl)]
  have SH2:=mO s02 SH
  obtain ⟨dx',r',rs',S1',S2',S3'⟩:=id SH2
  refine be ⟨_,rfl,.inl ⟨rfl,_,SqL.of hw2⟩,_,rfl,s,dx',_,rfl,S1',(bH _ _ (by decide +kernel) (by decide +kernel)),s,b,ks,rfl,SH2,_,rfl,?_⟩
  refine ⟨b,t0.x,t0.y,t0.w,t0.h,p,sp,a,dn,lv,rv,rfl,hsp2,hx.imp (s02 _ _) (s02 _ _),fun lu t1 t2 H4 hlu ku k1 k2 s4=>?_⟩
  have hw4:=s4 _ _ hw2
  have pl:=Paired.length pr2
  have sl:=gr ts'
  have sz0:szT t0.t=szT l + szT r + 1:=by rw [et]; rfl
  refine ⟨wl,lu,_,_,rfl,rfl,hw4,ku,by show _ + 2≤_; omega,?_⟩
  have kt:∀ {c:Addr} {xs:List V},H4 c=some (.tup xs)→(upd H4 wl (.lst (vs' ++ [.ref t1,.ref t2]))) c=some (.tup xs):=fun {c xs} e=>by
   rw [aj (fun z=>by rw [z,hw4] at e; cases e)]; exact e
  have kl4:(upd H4 wl (.lst (vs' ++ [.ref t1,.ref t2]))) ll=some (.lst us):=by rw [aj nlw]; exact s4 _ _ hl2
  have pr4:Paired (LfAt pp H (upd H4 wl (.lst (vs' ++ [.ref t1,.ref t2])))) vs' ts':=Paired.mapP pr2 fun v t h=>h.keep fun a xs e=>kt (s4 _ _ e)
  have pu4:Paired (LfAt pp H (upd H4 wl (.lst (vs' ++ [.ref t1,.ref t2])))) us L:=Paired.mapP pu2 fun v t h=>h.keep fun a xs e=>kt (s4 _ _ e)
  cases dn with
  | true =>
   have k1:H4 t1=some (.tup [.int t0.x,.int t0.y,.int p,.int t0.h,lv]):=k1
   have k2:H4 t2=some (.tup [.int (t0.x + (p + b)),.int t0.y,.int (t0.w - p - b),.int t0.h,rv]):=k2
   refine ⟨vs' ++ [.ref t1,.ref t2],us,ts' ++ [⟨t0.x,t0.y,p,t0.h,l⟩] ++ [⟨t0.x + (p + b),t0.y,t0.w - p - b,t0.h,r⟩],L,_,rfl,?_,af,kl4,?_,pu4,?_,?_,keep (s02.trans s4)⟩
   ·rw [ck,ck]; show _ + (szT l + 0) + (szT r + 0) < _; rw [sz0]; omega
   ·rw [List.append_assoc]; exact kx pr4 (.cons ⟨t1,lv,dl,rfl,kt k1,hdl,tl⟩ (.cons ⟨t2,rv,dr,rfl,kt k2,hdr,tr⟩ .nil))
   ·rw [ck,ck]; show _ + (szT l + 0) + (szT r + 0) + _≤_; rw [sz0] at sz1; omega
   ·rw [de,de,← al,et,lvs,List.append_assoc]
  | false =>
   have k1:H4 t1=some (.tup [.int t0.x,.int t0.y,.int t0.w,.int p,lv]):=k1
   have k2:H4 t2=some (.tup [.int t0.x,.int (t0.y + (p + b)),.int t0.w,.int (t0.h - p - b),rv]):=k2
   refine ⟨vs' ++ [.ref t1,.ref t2],us,ts' ++ [⟨t0.x,t0.y,t0.w,p,l⟩] ++ [⟨t0.x,t0.y + (p + b),t0.w,t0.h - p - b,r⟩],L,_,rfl,?_,af,kl4,?_,pu4,?_,?_,keep (s02.trans s4)⟩
   ·rw [ck,ck]; show _ + (szT l + 0) + (szT r + 0) < _; rw [sz0]; omega
   ·rw [List.append_assoc]; exact kx pr4 (.cons ⟨t1,lv,dl,rfl,kt k1,hdl,tl⟩ (.cons ⟨t2,rv,dr,rfl,kt k2,hdr,tr⟩ .nil))
   ·rw [ck,ck]; show _ + (szT l + 0) + (szT r + 0) + _≤_; rw [sz0] at sz1; omega
   ·rw [de,de,← al,et,lvs,List.append_assoc]
 | rest =>
  rw [et] at tdu
  obtain ⟨a,xs,eu,hx,dxs⟩:=go _ _ tdu
  subst eu
  show rIx K (.ref a) (.int 0) H2 _
  refine ixR s02 hx (aY (Int.le_refl _) rfl) ?_
  refine ⟨wa,_,rfl,.inr (Z.wq _),rfl,rfl,_,rfl,?_⟩
  show (if (inV (V.str "rest") [V.str "down",V.str "across"])=true then _ else _)
  rw [show inV (V.str "rest") [V.str "down",V.str "across"]=false by decide +kernel]
  have sl:=gr ts'
  have ul:=Paired.length pu2
  have SZ:szT t0.t=1:=by rw [et]; rfl
  refine az ⟨_,rfl,.inl ⟨rfl,_,SqL.of hl2⟩,_,rfl,ll,us,_,rfl,rfl,hl2,by omega,?_⟩
  have kt:∀ {c:Addr} {xs:List V},H2 c=some (.tup xs)→(upd H2 ll (.lst (us ++ [.ref sp]))) c=some (.tup xs):=fun {c xs} e=>by
   rw [aj (fun z=>by rw [z,hl2] at e; cases e)]; exact e
  refine ⟨vs',us ++ [.ref sp],ts',L ++ [t0],_,rfl,by omega,by rw [aj (Ne.symm nlw)]; exact hw2,af,Paired.mapP pr2 fun v t h=>h.keep fun a xs e=>kt e,kx (Paired.mapP pu2 fun v t h=>h.keep fun a xs e=>kt e) (.cons ⟨sp,.ref a,du,rfl,kt hsp2,hdu,by rw [et]; exact tdu⟩ .nil),?_,?_,keepL s02⟩
  ·rw [List.length_append]; show _ + (_ + 1)≤_; omega
  ·rw [← al,List.append_assoc]
   congr 2
   rw [et]
   cases t0
   cases et
   rfl
 | piece i c x y =>
  rw [et] at tdu
  obtain ⟨a,xs,eu,hx,dxs⟩:=go _ _ tdu
  subst eu
  show rIx K (.ref a) (.int 0) H2 _
  refine ixR s02 hx (aY (Int.le_refl _) rfl) ?_
  refine ⟨wa,_,rfl,.inr (Z.wq _),rfl,rfl,_,rfl,?_⟩
  show (if (inV (V.str "piece") [V.str "down",V.str "across"])=true then _ else _)
  rw [show inV (V.str "piece") [V.str "down",V.str "across"]=false by decide +kernel]
  have sl:=gr ts'
  have ul:=Paired.length pu2
  have SZ:szT t0.t=1:=by rw [et]; rfl
  refine az ⟨_,rfl,.inl ⟨rfl,_,SqL.of hl2⟩,_,rfl,ll,us,_,rfl,rfl,hl2,by omega,?_⟩
  have kt:∀ {c:Addr} {xs:List V},H2 c=some (.tup xs)→(upd H2 ll (.lst (us ++ [.ref sp]))) c=some (.tup xs):=fun {c xs} e=>by
   rw [aj (fun z=>by rw [z,hl2] at e; cases e)]; exact e
  refine ⟨vs',us ++ [.ref sp],ts',L ++ [t0],_,rfl,by omega,by rw [aj (Ne.symm nlw)]; exact hw2,af,Paired.mapP pr2 fun v t h=>h.keep fun a xs e=>kt e,kx (Paired.mapP pu2 fun v t h=>h.keep fun a xs e=>kt e) (.cons ⟨sp,.ref a,du,rfl,kt hsp2,hdu,by rw [et]; exact tdu⟩ .nil),?_,?_,keepL s02⟩
  ·rw [List.length_append]; show _ + (_ + 1)≤_; omega
  ·rw [← al,List.append_assoc]
   congr 2
   rw [et]
   cases t0
   cases et
   rfl
theorem sccheckt:FnScope ["shop","wide","high","thing"] ["shop","wide","high","thing"] (defScope cD):=⟨rfl,rfl,rfl,by decide +kernel,rfl,by decide +kernel,by decide +kernel⟩
set_option maxHeartbeats 1000000 in
theorem ow {f C:Addr} {fd:FuncData} (F:Fun K "check_tree" "check_tree" cD f fd) (DI:Dn P w K mg base "is_tree" ["shop","wide","high","thing"] 6 (fm C)):FnOk P w K mg base CX0 7 f fd ["shop","wide","high","thing"] (gT C):=by
 refine F.ok sccheckt (fun vs H Q E h=>?_) (fun cdv A outer s H vs Q E hr h=>?_)
 ·obtain ⟨pp,s,b,w1,h1,ks,v,d,rfl,_⟩:=h
  rfl
 obtain ⟨pp,s,b,w1,h1,ks,v,d,rfl,SH,w0,h0,hd,dz,ht,q⟩:=h
 have nd:=sccheckt.nd
 refine ⟨_,(@ag _ _ _ (@aH _ _ _ _ _ _ _ _ (@aL _ _ _ _ (@aE _ _ _ (@ar _ _ _ _ _ _ _ _ _ _ DI hr rfl (@aa _ _ _ _ _ (pv 0) (@aa _ _ _ _ _ (pv 1) (@aa _ _ _ _ _ (pv 2) (@aa _ _ _ _ _ (pv 3) ab rfl) rfl) rfl) rfl) (by decide) rfl rfl) (by intro _; rfl))) (@ag _ _ _ eD) au)),?_⟩
 refine ⟨_,rfl,_,rfl,_,rfl,_,rfl,pp,s,b,w1,h1,ks,v,d,rfl,SH,w0,h0,hd,dz,fun H1 s1=>⟨_,rfl,?_⟩⟩
 rw [ht]
 exact az (q _ s1)
end
structure Pce where
 k:Nat
 c:Bool
 x:Int
 y:Int
def Ev (p:Pce):List V:=[.int p.k,.bl p.c,.int p.x,.int p.y]
def Ew (p:Pce):List Int:=[(p.k:Int),if p.c=true then 1 else 0,p.x,p.y]
def lfQ (f:Lf):Option Pce:=match f.t with
 | .piece i c u v=>some ⟨i,c,f.x + u,f.y + v⟩
 | _=>none
def pcs (b:Int) (t:Tr) (w h:Int):List Pce:=(lvs b t 0 0 w h).filterMap lfQ
def PA (H:Hp) (a:Addr) (p:Pce):Prop:=H a=some (.tup (Ev p))
def fZ (H:Hp) (a:Addr):Pce:=match H a with
 | some (.tup [.int k,.bl c,.int x,.int y])=>⟨k.toNat,c,x,y⟩
 | _=>⟨0,false,0,0⟩
theorem PA.of {H:Hp} {a:Addr} {p:Pce} (h:PA H a p):fZ H a=p:=by
 unfold fZ
 rw [show H a=some (.tup [.int p.k,.bl p.c,.int p.x,.int p.y]) from h]
 show (⟨(p.k:Int).toNat,p.c,p.x,p.y⟩:Pce)=p
 rw [Int.toNat_natCast]
theorem PA.map {H:Hp}:∀ {as:List Addr} {ps:List Pce},Paired (PA H) as ps→as.map (fZ H)=ps
 | _,_,.nil=>rfl
 | _,_,.cons h r=>by rw [List.map_cons,h.of,PA.map r]
theorem PA.mem {H:Hp}:∀ {as:List Addr} {ps:List Pce},Paired (PA H) as ps→∀a∈as,PA H a (fZ H a)
 | _,_,.nil,a,h=>by cases h
 | _,_,.cons h r,a,hm=>by
  rcases List.mem_cons.mp hm with e | e
  ·subst e; rw [h.of]; exact h
  ·exact PA.mem r a e
theorem PA.back {H:Hp}:∀ {as:List Addr},(∀a∈as,PA H a (fZ H a))→Paired (PA H) as (as.map (fZ H))
 | [],_=>.nil
 | a :: as,h=>.cons (h a List.mem_cons_self) (PA.back fun b hb=>h b (List.mem_cons_of_mem _ hb))
theorem PA.keep {H H':Hp} (k:∀a xs,H a=some (.tup xs)→H' a=some (.tup xs)) {as:List Addr} {ps:List Pce} (h:Paired (PA H) as ps):Paired (PA H') as ps:=Paired.mapP h fun a p e=>k _ _ e
theorem TrD.many {b:Int}:∀ (t:Tr) (d:PyData) (x y w h:Int),TrD t d→(lvs b t x y w h).length=lvN t∧szT t≤wt d
 | .rest,d,_,_,_,_,e=>by
  have:=fq (show aZ d=some [.str "rest"] from e)
  have w1:wts [.str "rest"]=5:=by decide +kernel
  refine ⟨rfl,?_⟩
  show 1≤wt d
  omega
 | .piece i c u v,d,_,_,_,_,e=>by
  have:=fq (show aZ d=some [.str "piece",.int i,.bool c,.int u,.int v] from e)
  have w1:wts [.str "piece",.int i,.bool c,.int u,.int v]=10:=by
   show wt (.str "piece") + (1 + (1 + (1 + (1 + 0))))=10
   decide +kernel
  refine ⟨rfl,?_⟩
  show 1≤wt d
  omega
 | .cut true p l r,d,x,y,w,h,⟨dl,dr,e,tl,tr⟩=>by
  have h0:=fq e
  have w1:wts [.str (if true=true then "down" else "across"),.int p,dl,dr]=5 + (1 + (wt dl + (wt dr + 0))):=by
   show wt (.str "down") + (1 + (wt dl + (wt dr + 0)))=_
   rw [show wt (.str "down")=5 by decide +kernel]
  have h1:=TrD.many (b:=b) r dr (x + (p + b)) y (w - p - b) h tr
  have h2:=TrD.many (b:=b) l dl x y p h tl
  rw [lvs,List.length_append,szT,lvN]
  omega
 | .cut false p l r,d,x,y,w,h,⟨dl,dr,e,tl,tr⟩=>by
  have h0:=fq e
  have w1:wts [.str (if false=true then "down" else "across"),.int p,dl,dr]=7 + (1 + (wt dl + (wt dr + 0))):=by
   show wt (.str "across") + (1 + (wt dl + (wt dr + 0)))=_
   rw [show wt (.str "across")=7 by decide +kernel]
  have h1:=TrD.many (b:=b) r dr x (y + (p + b)) w (h - p - b) tr
  have h2:=TrD.many (b:=b) l dl x y w p tl
  rw [lvs,List.length_append,szT,lvN]
  omega
theorem df (b:Int):∀ (t:Tr) (x y w h:Int),∀f∈lvs b t x y w h,f.t=.rest∨∃i c u v,f.t=.piece i c u v
 | .rest,_,_,_,_,f,hf=>by cases List.mem_singleton.mp hf; exact .inl rfl
 | .piece i c u v,_,_,_,_,f,hf=>by cases List.mem_singleton.mp hf; exact .inr ⟨i,c,u,v,rfl⟩
 | .cut true p l r,x,y,w,h,f,hf=>by
  rw [lvs] at hf
  exact (List.mem_append.mp hf).elim (df b r _ _ _ _ f) (df b l _ _ _ _ f)
 | .cut false p l r,x,y,w,h,f,hf=>by
  rw [lvs] at hf
  exact (List.mem_append.mp hf).elim (df b r _ _ _ _ f) (df b l _ _ _ _ f)
section
variable {P:Program} {w:World} {K:PySem.W.Frag} {mg:Str→Option Value} {base:Heap}
structure TrH (C pp s:Addr) (b w h:Int) (ks:List Kd) (v:V) (d:PyData) (t:Tr) (H:Hp):Prop where
 sh:ShopAt C H s b ks
 w1:1≤w
 h1:1≤h
 dt:Dt pp H v d
 td:TrD t d
 ok:okT b ks w h t
 wd:wt d≤9000
 ln:lvN t≤1000
theorem TrH.same {C pp s:Addr} {b w h:Int} {ks:List Kd} {v:V} {d:PyData} {t:Tr} {H H':Hp} (x:TrH C pp s b w h ks v d t H) (k:Same H H'):TrH C pp s b w h ks v d t H':=⟨mO k x.sh,x.w1,x.h1,x.dt.same k,x.td,x.ok,x.wd,x.ln⟩
def gU (C:Addr):Sp:=fun vs H Q _=>∃ (pp s:Addr) (b w h:Int) (ks:List Kd) (v:V) (d:PyData) (t:Tr),vs=[.ref s,.int w,.int h,v]∧TrH C pp s b w h ks v d t H ∧
 ∀ (l:Addr) (as:List Addr) (ps:List Pce) (H':Hp),H l=none→H' l=some (.lst (as.map V.ref))→Paired (PA H') as ps→ps.Perm (pcs b t w h)→Same H H'→Q (.ref l) H'
theorem scpieces:FnScope ["shop","wide","high","tree","pieces","x","y","part_wide","part_high","leaf","word","kind","turned","piece_x","piece_y"] ["shop","wide","high","tree"] (defScope cY):=⟨rfl,rfl,rfl,by decide +kernel,rfl,by decide +kernel,by decide +kernel⟩
set_option maxHeartbeats 1000000 in
theorem oz {f C wa:Addr} {fd:FuncData} (F:Fun K "pieces_of" "pieces_of" cY f fd) (B:Blt mg) (Z:TrC K mg wa) (DC:Dn P w K mg base "check_tree" ["shop","wide","high","thing"] 7 (gT C)) (DL:Dn P w K mg base "leaves_of" ["shop","wide","high","tree"] 3 (gS C)):FnOk P w K mg base CX0 8 f fd ["shop","wide","high","tree"] (gU C):=by
 refine F.ok scpieces (fun vs H Q E h=>?_) (fun cdv A outer s H vs Q E hr h=>?_)
 ·obtain ⟨pp,s,b,w1,h1,ks,v,d,t,rfl,_⟩:=h
  rfl
 obtain ⟨pp,s,b,w1,h1,ks,v,d,t,rfl,th,q⟩:=h
 have nd:=scpieces.nd
 obtain ⟨trs,hrs⟩:=Z.rs
 refine ⟨_,(@ae _ _ _ _ _ (@bG _ _ _ _ (@ar _ _ _ _ _ _ _ _ _ _ DC hr rfl (@aa _ _ _ _ _ (pv 0) (@aa _ _ _ _ _ (pv 1) (@aa _ _ _ _ _ (pv 2) (@aa _ _ _ _ _ (pv 3) ab rfl) rfl) rfl) rfl) (by decide) rfl rfl) rfl) (@ae _ _ _ _ _ (@aG _ _ 4 _ _ _ _ nd rfl (Or.inl rfl) (@bp _ _ _ _ ab) rfl (Or.inl rfl)) (@ae _ _ _ _ _ (@cz _ _ _ _ _ _ _ _ PassesOwn.never rfl (bJ (@ar _ _ _ _ _ _ _ _ _ _ DL (hr.mono (by decide)) rfl (@aa _ _ _ _ _ (pv 0) (@aa _ _ _ _ _ (pv 1) (@aa _ _ _ _ _ (pv 2) (@aa _ _ _ _ _ (pv 3) ab rfl) rfl) rfl) rfl) (by decide) rfl rfl)) (aU rfl (ah (ai (i:=5) nd rfl (Or.inl rfl)) (ah (ai (i:=6) nd rfl (Or.inl rfl)) (ah (ai (i:=7) nd rfl (Or.inl rfl)) (ah (ai (i:=8) nd rfl (Or.inl rfl)) (ah (ai (i:=9) nd rfl (Or.inl rfl)) aK)))))) (@ag _ _ _ (@aH _ _ _ _ _ _ _ _ (@ax _ _ _ _ _ _ _ _ eE (@av _ _ _ _ _ _ _ cN (pv 9) ad (fun _ _=>rfl)) (aR (v:=.str "rest") rfl hrs ⟨trs,rfl⟩) (aw _)) (@ae _ _ _ _ _ (@bi _ _ _ _ _ _ (pv 9) (lm rfl (ah (ai (i:=10) nd rfl (Or.inl rfl)) (ah (ai (i:=11) nd rfl (Or.inl rfl)) (ah (ai (i:=12) nd rfl (Or.inl rfl)) (ah (ai (i:=13) nd rfl (Or.inl rfl)) (ah (ai (i:=14) nd rfl (Or.inl rfl)) aK)))))) rfl rfl rfl) (@ag _ _ _ (@bG _ _ _ _ (@fU _ _ _ _ _ _ _ _ _ _ _ _ PySem.F.plainAttrs_list PySem.F.slot_list_append PySem.F.type_list_append cq (pv 4) (@aa _ _ _ _ _ (@aB _ _ _ _ _ (@aa _ _ _ _ _ (pv 11) (@aa _ _ _ _ _ (pv 12) (@aa _ _ _ _ _ (@aD _ _ _ _ _ _ _ _ aS (pv 5) (pv 13)) (@aa _ _ _ _ _ (@aD _ _ _ _ _ _ _ _ aS (pv 6) (pv 14)) ab rfl) rfl) rfl) rfl)) ab rfl) rfl rfl rfl rfl rfl) rfl))) au)) (by intro _; rfl)) (@ag _ _ _ (@aq _ _ _ _ (@aI _ _ _ _ _ _ _ _ _ jj rfl B.sorted PyProof.Rows.boot_sorted (@aa _ _ _ _ _ (pv 4) ab rfl) (by decide) (by decide) rfl rfl)))))),?_⟩
 have sz:(40000:Nat)≤sizeLine:=by decide
 obtain ⟨m1,m2⟩:=TrD.many (b:=b) t d 0 0 w1 h1 th.td
 have wd:=th.wd
 have ln:=th.ln
 refine ⟨_,rfl,_,rfl,_,rfl,_,rfl,pp,s,b,w1,h1,ks,v,d,rfl,th.sh,th.w1,th.h1,th.dt,by omega,TrD.good t d w1 h1 th.td th.ok,fun H1 s1=>?_⟩
 refine ⟨by decide,fun pl hpl=>?_⟩
 have s2:Same H1 (upd H1 pl (.lst [])):=Same.new hpl
 have k2:(upd H1 pl (.lst [])) pl=some (.lst []):=af
 generalize upd H1 pl (.lst [])=H2 at s2 k2 ⊢
 have s02:=s1.trans s2
 have th2:=th.same s02
 have fp:H pl=none:=s1.free hpl
 have dp:Dt pl H2 v d:=(th.dt.fresh fp).same s02
 refine ap (fun σ' H'=>σ'=[some (.ref s),some (.int w1),some (.int h1),some v,some (.ref pl),none,none,none,none,none,none,none,none,none,none]∧H2=H') (fun R hR=>hR _ _ ⟨rfl,rfl⟩) ?_
 rintro _ _ ⟨rfl,rfl⟩
 refine ap (fun σ' H'=>(∃v5 v6 v7 v8 v9 v10 v11 v12 v13 v14,σ'=[some (.ref s),some (.int w1),some (.int h1),some v,some (.ref pl),v5,v6,v7,v8,v9,v10,v11,v12,v13,v14])∧(∃as,H' pl=some (.lst (as.map V.ref))∧Paired (PA H') as (pcs b t w1 h1)∧as.length≤1000)∧Same H H') (fun R hR=>?_) ?_
 ·refine ⟨_,rfl,_,rfl,_,rfl,_,rfl,pl,s,b,w1,h1,ks,v,d,t,rfl,th2.sh,dp,th2.td,by omega,fun ll us H3 hll l3 pu s23=>?_⟩
  have s03:=s02.trans s23
  have ul:=Paired.length pu
  have npl:ll≠pl:=fun z=>by rw [z,k2] at hll; cases hll
  refine ⟨ll,rfl,⟨_,SqL.of l3⟩,cA (xs:=us) (fun i σ' H'=>(∃v5 v6 v7 v8 v9 v10 v11 v12 v13 v14,σ'=[some (.ref s),some (.int w1),some (.int h1),some v,some (.ref pl),v5,v6,v7,v8,v9,v10,v11,v12,v13,v14])∧(∃as,H' pl=some (.lst (as.map V.ref))∧Paired (PA H') as (((lvs b t 0 0 w1 h1).take i).filterMap lfQ))∧H' ll=some (.lst us)∧Paired (LfAt pl H2 H') us (lvs b t 0 0 w1 h1)∧But pl H2 H'∧Same H H') ⟨⟨_,_,_,_,_,_,_,_,_,_,rfl⟩,⟨[],s23 _ _ k2,.nil⟩,l3,pu,Eu s23,s03⟩ (fun i σ H' _ h=>SqL.of h.2.2.1) ?_ ?_⟩
  ·rintro i x σ H4 hi ⟨⟨v5,v6,v7,v8,v9,v10,v11,v12,v13,v14,rfl⟩,⟨as,hp4,pa4⟩,l4,pu4,b4,s4⟩
   have hin:i < us.length:=(List.getElem?_eq_some_iff.mp hi).1
   obtain ⟨f,hf,a,u,du,rfl,ha,hdu,tdu⟩:=Paired.getR pu4 hi
   have pal:=Paired.length pa4
   have fml:(((lvs b t 0 0 w1 h1).take i).filterMap lfQ).length≤i:=Nat.le_trans (List.length_filterMap_le _ _) (by rw [List.length_take]; omega)
   have tk:(lvs b t 0 0 w1 h1).take (i + 1)=(lvs b t 0 0 w1 h1).take i ++ [f]:=by rw [List.take_add_one,hf]; rfl
   refine ⟨a,_,rfl,SqT.of ha,rfl,_,_,rfl,_,_,rfl,_,_,rfl,_,_,rfl,_,_,rfl,rfl,?_⟩
   have hdu4:Dt pl H4 u du:=hdu.but ⟨_,k2⟩ b4
   rcases df b t 0 0 w1 h1 f (List.mem_of_getElem? hf) with et | ⟨ki,c,px,py,et⟩
   ·rw [et] at tdu
    obtain ⟨a', xs, rfl, hx, dxs⟩:=hdu4.ref_row (show aZ du=some [.str "rest"] from tdu)
    cases dxs with
    | cons hd0 dxs =>
    cases hd0
    cases dxs
    refine ⟨_,rfl,ixR (Same.refl _) hx (aY (Int.le_refl _) rfl) ⟨rfl,_,rfl,?_⟩⟩
    refine az ⟨⟨_,_,_,_,_,_,_,_,_,_,rfl⟩,⟨as,hp4,?_⟩,l4,pu4,b4,s4⟩
    rw [tk,List.filterMap_append,show [f].filterMap lfQ=[] by rw [List.filterMap_cons,show lfQ f=none by unfold lfQ; rw [et]]; rfl,List.append_nil]
    exact pa4
   ·rw [et] at tdu
    obtain ⟨a', xs, rfl, hx, dxs⟩:=hdu4.ref_row (show aZ du=some [.str "piece", .int ki, .bool c, .int px, .int py] from tdu)
    cases dxs with
    | cons hd0 dxs =>
    cases dxs with
    | cons hd1 dxs =>
    cases dxs with
    | cons hd2 dxs =>
    cases dxs with
    | cons hd3 dxs =>
    cases dxs with
    | cons hd4 dxs =>
    cases dxs
    cases hd0; cases hd1; cases hd2; cases hd3; cases hd4
    refine ⟨_,rfl,ixR (Same.refl _) hx (aY (Int.le_refl _) rfl) ⟨rfl,_,rfl,?_⟩⟩
    refine be ?_
    refine ⟨_,rfl,a',_,rfl,hx.imp (fun z=>SqL.of z) (fun z=>SqT.of z),rfl,_,_,rfl,_,_,rfl,_,_,rfl,_,_,rfl,_,_,rfl,rfl,?_⟩
    refine ⟨_,rfl,.inl ⟨rfl,_,SqL.of hp4⟩,_,rfl,_,rfl,_,rfl,_,rfl,_,_,rfl,rfl,_,rfl,_,rfl,_,_,rfl,rfl,(by show 4≤sizeLine; decide),fun tp htp=>?_⟩
    have s5:=Same.new htp (o:=.tup [.int ki,.bl c,.int (f.x + px),.int (f.y + py)])
    have k5:(upd H4 tp (.tup [.int ki,.bl c,.int (f.x + px),.int (f.y + py)])) tp=some (.tup [.int ki,.bl c,.int (f.x + px),.int (f.y + py)]):=af
    rw [show upd H4 tp _=upd H4 tp (.tup [.int ki,.bl c,.int (f.x + px),.int (f.y + py)]) from rfl]
    generalize upd H4 tp (.tup [.int ki,.bl c,.int (f.x + px),.int (f.y + py)])=H5 at s5 k5 ⊢
    have hp5:=s5 _ _ hp4
    refine ⟨pl,_,_,rfl,rfl,hp5,(by rw [List.length_map]; omega),?_⟩
    have kt:∀ (a:Addr) (xs:List V),H4 a=some (.tup xs)→(upd H5 pl (.lst (as.map V.ref ++ [.ref tp]))) a=some (.tup xs):=fun a xs e=>by
     rw [aj (fun z=>by rw [z,hp4] at e; cases e)]; exact s5 _ _ e
    refine ⟨⟨_,_,_,_,_,_,_,_,_,_,rfl⟩,⟨as ++ [tp],by rw [af,List.map_append]; rfl,?_⟩,by rw [aj npl]; exact s5 _ _ l4,Paired.mapP pu4 fun v f h=>h.keep kt,b4.trans (fun cc o n e=>by rw [aj n]; exact s5 _ _ e),fun cc o e=>by rw [aj (fun z=>by rw [z,fp] at e; cases e)]; exact s5 _ _ (s4 _ _ e)⟩
    rw [tk,List.filterMap_append,show [f].filterMap lfQ=[⟨ki,c,f.x + px,f.y + py⟩] by rw [List.filterMap_cons,show lfQ f=some ⟨ki,c,f.x + px,f.y + py⟩ by unfold lfQ; rw [et]]; rfl]
    exact kx (PA.keep kt pa4) (.cons (show _=_ by rw [aj (fun z=>by rw [z,hp5] at k5; cases k5)]; exact k5) .nil)
  ·rintro σ H4 ⟨⟨v5,v6,v7,v8,v9,v10,v11,v12,v13,v14,rfl⟩,⟨as,hp4,pa4⟩,l4,pu4,b4,s4⟩
   rw [ul,List.take_length] at pa4
   have:=Paired.length pa4
   have fml:((lvs b t 0 0 w1 h1).filterMap lfQ).length≤(lvs b t 0 0 w1 h1).length:=List.length_filterMap_le _ _
   exact hR _ _ ⟨⟨_,_,_,_,_,_,_,_,_,_,rfl⟩,⟨as,hp4,pa4,by omega⟩,s4⟩
 rintro _ H3 ⟨⟨v5,v6,v7,v8,v9,v10,v11,v12,v13,v14,rfl⟩,⟨as,hp3,pa3,al⟩,s3⟩
 have mem:=PA.mem pa3
 have mp:=PA.map pa3
 refine ⟨_,rfl,pl,as,[false,true,false,false],fun a=>Ew (fZ H3 a),rfl,SqL.of hp3,by omega,rfl,fun a ha=>⟨_,SqT.of (mem a ha),rfl⟩,fun l as' hl pa=>?_⟩
 have s4:=Same.new hl (o:=.lst (as'.map V.ref))
 refine q l as' (as'.map (fZ H3)) _ (s3.free hl) af (PA.keep (fun a xs e=>s4 _ _ e) (PA.back fun a ha=>mem a (pa.mem_iff.mp ha))) ?_ (s3.trans s4)
 rw [← mp]; exact pa.map _
end
theorem rD {X:Cx}:xh X (fun o i H Q=>∃p xs k x,o=.ref p∧i=.int k∧0≤k∧H p=some (.lst xs)∧atI xs k=some x∧Q x H):=by
 intro pins s σ H o i ov iv Q I ro ri h
 obtain ⟨p,xs,k,x,rfl,rfl,k0,hp,hx,q⟩:=h
 cases ro
 obtain ⟨t,rfl⟩:=ri
 obtain ⟨its,r,pl,hz⟩:=I.list (SqL.of hp)
 obtain ⟨j,h1,h2,h3,h4,h5⟩:=gj hx
 obtain ⟨w,ew,rw'⟩:=r.get h2
 have hl:=r.length
 have hn:=ed
 have hj:k.toNat=j:=by
  rw [seqIndex_of k0 h5] at h1
  exact Option.some.inj h1
 exact wpAny_getItem_list pl.isList k0 (by omega) (by rw [hj]; simpa using ew) ⟨x,H,I,rw',q⟩
def cg (ps:List Pce) (n:Nat):List Int:=(List.range n).map fun k=>((ps.filter fun p=>p.k == k).length:Int)
theorem dN (ps:List Pce) (n:Nat):(cg ps n).length=n:=by unfold cg; rw [List.length_map,List.length_range]
theorem ft {ps:List Pce} {n k:Nat} (h:k < n):(cg ps n)[k]? = some ((ps.filter fun p=>p.k == k).length:Int):=by
 unfold cg
 rw [List.getElem?_map,List.getElem?_range h]; rfl
theorem oA {ps qs:List Pce} (h:ps.Perm qs) (n:Nat):cg ps n=cg qs n:=by
 unfold cg
 apply List.map_congr_left
 intro k _
 rw [(h.filter _).length_eq]
theorem rE {ps:List Pce} {p:Pce} {n:Nat} (h:p.k < n):((cg ps n).map V.int).set p.k (.int (((ps.filter fun q=>q.k == p.k).length:Int) + 1))=(cg (ps ++ [p]) n).map V.int:=by
 apply List.ext_getElem?
 intro j
 rw [List.getElem?_set]
 by_cases hj:j < n
 ·rw [List.getElem?_map,List.getElem?_map,ft hj,ft hj,List.length_map,dN]
  by_cases e:p.k=j
  ·subst e
   rw [if_pos rfl,if_pos h,List.filter_append,List.length_append]
   simp
  ·rw [if_neg e,List.filter_append,List.length_append]
   have:([p].filter fun q=>q.k == j)=[]:=by simp [e]
   rw [this]; rfl
 ·have h1:((cg ps n).map V.int)[j]? = none:=List.getElem?_eq_none (by rw [List.length_map,dN]; omega)
  have h2:((cg (ps ++ [p]) n).map V.int)[j]? = none:=List.getElem?_eq_none (by rw [List.length_map,dN]; omega)
  rw [h1,h2,if_neg (by omega)]
theorem gW {b:Int} {ks:List Kd}:∀ (t:Tr) (x y w h:Int),okT b ks w h t→∀f∈lvs b t x y w h,∀i c u v,f.t=.piece i c u v→i < ks.length
 | .rest,_,_,_,_,_,f,hf,i,c,u,v,e=>by cases List.mem_singleton.mp hf; cases e
 | .piece ..,_,_,_,_,⟨k,hk,_⟩,f,hf,i,c,u,v,e=>by
  cases List.mem_singleton.mp hf
  cases e
  exact (List.getElem?_eq_some_iff.mp hk).1
 | .cut true p l r,x,y,w,h,⟨_,_,hl,hr⟩,f,hf,i,c,u,v,e=>by
  rw [lvs] at hf
  exact (List.mem_append.mp hf).elim (fun z=>gW r _ _ _ _ hr f z i c u v e) (fun z=>gW l _ _ _ _ hl f z i c u v e)
 | .cut false p l r,x,y,w,h,⟨_,_,hl,hr⟩,f,hf,i,c,u,v,e=>by
  rw [lvs] at hf
  exact (List.mem_append.mp hf).elim (fun z=>gW r _ _ _ _ hr f z i c u v e) (fun z=>gW l _ _ _ _ hl f z i c u v e)
theorem rF {b:Int} {ks:List Kd} {t:Tr} {w h:Int} (ok:okT b ks w h t) {p:Pce} (hp:p∈pcs b t w h):p.k < ks.length:=by
 obtain ⟨f,hf,e⟩:=List.mem_filterMap.mp hp
 rcases df b t 0 0 w h f hf with et | ⟨i,c,u,v,et⟩
 ·unfold lfQ at e; rw [et] at e; cases e
 ·have:=gW t 0 0 w h ok f hf i c u v et
  unfold lfQ at e; rw [et] at e; cases e; exact this
section
variable {P:Program} {w:World} {K:PySem.W.Frag} {mg:Str→Option Value} {base:Heap}
def fM (C:Addr):Sp:=fun vs H Q _=>∃ (pp s:Addr) (b w h:Int) (ks:List Kd) (v:V) (d:PyData) (t:Tr),vs=[.ref s,.int w,.int h,v]∧TrH C pp s b w h ks v d t H∧ks.length≤8 ∧
 ∀ (l:Addr) (H':Hp),H l=none→H' l=some (.lst ((cg (pcs b t w h) ks.length).map V.int))→Same H H'→Q (.ref l) H'
def gX (C:Addr):Sp:=fun vs H Q _=>∃ (pp s:Addr) (b w h:Int) (ks:List Kd) (v:V) (d:PyData) (t:Tr),vs=[.ref s,.int w,.int h,v]∧TrH C pp s b w h ks v d t H∧ks.length≤8∧(∀k∈ks,Good k) ∧
 ∀ (H':Hp),Same H H'→Q (.int (((cg (pcs b t w h) ks.length).zip ks).map fun z=>z.1 * z.2.wo).sum) H'
theorem sccountso:FnScope ["shop","wide","high","tree","pieces","counts","kind","turned","x","y"] ["shop","wide","high","tree"] (defScope cu):=⟨rfl,rfl,rfl,by decide +kernel,rfl,by decide +kernel,by decide +kernel⟩
set_option maxHeartbeats 1000000 in
theorem lJ {f C:Addr} {fd:FuncData} (F:Fun K "counts_of" "counts_of" cu f fd) (B:Blt mg) (T:ShopTxt K C) (MK:Mn P w K mg base C "kinds" ["self"] 1 (eQ C)) (DP:Dn P w K mg base "pieces_of" ["shop","wide","high","tree"] 8 (gU C)):FnOk P w K mg base CX0 9 f fd ["shop","wide","high","tree"] (fM C):=by
 refine F.ok sccountso (fun vs H Q E h=>?_) (fun cdv A outer s H vs Q E hr h=>?_)
 ·obtain ⟨pp,s,b,w1,h1,ks,v,d,t,rfl,_⟩:=h
  rfl
 obtain ⟨pp,s,b,w1,h1,ks,v,d,t,rfl,th,k8,q⟩:=h
 have nd:=sccountso.nd
 refine ⟨_,(@ae _ _ _ _ _ (@aG _ _ 4 _ _ _ _ nd rfl (Or.inl rfl) (@ar _ _ _ _ _ _ _ _ _ _ DP hr rfl (@aa _ _ _ _ _ (pv 0) (@aa _ _ _ _ _ (pv 1) (@aa _ _ _ _ _ (pv 2) (@aa _ _ _ _ _ (pv 3) ab rfl) rfl) rfl) rfl) (by decide) rfl rfl) rfl (Or.inl rfl)) (@ae _ _ _ _ _ (gl (i:=5) (own:=["kind"]) (cs:=[]) (cap:=[]) rfl nd rfl rfl rfl (bJ (ej (pv 0) T.cl MK (hr.mono (by decide)))) (bn (sc:=defScope cu) (N:=["shop","wide","high","tree","pieces","counts","kind","turned","x","y"]) rfl rfl (by decide +kernel)) (fun _ _ _ _ _=>ai (i:=0) (by show List.Nodup (["kind"]:List Str) ; decide +kernel) rfl (Or.inl rfl) (Or.inr rfl)) (fun _ _ _ _ _=>bA) (fun _ _ _ _ _=>ad)) (@ae _ _ _ _ _ (@cz _ _ _ _ _ _ _ _ PassesOwn.never rfl (bJ (pv 4)) (aU rfl (ah (ai (i:=6) nd rfl (Or.inl rfl)) (ah (ai (i:=7) nd rfl (Or.inl rfl)) (ah (ai (i:=8) nd rfl (Or.inl rfl)) (ah (ai (i:=9) nd rfl (Or.inl rfl)) aK))))) (@ag _ _ _ (sG (pv 5) (pv 6) rD ad uJ gz)) (by intro _; rfl)) (@ag _ _ _ (@aq _ _ _ _ (pv 5)))))),?_⟩
 have sz:(40000:Nat)≤sizeLine:=by decide
 refine ap (fun σ' H'=>∃pl as ps,σ'=[some (.ref s),some (.int w1),some (.int h1),some v,some (.ref pl),none,none,none,none,none]∧H' pl=some (.lst (as.map V.ref))∧Paired (PA H') as ps∧ps.Perm (pcs b t w1 h1)∧Same H H') (fun R hR=>?_) ?_
 ·exact ⟨_,rfl,_,rfl,_,rfl,_,rfl,pp,s,b,w1,h1,ks,v,d,t,rfl,th,fun l as ps H1 hl l1 pa pe s1=>hR _ _ ⟨l,as,ps,rfl,l1,pa,pe,s1⟩⟩
 rintro _ H1 ⟨pl,as,ps,rfl,hp1,pa1,pe,s1⟩
 have th1:=th.same s1
 refine ap (fun σ' H'=>∃cl,σ'=[some (.ref s),some (.int w1),some (.int h1),some v,some (.ref pl),some (.ref cl),none,none,none,none]∧H1 cl=none∧H' cl=some (.lst ((cg [] ks.length).map V.int))∧Same H1 H') (fun R hR=>?_) ?_
 ·obtain ⟨dx,r,rs,S1,S2,S3⟩:=id th1.sh
  refine ⟨_,rfl,s,dx,_,rfl,S1,(bH _ _ (by decide +kernel) (by decide +kernel)),s,b,ks,rfl,th1.sh,fun l rs' hl tp=>?_⟩
  have s2:=Same.new hl (o:=.lst rs')
  have k2:(upd H1 l (.lst rs')) l=some (.lst rs'):=af
  generalize upd H1 l (.lst rs')=H2 at s2 k2 ⊢
  have tl:=Paired.length tp
  refine ⟨l,rfl,⟨_,SqL.of k2⟩,(cQ (K:=K) (.inl k2) (fun i ys Hx=>Same H2 Hx∧ys=List.replicate i (.int 0)) (fun i ys Hx _ ⟨sx,_⟩ o e=>sx _ _ e) ⟨Same.refl _,rfl⟩ ?_ ?_).1 k2⟩
  ·rintro i x ys Hx hi ⟨sx,rfl⟩
   have hin:i < rs'.length:=(List.getElem?_eq_some_iff.mp hi).1
   refine ⟨by rw [List.length_replicate]; omega,leS.set rfl,bD ?_⟩
   show Nx rs'.length (fun i ys Hx=>Same H2 Hx∧ys=List.replicate i (V.int 0)) i (List.replicate i (V.int 0) ++ [.int 0]) Hx
   refine Nx.of hin ?_
   exact ⟨sx,(List.replicate_succ' ..).symm⟩
  ·rintro ys Hx ⟨sx,rfl⟩
   refine ⟨by rw [List.length_replicate]; omega,fun cl hcl=>hR _ _ ⟨cl,rfl,(s2.trans sx).free hcl,?_,(s2.trans sx).trans (Same.new hcl)⟩⟩
   rw [af]
   congr 2
   rw [tl]
   unfold cg
   apply List.ext_getElem
   ·simp
   ·intro j h1 h2
    simp
 rintro _ H2 ⟨cl,rfl,hcl,hc2,s2⟩
 have fc:H cl=none:=s1.free hcl
 have npc:pl≠cl:=fun z=>by rw [← z,hp1] at hcl; cases hcl
 have pal:=Paired.length pa1
 have pa2:Paired (PA H2) as ps:=PA.keep (fun a xs e=>s2 _ _ e) pa1
 have hp2:=s2 _ _ hp1
 refine ap (fun σ' H'=>(∃v6 v7 v8 v9,σ'=[some (.ref s),some (.int w1),some (.int h1),some v,some (.ref pl),some (.ref cl),v6,v7,v8,v9])∧H' cl=some (.lst ((cg ps ks.length).map V.int))∧Same H H') (fun R hR=>?_) ?_
 ·refine ⟨_,rfl,pl,rfl,⟨_,SqL.of hp2⟩,cA (xs:=as.map V.ref) (fun i σ' H'=>(∃v6 v7 v8 v9,σ'=[some (.ref s),some (.int w1),some (.int h1),some v,some (.ref pl),some (.ref cl),v6,v7,v8,v9])∧H' cl=some (.lst ((cg (ps.take i) ks.length).map V.int))∧H' pl=some (.lst (as.map V.ref))∧Paired (PA H') as ps∧Same H H') ⟨⟨_,_,_,_,rfl⟩,hc2,hp2,pa2,s1.trans s2⟩ (fun i σ H' _ h=>SqL.of h.2.2.1) ?_ ?_⟩
  ·rintro i x σ H3 hi ⟨⟨v6,v7,v8,v9,rfl⟩,hc3,hp3,pa3,s3⟩
   rw [List.getElem?_map] at hi
   obtain ⟨a,ha,rfl⟩:=Option.map_eq_some_iff.mp hi
   obtain ⟨p,hpi,pA⟩:=Paired.getR pa3 ha
   have hk:=rF th.ok (pe.mem_iff.mp (List.mem_of_getElem? hpi))
   have pA:H3 a=some (.tup [.int p.k,.bl p.c,.int p.x,.int p.y]):=pA
   refine ⟨a,_,rfl,SqT.of pA,rfl,_,_,rfl,_,_,rfl,_,_,rfl,_,_,rfl,rfl,?_⟩
   have hat:atI ((cg (ps.take i) ks.length).map V.int) (p.k:Int)=some (.int (((ps.take i).filter fun q=>q.k == p.k).length:Int)):=aY (by omega) (by rw [Int.toNat_natCast,List.getElem?_map,ft hk]; rfl)
   have hix:ixN ((cg (ps.take i) ks.length).map V.int).length (p.k:Int)=some p.k:=by
    unfold ixN
    rw [if_pos (by omega),List.length_map,dN,if_pos (by omega),Int.toNat_natCast]
   refine ⟨_,rfl,_,rfl,cl,_,_,_,rfl,rfl,by omega,hc3,hat,_,_,rfl,rfl,cl,_,_,p.k,rfl,rfl,hc3,hix,?_⟩
   have kt:∀ (o:HO) (a:Addr) (xs:List V),H3 a=some (.tup xs)→(upd H3 cl o) a=some (.tup xs):=fun o a xs e=>by
    rw [aj (fun z=>by rw [z,hc3] at e; cases e)]; exact e
   refine ⟨⟨_,_,_,_,rfl⟩,?_,by rw [aj npc]; exact hp3,PA.keep (kt _) pa3,fun c o e=>by rw [aj (fun z=>by rw [z,fc] at e; cases e)]; exact s3 _ _ e⟩
   rw [af,rE hk,List.take_add_one,hpi]; rfl
  ·rintro σ H3 ⟨⟨v6,v7,v8,v9,rfl⟩,hc3,hp3,pa3,s3⟩
   rw [List.length_map,pal,List.take_length] at hc3
   exact hR _ _ ⟨⟨_,_,_,_,rfl⟩,hc3,s3⟩
 rintro _ H3 ⟨⟨v6,v7,v8,v9,rfl⟩,hc3,s3⟩
 rw [oA pe] at hc3
 exact ⟨_,rfl,q cl H3 fc hc3 s3⟩
end
section
variable {P:Program} {w:World} {K:PySem.W.Frag} {mg:Str→Option Value} {base:Heap}
theorem scwortho:FnScope ["shop","wide","high","tree","counts"] ["shop","wide","high","tree"] (defScope cZ):=⟨rfl,rfl,rfl,by decide +kernel,rfl,by decide +kernel,by decide +kernel⟩
set_option maxHeartbeats 1000000 in
theorem oB {f C:Addr} {fd:FuncData} (F:Fun K "worth_of" "worth_of" cZ f fd) (B:Blt mg) (T:ShopTxt K C) (MK:Mn P w K mg base C "kinds" ["self"] 1 (eQ C)) (DCo:Dn P w K mg base "counts_of" ["shop","wide","high","tree"] 9 (fM C)):FnOk P w K mg base CX0 10 f fd ["shop","wide","high","tree"] (gX C):=by
 refine F.ok scwortho (fun vs H Q E h=>?_) (fun cdv A outer s H vs Q E hr h=>?_)
 ·obtain ⟨pp,s,b,w1,h1,ks,v,d,t,rfl,_⟩:=h
  rfl
 obtain ⟨pp,s,b,w1,h1,ks,v,d,t,rfl,th,k8,gk,q⟩:=h
 have nd:=scwortho.nd
 refine ⟨_,(@ae _ _ _ _ _ (@aG _ _ 4 _ _ _ _ nd rfl (Or.inl rfl) (@ar _ _ _ _ _ _ _ _ _ _ DCo hr rfl (@aa _ _ _ _ _ (pv 0) (@aa _ _ _ _ _ (pv 1) (@aa _ _ _ _ _ (pv 2) (@aa _ _ _ _ _ (pv 3) ab rfl) rfl) rfl) rfl) (by decide) rfl rfl) rfl (Or.inl rfl)) (@ag _ _ _ (@aq _ _ _ _ (@aI _ _ _ _ _ _ _ _ _ (nP rfl) rfl B.sum PyProof.Rows.boot_sum (@aa _ _ _ _ _ (eM (own:=["count","kind"]) (cs:=[]) (cap:=[]) rfl (uV rfl B.zip (@aa _ _ _ _ _ (pv 4) (@aa _ _ _ _ _ (ej (pv 0) T.cl MK (hr.mono (by decide))) ab rfl) rfl)) (bn (sc:=defScope cZ) (N:=["shop","wide","high","tree","counts"]) rfl rfl (by decide +kernel)) (fun _ _ _ _ _=>lC K rfl rfl (by show List.Nodup (["count","kind"]:List Str) ; decide +kernel) rfl rfl rfl rfl) (fun _ _ _ _ _=>bA) (fun _ _ _ _ _=>(@aD _ _ _ _ _ _ _ _ iU (pv 0) (av (r:=uP K) ix_tup (pv 1) ad (fun _ _=>rfl))))) ab rfl) (by decide) (by decide) rfl rfl)))),?_⟩
 have sz:(40000:Nat)≤sizeLine:=by decide
 refine ap (fun σ' H'=>∃cl,σ'=[some (.ref s),some (.int w1),some (.int h1),some v,some (.ref cl)]∧H' cl=some (.lst ((cg (pcs b t w1 h1) ks.length).map V.int))∧Same H H') (fun R hR=>?_) ?_
 ·exact ⟨_,rfl,_,rfl,_,rfl,_,rfl,pp,s,b,w1,h1,ks,v,d,t,rfl,th,k8,fun l H1 hl l1 s1=>hR _ _ ⟨l,rfl,l1,s1⟩⟩
 rintro _ H1 ⟨cl,rfl,hc1,s1⟩
 have th1:=th.same s1
 obtain ⟨dx,r,rs,S1,S2,S3⟩:=id th1.sh
 obtain ⟨m1,m2⟩:=TrD.many (b:=b) t d 0 0 w1 h1 th.td
 have wd:=th.wd
 have ln:=th.ln
 have pl54:(pcs b t w1 h1).length≤1000:=Nat.le_trans (List.length_filterMap_le _ _) (by omega)
 refine ⟨_,rfl,_,rfl,s,dx,_,rfl,S1,(bH _ _ (by decide +kernel) (by decide +kernel)),s,b,ks,rfl,th1.sh,fun l rs' hl tp=>?_⟩
 have s2:=Same.new hl (o:=.lst rs')
 have k2:(upd H1 l (.lst rs')) l=some (.lst rs'):=af
 have tp2:Tups (upd H1 l (.lst rs')) rs' ks:=Tups.keep (fun c xs e=>s2 _ _ e) tp
 generalize upd H1 l (.lst rs')=H2 at s2 k2 tp2 ⊢
 have tl:=Paired.length tp
 have hc2:=s2 _ _ hc1
 have e60:(100:Int) < 10 ^ 60:=by decide
 generalize hcn:cg (pcs b t w1 h1) ks.length=cn at *
 have cl0:cn.length=ks.length:=by rw [← hcn,dN]
 have cb:∀ (i:Nat) (c:Int),cn[i]? = some c→0≤c∧c≤1000:=fun i c hi=>by
  have hlt:i < ks.length:=by rw [← cl0]; exact (List.getElem?_eq_some_iff.mp hi).1
  rw [← hcn,ft hlt] at hi
  cases hi
  have:=List.length_filter_le (fun p:Pce=>p.k == i) (pcs b t w1 h1)
  omega
 refine ⟨cl,l,_,_,rfl,hc2,k2,qV (xs:=cn.map V.int) (ys:=rs') (fun i zs H4=>Same H2 H4∧zs=(((cn.zip ks).take i).map fun z=>z.1 * z.2.wo).map V.int) (by rw [List.length_map,cl0]; exact tl.symm) (fun i zs H4 ⟨s4,_⟩=>⟨s4 _ _ hc2,s4 _ _ k2⟩) ⟨Same.refl _,rfl⟩ (fun i zs H4 hi ⟨_,e⟩=>by rw [e,List.length_map,List.length_map,List.length_take]; rw [List.length_map] at hi; omega) ?_ ?_⟩
 ·rintro i x y tz zs H4 hx hy htz ⟨s4,rfl⟩
  rw [List.getElem?_map] at hx
  obtain ⟨c,hc,rfl⟩:=Option.map_eq_some_iff.mp hx
  obtain ⟨k,hk,ak,rfl,hak⟩:=Paired.getR tp2 hy
  have g:=gk k (List.mem_of_getElem? hk)
  have hcb:=cb i c hc
  have s5:=Same.new htz (o:=.tup [.int c,.ref ak])
  have k5:(upd H4 tz (.tup [.int c,.ref ak])) tz=some (.tup [.int c,.ref ak]):=af
  generalize upd H4 tz (.tup [.int c,.ref ak])=H5 at s5 k5 ⊢
  have ak5:H5 ak=some (.tup [.int k.w,.int k.h,.int k.wo,.int k.wa,.bl k.tu]):=s5 _ _ (s4 _ _ hak)
  refine ⟨tz,_,rfl,SqT.of k5,rfl,_,_,rfl,_,_,rfl,rfl,rC (leS.set rfl) (leS.set rfl),bD ?_⟩
  refine ⟨_,rfl,_,rfl,ak,_,2,_,rfl,rfl,SqT.of ak5,rfl,_,_,rfl,rfl,?_,Nx.of (by rw [List.length_map,cl0]; exact (List.getElem?_eq_some_iff.mp hk).1) ⟨s4.trans s5,?_⟩⟩
  ·exact .inl ⟨by omega,by omega⟩
  ·have hzz:(cn.zip ks)[i]? = some (c,k):=by rw [List.getElem?_zip_eq_some]; exact ⟨hc,hk⟩
   rw [List.take_add_one,hzz]
   simp only [Option.toList_some,List.map_append,List.map_cons,List.map_nil]
 ·rintro zs H4 ⟨s4,rfl⟩
  refine ⟨by rw [List.length_map,List.length_map,List.length_take,List.length_zip]; omega,fun p hp=>?_⟩
  rw [List.length_map,List.take_of_length_le (by rw [List.length_zip]; omega)]
  exact ⟨p,_,rfl,SqL.of af,q _ (((s1.trans s2).trans s4).trans (Same.new hp))⟩
end
section
variable {P:Program} {w:World} {K:PySem.W.Frag} {mg:Str→Option Value} {base:Heap}
def vi:Sp:=fun vs H Q _=>∃ (w h m:Int),vs=[.int w,.int h,.int m]∧w≤m∧h≤m∧Q .non H
def lK (C:Addr):Sp:=fun vs H Q _=>∃ (s:Addr) (b:Int) (ks:List Kd) (w h i:Int) (c:Bool) (k:Kd),vs=[.ref s,.int w,.int h,.int i,.bl c,.int 0,.int 0]∧ShopAt C H s b ks∧dq ks (.int i) (.bl c)=true∧ks[i.toNat]? = some k∧∀H',Same H H'→Q (.bl (lI k c w h)) H'
theorem sccsides:FnScope ["wide","high","most"] ["wide","high","most"] (defScope bV):=⟨rfl,rfl,rfl,by decide +kernel,rfl,by decide +kernel,by decide +kernel⟩
theorem oC {f:Addr} {fd:FuncData} (F:Fun K "check_sides" "check_sides" bV f fd)  : FnOk P w K mg base CX0 1 f fd ["wide","high","most"] (vi):=by
 refine F.ok sccsides (fun vs H Q E h=>?_) (fun cdv A outer s H vs Q E hr h=>?_)
 ·obtain ⟨w1,h1,m,rfl,_⟩:=h
  rfl
 obtain ⟨w1,h1,m,rfl,hw,hh,q⟩:=h
 have nd:=sccsides.nd
 refine ⟨_,(@ag _ _ _ (@aH _ _ _ _ _ _ _ _ (PW.pt (bh (@ax _ _ _ _ _ _ _ _ dE (pv 0) (pv 2) (aw _)) (bo (@ax _ _ _ _ _ _ _ _ dE (pv 1) (pv 2) (aw _))))) (@ag _ _ _ eD) au)),?_⟩
 refine ⟨_,rfl,_,rfl,_,_,rfl,rfl,_,rfl,?_⟩
 rw [decide_eq_false (show ¬ m < w1 by omega)]
 refine az ⟨_,rfl,_,rfl,_,_,rfl,rfl,_,rfl,?_⟩
 rw [decide_eq_false (show ¬ m < h1 by omega)]
 exact az q
theorem sclies:FnScope ["shop","wide","high","kind","turned","x","y","piece_wide","piece_high"] ["shop","wide","high","kind","turned","x","y"] (defScope dw):=⟨rfl,rfl,rfl,by decide +kernel,rfl,by decide +kernel,by decide +kernel⟩
theorem tO {f C:Addr} {fd:FuncData} (F:Fun K "lies_in" "lies_in" dw f fd) (T:ShopTxt K C) (DW:Dn P w K mg base "is_whole" ["thing","least"] 1 (cj K)) (MI:Mn P w K mg base C "is_lying" ["self","kind","turned"] 2 (cS K C)) (MS:Mn P w K mg base C "sides" ["self","kind","turned"] 3 (gp K C)):FnOk P w K mg base CX0 4 f fd ["shop","wide","high","kind","turned","x","y"] (lK C):=by
 refine F.ok sclies (fun vs H Q E h=>?_) (fun cdv A outer s H vs Q E hr h=>?_)
 ·obtain ⟨s,b,ks,w,h,i,c,k,rfl,_⟩:=h
  rfl
 obtain ⟨s,b,ks,w,h,i,c,k,rfl,S,ly,hk,q⟩:=h
 have nd:=sclies.nd
 have hr1:=hr.mono (show 1≤3 by decide)
 have hr2:=hr.mono (show 2≤3 by decide)
 refine ⟨_,(@ae _ _ _ _ _ (@aH _ _ _ _ _ _ _ _ (PW.pt (bh (@aL _ _ _ _ (@aE _ _ _ (jK (pv 0) T.cl MI hr2 (@aa _ _ _ _ _ (pv 3) (@aa _ _ _ _ _ (pv 4) ab rfl) rfl)) (by intro _; rfl))) (bh (@aL _ _ _ _ (@aE _ _ _ (@ar _ _ _ _ _ _ _ _ _ _ DW hr1 rfl (@aa _ _ _ _ _ (pv 5) (@aa _ _ _ _ _ ad ab rfl) rfl) (by decide) rfl rfl) (by intro _; rfl))) (bo (@aL _ _ _ _ (@aE _ _ _ (@ar _ _ _ _ _ _ _ _ _ _ DW hr1 rfl (@aa _ _ _ _ _ (pv 6) (@aa _ _ _ _ _ ad ab rfl) rfl) (by decide) rfl rfl) (by intro _; rfl))))))) (@ag _ _ _ (@aq _ _ _ _ bQ)) au) (@ae _ _ _ _ _ (@bi _ _ _ _ _ _ (jK (pv 0) T.cl MS hr (@aa _ _ _ _ _ (pv 3) (@aa _ _ _ _ _ (pv 4) ab rfl) rfl)) (aU rfl (ah (ai (i:=7) nd rfl (Or.inl rfl)) (ah (ai (i:=8) nd rfl (Or.inl rfl)) aK))) rfl rfl rfl) (@ag _ _ _ (@aq _ _ _ _ (cx (@bg _ _ _ _ _ _ _ _ ix (@aD _ _ _ _ _ _ _ _ aS (pv 5) (pv 7)) (pv 1) (aw _)) (dj (@bg _ _ _ _ _ _ _ _ ix (@aD _ _ _ _ _ _ _ _ aS (pv 6) (pv 8)) (pv 2) (aw _)))))))),?_⟩
 obtain ⟨dx,r,rs,h1,h2,h3⟩:=id S
 refine ⟨_,rfl,s,dx,_,rfl,h1,bH _ _ (by decide +kernel) (by decide +kernel),_,rfl,_,rfl,s,b,ks,.int i,.bl c,"int","bool",rfl,S,Ty.int,Ty.bl,_,rfl,?_⟩
 rw [ly]
 refine az ⟨_,rfl,.int 0,"int",0,rfl,Ty.int,_,rfl,az ⟨_,rfl,.int 0,"int",0,rfl,Ty.int,_,rfl,az ?_⟩⟩
 refine ⟨_, rfl, s, dx, _, rfl, h1, bH _ _ (by decide +kernel) (by decide +kernel), _, rfl, _, rfl, s, b, ks, .int i, .bl c, "int", "bool", rfl, S, Ty.int, Ty.bl, ly, fun i' c' k' p e1 e2 hk' _ hp=>?_⟩
 cases e1
 cases e2
 rw [hk] at hk'
 cases hk'
 rw [ko]
 have q1:=q _ (Same.new hp (o:=.tup [.int (sd1 k c),.int (sd2 k c)]))
 refine ⟨p,_,rfl,SqT.of af,rfl,_,_,rfl,_,_,rfl,rfl,?_⟩
 refine ⟨_,rfl,_,rfl,_,_,rfl,rfl,_,rfl,_,_,rfl,rfl,_,rfl,?_⟩
 unfold lI at q1
 refine cC (fun cc=>?_) (fun cc=>?_)
 ·refine ⟨_,rfl,_,rfl,_,_,rfl,rfl,_,rfl,_,_,rfl,rfl,?_⟩
  rw [Int.zero_add] at cc ⊢
  rw [cc] at q1
  exact q1
 ·rw [Int.zero_add] at cc
  rw [show decide (sd1 k c≤w)=false by simpa using cc] at q1
  exact q1
end
section
variable {P:Program} {w:World} {K:PySem.W.Frag} {mg:Str→Option Value} {base:Heap}
theorem tP {i:Nat} {k:Kd} {q:Nat×Bool} (h:q∈lyT i k):q.1=i∧(q.2=false∨aW k=true):=by
 unfold lyT at h
 rcases List.mem_cons.mp h with rfl | h
 ·exact ⟨rfl,.inl rfl⟩
 ·by_cases c:aW k=true
  ·rw [if_pos c] at h
   rw [List.mem_singleton.mp h]
   exact ⟨rfl,.inr c⟩
  ·rw [if_neg c] at h
   simp at h
theorem jl:∀ {ks:List Kd} {i:Nat} {q:Nat×Bool},q∈lyK ks i→i≤q.1∧∃k,ks[q.1 - i]? = some k∧(q.2=false∨aW k=true)
 | [],_,_,h=>by simp [lyK] at h
 | k :: r,i,q,h=>by
  rcases List.mem_append.mp h with h | h
  ·obtain ⟨h1,h2⟩:=tP h
   exact ⟨by omega,k,by rw [h1,Nat.sub_self]; rfl,h2⟩
  ·obtain ⟨h1,k',h2,h3⟩:=jl h
   refine ⟨by omega,k',?_,h3⟩
   rw [show q.1 - i=(q.1 - (i + 1)) + 1 by omega]
   exact h2
theorem mS {ks:List Kd} {q:Nat×Bool} (h:q∈lyK ks 0):dq ks (.int q.1) (.bl q.2)=true∧∃k,ks[q.1]? = some k:=by
 obtain ⟨_,k,h2,h3⟩:=jl h
 rw [Nat.sub_zero] at h2
 refine ⟨?_,k,h2⟩
 unfold dq
 simp only [Int.toNat_natCast,h2,Bool.and_eq_true]
 refine ⟨decide_eq_true (by omega),?_⟩
 rcases h3 with e | e
 ·rw [e]; rfl
 ·rw [e,Bool.or_true]
def dO (ks:List Kd) (w h:Int) (q:Nat×Bool):Bool:=match ks[q.1]? with
 | some k=>lI k q.2 w h
 | none=>false
def lL (C:Addr):Sp:=fun vs H Q _=>∃ (s t:Addr) (b:Int) (ks:List Kd) (w h:Int),vs=[.ref s,.ref t]∧ShopAt C H s b ks∧ks.length≤8∧H t=some (.tup [.int w,.int h]) ∧
 ∀ (l:Addr) (ys:List V) (H':Hp),H l=none→H' l=some (.lst ys)→Lys H' ys ((lyK ks 0).filter (dO ks w h))→Same H H'→Q (.ref l) H'
theorem sclyin:FnScope ["shop","part","wide","high"] ["shop","part"] (defScope cr):=⟨rfl,rfl,rfl,by decide +kernel,rfl,by decide +kernel,by decide +kernel⟩
theorem tQ {f C:Addr} {fd:FuncData} (F:Fun K "lyings_in" "lyings_in" cr f fd) (T:ShopTxt K C) (ML:Mn P w K mg base C "lyings" ["self"] 2 (gE C)) (DLI:Dn P w K mg base "lies_in" ["shop","wide","high","kind","turned","x","y"] 4 (lK C)):FnOk P w K mg base CX0 5 f fd ["shop","part"] (lL C):=by
 refine F.ok sclyin (fun vs H Q E h=>?_) (fun cdv A outer s H vs Q E hr h=>?_)
 ·obtain ⟨s,t,b,ks,w,h,rfl,_⟩:=h
  rfl
 obtain ⟨s,t,b,ks,w,h,rfl,S,k8,ht,q⟩:=h
 have nd:=sclyin.nd
 have hr2:=hr.mono (show 2≤4 by decide)
 refine ⟨_,(@ae _ _ _ _ _ (@bi _ _ _ _ _ _ (pv 1) (aU rfl (ah (ai (i:=2) nd rfl (Or.inr rfl)) (ah (ai (i:=3) nd rfl (Or.inr rfl)) aK))) rfl rfl rfl) (@ag _ _ _ (@aq _ _ _ _ (eM (own:=["kind","turned"]) (cs:=["shop","wide","high"]) (cap:=[0,2,3]) rfl (bJ (ej (pv 0) T.cl ML hr2)) (bn (sc:=defScope cr) (N:=["shop","part","wide","high"]) rfl rfl (by decide +kernel)) (fun _ _ _ _ _=>lC K rfl rfl (by show List.Nodup (["kind","turned","shop","wide","high"]:List Str) ; decide +kernel) rfl rfl rfl rfl) (fun _ _ _ _ _=>(qF (@aE _ _ _ (@ar _ _ _ _ _ _ _ _ _ _ DLI hr rfl (@aa _ _ _ _ _ (pv 2) (@aa _ _ _ _ _ (pv 3) (@aa _ _ _ _ _ (pv 4) (@aa _ _ _ _ _ (pv 0) (@aa _ _ _ _ _ (pv 1) (@aa _ _ _ _ _ ad (@aa _ _ _ _ _ ad ab rfl) rfl) rfl) rfl) rfl) rfl) rfl) (by decide) rfl rfl) (by intro _; rfl)))) (fun _ _ _ _ _=>(@aB _ _ _ _ _ (@aa _ _ _ _ _ (pv 0) (@aa _ _ _ _ _ (pv 1) ab rfl) rfl))))))),?_⟩
 have sz:(100:Nat) < sizeLine:=by decide
 obtain ⟨dx,r,rs,h1,h2,h3⟩:=id S
 refine ⟨_,rfl,t,_,rfl,SqT.of ht,rfl,_,_,rfl,_,_,rfl,rfl,?_⟩
 refine ⟨_,rfl,s,dx,_,rfl,h1,bH _ _ (by decide +kernel) (by decide +kernel),s,b,ks,rfl,S,k8,fun l1 ys H1 hl1 l1' ly s1=>?_⟩
 have lyl:=jd ks 0
 have ylen:=Paired.length ly
 refine ⟨l1,rfl,⟨_,SqL.of l1'⟩,(cQ (K:=K) (.inl l1') (fun i zs H4=>Same H1 H4∧zs.length≤i∧Lys H4 zs (((lyK ks 0).take i).filter (dO ks w h))) (fun i zs H4 _ ⟨s4,_⟩ o e=>s4 _ _ e) ⟨Same.refl _,Nat.le_refl _,.nil⟩ ?_ ?_).1 l1'⟩
 ·rintro i y zs H4 hi ⟨s4,zl,lz⟩
  have hin:i < ys.length:=(List.getElem?_eq_some_iff.mp hi).1
  obtain ⟨qq,hq,a,rfl,ha⟩:=Paired.getR ly hi
  obtain ⟨li,k,hk⟩:=mS (List.mem_of_getElem? hq)
  refine ⟨by omega,a,_,rfl,SqT.of (s4 _ _ ha),rfl,_,_,rfl,_,_,rfl,rfl,?_⟩
  refine ⟨rC (leS.set rfl) (leS.set rfl),?_⟩
  have S4:ShopAt C H4 s b ks:=S.keep (fun c o e=>s4 _ _ (s1 _ _ e)) (fun c C' d fs e=>s4 _ _ (s1 _ _ e))
  refine ⟨_,rfl,_,rfl,_,rfl,_,rfl,_,rfl,s,b,ks,w,h,(qq.1:Int),qq.2,k,rfl,S4,li,(by rw [Int.toNat_natCast]; exact hk),fun H5 s5=>⟨_,rfl,?_⟩⟩
  have st:((lyK ks 0).take (i + 1)).filter (dO ks w h)=((lyK ks 0).take i).filter (dO ks w h) ++ (if lI k qq.2 w h=true then [qq] else []):=by
   rw [List.take_add_one,hq,List.filter_append]
   simp only [Option.toList_some,List.filter_cons,List.filter_nil]
   rw [show dO ks w h qq=lI k qq.2 w h by unfold dO; rw [hk]]
  dsimp only
  refine cC (fun cc=>?_) (fun cc=>?_)
  ·rw [cc,if_pos rfl] at st
   refine ⟨_,rfl,_,rfl,(by show 2≤sizeLine; decide),fun p hp=>Nx.of hin ⟨(s4.trans s5).trans (Same.new hp),by rw [List.length_append]; show _ + 1≤_; omega,?_⟩⟩
   rw [st]
   refine Paired.snoc (Lys.keep (fun c o e=>?_) lz) ⟨p,rfl,af⟩
   have e5:=s5 _ _ e
   rw [aj (am e5 hp)]; exact e5
  ·rw [if_neg cc,List.append_nil] at st
   refine Nx.of hin ⟨s4.trans s5,by omega,?_⟩
   rw [st]
   exact Lys.keep (fun c o e=>s5 _ _ e) lz
 ·rintro zs H4 ⟨s4,zl,lz⟩
  rw [ylen,List.take_length] at lz
  refine ⟨by omega,fun p hp=>q p zs _ ((s1.trans s4).free hp) af (Lys.keep (fun c o e=>?_) lz) ((s1.trans s4).trans (Same.new hp))⟩
  rw [aj (am e hp)]; exact e
end
def PtAt (H:Hp) (v:V) (p:Int×Int):Prop:=∃q,v=.ref q∧H q=some (.tup [.int p.1,.int p.2])
theorem PtAt.keep {H H':Hp} (s:Same H H') {v:V} {p:Int×Int} (h:PtAt H v p):PtAt H' v p:=by
 obtain ⟨q,e,h⟩:=h
 exact ⟨q,e,s _ _ h⟩
def gY (a:Int) (n:Nat):List (Int×Int):=(List.range n).map fun (c:Nat)=>(a,1 + (c:Int))
def aM (m n:Nat):List (Int×Int):=(List.range m).flatMap fun (a:Nat)=>gY (1 + (a:Int)) n
theorem ky (a:Int) (n:Nat):(gY a n).length=n:=by unfold gY; rw [List.length_map,List.length_range]
theorem cL (m n:Nat):aM (m + 1) n=aM m n ++ gY (1 + (m:Int)) n:=by
 unfold aM
 rw [List.range_succ,List.flatMap_append]
 simp
theorem iQ (a:Int) (n:Nat):gY a (n + 1)=gY a n ++ [(a,1 + (n:Int))]:=by
 unfold gY
 rw [List.range_succ,List.map_append]
 rfl
theorem eA (m n:Nat):(aM m n).length=m * n:=by
 induction m with
 | zero=>simp [aM]
 | succ m ih=>rw [cL,List.length_append,ih,ky,Nat.succ_mul]
section
variable {P:Program} {w:World} {K:PySem.W.Frag} {mg:Str→Option Value} {base:Heap}
def jm:Sp:=fun vs H Q _=>∃ (m n:Nat),vs=[.int m,.int n]∧m≤16∧n≤16∧∀ (l:Addr) (ys:List V) (H':Hp),H' l=some (.lst ys)→Paired (PtAt H') ys (aM m n)→Same H H'→Q (.ref l) H'
theorem scparts:FnScope ["wide","high"] ["wide","high"] (defScope bS):=⟨rfl,rfl,rfl,by decide +kernel,rfl,by decide +kernel,by decide +kernel⟩
theorem rG {f:Addr} {fd:FuncData} (F:Fun K "parts_up_to" "parts_up_to" bS f fd) (B:Blt mg):FnOk P w K mg base CX0 1 f fd ["wide","high"] (jm):=by
 refine F.ok scparts (fun vs H Q E h=>?_) (fun cdv A outer s H vs Q E hr h=>?_)
 ·obtain ⟨m,n,rfl,_⟩:=h
  rfl
 obtain ⟨m,n,rfl,m16,n16,q⟩:=h
 have nd:=scparts.nd
 refine ⟨_,(@ag _ _ _ (@aq _ _ _ _ (qX (own:=["a","b"]) (cs:=["high"]) (cap:=[1]) rfl (ir rfl B.range (@aa _ _ _ _ _ ad (@aa _ _ _ _ _ (@aD _ _ _ _ _ _ _ _ aS (pv 0) ad) ab rfl) rfl)) (bn (sc:=defScope bS) (N:=["wide","high"]) rfl rfl (by decide +kernel)) (fun _ _ _ _ _=>ai (i:=0) (by show List.Nodup (["a","b","high"]:List Str) ; decide +kernel) rfl (Or.inl rfl) (Or.inr rfl)) (fun _ _ _ _ _=>bA) (fun _ _ _ _ _=>(ir rfl B.range (@aa _ _ _ _ _ ad (@aa _ _ _ _ _ (@aD _ _ _ _ _ _ _ _ aS (pv 2) ad) ab rfl) rfl))) (fun _ _ _ _ _=>ai (i:=1) (by show List.Nodup (["a","b","high"]:List Str) ; decide +kernel) rfl (Or.inl rfl) (Or.inr rfl)) (fun _ _ _ _ _=>bA) (fun _ _ _ _ _=>(@aB _ _ _ _ _ (@aa _ _ _ _ _ (pv 0) (@aa _ _ _ _ _ (pv 1) ab rfl) rfl)))))),?_⟩
 have z4:4096≤sizeLine:=by decide
 refine ⟨_,rfl,_,_,rfl,rfl,1,_,rfl,⟨by decide,by decide,by show -(2 ^ 62)≤(m:Int) + 1; omega,by show (m:Int) + 1 < 2 ^ 62; omega⟩,?_⟩
 have em:((m:Int) + 1 - 1).toNat=m:=by omega
 show ∃W,_∧ji _ _ _ (Itr 1 ((m:Int) + 1 - 1).toNat) _ _ _ _ _ _ _ W
 rw [em]
 refine nU (lo:=1) (n:=m) (fun i ys Hx=>Same H Hx∧Paired (PtAt Hx) ys (aM i n)) ⟨Same.refl _,.nil⟩ ?_ ?_
 ·rintro i ys Hx hi ⟨sx,py⟩
  refine ⟨leS.set rfl,bD ?_⟩
  refine ⟨_,rfl,_,_,rfl,rfl,1,_,rfl,⟨by decide,by decide,by show -(2 ^ 62)≤(n:Int) + 1; omega,by show (n:Int) + 1 < 2 ^ 62; omega⟩,?_⟩
  have en:((n:Int) + 1 - 1).toNat=n:=by omega
  show ∃W2,_∧jh _ (Itr 1 ((n:Int) + 1 - 1).toNat) _ _ _ _ W2
  rw [en]
  refine vb (lo:=1) (n:=n) (fun j zs Hy=>Same H Hy∧Paired (PtAt Hy) zs (aM i n ++ gY (1 + (i:Int)) j)) ⟨sx,by show Paired _ _ (_ ++ []); rw [List.append_nil]; exact py⟩ ?_ ?_
  ·rintro j zs Hy hj ⟨sy,pz⟩
   have pl:=Paired.length pz
   rw [List.length_append,eA,ky] at pl
   have:i * n≤16 * 16:=Nat.mul_le_mul (by omega) (by omega)
   refine ⟨by omega,leS.set rfl,bD ?_⟩
   refine ⟨_,rfl,_,rfl,(by show 2≤sizeLine; decide),fun t ht=>?_⟩
   obtain ⟨Hz,e1,k1,s1⟩:∃H',upd Hy t (.tup [.int (1 + i),.int (1 + j)])=H'∧H' t=some (.tup [.int (1 + i),.int (1 + j)])∧Same Hy H':=⟨_,rfl,af,Same.new ht⟩
   rw [show upd Hy t _=Hz from e1]
   refine Nx.of hj ⟨sy.trans s1,?_⟩
   rw [iQ,← List.append_assoc]
   exact Paired.app (Paired.mapP pz fun v p h=>h.keep s1) (.cons ⟨t,rfl,k1⟩ .nil)
  ·rintro zs Hy ⟨sy,pz⟩
   refine Nx.of hi ⟨sy,?_⟩
   rw [cL]
   exact pz
 ·rintro ys Hx ⟨sx,py⟩
  have pl:=Paired.length py
  rw [eA] at pl
  have:m * n≤16 * 16:=Nat.mul_le_mul (by omega) (by omega)
  refine ⟨by omega,fun l hl=>?_⟩
  obtain ⟨Hz,e2,k2,s2⟩:∃H',upd Hx l (.lst ys)=H'∧H' l=some (.lst ys)∧Same Hx H':=⟨_,rfl,af,Same.new hl⟩
  rw [show upd Hx l _=Hz from e2]
  exact q l ys Hz k2 (Paired.mapP py fun v p h=>h.keep s2) (sx.trans s2)
end
structure BeC (K:PySem.W.Frag) (mg:Str→Option Value) (wa:Addr):Prop where
 dn:∃t,mg "DOWN" = some (.str "down" t)
 rs:∃t,mg "REST" = some (.str "rest" t)
 pc:∃t,mg "PIECE" = some (.str "piece" t)
 ac:∃t,mg "ACROSS" = some (.str "across" t)
 ms:∃t,mg "MOST_SIDE" = some (.int 16 t)
 wy:mg "WAYS" = some (.ref wa)
 wq:∀H,SqT K H wa [.str "down",.str "across"]
abbrev wv (dn:Bool):V:=.str (if dn=true then "down" else "across")
def WpAt (H:Hp) (v:V) (x:Bool×Int):Prop:=∃q,v=.ref q∧H q=some (.tup [wv x.1,.int x.2])
theorem WpAt.keep {H H':Hp} (s:Same H H') {v:V} {x:Bool×Int} (h:WpAt H v x):WpAt H' v x:=by
 obtain ⟨q,e,h⟩:=h
 exact ⟨q,e,s _ _ h⟩
def wpL (dn:Bool) (n:Nat):List (Bool×Int):=(List.range n).map fun (j:Nat)=>(dn,1 + (j:Int))
theorem fu (dn:Bool) (n:Nat):(wpL dn n).length=n:=by unfold wpL; rw [List.length_map,List.length_range]
theorem kA (dn:Bool) (n:Nat):wpL dn (n + 1)=wpL dn n ++ [(dn,1 + (n:Int))]:=by
 unfold wpL
 rw [List.range_succ,List.map_append]
 rfl
def bP (b w h:Int):List (Bool×Int):=wpL true (w - b - 1).toNat ++ wpL false (h - b - 1).toNat
def aO (w h:Int) (x:Bool×Int):Int×Int:=if x.1=true then (x.2,h) else (w,x.2)
def aP (b w h:Int) (x:Bool×Int):Int×Int:=if x.1=true then (w - x.2 - b,h) else (w,h - x.2 - b)
def CutAt (b w h:Int) (H:Hp) (v:V) (x:Bool×Int):Prop:=∃q t1 t2,v=.ref q∧H q=some (.tup [wv x.1,.int x.2,.ref t1,.ref t2])∧H t1=some (.tup [.int (aO w h x).1,.int (aO w h x).2])∧H t2=some (.tup [.int (aP b w h x).1,.int (aP b w h x).2])
theorem CutAt.keep {b w h:Int} {H H':Hp} (s:Same H H') {v:V} {x:Bool×Int} (c:CutAt b w h H v x):CutAt b w h H' v x:=by
 obtain ⟨q,t1,t2,e,h1,h2,h3⟩:=c
 exact ⟨q,t1,t2,e,s _ _ h1,s _ _ h2,s _ _ h3⟩
section
variable {P:Program} {w:World} {K:PySem.W.Frag} {mg:Str→Option Value} {base:Heap}
def lM:Sp:=fun vs H Q _=>∃ (b w h:Int) (t:Addr),vs=[.int b,.ref t]∧H t=some (.tup [.int w,.int h])∧w≤16∧h≤16∧0≤b∧∀ (l:Addr) (ys:List V) (H':Hp),H' l=some (.lst ys)→Paired (CutAt b w h H') ys (bP b w h)→Same H H'→Q (.ref l) H'
theorem sccuts:FnScope ["blade","part","down","across"] ["blade","part"] (defScope cJ):=⟨rfl,rfl,rfl,by decide +kernel,rfl,by decide +kernel,by decide +kernel⟩
theorem tR {f wa:Addr} {fd:FuncData} (F:Fun K "cuts_of" "cuts_of" cJ f fd) (B:Blt mg) (Z:BeC K mg wa) (DP:Dn P w K mg base "cut_parts" ["blade","part","way","p"] 1 (fj)):FnOk P w K mg base CX0 2 f fd ["blade","part"] (lM):=by
 refine F.ok sccuts (fun vs H Q E h=>?_) (fun cdv A outer s H vs Q E hr h=>?_)
 ·obtain ⟨b,w1,h1,t,rfl,_⟩:=h
  rfl
 obtain ⟨b,w1,h1,t,rfl,ht,w16,h16,b0,q⟩:=h
 have nd:=sccuts.nd
 obtain ⟨tdn,hdn⟩:=Z.dn
 obtain ⟨tac,hac⟩:=Z.ac
 refine ⟨_,(@ae _ _ _ _ _ (gl (i:=2) (own:=["p"]) (cs:=[]) (cap:=[]) rfl nd rfl rfl rfl (gH rfl B.range (@aa _ _ _ _ _ ad (@aa _ _ _ _ _ (@aD _ _ _ _ _ _ _ _ cM (@av _ _ _ _ _ _ _ ix_tup (pv 1) ad (fun _ _=>rfl)) (pv 0)) ab rfl) rfl)) (bn (sc:=defScope cJ) (N:=["blade","part","down","across"]) rfl rfl (by decide +kernel)) (fun _ _ _ _ _=>ai (i:=0) (by show List.Nodup (["p"]:List Str) ; decide +kernel) rfl (Or.inl rfl) (Or.inr rfl)) (fun _ _ _ _ _=>bA) (fun _ _ _ _ _=>(@aB _ _ _ _ _ (@aa _ _ _ _ _ (aR (v:=.str "down") rfl hdn ⟨tdn,rfl⟩) (@aa _ _ _ _ _ (pv 0) ab rfl) rfl)))) (@ae _ _ _ _ _ (gl (i:=3) (own:=["p"]) (cs:=[]) (cap:=[]) rfl nd rfl rfl rfl (gH rfl B.range (@aa _ _ _ _ _ ad (@aa _ _ _ _ _ (@aD _ _ _ _ _ _ _ _ cM (@av _ _ _ _ _ _ _ ix_tup (pv 1) ad (fun _ _=>rfl)) (pv 0)) ab rfl) rfl)) (bn (sc:=defScope cJ) (N:=["blade","part","down","across"]) rfl rfl (by decide +kernel)) (fun _ _ _ _ _=>ai (i:=0) (by show List.Nodup (["p"]:List Str) ; decide +kernel) rfl (Or.inl rfl) (Or.inr rfl)) (fun _ _ _ _ _=>bA) (fun _ _ _ _ _=>(@aB _ _ _ _ _ (@aa _ _ _ _ _ (aR (v:=.str "across") rfl hac ⟨tac,rfl⟩) (@aa _ _ _ _ _ (pv 0) ab rfl) rfl)))) (@ag _ _ _ (@aq _ _ _ _ (eM (own:=["way","p"]) (cs:=["blade","part"]) (cap:=[0,1]) rfl (bJ (@aD _ _ _ _ _ _ _ _ uS (pv 2) (pv 3))) (bn (sc:=defScope cJ) (N:=["blade","part","down","across"]) rfl rfl (by decide +kernel)) (fun _ _ _ _ _=>lC K rfl rfl (by show List.Nodup (["way","p","blade","part"]:List Str) ; decide +kernel) rfl rfl rfl rfl) (fun _ _ _ _ _=>bA) (fun _ _ _ _ _=>(aD (r:=uu K) sQ (@aB _ _ _ _ _ (@aa _ _ _ _ _ (pv 0) (@aa _ _ _ _ _ (pv 1) ab rfl) rfl)) (@ar _ _ _ _ _ _ _ _ _ _ DP hr rfl (@aa _ _ _ _ _ (pv 2) (@aa _ _ _ _ _ (pv 3) (@aa _ _ _ _ _ (pv 0) (@aa _ _ _ _ _ (pv 1) ab rfl) rfl) rfl) rfl) (by decide) rfl rfl)))))))),?_⟩
 have z4:4096≤sizeLine:=by decide
 have wn:(w1 - b - 1).toNat≤16:=by omega
 have hn:(h1 - b - 1).toNat≤16:=by omega
 refine ap (fun σ' H'=>∃ (dl:Addr) (ys:List V),σ'=[some (.int b),some (.ref t),some (.ref dl),none]∧H' dl=some (.lst ys)∧Paired (WpAt H') ys (wpL true (w1 - b - 1).toNat)∧Same H H') (fun R hR=>?_) ?_
 ·refine ⟨_,rfl,t,_,0,_,rfl,rfl,SqT.of ht,rfl,_,rfl,_,_,rfl,rfl,1,_,rfl,⟨by decide,by decide,by show w1 - b < 2 ^ 62; omega⟩,?_⟩
  show ∃W,_∧fV _ _ _ (Itr 1 (w1 - b - 1).toNat) _ _ _ _ W
  generalize (w1 - b - 1).toNat=n at *
  refine jQ (lo:=1) (n:=n) (fun i ys Hx=>Same H Hx∧Paired (WpAt Hx) ys (wpL true i)) ⟨Same.refl _,.nil⟩ ?_ ?_
  ·rintro i ys Hx hi ⟨sx,py⟩
   have pl:=Paired.length py
   rw [fu] at pl
   refine ⟨by omega,leS.set rfl,bD ?_⟩
   refine ⟨_,rfl,(by show 2≤sizeLine; decide),fun q' hq=>?_⟩
   obtain ⟨Hy, e9, k9, s9⟩:∃H', upd Hx q' (.tup [.str "down", .int (1 + i)])=H'∧H' q'=some (.tup [.str "down", .int (1 + i)])∧Same Hx H':=⟨_, rfl, af, Same.new hq⟩
   rw [show upd Hx q' _=Hy from e9]
   refine Nx.of hi ⟨sx.trans s9,?_⟩
   rw [kA]
   exact Paired.app (Paired.mapP py fun v p h=>h.keep s9) (.cons ⟨q',rfl,k9⟩ .nil)
  ·rintro ys Hx ⟨sx,py⟩
   have pl:=Paired.length py
   rw [fu] at pl
   refine ⟨by omega,fun l hl=>?_⟩
   obtain ⟨Hy,e9,k9,s9⟩:∃H',upd Hx l (.lst ys)=H'∧H' l=some (.lst ys)∧Same Hx H':=⟨_,rfl,af,Same.new hl⟩
   rw [show upd Hx l _=Hy from e9]
   exact hR _ _ ⟨l,ys,rfl,k9,Paired.mapP py fun v p h=>h.keep s9,sx.trans s9⟩
 rintro _ H1 ⟨dl,ys,rfl,kd,pd,s1⟩
 refine ap (fun σ' H'=>∃ (al:Addr) (zs:List V),σ'=[some (.int b),some (.ref t),some (.ref dl),some (.ref al)]∧H' al=some (.lst zs)∧Paired (WpAt H') zs (wpL false (h1 - b - 1).toNat)∧Same H1 H') (fun R hR=>?_) ?_
 ·refine ⟨_,rfl,t,_,1,_,rfl,rfl,SqT.of (s1 _ _ ht),rfl,_,rfl,_,_,rfl,rfl,1,_,rfl,⟨by decide,by decide,by show h1 - b < 2 ^ 62; omega⟩,?_⟩
  show ∃W,_∧fV _ _ _ (Itr 1 (h1 - b - 1).toNat) _ _ _ _ W
  generalize (h1 - b - 1).toNat=n at *
  refine jQ (lo:=1) (n:=n) (fun i ys Hx=>Same H1 Hx∧Paired (WpAt Hx) ys (wpL false i)) ⟨Same.refl _,.nil⟩ ?_ ?_
  ·rintro i ys Hx hi ⟨sx,py⟩
   have pl:=Paired.length py
   rw [fu] at pl
   refine ⟨by omega,leS.set rfl,bD ?_⟩
   refine ⟨_,rfl,(by show 2≤sizeLine; decide),fun q' hq=>?_⟩
   obtain ⟨Hy, e9, k9, s9⟩:∃H', upd Hx q' (.tup [.str "across", .int (1 + i)])=H'∧H' q'=some (.tup [.str "across", .int (1 + i)])∧Same Hx H':=⟨_, rfl, af, Same.new hq⟩
   rw [show upd Hx q' _=Hy from e9]
   refine Nx.of hi ⟨sx.trans s9,?_⟩
   rw [kA]
   exact Paired.app (Paired.mapP py fun v p h=>h.keep s9) (.cons ⟨q',rfl,k9⟩ .nil)
  ·rintro ys Hx ⟨sx,py⟩
   have pl:=Paired.length py
   rw [fu] at pl
   refine ⟨by omega,fun l hl=>?_⟩
   obtain ⟨Hy,e9,k9,s9⟩:∃H',upd Hx l (.lst ys)=H'∧H' l=some (.lst ys)∧Same Hx H':=⟨_,rfl,af,Same.new hl⟩
   rw [show upd Hx l _=Hy from e9]
   exact hR _ _ ⟨l,ys,rfl,k9,Paired.mapP py fun v p h=>h.keep s9,sx.trans s9⟩
 rintro _ H2 ⟨al,zs,rfl,ka,pa,s2⟩
 have s02:=s1.trans s2
 have ht2:=s02 _ _ ht
 have pd2:Paired (WpAt H2) ys (wpL true (w1 - b - 1).toNat):=Paired.mapP pd fun v p h=>h.keep s2
 have l1:=Paired.length pd2
 have l2:=Paired.length pa
 rw [fu] at l1 l2
 have pc:Paired (WpAt H2) (ys ++ zs) (bP b w1 h1):=Paired.app pd2 pa
 refine ⟨_,rfl,_,rfl,dl,al,_,_,rfl,rfl,s2 _ _ kd,ka,by omega,fun cl hcl=>?_⟩
 obtain ⟨H3,e3,k3,s3⟩:∃H',upd H2 cl (.lst (ys ++ zs))=H'∧H' cl=some (.lst (ys ++ zs))∧Same H2 H':=⟨_,rfl,af,Same.new hcl⟩
 rw [show upd H2 cl _=H3 from e3]
 have pc3:Paired (WpAt H3) (ys ++ zs) (bP b w1 h1):=Paired.mapP pc fun v p h=>h.keep s3
 have cl32:(ys ++ zs).length≤32:=by rw [List.length_append]; omega
 refine ⟨cl,rfl,⟨_,SqL.of k3⟩,(cQ (K:=K) (.inl k3) (fun i us Hx=>Same H3 Hx∧Paired (CutAt b w1 h1 Hx) us ((bP b w1 h1).take i)) (fun i us Hx _ ⟨sx,_⟩ o e=>sx _ _ e) ⟨Same.refl _,.nil⟩ ?_ ?_).1 k3⟩
 ·rintro i y us Hx hi ⟨sx,pu⟩
  have hin:i < (ys ++ zs).length:=(List.getElem?_eq_some_iff.mp hi).1
  obtain ⟨⟨dn,p⟩,hq,a,rfl,ha⟩:=Paired.getR pc3 hi
  have ul:=Paired.length pu
  rw [List.length_take] at ul
  have hax:=sx _ _ ha
  refine ⟨by omega,a,_,rfl,SqT.of hax,rfl,_,_,rfl,_,_,rfl,rfl,?_⟩
  refine ⟨rC (leS.set rfl) (leS.set rfl),bD ?_⟩
  refine ⟨_,rfl,_,rfl,(by show 2≤sizeLine; decide),fun x hx=>?_⟩
  obtain ⟨Hy,e4,k4,s4⟩:∃H',upd Hx x (.tup [wv dn,.int p])=H'∧H' x=some (.tup [wv dn,.int p])∧Same Hx H':=⟨_,rfl,af,Same.new hx⟩
  rw [show upd Hx x _=Hy from e4]
  refine ⟨_,rfl,_,rfl,_,rfl,_,rfl,b,w1,h1,p,t,dn,rfl,s4 _ _ (sx _ _ (s3 _ _ ht2)),fun u t1 t2 Hz ku k1 k2 s5=>?_⟩
  refine ⟨x,u,_,_,rfl,rfl,SqT.of (s5 _ _ k4),SqT.of ku,List.cons_ne_nil _ _,(by show 4≤sizeLine; decide),(fun z=>by cases z),fun _ m hm=>?_⟩
  rw [show [wv dn,V.int p] ++ [V.ref t1,V.ref t2]=[wv dn,V.int p,V.ref t1,V.ref t2] from rfl]
  obtain ⟨Hw,e6,k6,s6⟩:∃H',upd Hz m (.tup [wv dn,.int p,.ref t1,.ref t2])=H'∧H' m=some (.tup [wv dn,.int p,.ref t1,.ref t2])∧Same Hz H':=⟨_,rfl,af,Same.new hm⟩
  rw [show upd Hz m _=Hw from e6]
  have sxw:=s4.trans (s5.trans s6)
  refine Nx.of hin ⟨sx.trans sxw,?_⟩
  rw [List.take_add_one,hq]
  refine Paired.app (Paired.mapP pu fun v p h=>h.keep sxw) (.cons ⟨m,t1,t2,rfl,k6,?_,?_⟩ .nil)
  ·cases dn <;> exact s6 _ _ k1
  ·cases dn <;> exact s6 _ _ k2
 ·rintro us Hx ⟨sx,pu⟩
  have pl:=Paired.length pc3
  rw [pl,List.take_length] at pu
  have ul:=Paired.length pu
  refine ⟨by omega,fun l hl=>?_⟩
  obtain ⟨Hy,e7,k7,s7⟩:∃H',upd Hx l (.lst us)=H'∧H' l=some (.lst us)∧Same Hx H':=⟨_,rfl,af,Same.new hl⟩
  rw [show upd Hx l _=Hy from e7]
  exact q l us Hy k7 (Paired.mapP pu fun v p h=>h.keep s7) (s02.trans (s3.trans (sx.trans s7)))
end
theorem TrV.dat {K:PySem.W.Frag} {H:Hp}:∀ (t:Tr) {v:V},TrV H t v→DatV K H v (toD t)
 | .rest,_,⟨a,e,h⟩=>by subst e; exact .tup (SqT.of h) (.cons (.str _) .nil)
 | .piece ..,_,⟨a,e,h⟩=>by subst e; exact .tup (SqT.of h) (.cons (.str _) (.cons (.int _) (.cons (.bl _) (.cons (.int _) (.cons (.int _) .nil)))))
 | .cut _ _ l r,_,⟨a,x,y,e,h,h1,h2⟩=>by subst e; exact .tup (SqT.of h) (.cons (.str _) (.cons (.int _) (.cons (TrV.dat l h1) (.cons (TrV.dat r h2) .nil))))
def dpt:Tr→Nat
 | .cut _ _ l r=>max (dpt l) (dpt r) + 1
 | _=>0
theorem dg:∀t:Tr,(toD t).depth≤dpt t + 1
 | .rest=>by decide +kernel
 | .piece i c x y=>by
  show PyData.depthAll [.str "piece",.int i,.bool c,.int x,.int y] + 1≤0 + 1
  simp only [PyData.depthAll,PyData.depth]
  omega
 | .cut dn p l r=>by
  have h1:=dg l
  have h2:=dg r
  show PyData.depthAll [.str (if dn=true then "down" else "across"),.int p,toD l,toD r] + 1≤max (dpt l) (dpt r) + 1 + 1
  simp only [PyData.depthAll,PyData.depth]
  omega
theorem fv:∀t:Tr,PyData.canLay0 (toD t)=true
 | .rest=>by decide +kernel
 | .piece i c x y=>by
  show (PyData.canLay0 (.str "piece") && (true && (true && (true && (true && true)))))=true
  decide +kernel
 | .cut dn p l r=>by
  have h1:=fv l
  have h2:=fv r
  show (PyData.canLay0 (.str (if dn=true then "down" else "across")) && (true && (PyData.canLay0 (toD l) && (PyData.canLay0 (toD r) && true))))=true
  rw [h1,h2]
  cases dn <;> decide +kernel
def wq (ks:List Kd) (q:Nat×Bool):Int:=match ks[q.1]? with
 | some k=>k.wo
 | none=>0
def mxL {α:Type} (f:α→Int) (l:List α) (x:Int):Int:=l.foldl (fun m q=>max m (f q)) x
theorem kB {α:Type} (f:α→Int) (l:List α) (x:Int) {i:Nat} {q:α} (h:l[i]? = some q):mxL f (l.take (i + 1)) x=max (mxL f (l.take i) x) (f q):=by
 unfold mxL
 rw [List.take_add_one,h,List.foldl_append]
 rfl
def lfW (ks:List Kd) (w h:Int):Int:=mxL (wq ks) ((lyK ks 0).filter (dO ks w h)) 0
def LfV (H:Hp) (v:V):Prop:=∃ (q:Addr) (y:Str) (r:List V),v=.ref q∧H q=some (.tup (.str y :: r))∧inV (V.str y) [V.str "down",V.str "across"]=false
def lfF (ks:List Kd) (m:Int×Tr) (q:Nat×Bool):Int×Tr:=if m.1 < wq ks q then (wq ks q,.piece q.1 q.2 0 0) else m
def lfP (ks:List Kd) (l:List (Nat×Bool)):Int×Tr:=l.foldl (lfF ks) (0,.rest)
theorem mT (ks:List Kd):∀ (l:List (Nat×Bool)) (m:Int×Tr),(l.foldl (lfF ks) m).1=mxL (wq ks) l m.1
 | [],_=>rfl
 | q :: l,m=>by
  show (l.foldl (lfF ks) (lfF ks m q)).1=mxL (wq ks) l (max m.1 (wq ks q))
  rw [mT ks l]
  unfold lfF
  split
  ·rw [show max m.1 (wq ks q)=wq ks q by omega]
  ·rw [show max m.1 (wq ks q)=m.1 by omega]
theorem mU (ks:List Kd) (l:List (Nat×Bool)):(lfP ks l).1=mxL (wq ks) l 0:=mT ks l _
theorem rH (ks:List Kd) (l:List (Nat×Bool)) {i:Nat} {q:Nat×Bool} (h:l[i]? = some q):lfP ks (l.take (i + 1))=lfF ks (lfP ks (l.take i)) q:=by
 unfold lfP
 rw [List.take_add_one,h,List.foldl_append]
 rfl
def rJ:Tr→Bool
 | .cut .. => false
 | _=>true
theorem kC (ks:List Kd):∀ (l:List (Nat×Bool)) (m:Int×Tr),rJ m.2=true→rJ (l.foldl (lfF ks) m).2=true
 | [],_,h=>h
 | q :: l,m,h=>by
  refine kC ks l _ ?_
  unfold lfF
  split
  ·rfl
  ·exact h
def lfT (ks:List Kd) (w h:Int):Tr:=(lfP ks ((lyK ks 0).filter (dO ks w h))).2
theorem kD (ks:List Kd) (w h:Int):rJ (lfT ks w h)=true:=kC ks _ _ rfl
theorem TrV.lf {H:Hp} {v:V}:∀ {t:Tr},rJ t=true→TrV H t v→LfV H v
 | .rest,_,⟨a,e,h⟩=>⟨a,_,_,e,h,by decide +kernel⟩
 | .piece ..,_,⟨a,e,h⟩=>⟨a,_,_,e,h,by decide +kernel⟩
def stF (g:Bool×Int→Int) (m:Int×Option (Bool×Int)) (c:Bool×Int):Int×Option (Bool×Int):=if m.1 < g c then (g c,some c) else m
def stP (g:Bool×Int→Int) (cs:List (Bool×Int)) (x:Int):Int×Option (Bool×Int):=cs.foldl (stF g) (x,none)
def stC (g:Bool×Int→Int) (cs:List (Bool×Int)) (x:Int):Option (Bool×Int):=(stP g cs x).2
theorem jn (g:Bool×Int→Int):∀ (l:List (Bool×Int)) (m:Int×Option (Bool×Int)),(l.foldl (stF g) m).1=mxL g l m.1
 | [],_=>rfl
 | q :: l,m=>by
  show (l.foldl (stF g) (stF g m q)).1=mxL g l (max m.1 (g q))
  rw [jn g l]
  unfold stF
  split
  ·rw [show max m.1 (g q)=g q by omega]
  ·rw [show max m.1 (g q)=m.1 by omega]
theorem rK (g:Bool×Int→Int) (l:List (Bool×Int)) (x:Int) {i:Nat} {q:Bool×Int} (h:l[i]? = some q):stP g (l.take (i + 1)) x=stF g (stP g (l.take i) x) q:=by
 unfold stP
 rw [List.take_add_one,h,List.foldl_append]
 rfl
theorem mV (g:Bool×Int→Int):∀ (l:List (Bool×Int)) (m:Int×Option (Bool×Int)) {c:Bool×Int},(l.foldl (stF g) m).2=some c→c∈l∨m.2=some c
 | [],_,_,h=>.inr h
 | q :: l,m,c,h=>by
  rcases mV g l _ h with h | h
  ·exact .inl (List.mem_cons_of_mem _ h)
  ·unfold stF at h
   split at h
   ·cases h
    exact .inl List.mem_cons_self
   ·exact .inr h
theorem mW {g:Bool×Int→Int} {l:List (Bool×Int)} {x:Int} {c:Bool×Int} (h:stC g l x=some c):c∈l:=by
 rcases mV g l _ h with h | h
 ·exact h
 ·cases h
def StV (b w h:Int) (H:Hp) (lv v:V):Option (Bool×Int)→Prop
 | none=>v=lv
 | some c=>CutAt b w h H v c
theorem StV.keep {b w h:Int} {H H':Hp} (s:Same H H') {lv v:V}:∀ {o:Option (Bool×Int)},StV b w h H lv v o→StV b w h H' lv v o
 | none,e=>e
 | some _,e=>CutAt.keep s e
abbrev pk (p:Int×Int):List Key:=[.inl p.1,.inl p.2]
section
variable {P:Program} {w:World} {K:PySem.W.Frag} {mg:Str→Option Value} {base:Heap}
def jo (C:Addr):Sp:=fun vs H Q _=>∃ (s t:Addr) (b:Int) (ks:List Kd) (w h:Int),vs=[.ref s,.ref t]∧ShopAt C H s b ks∧ks.length≤8∧H t=some (.tup [.int w,.int h])∧∀ (r:Addr) (v:V) (H':Hp),H' r=some (.tup [.int (lfW ks w h),v])→TrV H' (lfT ks w h) v→Same H H'→Q (.ref r) H'
def lN:Sp:=fun vs H Q _=>∃ (lf cl wt:Addr) (x:Int) (lv:V) (ys:List V) (b w h:Int) (cs:List (Bool×Int)) (f:Int×Int→Int) (kvs:List (List Key×V)),vs=[.ref lf,.ref cl,.ref wt]∧H lf=some (.tup [.int x,lv])∧H cl=some (.lst ys)∧Paired (CutAt b w h H) ys cs∧H wt=some (.dT kvs)∧(∀c∈cs,dW kvs (pk (aO w h c))=some (.int (f (aO w h c)))∧dW kvs (pk (aP b w h c))=some (.int (f (aP b w h c)))) ∧
 ∀ (r:Addr) (v:V) (H':Hp),H' r=some (.tup [.int (mxL (fun c=>f (aO w h c) + f (aP b w h c)) cs x),v])→StV b w h H' lv v (stC (fun c=>f (aO w h c) + f (aP b w h c)) cs x)→Same H H'→Q (.ref r) H'
theorem scbleaf:FnScope ["shop","part","worth","leaf","kinds","kind","turned"] ["shop","part"] (defScope cW):=⟨rfl,rfl,rfl,by decide +kernel,rfl,by decide +kernel,by decide +kernel⟩
theorem rL {f wa C:Addr} {fd:FuncData} (F:Fun K "best_leaf" "best_leaf" cW f fd) (Z:BeC K mg wa) (T:ShopTxt K C) (MK:Mn P w K mg base C "kinds" ["self"] 1 (eQ C)) (DL:Dn P w K mg base "lyings_in" ["shop","part"] 5 (lL C)):FnOk P w K mg base CX0 6 f fd ["shop","part"] (jo C):=by
 refine F.ok scbleaf (fun vs H Q E h=>?_) (fun cdv A outer s H vs Q E hr h=>?_)
 ·obtain ⟨s,t,b,ks,w1,h1,rfl,_⟩:=h
  rfl
 obtain ⟨s,t,b,ks,w1,h1,rfl,S0,k8,ht,q⟩:=h
 have nd:=scbleaf.nd
 obtain ⟨trs,hrs⟩:=Z.rs
 obtain ⟨tpc,hpc⟩:=Z.pc
 refine ⟨_,(@ae _ _ _ _ _ (fF rfl nd rfl rfl (i:=2) (j:=3) (by decide) rfl rfl (@aa _ _ _ _ _ ad (@aa _ _ _ _ _ (@aB _ _ _ _ _ (@aa _ _ _ _ _ (aR (v:=.str "rest") rfl hrs ⟨trs,rfl⟩) ab rfl)) ab rfl) rfl) rfl) (@ae _ _ _ _ _ (@aG _ _ 4 _ _ _ _ nd rfl (Or.inl rfl) (ej (pv 0) T.cl MK (hr.mono (by decide))) rfl (Or.inl rfl)) (@ae _ _ _ _ _ (@cz _ _ _ _ _ _ _ _ PassesOwn.never rfl (bJ (@ar _ _ _ _ _ _ _ _ _ _ DL hr rfl (@aa _ _ _ _ _ (pv 0) (@aa _ _ _ _ _ (pv 1) ab rfl) rfl) (by decide) rfl rfl)) (aU rfl (ah (ai (i:=5) nd rfl (Or.inl rfl)) (ah (ai (i:=6) nd rfl (Or.inl rfl)) aK))) (@ag _ _ _ (@aH _ _ _ _ _ _ _ _ (@ax _ _ _ _ _ _ _ _ dE (@av _ _ _ _ _ _ _ ix_tup (@av _ _ _ _ _ _ _ ix_list (pv 4) (pv 5) (fun _ _=>rfl)) ad (fun _ _=>rfl)) (pv 2) (aw _)) (@ag _ _ _ (fF rfl nd rfl rfl (i:=2) (j:=3) (by decide) rfl rfl (@aa _ _ _ _ _ (@av _ _ _ _ _ _ _ ix_tup (@av _ _ _ _ _ _ _ ix_list (pv 4) (pv 5) (fun _ _=>rfl)) ad (fun _ _=>rfl)) (@aa _ _ _ _ _ (@aB _ _ _ _ _ (@aa _ _ _ _ _ (aR (v:=.str "piece") rfl hpc ⟨tpc,rfl⟩) (@aa _ _ _ _ _ (pv 5) (@aa _ _ _ _ _ (pv 6) (@aa _ _ _ _ _ ad (@aa _ _ _ _ _ ad ab rfl) rfl) rfl) rfl) rfl)) ab rfl) rfl) rfl)) au)) (by intro _; rfl)) (@ag _ _ _ (@aq _ _ _ _ (@aB _ _ _ _ _ (@aa _ _ _ _ _ (pv 2) (@aa _ _ _ _ _ (pv 3) ab rfl) rfl))))))),?_⟩
 have z4:4096≤sizeLine:=by decide
 refine ap (fun σ' H'=>∃lv,σ'=[some (.ref s),some (.ref t),some (.int 0),some lv,none,none,none]∧TrV H' .rest lv∧Same H H') (fun R hR=>?_) ?_
 ·refine ⟨(by show 1≤sizeLine; decide),fun x hx=>?_⟩
  obtain ⟨H1, e1, k1, s1⟩:∃H', upd H x (.tup [.str "rest"])=H'∧H' x=some (.tup [.str "rest"])∧Same H H':=⟨_, rfl, af, Same.new hx⟩
  rw [show upd H x _=H1 from e1]
  exact ⟨_,_,rfl,hR _ _ ⟨_,rfl,⟨x,rfl,k1⟩,s1⟩⟩
 rintro _ H1 ⟨lv,rfl,hlv,s1⟩
 have S1:=S0.keep (fun c o e=>s1 _ _ e) (fun c C' d fs e=>s1 _ _ e)
 obtain ⟨dx,r0,rs0,g1,g2,g3⟩:=id S1
 refine ap (fun σ' H'=>∃ (kl:Addr) (rs:List V),σ'=[some (.ref s),some (.ref t),some (.int 0),some lv,some (.ref kl),none,none]∧H' kl=some (.lst rs)∧Tups H' rs ks∧Same H1 H') (fun R hR=>?_) ?_
 ·refine ⟨_,rfl,s,dx,_,rfl,g1,bH _ _ (by decide +kernel) (by decide +kernel),s,b,ks,rfl,S1,fun kl rs hkl tp=>?_⟩
  obtain ⟨H2,e2,k2,s2⟩:∃H',upd H1 kl (.lst rs)=H'∧H' kl=some (.lst rs)∧Same H1 H':=⟨_,rfl,af,Same.new hkl⟩
  rw [show upd H1 kl _=H2 from e2]
  exact hR _ _ ⟨kl,rs,rfl,k2,Tups.keep (fun c o e=>s2 _ _ e) tp,s2⟩
 rintro _ H2 ⟨kl,rs,rfl,kk2,tp2,s2⟩
 have s02:=s1.trans s2
 have S2:=S0.keep (fun c o e=>s02 _ _ e) (fun c C' d fs e=>s02 _ _ e)
 refine ap (fun σ' H'=>∃ (lv:V) (v5 v6:Option V),σ'=[some (.ref s),some (.ref t),some (.int (lfW ks w1 h1)),some lv,some (.ref kl),v5,v6]∧TrV H' (lfT ks w1 h1) lv∧Same H2 H') (fun R hR=>?_) ?_
 ·refine ⟨_,rfl,_,rfl,s,t,b,ks,w1,h1,rfl,S2,k8,s02 _ _ ht,fun l ys H3 hl hl3 ly s3=>?_⟩
  have kk:=s3 _ _ kk2
  have tp3:Tups H3 rs ks:=Tups.keep (fun c o e=>s3 _ _ e) tp2
  have yl:=Paired.length ly
  refine ⟨l,rfl,⟨_,SqL.of hl3⟩,cA (xs:=ys) (fun i σ' H'=>∃ (lv:V) (v5 v6:Option V),σ'=[some (.ref s),some (.ref t),some (.int (mxL (wq ks) (((lyK ks 0).filter (dO ks w1 h1)).take i) 0)),some lv,some (.ref kl),v5,v6]∧TrV H' (lfP ks (((lyK ks 0).filter (dO ks w1 h1)).take i)).2 lv∧Same H3 H') ⟨lv,none,none,rfl,TrV.keep (fun a xs e=>(s2.trans s3) _ _ e) _ hlv,Same.refl _⟩ (fun i σ Hx _ ⟨_,_,_,_,_,sx⟩=>SqL.of (sx _ _ hl3)) ?_ ?_⟩
  ·rintro i x σ Hx hi ⟨lv,v5,v6,rfl,hlv,sx⟩
   obtain ⟨⟨ki,c⟩,hq,qa,rfl,hqa⟩:=Paired.getR ly hi
   obtain ⟨_,k,hk⟩:=mS (List.mem_filter.mp (List.mem_of_getElem? hq)).1
   have hk:ks[ki]? = some k:=hk
   obtain ⟨vv,hvv,hva⟩:=Paired.getL tp3 hk
   obtain ⟨a,rfl,ha2⟩:=hva
   have hat:atI rs (ki:Int)=some (.ref a):=aY (by omega) (by rw [Int.toNat_natCast]; exact hvv)
   have ewq:wq ks (ki,c)=k.wo:=by unfold wq; simp only [hk]
   have hmx:=kB (wq ks) ((lyK ks 0).filter (dO ks w1 h1)) 0 hq
   rw [ewq] at hmx
   have hlt:=rH ks ((lyK ks 0).filter (dO ks w1 h1)) hq
   have hlf:=mU ks (((lyK ks 0).filter (dO ks w1 h1)).take i)
   refine ⟨qa,_,rfl,SqT.of (sx _ _ hqa),rfl,_,_,rfl,_,_,rfl,rfl,?_⟩
   obtain ⟨m,hm⟩:∃m,mxL (wq ks) (((lyK ks 0).filter (dO ks w1 h1)).take i) 0=m:=⟨_,rfl⟩
   rw [hm] at hmx hlf ⊢
   unfold lfF at hlt
   rw [hlf,ewq] at hlt
   refine ⟨_,rfl,_,rfl,kl,_,_,_,rfl,rfl,SqL.of (sx _ _ kk),hat,a,_,2,_,rfl,rfl,SqT.of (sx _ _ ha2),rfl,_,rfl,_,_,rfl,rfl,_,rfl,?_⟩
   by_cases c1:m < k.wo
   ·rw [show decide (m < k.wo)=true from decide_eq_true c1]
    refine be ⟨_,rfl,_,rfl,kl,_,_,_,rfl,rfl,SqL.of (sx _ _ kk),hat,a,_,2,_,rfl,rfl,SqT.of (sx _ _ ha2),rfl,_,rfl,_,rfl,(by show 5≤sizeLine; decide),fun x hx=>?_⟩
    obtain ⟨Hy, e4, k4, s4⟩:∃H', upd Hx x (.tup [.str "piece", .int ki, .bl c, .int 0, .int 0])=H'∧H' x=some (.tup [.str "piece", .int ki, .bl c, .int 0, .int 0])∧Same Hx H':=⟨_, rfl, af, Same.new hx⟩
    rw [show upd Hx x _=Hy from e4]
    refine ⟨_,_,rfl,.ref x,some (.int ki),some (.bl c),?_,by rw [hlt,if_pos c1]; exact ⟨x,rfl,k4⟩,sx.trans s4⟩
    rw [hmx,show max m k.wo=k.wo by omega]
    rfl
   ·rw [show decide (m < k.wo)=false from decide_eq_false c1]
    refine az ⟨lv,some (.int ki),some (.bl c),?_,by rw [hlt,if_neg c1]; exact hlv,sx⟩
    rw [hmx,show max m k.wo=m by omega]
    rfl
  ·rintro σ Hx ⟨lv,v5,v6,rfl,hlv,sx⟩
   rw [yl,List.take_length] at hlv
   refine hR _ _ ⟨lv,v5,v6,?_,hlv,s3.trans sx⟩
   rw [yl,List.take_length]
   rfl
 rintro _ H3 ⟨lv,v5,v6,rfl,hlv,s3⟩
 refine ⟨_,rfl,_,rfl,(by show 2≤sizeLine; decide),fun x hx=>?_⟩
 obtain ⟨H4,e5,k5,s5⟩:∃H',upd H3 x (.tup [.int (lfW ks w1 h1),lv])=H'∧H' x=some (.tup [.int (lfW ks w1 h1),lv])∧Same H3 H':=⟨_,rfl,af,Same.new hx⟩
 rw [show upd H3 x _=H4 from e5]
 exact q x lv H4 k5 (TrV.keep (fun a xs e=>s5 _ _ e) _ hlv) (s02.trans (s3.trans s5))
theorem scbstep:FnScope ["leaf_found","cuts","worths","worth","step","cut","together"] ["leaf_found","cuts","worths"] (defScope cX):=⟨rfl,rfl,rfl,by decide +kernel,rfl,by decide +kernel,by decide +kernel⟩
theorem rM {f:Addr} {fd:FuncData} (F:Fun K "best_step" "best_step" cX f fd)  : FnOk P w K mg base CX0 1 f fd ["leaf_found","cuts","worths"] (lN):=by
 refine F.ok scbstep (fun vs H Q E h=>?_) (fun cdv A outer s H vs Q E hr h=>?_)
 ·obtain ⟨lf,cl,wt,x0,lv,ys,b,w1,h1,cs,f0,kvs,rfl,_⟩:=h
  rfl
 obtain ⟨lf,cl,wt,x0,lv,ys,b,w1,h1,cs,f0,kvs,rfl,hlf,hcl,pc,hwt,hv,q⟩:=h
 have nd:=scbstep.nd
 have hu:=hr.units
 have hu1:=Nat.lt_of_le_of_lt (Nat.add_le_add_left (show 1≤64 by decide) _) hu
 refine ⟨_,(@ae _ _ _ _ _ (@bi _ _ _ _ _ _ (pv 0) (aU rfl (ah (ai (i:=3) nd rfl (Or.inl rfl)) (ah (ai (i:=4) nd rfl (Or.inl rfl)) aK))) rfl rfl rfl) (@ae _ _ _ _ _ (@cz _ _ _ _ _ _ _ _ PassesOwn.never rfl (bJ (pv 1)) (ai (i:=5) nd rfl (Or.inl rfl)) (@ae _ _ _ _ _ (@aG _ _ 6 _ _ _ _ nd rfl (Or.inl rfl) (@aD _ _ _ _ _ _ _ _ aS (gn hu1 (pv 2) (@av _ _ _ _ _ _ _ ix_tup (pv 5) ad (fun _ _=>rfl)) (fun _ _=>rfl)) (gn hu1 (pv 2) (@av _ _ _ _ _ _ _ ix_tup (pv 5) ad (fun _ _=>rfl)) (fun _ _=>rfl))) rfl (Or.inl rfl)) (@ag _ _ _ (@aH _ _ _ _ _ _ _ _ (@ax _ _ _ _ _ _ _ _ dE (pv 6) (pv 3) (aw _)) (@ag _ _ _ (fF rfl nd rfl rfl (i:=3) (j:=4) (by decide) rfl rfl (@aa _ _ _ _ _ (pv 6) (@aa _ _ _ _ _ (pv 5) ab rfl) rfl) rfl)) au))) (by intro _; rfl)) (@ag _ _ _ (@aq _ _ _ _ (@aB _ _ _ _ _ (@aa _ _ _ _ _ (pv 3) (@aa _ _ _ _ _ (pv 4) ab rfl) rfl)))))),?_⟩
 have z4:4096≤sizeLine:=by decide
 refine ap (fun σ' H'=>σ'=[some (.ref lf),some (.ref cl),some (.ref wt),some (.int x0),some lv,none,none]∧H=H') (fun R hR=>?_) ?_
 ·exact ⟨_,rfl,lf,_,rfl,SqT.of hlf,rfl,_,_,rfl,_,_,rfl,rfl,hR _ _ ⟨rfl,rfl⟩⟩
 rintro _ _ ⟨rfl,rfl⟩
 have cln:=Paired.length pc
 refine ap (fun σ' H'=>∃ (sv:V) (v5 v6:Option V),σ'=[some (.ref lf),some (.ref cl),some (.ref wt),some (.int (mxL (fun c=>f0 (aO w1 h1 c) + f0 (aP b w1 h1 c)) cs x0)),some sv,v5,v6]∧StV b w1 h1 H lv sv (stC (fun c=>f0 (aO w1 h1 c) + f0 (aP b w1 h1 c)) cs x0)∧H=H') (fun R hR=>?_) ?_
 ·refine ⟨_,rfl,cl,rfl,⟨_,SqL.of hcl⟩,cA (xs:=ys) (fun i σ' H'=>∃ (sv:V) (v5 v6:Option V),σ'=[some (.ref lf),some (.ref cl),some (.ref wt),some (.int (mxL (fun c=>f0 (aO w1 h1 c) + f0 (aP b w1 h1 c)) (cs.take i) x0)),some sv,v5,v6]∧StV b w1 h1 H lv sv (stC (fun c=>f0 (aO w1 h1 c) + f0 (aP b w1 h1 c)) (cs.take i) x0)∧H=H') ⟨lv,none,none,rfl,rfl,rfl⟩ (fun i σ Hx _ ⟨_,_,_,_,_,e⟩=>by subst e; exact SqL.of hcl) ?_ ?_⟩
  ·rintro i x σ Hx hi ⟨sv,v5,v6,rfl,hsv,rfl⟩
   obtain ⟨c,hc,ca⟩:=Paired.getR pc hi
   obtain ⟨q',t1,t2,rfl,h1',h2',h3'⟩:=id ca
   have cm:=List.mem_of_getElem? hc
   obtain ⟨e1,e2⟩:=hv c cm
   have hmx:=kB (fun c=>f0 (aO w1 h1 c) + f0 (aP b w1 h1 c)) cs x0 hc
   have hst:=rK (fun c=>f0 (aO w1 h1 c) + f0 (aP b w1 h1 c)) cs x0 hc
   have hsf:(stP (fun c=>f0 (aO w1 h1 c) + f0 (aP b w1 h1 c)) (cs.take i) x0).1=_:=jn (fun c=>f0 (aO w1 h1 c) + f0 (aP b w1 h1 c)) (cs.take i) (x0,none)
   have hsf:(stP (fun c=>f0 (aO w1 h1 c) + f0 (aP b w1 h1 c)) (cs.take i) x0).1=mxL (fun c=>f0 (aO w1 h1 c) + f0 (aP b w1 h1 c)) (cs.take i) x0:=hsf
   obtain ⟨m,hm⟩:∃m,mxL (fun c=>f0 (aO w1 h1 c) + f0 (aP b w1 h1 c)) (cs.take i) x0=m:=⟨_,rfl⟩
   rw [hm] at hmx hsf ⊢
   unfold stF at hst
   rw [hsf] at hst
   refine ⟨_,rfl,_,rfl,q',_,2,_,rfl,rfl,SqT.of h1',rfl,wt,_,rfl,e1 ▸ DGet.t (k:=pk (aO w1 h1 c)) hwt h2',_,rfl,_,rfl,q',_,3,_,rfl,rfl,SqT.of h1',rfl,wt,_,rfl,e2 ▸ DGet.t (k:=pk (aP b w1 h1 c)) hwt h3',_,_,rfl,rfl,?_⟩
   refine ⟨_,rfl,_,rfl,_,_,rfl,rfl,_,rfl,?_⟩
   by_cases c1:m < (f0 (aO w1 h1 c) + f0 (aP b w1 h1 c))
   ·rw [show decide (m < (f0 (aO w1 h1 c) + f0 (aP b w1 h1 c)))=true from decide_eq_true c1]
    refine be ⟨_,rfl,_,rfl,_,_,rfl,.ref q',some (.ref q'),some (.int (f0 (aO w1 h1 c) + f0 (aP b w1 h1 c))),?_,by unfold stC; rw [hst,if_pos c1]; exact ca,rfl⟩
    rw [hmx,show max m (f0 (aO w1 h1 c) + f0 (aP b w1 h1 c))=(f0 (aO w1 h1 c) + f0 (aP b w1 h1 c)) by omega]
    rfl
   ·rw [show decide (m < (f0 (aO w1 h1 c) + f0 (aP b w1 h1 c)))=false from decide_eq_false c1]
    refine az ⟨sv,some (.ref q'),some (.int (f0 (aO w1 h1 c) + f0 (aP b w1 h1 c))),?_,by unfold stC; rw [hst,if_neg c1]; exact hsv,rfl⟩
    rw [hmx,show max m (f0 (aO w1 h1 c) + f0 (aP b w1 h1 c))=m by omega]
    rfl
  ·rintro σ Hx ⟨sv,v5,v6,rfl,hsv,rfl⟩
   rw [cln,List.take_length] at hsv
   refine hR _ _ ⟨sv,v5,v6,?_,hsv,rfl⟩
   rw [cln,List.take_length]
 rintro _ _ ⟨sv,v5,v6,rfl,hsv,rfl⟩
 refine ⟨_,rfl,_,rfl,(by show 2≤sizeLine; decide),fun x hx=>?_⟩
 obtain ⟨H4,e5,k5,s5⟩:∃H',upd H x (.tup [.int (mxL (fun c=>f0 (aO w1 h1 c) + f0 (aP b w1 h1 c)) cs x0),sv])=H'∧H' x=some (.tup [.int (mxL (fun c=>f0 (aO w1 h1 c) + f0 (aP b w1 h1 c)) cs x0),sv])∧Same H H':=⟨_,rfl,af,Same.new hx⟩
 rw [show upd H x _=H4 from e5]
 exact q x sv H4 k5 (hsv.keep s5) s5
end
def msr (p:Int×Int):Nat:=(p.1 + p.2).toNat
theorem mX {dn:Bool} {n:Nat} {x:Bool×Int} (h:x∈wpL dn n):x.1=dn∧1≤x.2∧x.2≤n:=by
 unfold wpL at h
 obtain ⟨j,hj,rfl⟩:=List.mem_map.mp h
 have:=List.mem_range.mp hj
 exact ⟨rfl,by show 1≤1 + (j:Int); omega,by show 1 + (j:Int)≤n; omega⟩
theorem fN {b w h:Int} {x:Bool×Int} (m:x∈bP b w h):1≤x.2∧(if x.1=true then x.2 + b < w else x.2 + b < h):=by
 unfold bP at m
 rcases List.mem_append.mp m with m | m
 ·obtain ⟨e,h1,h2⟩:=mX m
  rw [e,if_pos rfl]
  exact ⟨h1,by omega⟩
 ·obtain ⟨e,h1,h2⟩:=mX m
  rw [e,if_neg Bool.false_ne_true]
  exact ⟨h1,by omega⟩
theorem dh {b w h:Int} {x:Bool×Int} (b0:0≤b) (w0:1≤w) (h0:1≤h) (m:x∈bP b w h) :
  (1≤(aO w h x).1∧1≤(aO w h x).2∧(aO w h x).1≤w∧(aO w h x).2≤h∧((aO w h x).1 < w∨(aO w h x).1=w∧(aO w h x).2 < h)∧msr (aO w h x) < msr (w,h)) ∧
  (1≤(aP b w h x).1∧1≤(aP b w h x).2∧(aP b w h x).1≤w∧(aP b w h x).2≤h∧((aP b w h x).1 < w∨(aP b w h x).1=w∧(aP b w h x).2 < h)∧msr (aP b w h x) < msr (w,h)):=by
 obtain ⟨h1,h2⟩:=fN m
 obtain ⟨dn,p⟩:=x
 cases dn with
 | true =>
  have h2:p + b < w:=h2
  have h1:1≤p:=h1
  show (1≤p∧1≤h∧p≤w∧h≤h∧(p < w∨p=w∧h < h)∧(p + h).toNat < (w + h).toNat)∧(1≤w - p - b∧1≤h∧w - p - b≤w∧h≤h∧(w - p - b < w∨w - p - b=w∧h < h)∧(w - p - b + h).toNat < (w + h).toNat)
  refine ⟨⟨?_,?_,?_,?_,?_,?_⟩,⟨?_,?_,?_,?_,?_,?_⟩⟩ <;> omega
 | false =>
  have h2:p + b < h:=h2
  have h1:1≤p:=h1
  show (1≤w∧1≤p∧w≤w∧p≤h∧(w < w∨w=w∧p < h)∧(w + p).toNat < (w + h).toNat)∧(1≤w∧1≤h - p - b∧w≤w∧h - p - b≤h∧(w < w∨w=w∧h - p - b < h)∧(w + (h - p - b)).toNat < (w + h).toNat)
  refine ⟨⟨?_,?_,?_,?_,?_,?_⟩,⟨?_,?_,?_,?_,?_,?_⟩⟩ <;> omega
theorem fO {α:Type} {f g:α→Int}:∀ {l:List α} {x:Int},(∀a∈l,f a=g a)→mxL f l x=mxL g l x
 | [],_,_=>rfl
 | a :: r,x,h=>by
  show mxL f r (max x (f a))=mxL g r (max x (g a))
  rw [h a List.mem_cons_self]
  exact fO fun b hb=>h b (List.mem_cons_of_mem _ hb)
def bF (b:Int) (ks:List Kd):Nat→Int×Int→Int
 | 0,_=>0
 | n + 1,p=>mxL (fun c=>bF b ks n (aO p.1 p.2 c) + bF b ks n (aP b p.1 p.2 c)) (bP b p.1 p.2) (lfW ks p.1 p.2)
theorem dS {b:Int} {ks:List Kd} (b0:0≤b):∀ (n m:Nat) (p:Int×Int),msr p < n→msr p < m→1≤p.1→1≤p.2→bF b ks n p=bF b ks m p
 | 0,_,_,h,_,_,_=>absurd h (Nat.not_lt_zero _)
 | _ + 1,0,_,_,h,_,_=>absurd h (Nat.not_lt_zero _)
 | n + 1,m + 1,p,h1,h2,p1,p2=>by
  show mxL _ _ _=mxL _ _ _
  refine fO fun c hc=>?_
  obtain ⟨⟨a1,a2,_,_,_,a3⟩,⟨c1,c2,_,_,_,c3⟩⟩:=dh b0 p1 p2 hc
  have e:msr (p.1,p.2)=msr p:=rfl
  rw [dS b0 n m _ (by omega) (by omega) a1 a2,dS b0 n m _ (by omega) (by omega) c1 c2]
def bW (b:Int) (ks:List Kd) (p:Int×Int):Int:=bF b ks (msr p + 1) p
theorem ux {b:Int} {ks:List Kd} (b0:0≤b) (p:Int×Int) (p1:1≤p.1) (p2:1≤p.2):bW b ks p=mxL (fun c=>bW b ks (aO p.1 p.2 c) + bW b ks (aP b p.1 p.2 c)) (bP b p.1 p.2) (lfW ks p.1 p.2):=by
 show mxL _ _ _=mxL _ _ _
 refine fO fun c hc=>?_
 obtain ⟨⟨a1,a2,_,_,_,a3⟩,⟨c1,c2,_,_,_,c3⟩⟩:=dh b0 p1 p2 hc
 have e:msr (p.1,p.2)=msr p:=rfl
 unfold bW
 rw [dS b0 (msr p) (msr (aO p.1 p.2 c) + 1) _ (by omega) (by omega) a1 a2,dS b0 (msr p) (msr (aP b p.1 p.2 c) + 1) _ (by omega) (by omega) c1 c2]
def ltP (p q:Int×Int):Prop:=p.1 < q.1∨p.1=q.1∧p.2 < q.2
theorem rowP_mem {a:Int} {n:Nat} {p:Int×Int}:p∈gY a n↔p.1=a∧1≤p.2∧p.2≤n:=by
 unfold gY
 constructor
 ·intro h
  obtain ⟨j,hj,rfl⟩:=List.mem_map.mp h
  have:=List.mem_range.mp hj
  exact ⟨rfl,by show 1≤1 + (j:Int); omega,by show 1 + (j:Int)≤n; omega⟩
 ·rintro ⟨e,h1,h2⟩
  refine List.mem_map.mpr ⟨(p.2 - 1).toNat,List.mem_range.mpr (by omega),?_⟩
  rw [← e,show 1 + ((p.2 - 1).toNat:Int)=p.2 by omega]
theorem partsL_mem {n:Nat} {p:Int×Int}:∀ {m:Nat},p∈aM m n↔(1≤p.1∧p.1≤m)∧1≤p.2∧p.2≤n
 | 0=>by
  constructor
  ·intro h; simp [aM] at h
  ·rintro ⟨⟨h1,h2⟩,_⟩; exfalso; have h2:p.1≤0:=h2; omega
 | m + 1=>by
  rw [cL,List.mem_append,partsL_mem (m:=m),rowP_mem]
  constructor
  ·rintro (⟨⟨h1,h2⟩,h3⟩ | ⟨h1,h2⟩)
   ·exact ⟨⟨h1,by omega⟩,h3⟩
   ·exact ⟨⟨by omega,by omega⟩,h2⟩
  ·rintro ⟨⟨h1,h2⟩,h3⟩
   by_cases e:p.1=1 + (m:Int)
   ·exact .inr ⟨e,h3⟩
   ·exact .inl ⟨⟨h1,by omega⟩,h3⟩
theorem iR (a:Int):∀n:Nat,(gY a n).Pairwise ltP
 | 0=>List.Pairwise.nil
 | n + 1=>by
  rw [iQ,List.pairwise_append]
  refine ⟨iR a n,List.pairwise_singleton _ _,fun p hp q hq=>?_⟩
  rw [List.mem_singleton.mp hq]
  obtain ⟨e,_,h⟩:=rowP_mem.mp hp
  exact .inr ⟨e,by show p.2 < 1 + (n:Int); omega⟩
theorem dP (n:Nat):∀m:Nat,(aM m n).Pairwise ltP
 | 0=>List.Pairwise.nil
 | m + 1=>by
  rw [cL,List.pairwise_append]
  refine ⟨dP n m,iR _ n,fun p hp q hq=>?_⟩
  obtain ⟨⟨_,h⟩,_⟩:=partsL_mem.mp hp
  obtain ⟨e,_⟩:=rowP_mem.mp hq
  exact .inl (by omega)
theorem ga {m n i:Nat} {p q:Int×Int} (hi:(aM m n)[i]? = some p) (hq:q∈aM m n) (hl:ltP q p):q∈(aM m n).take i:=by
 obtain ⟨j,hj⟩:=List.mem_iff_getElem?.mp hq
 obtain ⟨i1,i2⟩:=List.getElem?_eq_some_iff.mp hi
 obtain ⟨j1,j2⟩:=List.getElem?_eq_some_iff.mp hj
 by_cases h:j < i
 ·refine List.mem_iff_getElem?.mpr ⟨j,?_⟩
  rw [List.getElem?_take_of_lt h]; exact hj
 ·exfalso
  rcases Nat.lt_or_ge i j with h' | h'
  ·have:=List.pairwise_iff_getElem.mp (dP n m) i j i1 j1 h'
   rw [i2,j2] at this
   unfold ltP at this hl
   omega
  ·have e:i=j:=by omega
   subst e
   rw [hi] at hj
   cases hj
   unfold ltP at hl
   omega
theorem lO {m n i:Nat} {p:Int×Int} (hi:(aM m n)[i]? = some p):p∉(aM m n).take i:=fun h=>by
 obtain ⟨j,hj⟩:=List.mem_iff_getElem?.mp h
 obtain ⟨j0,_⟩:=List.getElem?_eq_some_iff.mp hj
 rw [List.length_take] at j0
 rw [List.getElem?_take_of_lt (by omega)] at hj
 obtain ⟨i1,i2⟩:=List.getElem?_eq_some_iff.mp hi
 obtain ⟨j1,j2⟩:=List.getElem?_eq_some_iff.mp hj
 have:=List.pairwise_iff_getElem.mp (dP n m) j i j1 i1 (by omega)
 rw [i2,j2] at this
 unfold ltP at this
 omega
theorem rN {p q:Int×Int} (h:pk p=pk q):p=q:=by
 obtain ⟨a,b⟩:=p
 obtain ⟨c,d⟩:=q
 have h:([.inl a,.inl b]:List Key)=[.inl c,.inl d]:=h
 injection h with h1 h2
 injection h1 with h1
 injection h2 with h2 _
 injection h2 with h2
 rw [h1,h2]
def byP (ss:List ((Int×Int)×V)):List (List Key×V):=ss.map fun s=>(pk s.1,s.2)
theorem mY {ss:List ((Int×Int)×V)} {p:Int×Int} {v:V} (h:p∉ss.map (·.1)):eS (byP ss) (pk p) v=byP (ss ++ [(p,v)]):=by
 unfold eS
 rw [if_neg,byP,byP,List.map_append]
 ·rfl
 ·intro e
  obtain ⟨x,hx,e⟩:=List.any_eq_true.mp e
  obtain ⟨s,hs,rfl⟩:=List.mem_map.mp hx
  have:s.1=p:=rN (of_decide_eq_true e)
  exact h (List.mem_map.mpr ⟨s,hs,this⟩)
theorem jq:∀ {ss:List ((Int×Int)×V)} {p:Int×Int},p∈ss.map (·.1)→∃v,dW (byP ss) (pk p)=some v∧(p,v)∈ss
 | s :: r,p,h=>by
  by_cases e:s.1=p
  ·refine ⟨s.2,eU (by show pk s.1=pk p; rw [e]),?_⟩
   rw [← e]
   exact List.mem_cons_self
  ·have h:p∈r.map (·.1):=(List.mem_cons.mp h).resolve_left (fun z=>e z.symm)
   obtain ⟨v,h1,h2⟩:=jq h
   refine ⟨v,?_,List.mem_cons_of_mem _ h2⟩
   show dW ((pk s.1,s.2) :: byP r) (pk p)=some v
   rw [eV (fun z=>e (rN z))]
   exact h1
def fP (b:Int) (ks:List Kd) (ps:List (Int×Int)):List ((Int×Int)×V):=ps.map fun p=>(p,.int (bW b ks p))
theorem kF (b:Int) (ks:List Kd) (ps:List (Int×Int)):(fP b ks ps).map (·.1)=ps:=by
 unfold fP
 rw [List.map_map]
 exact List.map_id' ps
theorem gZ {b:Int} {ks:List Kd} {ps:List (Int×Int)} {p:Int×Int} (h:p∈ps):dW (byP (fP b ks ps)) (pk p)=some (.int (bW b ks p)):=by
 obtain ⟨v,h1,h2⟩:=jq (ss:=fP b ks ps) (p:=p) (by rw [kF]; exact h)
 unfold fP at h2
 obtain ⟨q,_,e⟩:=List.mem_map.mp h2
 cases e
 exact h1
def bC (b:Int) (ks:List Kd) (p:Int×Int):Option (Bool×Int):=stC (fun c=>bW b ks (aO p.1 p.2 c) + bW b ks (aP b p.1 p.2 c)) (bP b p.1 p.2) (lfW ks p.1 p.2)
def bT (b:Int) (ks:List Kd):Nat→Int×Int→Tr
 | 0,_=>.rest
 | n + 1,p=>match bC b ks p with
  | none=>lfT ks p.1 p.2
  | some c=>.cut c.1 c.2 (bT b ks n (aO p.1 p.2 c)) (bT b ks n (aP b p.1 p.2 c))
theorem rO:∀ {t:Tr},rJ t=true→dpt t=0
 | .rest,_=>rfl
 | .piece ..,_=>rfl
theorem lP (b:Int) (ks:List Kd):∀n p,dpt (bT b ks n p)≤n
 | 0,_=>Nat.le_refl _
 | n + 1,p=>by
  unfold bT
  split
  ·rw [rO (kD ks _ _)]; omega
  ·rename_i c _
   have h1:=lP b ks n (aO p.1 p.2 c)
   have h2:=lP b ks n (aP b p.1 p.2 c)
   show max _ _ + 1≤n + 1
   omega
def StOk (b:Int) (ks:List Kd) (H:Hp) (ss:List ((Int×Int)×V)):Prop:=∀p v,(p,v)∈ss→(bC b ks p=none∧TrV H (lfT ks p.1 p.2) v)∨∃x:Bool×Int,bC b ks p=some x∧CutAt b p.1 p.2 H v x∧aO p.1 p.2 x∈ss.map (·.1)∧aP b p.1 p.2 x∈ss.map (·.1)∧msr (aO p.1 p.2 x) < msr p∧msr (aP b p.1 p.2 x) < msr p
theorem StOk.keep {b:Int} {ks:List Kd} {H H':Hp} {ss:List ((Int×Int)×V)} (s:∀a xs,H a=some (.tup xs)→H' a=some (.tup xs)) (h:StOk b ks H ss):StOk b ks H' ss:=fun p v hm=>by
 rcases h p v hm with ⟨e,h1⟩ | ⟨x,ec,⟨q,t1,t2,e,c1,c2,c3⟩,h1⟩
 ·exact .inl ⟨e,TrV.keep s _ h1⟩
 ·exact .inr ⟨x,ec,⟨q,t1,t2,e,s _ _ c1,s _ _ c2,s _ _ c3⟩,h1⟩
theorem uy (dn:Bool):inV (wv dn) [V.str "down",V.str "across"]=true:=by cases dn <;> decide +kernel
section
variable {P:Program} {w:World} {K:PySem.W.Frag} {mg:Str→Option Value} {base:Heap}
def gb (n:Nat):Sp:=fun vs H Q _=>∃ (st kt:Addr) (b:Int) (ks:List Kd) (ss:List ((Int×Int)×V)) (p:Int×Int),vs=[.ref st,.ref kt]∧H st=some (.dT (byP ss))∧H kt=some (.tup [.int p.1,.int p.2])∧StOk b ks H ss∧p∈ss.map (·.1)∧msr p < n∧∀v' H',TrV H' (bT b ks n p) v'→Same H H'→Q v' H'
def hG (C:Addr):Sp:=fun vs H Q _=>∃ (s:Addr) (b:Int) (ks:List Kd) (m n:Nat),vs=[.ref s,.int m,.int n]∧ShopAt C H s b ks∧ks.length≤8∧0≤b∧1≤m∧m≤16∧1≤n∧n≤16 ∧
 ∀ (r tb:Addr) (v:V) (H':Hp),H tb=none→H' r=some (.tup [.int (bW b ks (m,n)),v,.ref tb])→H' tb=some (.dT (byP (fP b ks (aM m n))))→TrV H' (bT b ks 33 (m,n)) v→Same H H'→Q (.ref r) H'
theorem sctbs:FnScope ["steps","key","step","way","p","first","second"] ["steps","key"] (defScope bm):=⟨rfl,rfl,rfl,by decide +kernel,rfl,by decide +kernel,by decide +kernel⟩
theorem vj {f wa:Addr} {fd:FuncData} (F:Fun K "tree_by_steps" "tree_by_steps" bm f fd) (n:Nat) (Z:BeC K mg wa) (DT:Dn P w K mg base "tree_by_steps" ["steps","key"] (1 + n) (gb n)):FnOk P w K mg base CX0 (1 + (n + 1)) f fd ["steps","key"] (gb (n + 1)):=by
 refine F.ok sctbs (fun vs H Q E h=>?_) (fun cdv A outer s H vs Q E hr h=>?_)
 ·obtain ⟨st,kt,b,ks,ss,p,rfl,_⟩:=h
  rfl
 obtain ⟨st,kt,b,ks,ss,p,rfl,hst,hkt,ok0,hp,hn,q⟩:=h
 have nd:=sctbs.nd
 have hu:=hr.units
 have hu1:=Nat.lt_of_le_of_lt (Nat.add_le_add_left (show 1≤64 by decide) _) hu
 refine ⟨_,(@ae _ _ _ _ _ (@aG _ _ 2 _ _ _ _ nd rfl (Or.inl rfl) (gn hu1 (pv 0) (pv 1) (fun _ _=>rfl)) rfl (Or.inl rfl)) (@ae _ _ _ _ _ (@aH _ _ _ _ _ _ _ _ (@ax _ _ _ _ _ _ _ _ eK (@av _ _ _ _ _ _ _ ix_tup (pv 2) ad (fun _ _=>rfl)) (aR (v:=.ref wa) rfl Z.wy rfl) rfl) (@ag _ _ _ (@aq _ _ _ _ (pv 2))) au) (@ae _ _ _ _ _ (@bi _ _ _ _ _ _ (pv 2) (aU rfl (ah (ai (i:=3) nd rfl (Or.inl rfl)) (ah (ai (i:=4) nd rfl (Or.inl rfl)) (ah (ai (i:=5) nd rfl (Or.inl rfl)) (ah (ai (i:=6) nd rfl (Or.inl rfl)) aK))))) rfl rfl rfl) (@ag _ _ _ (@aq _ _ _ _ (@aB _ _ _ _ _ (@aa _ _ _ _ _ (pv 3) (@aa _ _ _ _ _ (pv 4) (@aa _ _ _ _ _ (@ar _ _ _ _ _ _ _ _ _ _ DT hr rfl (@aa _ _ _ _ _ (pv 0) (@aa _ _ _ _ _ (pv 5) ab rfl) rfl) (by decide) rfl rfl) (@aa _ _ _ _ _ (@ar _ _ _ _ _ _ _ _ _ _ DT hr rfl (@aa _ _ _ _ _ (pv 0) (@aa _ _ _ _ _ (pv 6) ab rfl) rfl) (by decide) rfl rfl) ab rfl) rfl) rfl) rfl))))))),?_⟩
 obtain ⟨v,hv,hm⟩:=jq hp
 refine ap (fun σ' H'=>σ'=[some (.ref st),some (.ref kt),some v,none,none,none,none]∧H=H') (fun R hR=>?_) ?_
 ·exact ⟨_,rfl,_,rfl,st,_,rfl,hv ▸ DGet.t (k:=pk p) hst hkt,hR _ _ ⟨rfl,rfl⟩⟩
 rintro _ _ ⟨rfl,rfl⟩
 rcases ok0 p v hm with ⟨ec,hlt⟩ | ⟨x,ec,⟨qa,t1,t2,rfl,c1,c2,c3⟩,m1,m2,l1,l2⟩
 ·obtain ⟨qa,y,r,rfl,h1,h2⟩:=TrV.lf (kD ks _ _) hlt
  refine ap (fun σ' H'=>False) (fun R hR=>?_) (fun _ _ z=>z.elim)
  refine ⟨_,rfl,qa,_,0,_,rfl,rfl,SqT.of h1,aY (Int.le_refl _) rfl,wa,_,rfl,.inr (Z.wq _),rfl,rfl,_,rfl,?_⟩
  rw [show (if true=true then !inV (V.str y) [V.str "down",V.str "across"] else inV (V.str y) [V.str "down",V.str "across"])=true by rw [if_pos rfl,h2]; rfl]
  exact be ⟨_,rfl,q _ H (by unfold bT; rw [ec]; exact hlt) (Same.refl _)⟩
 refine ap (fun σ' H'=>σ'=[some (.ref st),some (.ref kt),some (.ref qa),none,none,none,none]∧H=H') (fun R hR=>?_) ?_
 ·refine ⟨_,rfl,qa,_,0,_,rfl,rfl,SqT.of c1,rfl,wa,_,rfl,.inr (Z.wq _),rfl,rfl,_,rfl,?_⟩
  rw [show (if true=true then !inV (wv x.1) [V.str "down",V.str "across"] else inV (wv x.1) [V.str "down",V.str "across"])=false by rw [if_pos rfl,uy]; rfl]
  exact az (hR _ _ ⟨rfl,rfl⟩)
 rintro _ _ ⟨rfl,rfl⟩
 refine ap (fun σ' H'=>σ'=[some (.ref st),some (.ref kt),some (.ref qa),some (wv x.1),some (.int x.2),some (.ref t1),some (.ref t2)]∧H=H') (fun R hR=>?_) ?_
 ·exact ⟨_,rfl,qa,_,rfl,SqT.of c1,rfl,_,_,rfl,_,_,rfl,_,_,rfl,_,_,rfl,rfl,hR _ _ ⟨rfl,rfl⟩⟩
 rintro _ _ ⟨rfl,rfl⟩
 refine ⟨_,rfl,_,rfl,_,rfl,_,rfl,st,t1,b,ks,ss,aO p.1 p.2 x,rfl,hst,c2,ok0,m1,by omega,fun v1 H1 hv1 s1=>?_⟩
 refine ⟨_,rfl,_,rfl,st,t2,b,ks,ss,aP b p.1 p.2 x,rfl,s1 _ _ hst,s1 _ _ c3,ok0.keep (fun a xs e=>s1 _ _ e),m2,by omega,fun v2 H2 hv2 s2=>?_⟩
 exact ⟨(by show 4≤sizeLine; decide),fun t ht=>q _ _ (by
  have sn:Same H2 (upd H2 t (.tup [wv x.1,.int x.2,v1,v2])):=Same.new ht
  unfold bT
  rw [ec]
  exact ⟨t,v1,v2,rfl,af,TrV.keep (fun a xs e=>sn _ _ (s2 _ _ e)) _ hv1,TrV.keep (fun a xs e=>sn _ _ e) _ hv2⟩) ((s1.trans s2).trans (Same.new ht))⟩
theorem tS {f:Addr} {fd:FuncData} (F:Fun K "tree_by_steps" "tree_by_steps" bm f fd):FnOk P w K mg base CX0 1 f fd ["steps","key"] (gb 0):=by
 refine F.ok sctbs (fun vs H Q E h=>?_) (fun cdv A outer s H vs Q E hr h=>?_)
 ·obtain ⟨st,kt,b,ks,ss,p,rfl,_⟩:=h
  rfl
 ·obtain ⟨st,kt,b,ks,ss,p,_,_,_,_,_,z,_⟩:=h
  exact absurd z (Nat.not_lt_zero _)
theorem mZ {f wa:Addr} {fd:FuncData} (F:Fun K "tree_by_steps" "tree_by_steps" bm f fd) (Z:BeC K mg wa) (mk:∀n,FnOk P w K mg base CX0 (1 + n) f fd ["steps","key"] (gb n)→Dn P w K mg base "tree_by_steps" ["steps","key"] (1 + n) (gb n)):∀n,FnOk P w K mg base CX0 (1 + n) f fd ["steps","key"] (gb n)
 | 0=>tS F
 | n + 1=>vj F n Z (mk n (mZ F Z mk n))
theorem scbestof:FnScope ["shop","wide","high","blade","table","steps","part","worth","step","plate"] ["shop","wide","high"] (defScope fe):=⟨rfl,rfl,rfl,by decide +kernel,rfl,by decide +kernel,by decide +kernel⟩
theorem oE {f wa C:Addr} {fd:FuncData} (F:Fun K "best_of" "best_of" fe f fd) (Z:BeC K mg wa) (T:ShopTxt K C) (MB:Mn P w K mg base C "blade" ["self"] 1 (eP C)) (DCP:Dn P w K mg base "check_plate" ["wide","high"] 2 (tN)) (DCS:Dn P w K mg base "check_sides" ["wide","high","most"] 1 (vi)) (DPu:Dn P w K mg base "parts_up_to" ["wide","high"] 1 (jm)) (DCu:Dn P w K mg base "cuts_of" ["blade","part"] 2 (lM)) (DBL:Dn P w K mg base "best_leaf" ["shop","part"] 6 (jo C)) (DBS:Dn P w K mg base "best_step" ["leaf_found","cuts","worths"] 1 (lN)) (DTB:Dn P w K mg base "tree_by_steps" ["steps","key"] 34 (gb 33)):FnOk P w K mg base CX0 35 f fd ["shop","wide","high"] (hG C):=by
 refine F.ok scbestof (fun vs H Q E h=>?_) (fun cdv A outer s H vs Q E hr h=>?_)
 ·obtain ⟨s,b,ks,m,n,rfl,_⟩:=h
  rfl
 obtain ⟨s,b,ks,m,n,rfl,S0,k8,b0,m1,m16,n1,n16,q⟩:=h
 have nd:=scbestof.nd
 have hu:=hr.units
 have hu1:=Nat.lt_of_le_of_lt (Nat.add_le_add_left (show 1≤64 by decide) _) hu
 obtain ⟨tms,hms⟩:=Z.ms
 refine ⟨_,(@ae _ _ _ _ _ (@bG _ _ _ _ (@ar _ _ _ _ _ _ _ _ _ _ DCP (hr.mono (by decide)) rfl (@aa _ _ _ _ _ (pv 1) (@aa _ _ _ _ _ (pv 2) ab rfl) rfl) (by decide) rfl rfl) rfl) (@ae _ _ _ _ _ (@bG _ _ _ _ (@ar _ _ _ _ _ _ _ _ _ _ DCS (hr.mono (by decide)) rfl (@aa _ _ _ _ _ (pv 1) (@aa _ _ _ _ _ (pv 2) (@aa _ _ _ _ _ (aR (v:=.int 16) rfl hms ⟨tms,rfl⟩) ab rfl) rfl) rfl) (by decide) rfl rfl) rfl) (@ae _ _ _ _ _ (@aG _ _ 3 _ _ _ _ nd rfl (Or.inl rfl) (ej (pv 0) T.cl MB (hr.mono (by decide))) rfl (Or.inl rfl)) (@ae _ _ _ _ _ (@aG _ _ 4 _ _ _ _ nd rfl (Or.inl rfl) jN rfl (Or.inl rfl)) (@ae _ _ _ _ _ (@aG _ _ 5 _ _ _ _ nd rfl (Or.inl rfl) jN rfl (Or.inl rfl)) (@ae _ _ _ _ _ (@cz _ _ _ _ _ _ _ _ PassesOwn.never rfl (bJ (@ar _ _ _ _ _ _ _ _ _ _ DPu (hr.mono (by decide)) rfl (@aa _ _ _ _ _ (pv 1) (@aa _ _ _ _ _ (pv 2) ab rfl) rfl) (by decide) rfl rfl)) (ai (i:=6) nd rfl (Or.inl rfl)) (@ae _ _ _ _ _ (@bi _ _ _ _ _ _ (@ar _ _ _ _ _ _ _ _ _ _ DBS (hr.mono (by decide)) rfl (@aa _ _ _ _ _ (@ar _ _ _ _ _ _ _ _ _ _ DBL (hr.mono (by decide)) rfl (@aa _ _ _ _ _ (pv 0) (@aa _ _ _ _ _ (pv 6) ab rfl) rfl) (by decide) rfl rfl) (@aa _ _ _ _ _ (@ar _ _ _ _ _ _ _ _ _ _ DCu (hr.mono (by decide)) rfl (@aa _ _ _ _ _ (pv 3) (@aa _ _ _ _ _ (pv 6) ab rfl) rfl) (by decide) rfl rfl) (@aa _ _ _ _ _ (pv 4) ab rfl) rfl) rfl) (by decide) rfl rfl) (aU rfl (ah (ai (i:=7) nd rfl (Or.inl rfl)) (ah (ai (i:=8) nd rfl (Or.inl rfl)) aK))) rfl rfl rfl) (@ae _ _ _ _ _ (mG hu1 (pv 4) (pv 6) (pv 7) rfl) (@ag _ _ _ (mG hu1 (pv 5) (pv 6) (pv 8) rfl)))) (by intro _; rfl)) (@ae _ _ _ _ _ (@aG _ _ 9 _ _ _ _ nd rfl (Or.inl rfl) (@aB _ _ _ _ _ (@aa _ _ _ _ _ (pv 1) (@aa _ _ _ _ _ (pv 2) ab rfl) rfl)) rfl (Or.inl rfl)) (@ag _ _ _ (@aq _ _ _ _ (@aB _ _ _ _ _ (@aa _ _ _ _ _ (gn hu1 (pv 4) (pv 9) (fun _ _=>rfl)) (@aa _ _ _ _ _ (@ar _ _ _ _ _ _ _ _ _ _ DTB (hr.mono (by decide)) rfl (@aa _ _ _ _ _ (pv 5) (@aa _ _ _ _ _ (pv 9) ab rfl) rfl) (by decide) rfl rfl) (@aa _ _ _ _ _ (pv 4) ab rfl) rfl) rfl))))))))))),?_⟩
 have z4:4096≤sizeLine:=by decide
 refine ap (fun σ' H'=>σ'=[some (.ref s),some (.int m),some (.int n),none,none,none,none,none,none,none]∧H=H') (fun R hR=>?_) ?_
 ·exact ⟨_,rfl,_,rfl,m,n,rfl,by omega,by omega,hR _ _ ⟨rfl,rfl⟩⟩
 rintro _ _ ⟨rfl,rfl⟩
 refine ap (fun σ' H'=>σ'=[some (.ref s),some (.int m),some (.int n),none,none,none,none,none,none,none]∧H=H') (fun R hR=>?_) ?_
 ·exact ⟨_,rfl,_,rfl,m,n,16,rfl,by omega,by omega,hR _ _ ⟨rfl,rfl⟩⟩
 rintro _ _ ⟨rfl,rfl⟩
 obtain ⟨dx,r0,rs0,g1,g2,g3⟩:=id S0
 refine ap (fun σ' H'=>σ'=[some (.ref s),some (.int m),some (.int n),some (.int b),none,none,none,none,none,none]∧H=H') (fun R hR=>?_) ?_
 ·exact ⟨_,rfl,s,dx,_,rfl,g1,bH _ _ (by decide +kernel) (by decide +kernel),s,b,ks,rfl,S0,hR _ _ ⟨rfl,rfl⟩⟩
 rintro _ _ ⟨rfl,rfl⟩
 refine ap (fun σ' H'=>∃tb:Addr,σ'=[some (.ref s),some (.int m),some (.int n),some (.int b),some (.ref tb),none,none,none,none,none]∧H tb=none∧H' tb=some (.dT [])∧Same H H') (fun R hR=>?_) ?_
 ·intro tb htb
  obtain ⟨H1,e1,k1,s1⟩:∃H',upd H tb (.dT [])=H'∧H' tb=some (.dT [])∧Same H H':=⟨_,rfl,af,Same.new htb⟩
  rw [show upd H tb _=H1 from e1]
  exact hR _ _ ⟨tb,rfl,htb,k1,s1⟩
 rintro _ H1 ⟨tb,rfl,htb,k1,s1⟩
 refine ap (fun σ' H'=>∃st:Addr,σ'=[some (.ref s),some (.int m),some (.int n),some (.int b),some (.ref tb),some (.ref st),none,none,none,none]∧H1 st=none∧H' st=some (.dT [])∧Same H1 H') (fun R hR=>?_) ?_
 ·intro st hst
  obtain ⟨H2,e2,k2,s2⟩:∃H',upd H1 st (.dT [])=H'∧H' st=some (.dT [])∧Same H1 H':=⟨_,rfl,af,Same.new hst⟩
  rw [show upd H1 st _=H2 from e2]
  exact hR _ _ ⟨st,rfl,hst,k2,s2⟩
 rintro _ H2 ⟨st,rfl,hst1,k2,s2⟩
 have hst:H st=none:=s1.free hst1
 have nts:tb≠st:=am k1 hst1
 have s02:=s1.trans s2
 refine ap (fun σ' H'=>∃ (ss:List ((Int×Int)×V)) (v6 v7 v8:Option V),σ'=[some (.ref s),some (.int m),some (.int n),some (.int b),some (.ref tb),some (.ref st),v6,v7,v8,none]∧H' tb=some (.dT (byP (fP b ks (aM m n))))∧H' st=some (.dT (byP ss))∧ss.map (·.1)=aM m n∧StOk b ks H' ss∧Same H H') (fun R hR=>?_) ?_
 ·refine ⟨_,rfl,_,rfl,m,n,rfl,m16,n16,fun pl ys H3 hpl pys s3=>?_⟩
  have pln:=Paired.length pys
  have p256:(aM m n).length≤256:=by rw [eA]; exact Nat.mul_le_mul m16 n16
  refine ⟨pl,rfl,⟨_,SqL.of hpl⟩,cA (xs:=ys) (fun i σ' H'=>∃ (ss:List ((Int×Int)×V)) (v6 v7 v8:Option V),σ'=[some (.ref s),some (.int m),some (.int n),some (.int b),some (.ref tb),some (.ref st),v6,v7,v8,none]∧H' tb=some (.dT (byP (fP b ks ((aM m n).take i))))∧H' st=some (.dT (byP ss))∧ss.map (·.1)=(aM m n).take i∧StOk b ks H' ss∧Paired (PtAt H') ys (aM m n)∧H' pl=some (.lst ys)∧Same H H') ⟨[],none,none,none,rfl,s3 _ _ (s2 _ _ k1),s3 _ _ k2,rfl,(fun p v h=>by simp at h),pys,hpl,s02.trans s3⟩ (fun i σ Hx _ ⟨_,_,_,_,_,_,_,_,_,_,h,_⟩=>SqL.of h) ?_ ?_⟩
  ·rintro i x σ Hx hi ⟨ss,v6,v7,v8,rfl,ht,hs,es,so,py,hl,sx⟩
   obtain ⟨p,hp,ta,rfl,hta⟩:=Paired.getR py hi
   have pm:=List.mem_of_getElem? hp
   obtain ⟨⟨p1,p2⟩,p3,p4⟩:=partsL_mem.mp pm
   have pnew:=lO hp
   have il:i < (aM m n).length:=(List.getElem?_eq_some_iff.mp hp).1
   have tl:(fP b ks ((aM m n).take i)).length≤256:=by
    unfold fP
    rw [List.length_map,List.length_take]; omega
   have sl:ss.length≤256:=by
    have:=congrArg List.length es
    rw [List.length_map,List.length_take] at this
    omega
   have cutIn:∀c∈bP b p.1 p.2,aO p.1 p.2 c∈(aM m n).take i∧aP b p.1 p.2 c∈(aM m n).take i:=fun c hc=>by
    obtain ⟨⟨a1,a2,a3,a4,a5,_⟩,⟨c1,c2,c3,c4,c5,_⟩⟩:=dh b0 p1 p3 hc
    exact ⟨ga hp (partsL_mem.mpr ⟨⟨a1,by omega⟩,a2,by omega⟩) a5,ga hp (partsL_mem.mpr ⟨⟨c1,by omega⟩,c2,by omega⟩) c5⟩
   refine ap (fun σ' H'=>∃ (sv:V),σ'=[some (.ref s),some (.int m),some (.int n),some (.int b),some (.ref tb),some (.ref st),some (.ref ta),some (.int (bW b ks p)),some sv,none]∧((bC b ks p=none∧TrV H' (lfT ks p.1 p.2) sv)∨∃c,bC b ks p=some c∧CutAt b p.1 p.2 H' sv c)∧Same Hx H') (fun R hR=>?_) ?_
   ·have Sx:=S0.keep (fun c o e=>sx _ _ e) (fun c C' d fs e=>sx _ _ e)
    refine ⟨_,rfl,_,rfl,s,ta,b,ks,p.1,p.2,rfl,Sx,k8,hta,fun lf lv Ha hlf hlv sa=>?_⟩
    refine ⟨_,rfl,_,rfl,b,p.1,p.2,ta,rfl,sa _ _ hta,by omega,by omega,b0,fun cl cy Hb hcl pc sb=>?_⟩
    have sab:=sa.trans sb
    refine ⟨_,rfl,lf,cl,tb,lfW ks p.1 p.2,lv,cy,b,p.1,p.2,bP b p.1 p.2,bW b ks,_,rfl,sb _ _ hlf,hcl,pc,sab _ _ ht,fun c hc=>⟨gZ (cutIn c hc).1,gZ (cutIn c hc).2⟩,fun r sv Hc hr hsv sc=>?_⟩
    rw [← ux b0 p p1 p3] at hr
    exact ⟨r,_,rfl,SqT.of hr,rfl,_,_,rfl,_,_,rfl,rfl,hR _ _ ⟨sv,rfl,(by
     change StV b p.1 p.2 Hc lv sv (bC b ks p) at hsv
     cases ec:bC b ks p with
     | none=>rw [ec] at hsv; exact .inl ⟨rfl,(show sv=lv from hsv) ▸ TrV.keep (fun a xs e=>sc _ _ (sb _ _ e)) _ hlv⟩
     | some c=>rw [ec] at hsv; exact .inr ⟨c,rfl,hsv⟩),sab.trans sc⟩⟩
   rintro _ Hy ⟨sv,rfl,hsv,sxy⟩
   have ktu:∀ {Hz:Hp} {d:Addr} {o o':HO} {k:List (List Key×V)},Hz d=some (.dT k)→∀a xs,Hz a=some (.tup xs)→(upd Hz d o) a=some (.tup xs):=fun {Hz d o o' k} hd a xs e=>by
    rw [aj (fun z=>by rw [z,hd] at e; cases e)]; exact e
   have hty:=sxy _ _ ht
   have hsy:=sxy _ _ hs
   refine ap (fun σ' H'=>σ'=[some (.ref s),some (.int m),some (.int n),some (.int b),some (.ref tb),some (.ref st),some (.ref ta),some (.int (bW b ks p)),some sv,none]∧H'=upd Hy tb (.dT (byP (fP b ks ((aM m n).take (i + 1)))))) (fun R hR=>?_) ?_
   ·refine ⟨_,rfl,_,rfl,_,rfl,tb,_,rfl,DPut.t (k:=pk p) hty (sxy _ _ hta) (by unfold byP; rw [List.length_map]; omega),hR _ _ ⟨rfl,?_⟩⟩
    rw [mY (by rw [kF]; exact pnew),List.take_add_one,hp]
    unfold fP
    rw [List.map_append]
    rfl
   rintro _ Hz ⟨rfl,eHz⟩
   have tz:Hz tb=some (.dT (byP (fP b ks ((aM m n).take (i + 1))))):=by rw [eHz]; exact af
   have sz:Hz st=some (.dT (byP ss)):=by rw [eHz,aj (Ne.symm nts)]; exact hsy
   have kz:∀a xs,Hy a=some (.tup xs)→Hz a=some (.tup xs):=fun a xs e=>by rw [eHz,aj (fun z=>by rw [z,hty] at e; cases e)]; exact e
   have s0z:Same H Hz:=fun c o e=>by rw [eHz,aj (am e htb)]; exact sxy _ _ (sx _ _ e)
   have lz:Hz pl=some (.lst ys):=by rw [eHz,aj (fun z=>by rw [z,ht] at hl; cases hl)]; exact sxy _ _ hl
   refine ⟨_,rfl,_,rfl,_,rfl,st,_,rfl,DPut.t (k:=pk p) sz (kz _ _ (sxy _ _ hta)) (by unfold byP; rw [List.length_map]; omega),ss ++ [(p,sv)],_,_,_,rfl,?_,?_,?_,?_,?_,?_,?_⟩
   ·rw [aj nts]; exact tz
   ·rw [mY (by rw [es]; exact pnew)]; exact af
   ·rw [List.map_append,es,List.take_add_one,hp]; rfl
   ·have kw:∀a xs,Hy a=some (.tup xs)→(upd Hz st (.dT (eS (byP ss) (pk p) sv))) a=some (.tup xs):=fun a xs e=>by
     have e':=kz _ _ e
     rw [aj (fun z=>by rw [z,sz] at e'; cases e')]; exact e'
    intro p' v' hm
    rcases List.mem_append.mp hm with hm | hm
    ·rcases (so.keep (fun a xs e=>kw _ _ (sxy _ _ e))) p' v' hm with h | ⟨x,hc,h1,h2,h3,h4⟩
     ·exact .inl h
     ·exact .inr ⟨x,hc,h1,by rw [List.map_append]; exact List.mem_append_left _ h2,by rw [List.map_append]; exact List.mem_append_left _ h3,h4⟩
    ·rw [List.mem_singleton] at hm
     cases hm
     rcases hsv with ⟨ec,hl'⟩ | ⟨c,ec,⟨q',t1,t2,e,c1,c2,c3⟩⟩
     ·exact .inl ⟨ec,TrV.keep kw _ hl'⟩
     ·have hc:=mW ec
      obtain ⟨⟨_,_,_,_,_,l1⟩,⟨_,_,_,_,_,l2⟩⟩:=dh b0 p1 p3 hc
      obtain ⟨i1,i2⟩:=cutIn c hc
      exact .inr ⟨c,ec,⟨q',t1,t2,e,kw _ _ c1,kw _ _ c2,kw _ _ c3⟩,by rw [List.map_append,es]; exact List.mem_append_left _ i1,by rw [List.map_append,es]; exact List.mem_append_left _ i2,l1,l2⟩
   ·refine Paired.mapP py fun v p ⟨q',e,h⟩=>⟨q',e,?_⟩
    have e':=kz _ _ (sxy _ _ h)
    rw [aj (fun z=>by rw [z,sz] at e'; cases e')]; exact e'
   ·rw [aj (fun z=>by rw [z,sz] at lz; cases lz)]; exact lz
   ·exact fun c o e=>by rw [aj (am e hst)]; exact s0z _ _ e
  ·rintro σ Hx ⟨ss,v6,v7,v8,rfl,ht,hs,es,so,py,hl,sx⟩
   rw [pln,List.take_length] at ht es
   exact hR _ _ ⟨ss,v6,v7,v8,rfl,ht,hs,es,so,sx⟩
 rintro _ H3 ⟨ss,v6,v7,v8,rfl,ht,hs,es,so,s03⟩
 have pmem:((m:Int),(n:Int))∈aM m n:=partsL_mem.mpr ⟨⟨by show (1:Int)≤m; omega,Int.le_refl _⟩,by show (1:Int)≤n; omega,Int.le_refl _⟩
 refine ap (fun σ' H'=>∃pa:Addr,σ'=[some (.ref s),some (.int m),some (.int n),some (.int b),some (.ref tb),some (.ref st),v6,v7,v8,some (.ref pa)]∧H' pa=some (.tup [.int m,.int n])∧Same H3 H') (fun R hR=>?_) ?_
 ·refine ⟨_,rfl,_,rfl,(by show 2≤sizeLine; decide),fun pa hpa=>?_⟩
  obtain ⟨H4,e4,k4,s4⟩:∃H',upd H3 pa (.tup [.int m,.int n])=H'∧H' pa=some (.tup [.int m,.int n])∧Same H3 H':=⟨_,rfl,af,Same.new hpa⟩
  rw [show upd H3 pa _=H4 from e4]
  exact hR _ _ ⟨pa,rfl,k4,s4⟩
 rintro _ H4 ⟨pa,rfl,hpa,s34⟩
 refine ⟨_,rfl,_,rfl,tb,_,rfl,gZ pmem ▸ DGet.t (k:=pk (m,n)) (s34 _ _ ht) hpa,?_⟩
 refine ⟨_,rfl,_,rfl,st,pa,b,ks,ss,((m:Int),(n:Int)),rfl,s34 _ _ hs,hpa,so.keep (fun a xs e=>s34 _ _ e),(by rw [es]; exact pmem),(by show ((m:Int) + n).toNat < 33; omega),fun v5 H5 hv5 s45=>?_⟩
 refine ⟨_,rfl,(by show 3≤sizeLine; decide),fun r hr=>?_⟩
 obtain ⟨H6,e6,k6,s6⟩:∃H',upd H5 r (.tup [.int (bW b ks (m,n)),v5,.ref tb])=H'∧H' r=some (.tup [.int (bW b ks (m,n)),v5,.ref tb])∧Same H5 H':=⟨_,rfl,af,Same.new hr⟩
 rw [show upd H5 r _=H6 from e6]
 have s36:=s34.trans (s45.trans s6)
 exact q r tb v5 H6 htb k6 (s36 _ _ ht) (TrV.keep (fun a xs e=>s6 _ _ e) _ hv5) (s03.trans s36)
end
theorem vk {K:PySem.W.Frag} {H:Hp}:∀ {rs:List V} {ks:List Kd},Tups H rs ks→∃ds,DatVs K H rs ds∧ds.length=rs.length∧PyData.canLayAll0 ds=true∧PyData.depthAll ds≤1
 | _,_,.nil=>⟨[],.nil,rfl,rfl,Nat.zero_le _⟩
 | _,_,.cons ⟨a,e,ha⟩ r=>by
  subst e
  obtain ⟨ds,d1,d2,d3,d4⟩:=vk (K:=K) r
  refine ⟨_ :: ds,.cons (.tup (SqT.of ha) (.cons (.int _) (.cons (.int _) (.cons (.int _) (.cons (.int _) (.cons (.bl _) .nil)))))) d1,by rw [List.length_cons,List.length_cons,d2],?_,?_⟩
  ·simp [PyData.canLayAll0,PyData.canLay0,d3]
  ·simp only [PyData.depthAll,PyData.depth]; omega
theorem vm {ds:List PyData} (d3:PyData.canLayAll0 ds=true) (d4:PyData.depthAll ds≤1):SeqAt.shaped (.list ds)=true∧(ds=[]→PyData.eqv (.list ds) (.list [])=true)∧(ds≠[]→PyData.eqv (.list ds) (.list [])=false):=by
 refine ⟨?_,fun e=>by subst e; exact PySem.SeqAt.eqv_refl _ rfl,fun e=>?_⟩
 ·unfold SeqAt.shaped
  rw [PyData.canLay0,d3,PyData.depth,decide_eq_true (show PyData.depthAll ds + 1≤64 by omega)]; rfl
 ·cases ds with
  | nil=>exact absurd rfl e
  | cons d r=>rfl
def FS (k:Kd) (w h:Int):Bool:=(decide (k.w≤w) && decide (k.h≤h)) || (k.tu && (decide (k.h≤w) && decide (k.w≤h)))
theorem xM {H:Hp} {p:Addr} (h:PotB H p):∃xs,H p=some (.lst xs):=by
 obtain ⟨_,_,_,_,_,e⟩:=h
 exact ⟨_,e⟩
theorem ng {p:Addr} {rs:List V} {ks:List Kd} {H H':Hp} (b:But p H H') (pt:PotB H p) (h:Tups H rs ks):Tups H' rs ks:=by
 obtain ⟨_,hp⟩:=xM pt
 exact Tups.keep (fun x xs e=>b _ _ (fun z=>by rw [z,hp] at e; cases e) e) h
section
variable {P:Program} {w:World} {K:PySem.W.Frag} {mg:Str→Option Value} {base:Heap}
def hI:Sp:=fun vs H Q _=>∃ (p:Addr),vs=[.ref p]∧PotB H p∧∀ (r:Int) (H':Hp),0≤r→r < 10 ^ 60→PotB H' p→But p H H'→Q (.int r) H'
def hJ:Sp:=fun vs H Q _=>∃ (p:Addr),vs=[.ref p]∧PotB H p∧∀ (kl:Addr) (rs:List V) (ks:List Kd) (H':Hp),kl≠p→H kl=none→H' kl=some (.lst rs)→Tups H' rs ks→(∀k∈ks,Good k)→1≤rs.length→rs.length≤8→PotB H' p→But p H H'→Q (.ref kl) H'
def dQ:Sp:=fun vs H Q _=>∃ (p:Addr) (m:Int),vs=[.ref p,.int m]∧PotB H p∧0 < m∧m≤10 ^ 60∧∀ (r:Int) (H':Hp),0≤r→r < m→PotB H' p→But p H H'→Q (.int r) H'
def jr:Sp:=fun vs H Q _=>∃ (p:Addr),vs=[.ref p]∧PotB H p∧∀ (r:Int) (H':Hp),1≤r→r < 10 ^ 60→PotB H' p→But p H H'→Q (.int r) H'
theorem scpot:FnScope ["_law_cell"] ["_law_cell"] (defScope rd):=⟨rfl,rfl,rfl,by decide +kernel,rfl,by decide +kernel,by decide +kernel⟩
theorem vn {f:Addr} {fd:FuncData} (F:Fun K "_law_pot" "_law_pot" rd f fd) (B:Blt mg):FnOk P w K mg base CX0 1 f fd ["_law_cell"] (lA):=by
 refine F.ok scpot (fun vs H Q E h=>?_) (fun cdv A outer s H vs Q E hr h=>?_)
 ·obtain ⟨c,rfl,_⟩:=h
  rfl
 obtain ⟨c,rfl,q⟩:=h
 have nd:=scpot.nd
 refine ⟨_,(@ag _ _ _ (@aq _ _ _ _ (@bp _ _ _ _ (@aa _ _ _ _ _ (@aI _ _ _ _ _ _ _ _ _ (nC rfl) rfl B.max PyProof.Rows.boot_max (@aa _ _ _ _ _ ad (@aa _ _ _ _ _ (@aD _ _ _ _ _ _ _ _ cM (pv 0) (@aD _ _ _ _ _ _ _ _ iV ad ad)) ab rfl) rfl) (by decide) (by decide) rfl rfl) (@aa _ _ _ _ _ (@aD _ _ _ _ _ _ _ _ aS (@aD _ _ _ _ _ _ _ _ fG (@aI _ _ _ _ _ _ _ _ _ qo rfl B.abs PyProof.Rows.boot_abs (@aa _ _ _ _ _ (pv 0) ab rfl) (by decide) (by decide) rfl rfl) ad) ad) ab rfl) rfl)))),?_⟩
 refine ⟨_,rfl,_,_,rfl,rfl,⟨by decide,by decide,by decide⟩,_,_,rfl,rfl,_,_,rfl,_,rfl,_,rfl,_,_,rfl,rfl,(by show (0:Int) < 2147483629; decide),_,_,rfl,rfl,(by show 2≤sizeLine; decide),fun p hp=>?_⟩
 refine q p _ hp ⟨_,_,?_,?_,?_,af⟩ (Same.new hp)
 ·split <;> omega
 ·have:=Int.emod_nonneg (if c < 0 then -c else c) (show (2147483629:Int)≠0 by decide)
  omega
 ·have:=Int.emod_lt_of_pos (if c < 0 then -c else c) (show (0:Int) < 2147483629 by decide)
  omega
theorem scdraw:FnScope ["_law_pot_here","_law_many","_law_number"] ["_law_pot_here","_law_many"] (defScope kh):=⟨rfl,rfl,rfl,by decide +kernel,rfl,by decide +kernel,by decide +kernel⟩
theorem tT {f:Addr} {fd:FuncData} (F:Fun K "_law_draw" "_law_draw" kh f fd) (B:Blt mg):FnOk P w K mg base CX0 1 f fd ["_law_pot_here","_law_many"] (dv):=by
 refine F.ok scdraw (fun vs H Q E h=>?_) (fun cdv A outer s H vs Q E hr h=>?_)
 ·obtain ⟨p,m,rfl,_⟩:=h
  rfl
 obtain ⟨p,m,rfl,⟨a,b,a0,b0,b1,hp⟩,m0,m1,q⟩:=h
 have nd:=scdraw.nd
 refine ⟨_,(@ae _ _ _ _ _ (@aH _ _ _ _ _ _ _ _ (@ax _ _ _ _ _ _ _ _ dE (@av _ _ _ _ _ _ _ ix_list (pv 0) ad (fun _ _=>rfl)) ad (aw _)) (@ae _ _ _ _ _ (@aG _ _ 2 _ _ _ _ nd rfl (Or.inl rfl) (@aD _ _ _ _ _ _ _ _ fG (@av _ _ _ _ _ _ _ ix_list (pv 0) ad (fun _ _=>rfl)) (pv 1)) rfl (Or.inl rfl)) (@ae _ _ _ _ _ (@bi _ _ _ _ _ _ (@aD _ _ _ _ _ _ _ _ jG (@av _ _ _ _ _ _ _ ix_list (pv 0) ad (fun _ _=>rfl)) (pv 1)) (qj (pv 0) ad gz) rfl rfl rfl) (@ag _ _ _ (@aq _ _ _ _ (pv 2))))) au) (@ae _ _ _ _ _ (@bi _ _ _ _ _ _ (@aD _ _ _ _ _ _ _ _ fG (@aD _ _ _ _ _ _ _ _ iU (@av _ _ _ _ _ _ _ ix_list (pv 0) ad (fun _ _=>rfl)) ad) ad) (qj (pv 0) ad gz) rfl rfl rfl) (@ag _ _ _ (@aq _ _ _ _ (@aD _ _ _ _ _ _ _ _ fG (@aD _ _ _ _ _ _ _ _ jG (@aD _ _ _ _ _ _ _ _ fG (@aD _ _ _ _ _ _ _ _ iU (@av _ _ _ _ _ _ _ ix_list (pv 0) ad (fun _ _=>rfl)) (@av _ _ _ _ _ _ _ ix_list (pv 0) ad (fun _ _=>rfl))) ad) ad) (pv 1)))))),?_⟩
 have at0:atI [V.int a,V.int b] 0=some (.int a):=rfl
 have at1:atI [V.int a,V.int b] 1=some (.int b):=rfl
 refine ⟨_,rfl,p,_,_,_,rfl,rfl,SqL.of hp,at0,_,_,rfl,rfl,_,rfl,?_⟩
 refine cC (fun c=>?_) (fun c=>?_)
 ·have c':0 < a:=of_decide_eq_true c
  refine ⟨_,rfl,p,_,_,_,rfl,rfl,SqL.of hp,at0,_,rfl,_,_,rfl,rfl,m0,?_⟩
  refine ⟨_,rfl,p,_,_,_,rfl,rfl,SqL.of hp,at0,_,rfl,_,_,rfl,rfl,⟨m0,m1⟩,_,rfl,p,_,_,_,rfl,rfl,hp,rfl,?_⟩
  refine ⟨_,rfl,q _ _ (Int.emod_nonneg _ (by omega)) (Int.emod_lt_of_pos _ m0) ⟨a / m,b,Int.ediv_nonneg a0 (by omega),b0,b1,af⟩ But.upd⟩
 ·refine ⟨_,rfl,p,_,_,_,rfl,rfl,SqL.of hp,at1,_,_,rfl,rfl,.inr ⟨by decide,by decide⟩,_,_,rfl,rfl,(by show (0:Int) < 2147483647; decide),_,rfl,p,_,_,_,rfl,rfl,hp,rfl,?_⟩
  have n0:0≤(b * 48271) % 2147483647:=Int.emod_nonneg _ (by decide)
  have n1:(b * 48271) % 2147483647 < 2147483647:=Int.emod_lt_of_pos _ (by decide)
  refine ⟨_,rfl,p,_,_,_,rfl,rfl,SqL.of af,rfl,_,rfl,p,_,_,_,rfl,rfl,SqL.of af,rfl,_,_,rfl,rfl,.inl ⟨by omega,by omega⟩,_,_,rfl,rfl,(by show (0:Int) < 2147483629; decide),_,_,rfl,rfl,⟨by decide,by decide⟩,_,rfl,_,_,rfl,rfl,m0,?_⟩
  exact q _ _ (Int.emod_nonneg _ (by omega)) (Int.emod_lt_of_pos _ m0) ⟨a,_,a0,n0,by omega,af⟩ But.upd
theorem scgreatm:FnScope ["_law_pot_here","_law_many","_law_found","_law_k"] ["_law_pot_here","_law_many"] (defScope gL):=⟨rfl,rfl,rfl,by decide +kernel,rfl,by decide +kernel,by decide +kernel⟩
theorem oF {f:Addr} {fd:FuncData} (F:Fun K "_law_great" "_law_great" gL f fd) (B:Blt mg) (DD:Dn P w K mg base "_law_draw" ["_law_pot_here","_law_many"] 1 (dv)):FnOk P w K mg base CX0 2 f fd ["_law_pot_here","_law_many"] (dQ):=by
 refine F.ok scgreatm (fun vs H Q E h=>?_) (fun cdv A outer s H vs Q E hr h=>?_)
 ·obtain ⟨p,m,rfl,_⟩:=h
  rfl
 obtain ⟨p,m,rfl,pt,m0,m1,q⟩:=h
 have nd:=scgreatm.nd
 refine ⟨_,(@ae _ _ _ _ _ (@aH _ _ _ _ _ _ _ _ (@ax _ _ _ _ _ _ _ _ dE (@av _ _ _ _ _ _ _ ix_list (pv 0) ad (fun _ _=>rfl)) ad (aw _)) (@ag _ _ _ (@aq _ _ _ _ (@ar _ _ _ _ _ _ _ _ _ _ DD hr rfl (@aa _ _ _ _ _ (pv 0) (@aa _ _ _ _ _ (pv 1) ab rfl) rfl) (by decide) rfl rfl))) au) (@ae _ _ _ _ _ (@aG _ _ 2 _ _ _ _ nd rfl (Or.inl rfl) ad rfl (Or.inl rfl)) (@ae _ _ _ _ _ (@cz _ _ _ _ _ _ _ _ PassesOwn.never rfl (iq rfl B.range (@aa _ _ _ _ _ ad ab rfl)) (ai (i:=3) nd rfl (Or.inl rfl)) (@ag _ _ _ (@aG _ _ 2 _ _ _ _ nd rfl (Or.inl rfl) (@aD _ _ _ _ _ _ _ _ aS (@aD _ _ _ _ _ _ _ _ iU (pv 2) ad) (@ar _ _ _ _ _ _ _ _ _ _ DD hr rfl (@aa _ _ _ _ _ (pv 0) (@aa _ _ _ _ _ ad ab rfl) rfl) (by decide) rfl rfl)) rfl (Or.inl rfl))) (by intro _; rfl)) (@ag _ _ _ (@aq _ _ _ _ (@aD _ _ _ _ _ _ _ _ fG (pv 2) (pv 1))))))),?_⟩
 obtain ⟨a,b,a0,b0,b1,hp⟩:=id pt
 have at0:atI [V.int a,V.int b] 0=some (.int a):=rfl
 refine ap (fun σ' H'=>σ'=[some (.ref p),some (.int m),none,none]∧H=H') (fun R hR=>?_) ?_
 ·refine ⟨_,rfl,p,_,_,_,rfl,rfl,SqL.of hp,at0,_,_,rfl,rfl,_,rfl,?_⟩
  refine cC (fun c=>?_) (fun c=>?_)
  ·exact ⟨_,rfl,_,rfl,p,m,rfl,pt,m0,m1,fun r H1 r0 r1 pt1 b1'=>q r H1 r0 r1 pt1 b1'⟩
  ·exact hR _ _ ⟨rfl,rfl⟩
 rintro _ _ ⟨rfl,rfl⟩
 refine ap (fun σ' H'=>σ'=[some (.ref p),some (.int m),some (.int 0),none]∧H=H') (fun R hR=>hR _ _ ⟨rfl,rfl⟩) ?_
 rintro _ _ ⟨rfl,rfl⟩
 refine ap (fun σ' H'=>∃ (f:Int) (v3:Option V),σ'=[some (.ref p),some (.int m),some (.int f),v3]∧PotB H' p∧But p H H') (fun R hR=>?_) ?_
 ·refine ⟨_,rfl,by decide,by decide,iw (lo:=0) (n:=7) (fun i σ' H'=>∃ (f:Int) (v3:Option V),σ'=[some (.ref p),some (.int m),some (.int f),v3]∧PotB H' p∧But p H H') ⟨0,none,rfl,pt,fun _ _ _ e=>e⟩ ?_ (fun σ H1 ⟨f,v3,e,pt1,b1⟩=>hR _ _ ⟨f,v3,e,pt1,b1⟩)⟩
  rintro i σ H1 hi ⟨f,v3,rfl,pt1,b1⟩
  exact ⟨_,rfl,_,_,rfl,rfl,.inr ⟨by decide,by decide⟩,_,rfl,p,_,rfl,pt1,by decide,by decide,fun r H2 r0 r1 pt2 b2=>⟨_,_,rfl,rfl,_,_,rfl,pt2,b1.trans b2⟩⟩
 rintro _ H1 ⟨f,v3,rfl,pt1,b1⟩
 exact ⟨_,rfl,_,rfl,_,_,rfl,rfl,m0,q _ _ (Int.emod_nonneg _ (by omega)) (Int.emod_lt_of_pos _ m0) pt1 b1⟩
theorem scbladeb:FnScope ["_law_pot_here","_law_way"] ["_law_pot_here"] (defScope gM):=⟨rfl,rfl,rfl,by decide +kernel,rfl,by decide +kernel,by decide +kernel⟩
theorem oG {f:Addr} {fd:FuncData} (F:Fun K "_law_blade" "_law_blade" gM f fd) (B:Blt mg) (DD:Dn P w K mg base "_law_draw" ["_law_pot_here","_law_many"] 1 (dv)) (DG:Dn P w K mg base "_law_great" ["_law_pot_here","_law_many"] 2 (dQ)):FnOk P w K mg base CX0 3 f fd ["_law_pot_here"] (hI):=by
 refine F.ok scbladeb (fun vs H Q E h=>?_) (fun cdv A outer s H vs Q E hr h=>?_)
 ·obtain ⟨p,rfl,_⟩:=h
  rfl
 obtain ⟨p,rfl,pt,q⟩:=h
 have nd:=scbladeb.nd
 refine ⟨_,(@ae _ _ _ _ _ (@aG _ _ 1 _ _ _ _ nd rfl (Or.inl rfl) (@ar _ _ _ _ _ _ _ _ _ _ DD (hr.mono (by decide)) rfl (@aa _ _ _ _ _ (pv 0) (@aa _ _ _ _ _ ad ab rfl) rfl) (by decide) rfl rfl) rfl (Or.inl rfl)) (@ae _ _ _ _ _ (@aH _ _ _ _ _ _ _ _ (@ax _ _ _ _ _ _ _ _ cB (pv 1) ad (aw _)) (@ag _ _ _ (@aq _ _ _ _ (@ar _ _ _ _ _ _ _ _ _ _ DG hr rfl (@aa _ _ _ _ _ (pv 0) (@aa _ _ _ _ _ (@aD _ _ _ _ _ _ _ _ iV ad ad) ab rfl) rfl) (by decide) rfl rfl))) au) (@ag _ _ _ (@aq _ _ _ _ (@ar _ _ _ _ _ _ _ _ _ _ DD (hr.mono (by decide)) rfl (@aa _ _ _ _ _ (pv 0) (@aa _ _ _ _ _ (@av _ _ _ _ _ _ _ ix_list (@bp _ _ _ _ (@aa _ _ _ _ _ ad (@aa _ _ _ _ _ ad ab rfl) rfl)) (@bv _ _ _ _ _ _ _ _ _ cP rfl B.int PyProof.Rows.boot_int (@aa _ _ _ _ _ (@bg _ _ _ _ _ _ _ _ dE (pv 1) ad (aw _)) ab rfl) (by decide) (by decide) rfl rfl) (fun _ _=>rfl)) ab rfl) rfl) (by decide) rfl rfl))))),?_⟩
 have e60:(100:Int) < 10 ^ 60:=by decide
 refine ap (fun σ' H'=>∃z:Int,σ'=[some (.ref p),some (.int z)]∧PotB H' p∧But p H H') (fun R hR=>?_) ?_
 ·exact ⟨_,rfl,p,8,rfl,pt,by decide,by decide,fun z H1 z0 z1 pt1 b1=>hR _ _ ⟨z,rfl,pt1,b1⟩⟩
 rintro _ H1 ⟨z,rfl,pt1,b1⟩
 refine ap (fun σ' H'=>σ'=[some (.ref p),some (.int z)]∧H1=H') (fun R hR=>?_) ?_
 ·refine ⟨_,rfl,rfl,_,rfl,?_⟩
  refine cC (fun cc=>?_) (fun cc=>hR _ _ ⟨rfl,rfl⟩)
  exact ⟨_,rfl,_,_,rfl,rfl,⟨by decide,by decide,by decide⟩,p,_,rfl,pt1,(by show (0:Int) < 10 ^ (60:Int).toNat; decide),(by show (10:Int) ^ (60:Int).toNat≤10 ^ 60; decide),fun r H2 r0 r1 pt2 b2=>q r H2 r0 r1 pt2 (b1.trans b2)⟩
 rintro _ _ ⟨rfl,rfl⟩
 refine ⟨_,rfl,?_⟩
 refine ⟨(by show 2≤sizeLine; decide),fun l hl=>?_⟩
 obtain ⟨H2,e2,k2,n2,s2,b2,pt2⟩:=gP (o:=.lst [.int 3,.int 20]) b1 pt1 hl
 rw [show upd H1 l _=H2 from e2]
 refine ⟨_,rfl,_,_,rfl,rfl,.inr ⟨_,rfl,?_⟩⟩
 obtain ⟨nn,hnn,n1,n2'⟩:∃nn:Int,atI [V.int 3,V.int 20] (if decide (4 < z)=true then (1:Int) else 0)=some (.int nn)∧1≤nn∧nn≤20:=by
  by_cases c:(4:Int) < z
  ·exact ⟨20,by rw [decide_eq_true c]; rfl,by decide,by decide⟩
  ·exact ⟨3,by rw [decide_eq_false c]; rfl,by decide,by decide⟩
 exact ⟨l,_,_,_,rfl,rfl,SqL.of k2,hnn,p,nn,rfl,pt2,by omega,by omega,fun r H3 r0 r1 pt3 b3=>q r H3 r0 (by omega) pt3 (b2.trans b3)⟩
theorem scsidec:FnScope ["_law_pot_here","_law_way"] ["_law_pot_here"] (defScope kj):=⟨rfl,rfl,rfl,by decide +kernel,rfl,by decide +kernel,by decide +kernel⟩
theorem rP {f:Addr} {fd:FuncData} (F:Fun K "_law_side" "_law_side" kj f fd) (B:Blt mg) (DD:Dn P w K mg base "_law_draw" ["_law_pot_here","_law_many"] 1 (dv)) (DG:Dn P w K mg base "_law_great" ["_law_pot_here","_law_many"] 2 (dQ)):FnOk P w K mg base CX0 3 f fd ["_law_pot_here"] (jr):=by
 refine F.ok scsidec (fun vs H Q E h=>?_) (fun cdv A outer s H vs Q E hr h=>?_)
 ·obtain ⟨p,rfl,_⟩:=h
  rfl
 obtain ⟨p,rfl,pt,q⟩:=h
 have nd:=scsidec.nd
 refine ⟨_,(@ae _ _ _ _ _ (@aG _ _ 1 _ _ _ _ nd rfl (Or.inl rfl) (@ar _ _ _ _ _ _ _ _ _ _ DD (hr.mono (by decide)) rfl (@aa _ _ _ _ _ (pv 0) (@aa _ _ _ _ _ ad ab rfl) rfl) (by decide) rfl rfl) rfl (Or.inl rfl)) (@ae _ _ _ _ _ (@aH _ _ _ _ _ _ _ _ (@ax _ _ _ _ _ _ _ _ cB (pv 1) ad (aw _)) (@ag _ _ _ (@aq _ _ _ _ (@aD _ _ _ _ _ _ _ _ aS ad (@ar _ _ _ _ _ _ _ _ _ _ DG hr rfl (@aa _ _ _ _ _ (pv 0) (@aa _ _ _ _ _ (@aD _ _ _ _ _ _ _ _ cM (@aD _ _ _ _ _ _ _ _ iV ad ad) ad) ab rfl) rfl) (by decide) rfl rfl)))) au) (@ag _ _ _ (@aq _ _ _ _ (@aD _ _ _ _ _ _ _ _ aS ad (@ar _ _ _ _ _ _ _ _ _ _ DD (hr.mono (by decide)) rfl (@aa _ _ _ _ _ (pv 0) (@aa _ _ _ _ _ (@av _ _ _ _ _ _ _ ix_list (@bp _ _ _ _ (@aa _ _ _ _ _ ad (@aa _ _ _ _ _ ad ab rfl) rfl)) (@bv _ _ _ _ _ _ _ _ _ cP rfl B.int PyProof.Rows.boot_int (@aa _ _ _ _ _ (@bg _ _ _ _ _ _ _ _ dE (pv 1) ad (aw _)) ab rfl) (by decide) (by decide) rfl rfl) (fun _ _=>rfl)) ab rfl) rfl) (by decide) rfl rfl)))))),?_⟩
 have e60:(100:Int) < 10 ^ 60:=by decide
 refine ap (fun σ' H'=>∃z:Int,σ'=[some (.ref p),some (.int z)]∧PotB H' p∧But p H H') (fun R hR=>?_) ?_
 ·exact ⟨_,rfl,p,16,rfl,pt,by decide,by decide,fun z H1 z0 z1 pt1 b1=>hR _ _ ⟨z,rfl,pt1,b1⟩⟩
 rintro _ H1 ⟨z,rfl,pt1,b1⟩
 refine ap (fun σ' H'=>σ'=[some (.ref p),some (.int z)]∧H1=H') (fun R hR=>?_) ?_
 ·refine ⟨_,rfl,rfl,_,rfl,?_⟩
  refine cC (fun cc=>?_) (fun cc=>hR _ _ ⟨rfl,rfl⟩)
  refine ⟨_,rfl,_,_,rfl,rfl,⟨by decide,by decide,by decide⟩,_,_,rfl,rfl,p,_,rfl,pt1,(by show (0:Int) < 10 ^ (60:Int).toNat - 1; decide),(by show (10:Int) ^ (60:Int).toNat - 1≤10 ^ 60; decide),fun r H2 r0 r1 pt2 b2=>⟨_,_,rfl,rfl,q _ H2 (by omega) ?_ pt2 (b1.trans b2)⟩⟩
  have r1:r < 10 ^ 60 - 1:=r1
  show 1 + r < 10 ^ 60
  omega
 rintro _ _ ⟨rfl,rfl⟩
 refine ⟨_,rfl,?_⟩
 refine ⟨(by show 2≤sizeLine; decide),fun l hl=>?_⟩
 obtain ⟨H2,e2,k2,n2,s2,b2,pt2⟩:=gP (o:=.lst [.int 7,.int 18]) b1 pt1 hl
 rw [show upd H1 l _=H2 from e2]
 refine ⟨_,rfl,_,_,rfl,rfl,.inr ⟨_,rfl,?_⟩⟩
 obtain ⟨nn,hnn,n1,n2'⟩:∃nn:Int,atI [V.int 7,V.int 18] (if decide (12 < z)=true then (1:Int) else 0)=some (.int nn)∧1≤nn∧nn≤20:=by
  by_cases c:(12:Int) < z
  ·exact ⟨18,by rw [decide_eq_true c]; rfl,by decide,by decide⟩
  ·exact ⟨7,by rw [decide_eq_false c]; rfl,by decide,by decide⟩
 exact ⟨l,_,_,_,rfl,rfl,SqL.of k2,hnn,p,nn,rfl,pt2,by omega,by omega,fun r H3 r0 r1 pt3 b3=>⟨_,_,rfl,rfl,q _ H3 (by omega) (by omega) pt3 (b2.trans b3)⟩⟩
end
theorem tU {rs:List V} {v:V} (h:rs[rs.length - 1]? = some v) (h0:0 < rs.length):atI rs (-1)=some v:=by
 unfold atI
 rw [show ixN rs.length (-1)=some (rs.length - 1) by unfold ixN; rw [if_neg (by decide),if_pos (by omega)]; congr 1; omega]
 exact h
section
variable {P:Program} {w:World} {K:PySem.W.Frag} {mg:Str→Option Value} {base:Heap}
theorem sckindsb:FnScope ["_law_pot_here","_law_kinds_here","_law_k","_law_wide","_law_high","_law_worth_here"] ["_law_pot_here"] (defScope gN):=⟨rfl,rfl,rfl,by decide +kernel,rfl,by decide +kernel,by decide +kernel⟩
theorem oH {f:Addr} {fd:FuncData} (F:Fun K "_law_kinds" "_law_kinds" gN f fd) (B:Blt mg) (DD:Dn P w K mg base "_law_draw" ["_law_pot_here","_law_many"] 1 (dv)) (DG:Dn P w K mg base "_law_great" ["_law_pot_here","_law_many"] 2 (dQ)) (DS:Dn P w K mg base "_law_side" ["_law_pot_here"] 3 (jr)):FnOk P w K mg base CX0 4 f fd ["_law_pot_here"] (hJ):=by
 refine F.ok sckindsb (fun vs H Q E h=>?_) (fun cdv A outer s H vs Q E hr h=>?_)
 ·obtain ⟨p,rfl,_⟩:=h
  rfl
 obtain ⟨p,rfl,pt,q⟩:=h
 have nd:=sckindsb.nd
 have hu:=hr.units
 refine ⟨_,(@ae _ _ _ _ _ (@aG _ _ 1 _ _ _ _ nd rfl (Or.inl rfl) (@bp _ _ _ _ ab) rfl (Or.inl rfl)) (@ae _ _ _ _ _ (@cz _ _ _ _ _ _ _ _ PassesOwn.never rfl (iq rfl B.range (@aa _ _ _ _ _ (@aD _ _ _ _ _ _ _ _ aS ad (@ar _ _ _ _ _ _ _ _ _ _ DD (hr.mono (by decide)) rfl (@aa _ _ _ _ _ (pv 0) (@aa _ _ _ _ _ (@av _ _ _ _ _ _ _ ix_list (@bp _ _ _ _ (@aa _ _ _ _ _ ad (@aa _ _ _ _ _ ad ab rfl) rfl)) (@bv _ _ _ _ _ _ _ _ _ cP rfl B.int PyProof.Rows.boot_int (@aa _ _ _ _ _ (@bg _ _ _ _ _ _ _ _ cB (@ar _ _ _ _ _ _ _ _ _ _ DD (hr.mono (by decide)) rfl (@aa _ _ _ _ _ (pv 0) (@aa _ _ _ _ _ ad ab rfl) rfl) (by decide) rfl rfl) ad (aw _)) ab rfl) (by decide) (by decide) rfl rfl) (fun _ _=>rfl)) ab rfl) rfl) (by decide) rfl rfl)) ab rfl)) (ai (i:=2) nd rfl (Or.inl rfl)) (@ag _ _ _ (@aH _ _ _ _ _ _ _ _ (PW.pt (qg (@ax _ _ _ _ _ _ _ _ (uU hu) (pv 1) (@bp _ _ _ _ ab) (aw _)) (mr (@ax _ _ _ _ _ _ _ _ cB (@ar _ _ _ _ _ _ _ _ _ _ DD (hr.mono (by decide)) rfl (@aa _ _ _ _ _ (pv 0) (@aa _ _ _ _ _ ad ab rfl) rfl) (by decide) rfl rfl) ad (aw _))))) (@ag _ _ _ (@bG _ _ _ _ (@fU _ _ _ _ _ _ _ _ _ _ _ _ PySem.F.plainAttrs_list PySem.F.slot_list_append PySem.F.type_list_append cq (pv 1) (@aa _ _ _ _ _ (@av _ _ _ _ _ _ _ ix_list (pv 1) (@fR _ _ _ _ _ _ dD ad) (fun _ _=>rfl)) ab rfl) rfl rfl rfl rfl rfl) rfl)) (@ae _ _ _ _ _ (fF rfl nd rfl rfl (i:=3) (j:=4) (by decide) rfl rfl (@aa _ _ _ _ _ (@ar _ _ _ _ _ _ _ _ _ _ DS hr rfl (@aa _ _ _ _ _ (pv 0) ab rfl) (by decide) rfl rfl) (@aa _ _ _ _ _ (@ar _ _ _ _ _ _ _ _ _ _ DS hr rfl (@aa _ _ _ _ _ (pv 0) ab rfl) (by decide) rfl rfl) ab rfl) rfl) rfl) (@ae _ _ _ _ _ (@aG _ _ 5 _ _ _ _ nd rfl (Or.inl rfl) (@ar _ _ _ _ _ _ _ _ _ _ DD (hr.mono (by decide)) rfl (@aa _ _ _ _ _ (pv 0) (@aa _ _ _ _ _ ad ab rfl) rfl) (by decide) rfl rfl) rfl (Or.inl rfl)) (@ae _ _ _ _ _ (@aH _ _ _ _ _ _ _ _ (@ax _ _ _ _ _ _ _ _ cB (@ar _ _ _ _ _ _ _ _ _ _ DD (hr.mono (by decide)) rfl (@aa _ _ _ _ _ (pv 0) (@aa _ _ _ _ _ ad ab rfl) rfl) (by decide) rfl rfl) ad (aw _)) (@ag _ _ _ (@aG _ _ 5 _ _ _ _ nd rfl (Or.inl rfl) (@ar _ _ _ _ _ _ _ _ _ _ DG (hr.mono (by decide)) rfl (@aa _ _ _ _ _ (pv 0) (@aa _ _ _ _ _ (@aD _ _ _ _ _ _ _ _ iV ad ad) ab rfl) rfl) (by decide) rfl rfl) rfl (Or.inl rfl))) au) (@ag _ _ _ (@bG _ _ _ _ (@fU _ _ _ _ _ _ _ _ _ _ _ _ PySem.F.plainAttrs_list PySem.F.slot_list_append PySem.F.type_list_append cq (pv 1) (@aa _ _ _ _ _ (@aB _ _ _ _ _ (@aa _ _ _ _ _ (pv 3) (@aa _ _ _ _ _ (pv 4) (@aa _ _ _ _ _ (pv 5) (@aa _ _ _ _ _ (@ar _ _ _ _ _ _ _ _ _ _ DD (hr.mono (by decide)) rfl (@aa _ _ _ _ _ (pv 0) (@aa _ _ _ _ _ ad ab rfl) rfl) (by decide) rfl rfl) (@aa _ _ _ _ _ (@bg _ _ _ _ _ _ _ _ cB (@ar _ _ _ _ _ _ _ _ _ _ DD (hr.mono (by decide)) rfl (@aa _ _ _ _ _ (pv 0) (@aa _ _ _ _ _ ad ab rfl) rfl) (by decide) rfl rfl) ad (aw _)) ab rfl) rfl) rfl) rfl) rfl)) ab rfl) rfl rfl rfl rfl rfl) rfl))))))) (by intro _; rfl)) (@ag _ _ _ (@aq _ _ _ _ (pv 1))))),?_⟩
 have z4:4096≤sizeLine:=by decide
 have e60:(100:Int) < 10 ^ 60:=by decide
 refine ap (fun σ' H'=>∃kl:Addr,σ'=[some (.ref p),some (.ref kl),none,none,none,none]∧H kl=none∧kl≠p∧H' kl=some (.lst [])∧PotB H' p∧But p H H') (fun R hR=>?_) ?_
 ·refine ⟨by decide,fun kl hkl=>?_⟩
  obtain ⟨H1,e1,k1,n1,s1,b1,pt1⟩:=gP (o:=.lst []) (But.refl (p:=p) (H:=H)) pt hkl
  rw [show upd H kl _=H1 from e1]
  exact hR _ _ ⟨kl,rfl,hkl,n1,k1,pt1,b1⟩
 rintro _ H1 ⟨kl,rfl,hkl,nkp,k1,pt1,b1⟩
 refine ap (fun σ' H'=>∃ (rs:List V) (ks:List Kd) (v2 v3 v4 v5:Option V),σ'=[some (.ref p),some (.ref kl),v2,v3,v4,v5]∧H' kl=some (.lst rs)∧Tups H' rs ks∧(∀k∈ks,Good k)∧1≤rs.length∧rs.length≤8∧PotB H' p∧But2 p kl H1 H') (fun R hR=>?_) ?_
 ·refine ⟨_,rfl,(by show 2≤sizeLine; decide),fun l hl=>?_⟩
  obtain ⟨H2,e2,k2,n2,s2,b2,pt2⟩:=gP (o:=.lst [.int 4,.int 8]) (But.refl (p:=p) (H:=H1)) pt1 hl
  rw [show upd H1 l _=H2 from e2]
  refine ⟨_,rfl,p,8,rfl,pt2,by decide,by decide,fun z H3 z0 z1 pt3 b3=>⟨rfl,.inr ⟨_,rfl,?_⟩⟩⟩
  obtain ⟨nn,hnn,nn1,nn8⟩:∃nn:Int,atI [V.int 4,V.int 8] (if decide (V.int z=V.int 7)=true then (1:Int) else 0)=some (.int nn)∧1≤nn∧nn≤8:=by
   by_cases c:V.int z=V.int 7
   ·exact ⟨8,by rw [decide_eq_true c]; rfl,by decide,by decide⟩
   ·exact ⟨4,by rw [decide_eq_false c]; rfl,by decide,by decide⟩
  refine ⟨l,_,_,_,rfl,rfl,SqL.of (b3 _ _ n2 k2),hnn,p,nn,rfl,pt3,by omega,by omega,fun r H4 r0 r1 pt4 b4=>⟨_,_,rfl,rfl,_,rfl,by omega,by omega,?_⟩⟩
  have b14:=b2.trans (b3.trans b4)
  refine iw (lo:=0) (n:=(1 + r).toNat) (fun i σ' H'=>∃ (rs:List V) (ks:List Kd) (v2 v3 v4 v5:Option V),σ'=[some (.ref p),some (.ref kl),v2,v3,v4,v5]∧H' kl=some (.lst rs)∧Tups H' rs ks∧(∀k∈ks,Good k)∧rs.length=i∧PotB H' p∧But2 p kl H1 H') ⟨[],[],none,none,none,none,rfl,b14 _ _ nkp k1,.nil,(fun k hk=>by simp at hk),rfl,pt4,But2.but b14⟩ ?_ ?_
  ·rintro i σ H5 hi ⟨rs,ks,v2,v3,v4,v5,rfl,hk5,tp5,gk,rl,pt5,b15⟩
   have addK:∀ (Hx:Hp) (t:Addr) (k:Kd),Hx kl=some (.lst rs)→Tups Hx rs ks→Hx t=some (.tup (kdV k))→Good k→PotB Hx p→But2 p kl H1 Hx→(upd Hx kl (.lst (rs ++ [.ref t]))) kl=some (.lst (rs ++ [.ref t]))∧Tups (upd Hx kl (.lst (rs ++ [.ref t]))) (rs ++ [.ref t]) (ks ++ [k])∧(∀k'∈ks ++ [k],Good k')∧(rs ++ [V.ref t]).length=i + 1∧PotB (upd Hx kl (.lst (rs ++ [.ref t]))) p∧But2 p kl H1 (upd Hx kl (.lst (rs ++ [.ref t]))):=fun Hx t k hx tx ht gd px bx=>by
    have kt:∀c xs,Hx c=some (.tup xs)→(upd Hx kl (.lst (rs ++ [.ref t]))) c=some (.tup xs):=fun c xs e=>by
     rw [aj (fun z=>by rw [z,hx] at e; cases e)]; exact e
    refine ⟨af,Paired.app (Tups.keep kt tx) (.cons ⟨t,rfl,kt _ _ ht⟩ .nil),fun k' hk'=>?_,by rw [List.length_append,rl]; rfl,?_,fun c o n1 n2 e=>by rw [aj n2]; exact bx _ _ n1 n2 e⟩
    ·rcases List.mem_append.mp hk' with h | h
     ·exact gk k' h
     ·rw [List.mem_singleton.mp h]; exact gd
    ·obtain ⟨x,y,q1,q2,q3,e⟩:=px
     exact ⟨x,y,q1,q2,q3,by rw [aj (Ne.symm nkp)]; exact e⟩
   obtain ⟨ds,d1,d2,d3,d4⟩:=vk (K:=K) tp5
   refine ⟨_,rfl,by decide,fun el hel=>?_⟩
   obtain ⟨H6,e6,k6,n6,s6,b6,pt6⟩:=gP (o:=.lst []) (But.refl (p:=p) (H:=H5)) pt5 hel
   rw [show upd H5 el _=H6 from e6]
   obtain ⟨ds,d1,d2,d3,d4⟩:=vk (K:=K) (Tups.keep (fun c xs e=>s6 _ _ e) tp5)
   obtain ⟨sh,em,nem⟩:=vm d3 d4
   have hk6:=s6 _ _ hk5
   have tp6:Tups H6 rs ks:=Tups.keep (fun c xs e=>s6 _ _ e) tp5
   have b16:But2 p kl H1 H6:=b15.trans (But2.but b6)
   refine ⟨.list ds,.list [],.lst (SqL.of hk6) d1,.lst (SqL.of k6) .nil,sh,by decide +kernel,_,rfl,?_⟩
   by_cases hr:rs=[]
   ·have:ds=[]:=List.length_eq_zero_iff.mp (by rw [d2,hr]; rfl)
    rw [em this]
    refine az (az ?_)
    have B6:=But.refl (p:=p) (H:=H6)
    refine ap (fun σ' H'=>∃ (w1 h1:Int),σ'=[some (.ref p),some (.ref kl),some (.int (0 + i)),some (.int w1),some (.int h1),v5]∧1≤w1∧w1 < 10 ^ 60∧1≤h1∧h1 < 10 ^ 60∧PotB H' p∧But p H6 H') (fun R hR=>?_) ?_
    ·exact ⟨_,rfl,p,rfl,pt6,fun w1 Ha w0 w60 pa ba=>⟨_,rfl,p,rfl,pa,fun h1 Hb h0 h60 pb bb=>⟨_,_,rfl,hR _ _ ⟨w1,h1,rfl,w0,w60,h0,h60,pb,B6.trans (ba.trans bb)⟩⟩⟩⟩
    rintro _ H7 ⟨w1,h1,rfl,w0,w60,h0,h60,pt7,b7⟩
    refine ap (fun σ' H'=>∃ (x:Int),σ'=[some (.ref p),some (.ref kl),some (.int (0 + i)),some (.int w1),some (.int h1),some (.int x)]∧0≤x∧x < 10 ^ 60∧PotB H' p∧But p H6 H') (fun R hR=>?_) ?_
    ·exact ⟨_,rfl,p,10,rfl,pt7,by decide,by decide,fun x Ha x0 x1 pa ba=>hR _ _ ⟨x,rfl,x0,by omega,pa,b7.trans ba⟩⟩
    rintro _ H8 ⟨x,rfl,x0,x60,pt8,b8⟩
    refine ap (fun σ' H'=>∃ (x:Int),σ'=[some (.ref p),some (.ref kl),some (.int (0 + i)),some (.int w1),some (.int h1),some (.int x)]∧0≤x∧x < 10 ^ 60∧PotB H' p∧But p H6 H') (fun R hR=>?_) ?_
    ·refine ⟨_,rfl,p,4,rfl,pt8,by decide,by decide,fun y Ha y0 y1 pa ba=>⟨rfl,_,rfl,?_⟩⟩
     refine cC (fun cc=>?_) (fun cc=>hR _ _ ⟨x,rfl,x0,x60,pa,b8.trans ba⟩)
     exact ⟨_,rfl,_,_,rfl,rfl,⟨by decide,by decide,by decide⟩,p,_,rfl,pa,(by show (0:Int) < 10 ^ (60:Int).toNat; decide),(by show (10:Int) ^ (60:Int).toNat≤10 ^ 60; decide),fun x' Hb x0' x1' pb bb=>hR _ _ ⟨x',rfl,x0',x1',pb,b8.trans (ba.trans bb)⟩⟩
    clear pt8 b8 x0 x60
    clear x H8
    rintro _ H8 ⟨x,rfl,x0,x60,pt8,b8⟩
    refine ⟨_,rfl,.inl ⟨rfl,_,SqL.of (b8 _ _ nkp hk6)⟩,_,rfl,_,rfl,_,rfl,_,rfl,p,4,rfl,pt8,by decide,by decide,fun y1 Ha y10 y11 pa ba=>⟨_,rfl,p,2,rfl,pa,by decide,by decide,fun y2 Hb y20 y21 pb bb=>⟨rfl,(by show 5≤sizeLine; decide),fun t ht=>?_⟩⟩⟩
    have b6b:=b8.trans (ba.trans bb)
    obtain ⟨H9,e9,k9,n9,s9,b9,pt9⟩:=gP (o:=.tup [.int w1,.int h1,.int x,.int y1,.bl (decide (V.int y2=V.int 1))]) b6b pb ht
    rw [show upd Hb t _=H9 from e9]
    have tp9:Tups H9 rs ks:=ng b9 pt6 tp6
    obtain ⟨a1,a2,a3,a4,a5,a6⟩:=addK H9 t ⟨w1,h1,x,y1,decide (V.int y2=V.int 1)⟩ (b9 _ _ nkp hk6) tp9 k9 ⟨w0,h0,x0,y10,w60,h60,x60,by show y1 < _; omega⟩ pt9 (b16.trans (But2.but b9))
    exact ⟨kl,_,_,rfl,rfl,b9 _ _ nkp hk6,by omega,_,_,_,_,_,_,rfl,a1,a2,a3,a4,a5,a6⟩
   ·have:ds≠[]:=fun z=>hr (List.length_eq_zero_iff.mp (by rw [← d2,z]; rfl))
    rw [nem this]
    refine be ⟨_,rfl,p,8,rfl,pt6,by decide,by decide,fun y Hq y0 y1 pq bq=>⟨rfl,_,rfl,?_⟩⟩
    refine cC (fun cc=>?_) (fun cc=>?_)
    ·have hkq:=bq _ _ nkp hk6
     have tpq:Tups Hq rs ks:=ng bq pt6 tp6
     have rpos:0 < rs.length:=List.length_pos_iff.mpr hr
     obtain ⟨k,hk,a,ea,ha⟩:=Paired.getR tpq (List.getElem?_eq_getElem (show rs.length - 1 < rs.length by omega))
     have hat:atI rs (-1)=some (.ref a):=by
      refine tU ?_ rpos
      rw [← ea]
      exact List.getElem?_eq_getElem _
     obtain ⟨a1,a2,a3,a4,a5,a6⟩:=addK Hq a k hkq tpq ha (gk k (List.mem_of_getElem? hk)) pq (b16.trans (But2.but bq))
     exact ⟨_,rfl,.inl ⟨rfl,_,SqL.of hkq⟩,_,rfl,1,rfl,kl,_,_,_,rfl,rfl,SqL.of hkq,hat,kl,_,_,rfl,rfl,hkq,by omega,_,_,_,_,_,_,rfl,a1,a2,a3,a4,a5,a6⟩
    ·have B6:=bq
     refine ap (fun σ' H'=>∃ (w1 h1:Int),σ'=[some (.ref p),some (.ref kl),some (.int (0 + i)),some (.int w1),some (.int h1),v5]∧1≤w1∧w1 < 10 ^ 60∧1≤h1∧h1 < 10 ^ 60∧PotB H' p∧But p H6 H') (fun R hR=>?_) ?_
     ·exact ⟨_,rfl,p,rfl,pq,fun w1 Ha w0 w60 pa ba=>⟨_,rfl,p,rfl,pa,fun h1 Hb h0 h60 pb bb=>⟨_,_,rfl,hR _ _ ⟨w1,h1,rfl,w0,w60,h0,h60,pb,B6.trans (ba.trans bb)⟩⟩⟩⟩
     rintro _ H7 ⟨w1,h1,rfl,w0,w60,h0,h60,pt7,b7⟩
     refine ap (fun σ' H'=>∃ (x:Int),σ'=[some (.ref p),some (.ref kl),some (.int (0 + i)),some (.int w1),some (.int h1),some (.int x)]∧0≤x∧x < 10 ^ 60∧PotB H' p∧But p H6 H') (fun R hR=>?_) ?_
     ·exact ⟨_,rfl,p,10,rfl,pt7,by decide,by decide,fun x Ha x0 x1 pa ba=>hR _ _ ⟨x,rfl,x0,by omega,pa,b7.trans ba⟩⟩
     rintro _ H8 ⟨x,rfl,x0,x60,pt8,b8⟩
     refine ap (fun σ' H'=>∃ (x:Int),σ'=[some (.ref p),some (.ref kl),some (.int (0 + i)),some (.int w1),some (.int h1),some (.int x)]∧0≤x∧x < 10 ^ 60∧PotB H' p∧But p H6 H') (fun R hR=>?_) ?_
     ·refine ⟨_,rfl,p,4,rfl,pt8,by decide,by decide,fun y Ha y0 y1 pa ba=>⟨rfl,_,rfl,?_⟩⟩
      refine cC (fun cc=>?_) (fun cc=>hR _ _ ⟨x,rfl,x0,x60,pa,b8.trans ba⟩)
      exact ⟨_,rfl,_,_,rfl,rfl,⟨by decide,by decide,by decide⟩,p,_,rfl,pa,(by show (0:Int) < 10 ^ (60:Int).toNat; decide),(by show (10:Int) ^ (60:Int).toNat≤10 ^ 60; decide),fun x' Hb x0' x1' pb bb=>hR _ _ ⟨x',rfl,x0',x1',pb,b8.trans (ba.trans bb)⟩⟩
     clear pt8 b8 x0 x60
     clear x H8
     rintro _ H8 ⟨x,rfl,x0,x60,pt8,b8⟩
     refine ⟨_,rfl,.inl ⟨rfl,_,SqL.of (b8 _ _ nkp hk6)⟩,_,rfl,_,rfl,_,rfl,_,rfl,p,4,rfl,pt8,by decide,by decide,fun y1 Ha y10 y11 pa ba=>⟨_,rfl,p,2,rfl,pa,by decide,by decide,fun y2 Hb y20 y21 pb bb=>⟨rfl,(by show 5≤sizeLine; decide),fun t ht=>?_⟩⟩⟩
     have b6b:=b8.trans (ba.trans bb)
     obtain ⟨H9,e9,k9,n9,s9,b9,pt9⟩:=gP (o:=.tup [.int w1,.int h1,.int x,.int y1,.bl (decide (V.int y2=V.int 1))]) b6b pb ht
     rw [show upd Hb t _=H9 from e9]
     have tp9:Tups H9 rs ks:=ng b9 pt6 tp6
     obtain ⟨a1,a2,a3,a4,a5,a6⟩:=addK H9 t ⟨w1,h1,x,y1,decide (V.int y2=V.int 1)⟩ (b9 _ _ nkp hk6) tp9 k9 ⟨w0,h0,x0,y10,w60,h60,x60,by show y1 < _; omega⟩ pt9 (b16.trans (But2.but b9))
     exact ⟨kl,_,_,rfl,rfl,b9 _ _ nkp hk6,by omega,_,_,_,_,_,_,rfl,a1,a2,a3,a4,a5,a6⟩
  ·rintro σ H5 ⟨rs,ks,v2,v3,v4,v5,rfl,hk5,tp5,gk,rl,pt5,b15⟩
   exact hR _ _ ⟨rs,ks,v2,v3,v4,v5,rfl,hk5,tp5,gk,by omega,by omega,pt5,b15⟩
 rintro _ H2 ⟨rs,ks,v2,v3,v4,v5,rfl,hk2,tp2,gk,r1,r8,pt2,b12⟩
 exact ⟨_,rfl,q kl rs ks H2 nkp hkl hk2 tp2 gk r1 r8 pt2 (fun c o n e=>b12 _ _ n (am e hkl) (b1 _ _ n e))⟩
end
section
variable {P:Program} {w:World} {K:PySem.W.Frag} {mg:Str→Option Value} {base:Heap}
def hU:Sp:=fun vs H Q _=>∃ (p:Addr),vs=[.ref p]∧PotB H p∧∀ (t:Addr) (m n:Nat) (H':Hp),H' t=some (.tup [.int (m:Int),.int (n:Int)])→1≤m→m≤16→1≤n→n≤16→PotB H' p→But p H H'→Q (.ref t) H'
theorem scplatec:FnScope ["_law_pot_here","_law_way","_law_wide","_law_high"] ["_law_pot_here"] (defScope gO):=⟨rfl,rfl,rfl,by decide +kernel,rfl,by decide +kernel,by decide +kernel⟩
theorem oI {f:Addr} {fd:FuncData} (F:Fun K "_law_plate" "_law_plate" gO f fd) (B:Blt mg) (DD:Dn P w K mg base "_law_draw" ["_law_pot_here","_law_many"] 1 (dv)):FnOk P w K mg base CX0 2 f fd ["_law_pot_here"] (hU):=by
 refine F.ok scplatec (fun vs H Q E h=>?_) (fun cdv A outer s H vs Q E hr h=>?_)
 ·obtain ⟨p,rfl,_⟩:=h
  rfl
 obtain ⟨p,rfl,pt,q⟩:=h
 have nd:=scplatec.nd
 refine ⟨_,(@ae _ _ _ _ _ (@aG _ _ 1 _ _ _ _ nd rfl (Or.inl rfl) (@ar _ _ _ _ _ _ _ _ _ _ DD hr rfl (@aa _ _ _ _ _ (pv 0) (@aa _ _ _ _ _ ad ab rfl) rfl) (by decide) rfl rfl) rfl (Or.inl rfl)) (@ae _ _ _ _ _ (fF rfl nd rfl rfl (i:=2) (j:=3) (by decide) rfl rfl (@aa _ _ _ _ _ (@aD _ _ _ _ _ _ _ _ aS ad (@ar _ _ _ _ _ _ _ _ _ _ DD hr rfl (@aa _ _ _ _ _ (pv 0) (@aa _ _ _ _ _ (@av _ _ _ _ _ _ _ ix_list (@bp _ _ _ _ (@aa _ _ _ _ _ ad (@aa _ _ _ _ _ ad ab rfl) rfl)) (@bv _ _ _ _ _ _ _ _ _ cP rfl B.int PyProof.Rows.boot_int (@aa _ _ _ _ _ (@bg _ _ _ _ _ _ _ _ dE (pv 1) ad (aw _)) ab rfl) (by decide) (by decide) rfl rfl) (fun _ _=>rfl)) ab rfl) rfl) (by decide) rfl rfl)) (@aa _ _ _ _ _ (@aD _ _ _ _ _ _ _ _ aS ad (@ar _ _ _ _ _ _ _ _ _ _ DD hr rfl (@aa _ _ _ _ _ (pv 0) (@aa _ _ _ _ _ ad ab rfl) rfl) (by decide) rfl rfl)) ab rfl) rfl) rfl) (@ae _ _ _ _ _ (@aH _ _ _ _ _ _ _ _ (@ax _ _ _ _ _ _ _ _ cB (pv 1) ad (aw _)) (@ag _ _ _ (@aq _ _ _ _ (@aB _ _ _ _ _ (@aa _ _ _ _ _ (pv 3) (@aa _ _ _ _ _ (pv 2) ab rfl) rfl)))) au) (@ag _ _ _ (@aq _ _ _ _ (@aB _ _ _ _ _ (@aa _ _ _ _ _ (pv 2) (@aa _ _ _ _ _ (pv 3) ab rfl) rfl))))))),?_⟩
 have e60:(100:Int) < 10 ^ 60:=by decide
 refine ap (fun σ' H'=>∃z:Int,σ'=[some (.ref p),some (.int z),none,none]∧PotB H' p∧But p H H') (fun R hR=>?_) ?_
 ·exact ⟨_,rfl,p,16,rfl,pt,by decide,by decide,fun z H1 z0 z1 pt1 b1=>hR _ _ ⟨z,rfl,pt1,b1⟩⟩
 rintro _ H1 ⟨z,rfl,pt1,b1⟩
 refine ap (fun σ' H'=>∃m n:Nat,σ'=[some (.ref p),some (.int z),some (.int (m:Int)),some (.int (n:Int))]∧1≤m∧m≤16∧1≤n∧n≤16∧PotB H' p∧But p H H') (fun R hR=>?_) ?_
 ·refine ⟨_,rfl,(by show 2≤sizeLine; decide),fun l hl=>?_⟩
  obtain ⟨H2,e2,k2,n2,s2,b2,pt2⟩:=gP (o:=.lst [.int 7,.int 16]) b1 pt1 hl
  rw [show upd H1 l _=H2 from e2]
  refine ⟨_,rfl,_,_,rfl,rfl,.inr ⟨_,rfl,?_⟩⟩
  obtain ⟨nn,hnn,n1,n2'⟩:∃nn:Int,atI [V.int 7,V.int 16] (if decide (13 < z)=true then (1:Int) else 0)=some (.int nn)∧1≤nn∧nn≤16:=by
   by_cases c:(13:Int) < z
   ·exact ⟨16,by rw [decide_eq_true c]; rfl,by decide,by decide⟩
   ·exact ⟨7,by rw [decide_eq_false c]; rfl,by decide,by decide⟩
  refine ⟨l,_,_,_,rfl,rfl,SqL.of k2,hnn,p,nn,rfl,pt2,by omega,by omega,fun r1 H3 r10 r11 pt3 b3=>⟨_,_,rfl,rfl,_,rfl,p,7,rfl,pt3,by decide,by decide,fun r2 H4 r20 r21 pt4 b4=>⟨_,_,rfl,rfl,_,_,rfl,hR _ _ ⟨(1 + r1).toNat,(1 + r2).toNat,?_,by omega,by omega,by omega,by omega,pt4,b2.trans (b3.trans b4)⟩⟩⟩⟩
  rw [show (((1 + r1).toNat:Nat):Int)=1 + r1 by omega,show (((1 + r2).toNat:Nat):Int)=1 + r2 by omega]; rfl
 clear pt1 b1
 clear H1
 rintro _ H1 ⟨m,n,rfl,m1,m16,n1,n16,pt1,b1⟩
 refine ap (fun σ' H'=>σ'=[some (.ref p),some (.int z),some (.int (m:Int)),some (.int (n:Int))]∧H1=H') (fun R hR=>?_) ?_
 ·refine ⟨_,rfl,rfl,_,rfl,?_⟩
  refine cC (fun cc=>?_) (fun cc=>hR _ _ ⟨rfl,rfl⟩)
  refine ⟨_,rfl,_,rfl,(by show 2≤sizeLine; decide),fun t ht=>?_⟩
  obtain ⟨H4,e4,k4,n4,s4,b4,pt4⟩:=gP (o:=.tup [.int (n:Int),.int (m:Int)]) b1 pt1 ht
  rw [show upd H1 t _=H4 from e4]
  exact q t n m H4 k4 n1 n16 m1 m16 pt4 b4
 rintro _ _ ⟨rfl,rfl⟩
 refine ⟨_,rfl,_,rfl,(by show 2≤sizeLine; decide),fun t ht=>?_⟩
 obtain ⟨H4,e4,k4,n4,s4,b4,pt4⟩:=gP (o:=.tup [.int (m:Int),.int (n:Int)]) b1 pt1 ht
 rw [show upd H1 t _=H4 from e4]
 exact q t m n H4 k4 m1 m16 n1 n16 pt4 b4
end
def bu (ks:List Kd):Tr→Int
 | .rest=>0
 | .piece i c _ _=>wq ks (i,c)
 | .cut _ _ l r=>bu ks l + bu ks r
theorem xN {ks:List Kd} (g:∀k∈ks,Good k) (q:Nat×Bool):0≤wq ks q:=by
 unfold wq
 cases e:ks[q.1]? with
 | none=>exact Int.le_refl _
 | some k=>exact (g k (List.mem_of_getElem? e)).wo
theorem fz {ks:List Kd} (g:∀k∈ks,Good k):∀t:Tr,0≤bu ks t
 | .rest=>Int.le_refl _
 | .piece .. => xN g _
 | .cut _ _ l r=>by
  have h1:=fz g l
  have h2:=fz g r
  show 0≤bu ks l + bu ks r
  omega
theorem nh (ks:List Kd) (L:List (Nat×Bool)):∀ (l:List (Nat×Bool)),(∀q∈l,q∈L)→∀m:Int×Tr,(m.1=bu ks m.2∧(m.2=.rest∨∃q∈L,m.2=.piece q.1 q.2 0 0))→((l.foldl (lfF ks) m).1=bu ks (l.foldl (lfF ks) m).2∧((l.foldl (lfF ks) m).2=.rest∨∃q∈L,(l.foldl (lfF ks) m).2=.piece q.1 q.2 0 0))
 | [],_,_,h=>h
 | q :: l,hl,m,h=>by
  refine nh ks L l (fun x hx=>hl x (List.mem_cons_of_mem _ hx)) (lfF ks m q) ?_
  unfold lfF
  split
  ·exact ⟨rfl,.inr ⟨q,hl q List.mem_cons_self,rfl⟩⟩
  ·exact h
def okZ (b:Int) (ks:List Kd):Int→Int→Tr→Prop
 | _,_,.rest=>True
 | w,h,.piece i c x y=>x=0∧y=0∧∃k,ks[i]? = some k∧(c=false∨aW k=true)∧lI k c w h=true
 | w,h,.cut dn q l r=>(dn,q)∈bP b w h∧okZ b ks (aO w h (dn,q)).1 (aO w h (dn,q)).2 l∧okZ b ks (aP b w h (dn,q)).1 (aP b w h (dn,q)).2 r
theorem tV (b:Int) (ks:List Kd) (w h:Int):okZ b ks w h (lfT ks w h)∧bu ks (lfT ks w h)=lfW ks w h:=by
 obtain ⟨h1,h2⟩:=nh ks _ ((lyK ks 0).filter (dO ks w h)) (fun q hq=>hq) (0,.rest) ⟨rfl,.inl rfl⟩
 have e:(lfP ks ((lyK ks 0).filter (dO ks w h))).1=lfW ks w h:=mU ks _
 refine ⟨?_,h1.symm.trans e⟩
 rcases h2 with h2 | ⟨q,hq,h2⟩
 ·rw [show lfT ks w h=.rest from h2]; exact True.intro
 ·rw [show lfT ks w h=.piece q.1 q.2 0 0 from h2]
  obtain ⟨hm,hf⟩:=List.mem_filter.mp hq
  obtain ⟨_,k,hk,hc⟩:=jl hm
  rw [Nat.sub_zero] at hk
  refine ⟨rfl,rfl,k,hk,hc,?_⟩
  unfold dO at hf
  simp only [hk] at hf
  exact hf
theorem ni (g:Bool×Int→Int):∀ (l:List (Bool×Int)) (m:Int×Option (Bool×Int)) (x:Int),(match m.2 with | none=>m.1=x | some c=>m.1=g c)→(match (l.foldl (stF g) m).2 with | none=>(l.foldl (stF g) m).1=x | some c=>(l.foldl (stF g) m).1=g c)
 | [],_,_,h=>h
 | c :: l,m,x,h=>by
  refine ni g l (stF g m c) x ?_
  unfold stF
  by_cases hc:m.1 < g c
  ·rw [if_pos hc]
  ·rw [if_neg hc]; exact h
theorem lQ {b:Int} {ks:List Kd} (b0:0≤b):∀ (n:Nat) (p:Int×Int),msr p < n→1≤p.1→1≤p.2→okZ b ks p.1 p.2 (bT b ks n p)∧bu ks (bT b ks n p)=bW b ks p
 | 0,_,h,_,_=>absurd h (Nat.not_lt_zero _)
 | n + 1,p,h,p1,p2=>by
  have inv:=ni (fun c=>bW b ks (aO p.1 p.2 c) + bW b ks (aP b p.1 p.2 c)) (bP b p.1 p.2) (lfW ks p.1 p.2,none) (lfW ks p.1 p.2) rfl
  have e1:(stP (fun c=>bW b ks (aO p.1 p.2 c) + bW b ks (aP b p.1 p.2 c)) (bP b p.1 p.2) (lfW ks p.1 p.2)).1=bW b ks p:=by
   rw [ux b0 p p1 p2]
   exact jn _ _ _
  have e1:((bP b p.1 p.2).foldl (stF fun c=>bW b ks (aO p.1 p.2 c) + bW b ks (aP b p.1 p.2 c)) (lfW ks p.1 p.2,none)).1=bW b ks p:=e1
  show okZ b ks p.1 p.2 (match bC b ks p with
   | none=>lfT ks p.1 p.2
   | some c=>.cut c.1 c.2 (bT b ks n (aO p.1 p.2 c)) (bT b ks n (aP b p.1 p.2 c)))∧bu ks (match bC b ks p with
   | none=>lfT ks p.1 p.2
   | some c=>.cut c.1 c.2 (bT b ks n (aO p.1 p.2 c)) (bT b ks n (aP b p.1 p.2 c)))=bW b ks p
  cases hc:bC b ks p with
  | none =>
   have hc':((bP b p.1 p.2).foldl (stF fun c=>bW b ks (aO p.1 p.2 c) + bW b ks (aP b p.1 p.2 c)) (lfW ks p.1 p.2,none)).2=none:=hc
   rw [hc'] at inv
   obtain ⟨a1,a2⟩:=tV b ks p.1 p.2
   exact ⟨a1,a2.trans (inv.symm.trans e1)⟩
  | some c =>
   have hc':((bP b p.1 p.2).foldl (stF fun c=>bW b ks (aO p.1 p.2 c) + bW b ks (aP b p.1 p.2 c)) (lfW ks p.1 p.2,none)).2=some c:=hc
   rw [hc'] at inv
   have cm:c∈bP b p.1 p.2:=mW hc
   obtain ⟨⟨g1,g2,g3,g4,g5,g6⟩,⟨k1,k2,k3,k4,k5,k6⟩⟩:=dh b0 p1 p2 cm
   have em:msr (p.1,p.2)=msr p:=rfl
   obtain ⟨a1,a2⟩:=lQ b0 n (aO p.1 p.2 c) (by omega) g1 g2
   obtain ⟨c1,c2⟩:=lQ b0 n (aP b p.1 p.2 c) (by omega) k1 k2
   refine ⟨⟨cm,a1,c1⟩,?_⟩
   show bu ks _ + bu ks _=_
   rw [a2,c2,← e1]
   exact inv.symm
theorem js {b:Int} {ks:List Kd}:∀ (t:Tr) (w h:Int),okZ b ks w h t→okT b ks w h t
 | .rest,_,_,_=>trivial
 | .piece i c x y,w,h,⟨hx,hy,k,hk,hc,hf⟩=>by
  obtain ⟨f1,f2⟩:=Bool.and_eq_true_iff.mp hf
  have f1:=of_decide_eq_true f1
  have f2:=of_decide_eq_true f2
  refine ⟨k,hk,?_,by omega,by omega,by omega,by omega⟩
  unfold mP
  rcases hc with rfl | ht
  ·split <;> simp
  ·rw [if_pos ht]; cases c <;> simp
 | .cut dn q l r,w,h,⟨cm,h1,h2⟩=>by
  obtain ⟨q1,q2⟩:=fN cm
  have a1:=js l _ _ h1
  have a2:=js r _ _ h2
  refine ⟨q1,?_⟩
  cases dn with
  | true=>rw [if_pos rfl]; exact ⟨q2,a1,a2⟩
  | false=>rw [if_neg Bool.false_ne_true]; exact ⟨q2,a1,a2⟩
theorem hV {b:Int} {ks:List Kd} (b0:0≤b):∀ (t:Tr) (w h:Int),1≤w→1≤h→okT b ks w h t→(lvN t:Int)≤w * h
 | .rest,w,h,w1,h1,_=>by
  have:=Int.mul_le_mul w1 h1 (by decide) (by omega)
  exact this
 | .piece ..,w,h,w1,h1,_=>by
  have:=Int.mul_le_mul w1 h1 (by decide) (by omega)
  exact this
 | .cut dn p l r,w,h,w1,h1,⟨p1,ok⟩=>by
  show ((lvN l + lvN r:Nat):Int)≤w * h
  cases dn with
  | true =>
   rw [if_pos rfl] at ok
   obtain ⟨o1,o2,o3⟩:=ok
   have a1:=hV b0 l p h p1 h1 o2
   have a2:=hV b0 r (w - p - b) h (by omega) h1 o3
   have e:p * h + (w - p - b) * h=(w - b) * h:=by rw [← Int.add_mul]; congr 1; omega
   have e2:(w - b) * h≤w * h:=Int.mul_le_mul_of_nonneg_right (by omega) (by omega)
   omega
  | false =>
   rw [if_neg Bool.false_ne_true] at ok
   obtain ⟨o1,o2,o3⟩:=ok
   have a1:=hV b0 l w p w1 p1 o2
   have a2:=hV b0 r w (h - p - b) w1 (by omega) o3
   have e:w * p + w * (h - p - b)=w * (h - b):=by rw [← Int.mul_add]; congr 1; omega
   have e2:w * (h - b)≤w * h:=Int.mul_le_mul_of_nonneg_left (by omega) (by omega)
   omega
theorem jt:∀t:Tr,szT t + 1=2 * lvN t
 | .rest=>rfl
 | .piece .. => rfl
 | .cut _ _ l r=>by
  have h1:=jt l
  have h2:=jt r
  show szT l + szT r + 1 + 1=2 * (lvN l + lvN r)
  omega
theorem nj (f:Nat→Int) (a:Nat):∀n,a < n→((List.range n).map fun k=>if a == k then f k else 0).sum=f a
 | 0,h=>absurd h (Nat.not_lt_zero _)
 | n + 1,h=>by
  rw [List.range_succ,List.map_append,List.sum_append]
  have tl:([n].map fun k=>if a == k then f k else 0).sum=if a == n then f n else 0:=by simp
  rw [tl]
  by_cases e:a=n
  ·subst e
   have z:((List.range a).map fun k=>if a == k then f k else 0)=(List.range a).map fun _=>(0:Int):=List.map_congr_left fun k hk=>by
    rw [if_neg (by have:=List.mem_range.mp hk; simp; omega)]
   rw [z,if_pos (by simp)]
   have:((List.range a).map fun _=>(0:Int)).sum=0:=by
    generalize List.range a=l
    induction l with
    | nil=>rfl
    | cons x l ih=>rw [List.map_cons,List.sum_cons,ih]; rfl
   rw [this]; omega
  ·rw [nj f a n (by omega),if_neg (by simpa using e)]; omega
theorem kG {α:Type} (f g:α→Int):∀l:List α,(l.map fun k=>f k + g k).sum=(l.map f).sum + (l.map g).sum
 | []=>rfl
 | x :: l=>by
  rw [List.map_cons,List.map_cons,List.map_cons,List.sum_cons,List.sum_cons,List.sum_cons,kG f g l]; omega
theorem kH (n:Nat) (f:Nat→Int):∀ps:List Pce,(∀p∈ps,p.k < n)→((List.range n).map fun k=>((ps.filter fun p=>p.k == k).length:Int) * f k).sum=(ps.map fun p=>f p.k).sum
 | [],_=>by
  generalize List.range n=l
  induction l with
  | nil=>rfl
  | cons x l ih=>rw [List.map_cons,List.sum_cons,ih]; simp
 | p :: ps,h=>by
  have ih:=kH n f ps (fun q hq=>h q (List.mem_cons_of_mem _ hq))
  rw [List.map_cons,List.sum_cons,← ih,← nj f p.k n (h p List.mem_cons_self),← kG]
  congr 1
  refine List.map_congr_left fun k _=>?_
  rw [List.filter_cons]
  split
  ·rw [List.length_cons,Int.natCast_add,Int.add_mul]; simp; omega
  ·omega
theorem tW (ks:List Kd) (ps:List Pce) (h:∀p∈ps,p.k < ks.length):(((cg ps ks.length).zip ks).map fun z=>z.1 * z.2.wo).sum=(ps.map fun p=>wq ks (p.k,p.c)).sum:=by
 have e:(((cg ps ks.length).zip ks).map fun z=>z.1 * z.2.wo)=(List.range ks.length).map fun k=>((ps.filter fun p=>p.k == k).length:Int) * wq ks (k,false):=by
  apply List.ext_getElem?
  intro i
  rw [List.getElem?_map,List.getElem?_map]
  by_cases hi:i < ks.length
  ·have hz:((cg ps ks.length).zip ks)[i]? = some (((ps.filter fun p=>p.k == i).length:Int),ks[i]):=List.getElem?_zip_eq_some.mpr ⟨ft hi,List.getElem?_eq_getElem hi⟩
   rw [List.getElem?_range hi,hz]
   show some _=some _
   congr 1
   unfold wq
   simp only [List.getElem?_eq_getElem hi]
  ·rw [List.getElem?_eq_none (by rw [List.length_zip]; omega),List.getElem?_eq_none (by rw [List.length_range]; omega)]; rfl
 rw [e,kH _ (fun k=>wq ks (k,false)) ps h]
 rfl
theorem dR (b:Int) (ks:List Kd):∀ (t:Tr) (x y w h:Int),(((lvs b t x y w h).filterMap lfQ).map fun p=>wq ks (p.k,p.c)).sum=bu ks t
 | .rest,_,_,_,_=>rfl
 | .piece i c u v,x,y,w,h=>by
  show wq ks (i,c) + 0=wq ks (i,c)
  omega
 | .cut true p l r,x,y,w,h=>by
  rw [lvs,List.filterMap_append,List.map_append,List.sum_append,dR b ks r,dR b ks l]
  show _=bu ks l + bu ks r
  omega
 | .cut false p l r,x,y,w,h=>by
  rw [lvs,List.filterMap_append,List.map_append,List.sum_append,dR b ks r,dR b ks l]
  show _=bu ks l + bu ks r
  omega
theorem lR {b:Int} {ks:List Kd} {t:Tr} {w h:Int} (ok:okT b ks w h t):(((cg (pcs b t w h) ks.length).zip ks).map fun z=>z.1 * z.2.wo).sum=bu ks t:=by
 rw [tW ks _ (fun p hp=>rF ok hp)]
 exact dR b ks t 0 0 w h
theorem vo {K:PySem.W.Frag}:PySem.W.kitOne K (.type "int") (.type "int")=some true:=by kernel_rfl
theorem vp {K:PySem.W.Frag}:PySem.W.kitOne K (.type "int") (.type "bool")=some false:=by kernel_rfl
theorem vq {K:PySem.W.Frag}:PySem.W.kitOne K (.type "bool") (.type "bool")=some true:=by kernel_rfl
theorem vw {K:PySem.W.Frag}:PySem.W.kitOne K (.type "tuple") (.type "tuple")=some true:=by kernel_rfl
theorem vx {K:PySem.W.Frag}:PySem.W.kitOne K (.type "str") (.type "str")=some true:=by kernel_rfl
theorem kI {t:Tr} (h:dpt t≤60):SeqAt.shaped (toD t)=true:=by
 unfold SeqAt.shaped
 rw [fv,decide_eq_true (by have:=dg t; omega)]; rfl
theorem vy (t:Tr):PyData.eqv (toD t) (.tuple [])=false:=by cases t <;> rfl
theorem tX:∀t:Tr,t≠.rest→PyData.eqv (toD t) (.tuple [.str "rest"])=false
 | .rest,h=>absurd rfl h
 | .piece ..,_=>by
  show (PyData.eqv (.str "piece") (.str "rest") && false)=false
  rw [Bool.and_false]
 | .cut dn p l r,_=>by
  show (PyData.eqv (.str (if dn=true then "down" else "across")) (.str "rest") && false)=false
  rw [Bool.and_false]
section
variable {P:Program} {w:World} {K:PySem.W.Frag} {mg:Str→Option Value} {base:Heap}
def ce (n:Nat):Sp:=fun vs H Q _=>∃ (b:Int) (kl:Addr) (v:V) (rs:List V) (ks:List Kd) (w h:Int) (t:Tr),vs=[.int b,.ref kl,.int w,.int h,v]∧H kl=some (.lst rs)∧Tups H rs ks∧rs.length≤8∧(∀k∈ks,Good k)∧TrV H t v∧okZ b ks w h t∧dpt t≤60∧dpt t < n∧0≤b∧1≤w∧1≤h∧∀H',Same H H'→Q (.int (bu ks t)) H'
def di:Sp:=fun vs H Q _=>∃i l:Int,vs=[.int i,.int l]∧Q (.bl (decide (l≤i))) H
def fA:Sp:=fun vs H Q _=>∃ (kl pa:Addr) (rs:List V) (ks:List Kd) (w h:Int) (i:Nat) (c:Bool) (k:Kd),vs=[.ref kl,.int w,.int h,.ref pa]∧H kl=some (.lst rs)∧Tups H rs ks∧rs.length≤8∧H pa=some (.tup [.str "piece",.int (i:Int),.bl c,.int 0,.int 0])∧ks[i]? = some k∧(c=false∨aW k=true)∧lI k c w h=true∧Q (.int k.wo) H
theorem scwholel:FnScope ["_law_number","_law_least"] ["_law_number","_law_least"] (defScope fh):=⟨rfl,rfl,rfl,by decide +kernel,rfl,by decide +kernel,by decide +kernel⟩
theorem oJ {f:Addr} {fd:FuncData} (F:Fun K "_law_whole" "_law_whole" fh f fd) (B:Blt mg):FnOk P w K mg base CX0 1 f fd ["_law_number","_law_least"] (di):=by
 refine F.ok scwholel (fun vs H Q E h=>?_) (fun cdv A outer s H vs Q E hr h=>?_)
 ·obtain ⟨i,l,rfl,_⟩:=h
  rfl
 obtain ⟨i,l,rfl,q⟩:=h
 have nd:=scwholel.nd
 refine ⟨_,(@ag _ _ _ (@aq _ _ _ _ (cx (@aI _ _ _ _ _ _ _ _ _ aT rfl B.isi PyProof.Rows.boot_isinstance (@aa _ _ _ _ _ (pv 0) (@aa _ _ _ _ _ (bE (v:=.ty "int") rfl B.int PyProof.Rows.boot_int rfl) ab rfl) rfl) (by decide) (by decide) rfl rfl) (cx (kQ (@aI _ _ _ _ _ _ _ _ _ aT rfl B.isi PyProof.Rows.boot_isinstance (@aa _ _ _ _ _ (pv 0) (@aa _ _ _ _ _ (bE (v:=.ty "bool") rfl B.bool PyProof.Rows.boot_bool rfl) ab rfl) rfl) (by decide) (by decide) rfl rfl)) (dj (@bg _ _ _ _ _ _ _ _ jB (pv 0) (pv 1) (aw _))))))),?_⟩
 refine ⟨_,rfl,_,_,_,_,_,rfl,.int i,rfl,vo,_,rfl,be ?_⟩
 refine ⟨_,rfl,_,_,_,_,_,rfl,.int i,rfl,vp,_,rfl,_,rfl,be ?_⟩
 exact ⟨_,rfl,_,rfl,_,_,rfl,rfl,q⟩
theorem scpiecew:FnScope ["_law_kinds_here","_law_wide","_law_high","_law_tree","_law_own_wide","_law_own_high","_law_worth_here","_law_wanted","_law_turns"] ["_law_kinds_here","_law_wide","_law_high","_law_tree"] (defScope bZ):=⟨rfl,rfl,rfl,by decide +kernel,rfl,by decide +kernel,by decide +kernel⟩
theorem oK {f:Addr} {fd:FuncData} (F:Fun K "_law_piece_worth" "_law_piece_worth" bZ f fd) (B:Blt mg) (DW:Dn P w K mg base "_law_whole" ["_law_number","_law_least"] 1 (di)):FnOk P w K mg base CX0 2 f fd ["_law_kinds_here","_law_wide","_law_high","_law_tree"] (fA):=by
 refine F.ok scpiecew (fun vs H Q E h=>?_) (fun cdv A outer s H vs Q E hr h=>?_)
 ·obtain ⟨kl,pa,rs,ks,w1,h1,i,c,k,rfl,_⟩:=h
  rfl
 obtain ⟨kl,pa,rs,ks,w1,h1,i,c,k,rfl,hk0,tp,r8,hpa,hi,hc,hf,q⟩:=h
 have nd:=scpiecew.nd
 refine ⟨_,(@ae _ _ _ _ _ (@aH _ _ _ _ _ _ _ _ (PW.pt (bh (@ax _ _ _ _ _ _ _ _ eE (@aI _ _ _ _ _ _ _ _ _ bj rfl B.len PySem.boot_len (@aa _ _ _ _ _ (pv 3) ab rfl) (by decide) (by decide) rfl rfl) ad (aw _)) (bh (@aL _ _ _ _ (@aE _ _ _ (@ar _ _ _ _ _ _ _ _ _ _ DW hr rfl (@aa _ _ _ _ _ (@av _ _ _ _ _ _ _ ix_tup (pv 3) ad (fun _ _=>rfl)) (@aa _ _ _ _ _ ad ab rfl) rfl) (by decide) rfl rfl) (by intro _; rfl))) (bh (@ax _ _ _ _ _ _ _ _ jB (@av _ _ _ _ _ _ _ ix_tup (pv 3) ad (fun _ _=>rfl)) (@aI _ _ _ _ _ _ _ _ _ bj rfl B.len PySem.boot_len (@aa _ _ _ _ _ (pv 0) ab rfl) (by decide) (by decide) rfl rfl) (aw _)) (bo (@aL _ _ _ _ (@aE _ _ _ (@aI _ _ _ _ _ _ _ _ _ aT rfl B.isi PyProof.Rows.boot_isinstance (@aa _ _ _ _ _ (@av _ _ _ _ _ _ _ ix_tup (pv 3) ad (fun _ _=>rfl)) (@aa _ _ _ _ _ (bE (v:=.ty "bool") rfl B.bool PyProof.Rows.boot_bool rfl) ab rfl) rfl) (by decide) (by decide) rfl rfl) (by intro _; rfl)))))))) (@ag _ _ _ (@aq _ _ _ _ (@fR _ _ _ _ _ _ dD ad))) au) (@ae _ _ _ _ _ (@bi _ _ _ _ _ _ (@av _ _ _ _ _ _ _ ix_list (pv 0) (@av _ _ _ _ _ _ _ ix_tup (pv 3) ad (fun _ _=>rfl)) (fun _ _=>rfl)) (aU rfl (ah (ai (i:=4) nd rfl (Or.inl rfl)) (ah (ai (i:=5) nd rfl (Or.inl rfl)) (ah (ai (i:=6) nd rfl (Or.inl rfl)) (ah (ai (i:=7) nd rfl (Or.inl rfl)) (ah (ai (i:=8) nd rfl (Or.inl rfl)) aK)))))) rfl rfl rfl) (@ae _ _ _ _ _ (@aH _ _ _ _ _ _ _ _ (@aE _ _ _ (@av _ _ _ _ _ _ _ ix_tup (pv 3) ad (fun _ _=>rfl)) (by intro _; rfl)) (@ag _ _ _ (fF rfl nd rfl rfl (i:=4) (j:=5) (by decide) rfl rfl (@aa _ _ _ _ _ (pv 5) (@aa _ _ _ _ _ (pv 4) ab rfl) rfl) rfl)) au) (@ae _ _ _ _ _ (@aH _ _ _ _ _ _ _ _ (PW.pt (bh (PW.pt (qg (@aE _ _ _ (@av _ _ _ _ _ _ _ ix_tup (pv 3) ad (fun _ _=>rfl)) (by intro _; rfl)) (mr (PW.pt (bh (@aL _ _ _ _ (@aE _ _ _ (pv 8) (by intro _; rfl))) (bo (@ax _ _ _ _ _ _ _ _ cB (pv 4) (pv 5) (aw _)))))))) (bh (@aL _ _ _ _ (@aE _ _ _ (@ar _ _ _ _ _ _ _ _ _ _ DW hr rfl (@aa _ _ _ _ _ (@av _ _ _ _ _ _ _ ix_tup (pv 3) ad (fun _ _=>rfl)) (@aa _ _ _ _ _ ad ab rfl) rfl) (by decide) rfl rfl) (by intro _; rfl))) (bo (@aL _ _ _ _ (@aE _ _ _ (@ar _ _ _ _ _ _ _ _ _ _ DW hr rfl (@aa _ _ _ _ _ (@av _ _ _ _ _ _ _ ix_tup (pv 3) ad (fun _ _=>rfl)) (@aa _ _ _ _ _ ad ab rfl) rfl) (by decide) rfl rfl) (by intro _; rfl))))))) (@ag _ _ _ (@aq _ _ _ _ (@fR _ _ _ _ _ _ dD ad))) au) (@ae _ _ _ _ _ (@aH _ _ _ _ _ _ _ _ (PW.pt (bh (@ax _ _ _ _ _ _ _ _ dE (@aD _ _ _ _ _ _ _ _ aS (@av _ _ _ _ _ _ _ ix_tup (pv 3) ad (fun _ _=>rfl)) (pv 4)) (pv 1) (aw _)) (bo (@ax _ _ _ _ _ _ _ _ dE (@aD _ _ _ _ _ _ _ _ aS (@av _ _ _ _ _ _ _ ix_tup (pv 3) ad (fun _ _=>rfl)) (pv 5)) (pv 2) (aw _))))) (@ag _ _ _ (@aq _ _ _ _ (@fR _ _ _ _ _ _ dD ad))) au) (@ag _ _ _ (@aq _ _ _ _ (pv 6)))))))),?_⟩
 have il:i < ks.length:=(List.getElem?_eq_some_iff.mp hi).1
 have rl:=Paired.length tp
 have lk:(rs.length:Int)=ks.length:=by rw [rl]
 obtain ⟨vv,hvv,ak,rfl,hak⟩:=Paired.getL tp hi
 have hak:H ak=some (.tup [.int k.w,.int k.h,.int k.wo,.int k.wa,.bl k.tu]):=hak
 have hat:atI rs (i:Int)=some (.ref ak):=aY (by omega) (by rw [Int.toNat_natCast]; exact hvv)
 refine ap (fun σ' H'=>σ'=[some (.ref kl),some (.int w1),some (.int h1),some (.ref pa),none,none,none,none,none]∧H=H') (fun R hR=>?_) ?_
 ·refine ⟨_,rfl,pa,_,rfl,.inr (SqT.of hpa),rfl,_,rfl,az ?_⟩
  refine ⟨_,rfl,pa,_,1,_,rfl,rfl,SqT.of hpa,rfl,i,0,rfl,_,rfl,?_⟩
  rw [show decide ((0:Int)≤(i:Int))=true from decide_eq_true (by omega)]
  refine az ⟨_,rfl,pa,_,1,_,rfl,rfl,SqT.of hpa,rfl,_,rfl,kl,_,rfl,.inl (SqL.of hk0),_,_,rfl,rfl,_,rfl,?_⟩
  rw [show decide ((rs.length:Int)≤(i:Int))=false from decide_eq_false (by omega)]
  exact az ⟨_,rfl,pa,_,2,_,rfl,rfl,SqT.of hpa,rfl,_,_,_,_,_,rfl,.bl c,rfl,vq,_,rfl,az (hR _ _ ⟨rfl,rfl⟩)⟩
 rintro _ _ ⟨rfl,rfl⟩
 refine ap (fun σ' H'=>σ'=[some (.ref kl),some (.int w1),some (.int h1),some (.ref pa),some (.int k.w),some (.int k.h),some (.int k.wo),some (.int k.wa),some (.bl k.tu)]∧H=H') (fun R hR=>?_) ?_
 ·exact ⟨_,rfl,_,rfl,pa,_,1,_,rfl,rfl,SqT.of hpa,rfl,kl,_,_,_,rfl,rfl,SqL.of hk0,hat,ak,_,rfl,SqT.of hak,rfl,_,_,rfl,_,_,rfl,_,_,rfl,_,_,rfl,_,_,rfl,rfl,hR _ _ ⟨rfl,rfl⟩⟩
 rintro _ _ ⟨rfl,rfl⟩
 refine ap (fun σ' H'=>σ'=[some (.ref kl),some (.int w1),some (.int h1),some (.ref pa),some (.int (sd1 k c)),some (.int (sd2 k c)),some (.int k.wo),some (.int k.wa),some (.bl k.tu)]∧H=H') (fun R hR=>?_) ?_
 ·refine ⟨_,rfl,pa,_,2,_,rfl,rfl,SqT.of hpa,rfl,_,rfl,?_⟩
  cases c with
  | true=>exact be ⟨_,rfl,_,rfl,_,_,rfl,hR _ _ ⟨rfl,rfl⟩⟩
  | false=>exact az (hR _ _ ⟨rfl,rfl⟩)
 rintro _ _ ⟨rfl,rfl⟩
 refine ap (fun σ' H'=>σ'=[some (.ref kl),some (.int w1),some (.int h1),some (.ref pa),some (.int (sd1 k c)),some (.int (sd2 k c)),some (.int k.wo),some (.int k.wa),some (.bl k.tu)]∧H=H') (fun R hR=>?_) ?_
 ·have z01:decide ((0:Int)≤0)=true:=rfl
  have tail:∀ {A B:Prop},B→B:=fun h=>h
  refine ⟨_,rfl,pa,_,2,_,rfl,rfl,SqT.of hpa,rfl,_,rfl,?_⟩
  cases c with
  | false =>
   refine az (az ?_)
   refine ⟨_,rfl,pa,_,3,_,rfl,rfl,SqT.of hpa,rfl,0,0,rfl,_,rfl,az ?_⟩
   exact ⟨_,rfl,pa,_,4,_,rfl,rfl,SqT.of hpa,rfl,0,0,rfl,_,rfl,az (hR _ _ ⟨rfl,rfl⟩)⟩
  | true =>
   have ht:aW k=true:=hc.resolve_left (fun z=>by cases z)
   unfold aW at ht
   obtain ⟨ht1,ht2⟩:=Bool.and_eq_true_iff.mp ht
   refine be ⟨_,rfl,_,rfl,?_⟩
   rw [ht1]
   refine az ⟨_,rfl,_,rfl,rfl,_,rfl,?_⟩
   rw [show decide (V.int (sd1 k true)=V.int (sd2 k true))=false from decide_eq_false (fun z=>by
    have z:k.h=k.w:=V.int.inj z
    rw [z] at ht2
    simp at ht2)]
   refine az ?_
   refine ⟨_,rfl,pa,_,3,_,rfl,rfl,SqT.of hpa,rfl,0,0,rfl,_,rfl,az ?_⟩
   exact ⟨_,rfl,pa,_,4,_,rfl,rfl,SqT.of hpa,rfl,0,0,rfl,_,rfl,az (hR _ _ ⟨by rw [ht1],rfl⟩)⟩
 rintro _ _ ⟨rfl,rfl⟩
 obtain ⟨f1,f2⟩:=Bool.and_eq_true_iff.mp hf
 have f1:=of_decide_eq_true f1
 have f2:=of_decide_eq_true f2
 refine ap (fun σ' H'=>σ'=[some (.ref kl),some (.int w1),some (.int h1),some (.ref pa),some (.int (sd1 k c)),some (.int (sd2 k c)),some (.int k.wo),some (.int k.wa),some (.bl k.tu)]∧H=H') (fun R hR=>?_) ?_
 ·refine ⟨_,rfl,pa,_,3,_,rfl,rfl,SqT.of hpa,rfl,_,rfl,_,_,rfl,rfl,_,rfl,_,_,rfl,rfl,_,rfl,?_⟩
  rw [show decide (w1 < 0 + sd1 k c)=false from decide_eq_false (by omega)]
  refine az ⟨_,rfl,pa,_,4,_,rfl,rfl,SqT.of hpa,rfl,_,rfl,_,_,rfl,rfl,_,rfl,_,_,rfl,rfl,_,rfl,?_⟩
  rw [show decide (h1 < 0 + sd2 k c)=false from decide_eq_false (by omega)]
  exact az (hR _ _ ⟨rfl,rfl⟩)
 rintro _ _ ⟨rfl,rfl⟩
 exact ⟨_,rfl,q⟩
theorem scwortht:FnScope ["_law_blade_here","_law_kinds_here","_law_wide","_law_high","_law_tree","_law_behind","_law_some","_law_found"] ["_law_blade_here","_law_kinds_here","_law_wide","_law_high","_law_tree"] (defScope dJ):=⟨rfl,rfl,rfl,by decide +kernel,rfl,by decide +kernel,by decide +kernel⟩
theorem oM {f:Addr} {fd:FuncData} (F:Fun K "_law_worth" "_law_worth" dJ f fd) (n:Nat) (B:Blt mg) (hst:mg "str" = none) (DW:Dn P w K mg base "_law_whole" ["_law_number","_law_least"] 1 (di)) (DPW:Dn P w K mg base "_law_piece_worth" ["_law_kinds_here","_law_wide","_law_high","_law_tree"] 2 (fA)) (DT:Dn P w K mg base "_law_worth" ["_law_blade_here","_law_kinds_here","_law_wide","_law_high","_law_tree"] (3 + n) (ce n)):FnOk P w K mg base CX0 (3 + (n + 1)) f fd ["_law_blade_here","_law_kinds_here","_law_wide","_law_high","_law_tree"] (ce (n + 1)):=by
 refine F.ok scwortht (fun vs H Q E h=>?_) (fun cdv A outer s H vs Q E hr h=>?_)
 ·obtain ⟨b,kl,v,rs,ks,w1,h1,t,rfl,_⟩:=h
  rfl
 obtain ⟨b,kl,v,rs,ks,w1,h1,t,rfl,hk0,tp,r8,gk,hv,okl,hd60,hn,b0,w0,h0,q⟩:=h
 have nd:=scwortht.nd
 have hu:=hr.units
 refine ⟨_,(@ae _ _ _ _ _ (@aH _ _ _ _ _ _ _ _ (PW.pt (bh (@aL _ _ _ _ (@aE _ _ _ (@aI _ _ _ _ _ _ _ _ _ aT rfl B.isi PyProof.Rows.boot_isinstance (@aa _ _ _ _ _ (pv 4) (@aa _ _ _ _ _ (bE (v:=.ty "tuple") rfl B.tuple PyProof.Rows.boot_tuple rfl) ab rfl) rfl) (by decide) (by decide) rfl rfl) (by intro _; rfl))) (bh (@ax _ _ _ _ _ _ _ _ (lj hu) (pv 4) (@aB _ _ _ _ _ ab) (aw _)) (bo (@aL _ _ _ _ (@aE _ _ _ (@aI _ _ _ _ _ _ _ _ _ aT rfl B.isi PyProof.Rows.boot_isinstance (@aa _ _ _ _ _ (@av _ _ _ _ _ _ _ ix_tup (pv 4) ad (fun _ _=>rfl)) (@aa _ _ _ _ _ (bE (v:=.ty "str") rfl hst PyProof.Rows.boot_str rfl) ab rfl) rfl) (by decide) (by decide) rfl rfl) (by intro _; rfl))))))) (@ag _ _ _ (@aq _ _ _ _ (@fR _ _ _ _ _ _ dD ad))) au) (@ae _ _ _ _ _ (@aH _ _ _ _ _ _ _ _ (@ax _ _ _ _ _ _ _ _ (lj hu) (pv 4) (@aB _ _ _ _ _ (@aa _ _ _ _ _ fD ab rfl)) (aw _)) (@ag _ _ _ (@aq _ _ _ _ ad)) au) (@ae _ _ _ _ _ (@aH _ _ _ _ _ _ _ _ (@ax _ _ _ _ _ _ _ _ cB (@av _ _ _ _ _ _ _ ix_tup (pv 4) ad (fun _ _=>rfl)) fD (aw _)) (@ag _ _ _ (@aq _ _ _ _ (@ar _ _ _ _ _ _ _ _ _ _ DPW (hr.mono (show 2≤3 + n by omega)) rfl (@aa _ _ _ _ _ (pv 1) (@aa _ _ _ _ _ (pv 2) (@aa _ _ _ _ _ (pv 3) (@aa _ _ _ _ _ (pv 4) ab rfl) rfl) rfl) rfl) (by decide) rfl rfl))) au) (@ae _ _ _ _ _ (@aH _ _ _ _ _ _ _ _ (PW.pt (bh (@ax _ _ _ _ _ _ _ _ eK (@av _ _ _ _ _ _ _ ix_tup (pv 4) ad (fun _ _=>rfl)) (@bp _ _ _ _ (@aa _ _ _ _ _ fD (@aa _ _ _ _ _ fD ab rfl) rfl)) rfl) (bh (@ax _ _ _ _ _ _ _ _ eE (@aI _ _ _ _ _ _ _ _ _ bj rfl B.len PySem.boot_len (@aa _ _ _ _ _ (pv 4) ab rfl) (by decide) (by decide) rfl rfl) ad (aw _)) (bo (@aL _ _ _ _ (@aE _ _ _ (@ar _ _ _ _ _ _ _ _ _ _ DW (hr.mono (show 1≤3 + n by omega)) rfl (@aa _ _ _ _ _ (@av _ _ _ _ _ _ _ ix_tup (pv 4) ad (fun _ _=>rfl)) (@aa _ _ _ _ _ ad ab rfl) rfl) (by decide) rfl rfl) (by intro _; rfl))))))) (@ag _ _ _ (@aq _ _ _ _ (@fR _ _ _ _ _ _ dD ad))) au) (@ae _ _ _ _ _ (@aG _ _ 5 _ _ _ _ nd rfl (Or.inl rfl) (@aD _ _ _ _ _ _ _ _ aS (@av _ _ _ _ _ _ _ ix_tup (pv 4) ad (fun _ _=>rfl)) (pv 0)) rfl (Or.inl rfl)) (@ae _ _ _ _ _ (@aH _ _ _ _ _ _ _ _ (@ax _ _ _ _ _ _ _ _ jB (pv 5) (@av _ _ _ _ _ _ _ ix_list (@bp _ _ _ _ (@aa _ _ _ _ _ (pv 2) (@aa _ _ _ _ _ (pv 3) ab rfl) rfl)) (@bv _ _ _ _ _ _ _ _ _ cP rfl B.int PyProof.Rows.boot_int (@aa _ _ _ _ _ (@bg _ _ _ _ _ _ _ _ cB (@av _ _ _ _ _ _ _ ix_tup (pv 4) ad (fun _ _=>rfl)) fD (aw _)) ab rfl) (by decide) (by decide) rfl rfl) (fun _ _=>rfl)) (aw _)) (@ag _ _ _ (@aq _ _ _ _ (@fR _ _ _ _ _ _ dD ad))) au) (@ae _ _ _ _ _ (@aH _ _ _ _ _ _ _ _ (@ax _ _ _ _ _ _ _ _ cB (@av _ _ _ _ _ _ _ ix_tup (pv 4) ad (fun _ _=>rfl)) fD (aw _)) (@ag _ _ _ (@aG _ _ 6 _ _ _ _ nd rfl (Or.inl rfl) (@bp _ _ _ _ (@aa _ _ _ _ _ (@aB _ _ _ _ _ (@aa _ _ _ _ _ (@av _ _ _ _ _ _ _ ix_tup (pv 4) ad (fun _ _=>rfl)) (@aa _ _ _ _ _ (pv 3) (@aa _ _ _ _ _ (@av _ _ _ _ _ _ _ ix_tup (pv 4) ad (fun _ _=>rfl)) ab rfl) rfl) rfl)) (@aa _ _ _ _ _ (@aB _ _ _ _ _ (@aa _ _ _ _ _ (@aD _ _ _ _ _ _ _ _ cM (pv 2) (pv 5)) (@aa _ _ _ _ _ (pv 3) (@aa _ _ _ _ _ (@av _ _ _ _ _ _ _ ix_tup (pv 4) ad (fun _ _=>rfl)) ab rfl) rfl) rfl)) ab rfl) rfl)) rfl (Or.inl rfl))) (@ag _ _ _ (@aG _ _ 6 _ _ _ _ nd rfl (Or.inl rfl) (@bp _ _ _ _ (@aa _ _ _ _ _ (@aB _ _ _ _ _ (@aa _ _ _ _ _ (pv 2) (@aa _ _ _ _ _ (@av _ _ _ _ _ _ _ ix_tup (pv 4) ad (fun _ _=>rfl)) (@aa _ _ _ _ _ (@av _ _ _ _ _ _ _ ix_tup (pv 4) ad (fun _ _=>rfl)) ab rfl) rfl) rfl)) (@aa _ _ _ _ _ (@aB _ _ _ _ _ (@aa _ _ _ _ _ (pv 2) (@aa _ _ _ _ _ (@aD _ _ _ _ _ _ _ _ cM (pv 3) (pv 5)) (@aa _ _ _ _ _ (@av _ _ _ _ _ _ _ ix_tup (pv 4) ad (fun _ _=>rfl)) ab rfl) rfl) rfl)) ab rfl) rfl)) rfl (Or.inl rfl)))) (@ae _ _ _ _ _ (gl (i:=7) (own:=["_law_own_wide","_law_own_high","_law_part"]) (cs:=["_law_blade_here","_law_kinds_here"]) (cap:=[0,1]) rfl nd rfl rfl rfl (bJ (pv 6)) (bn (sc:=defScope dJ) (N:=["_law_blade_here","_law_kinds_here","_law_wide","_law_high","_law_tree","_law_behind","_law_some","_law_found"]) rfl rfl (by decide +kernel)) (fun _ _ _ _ _=>qU K rfl rfl (by show List.Nodup (["_law_own_wide","_law_own_high","_law_part","_law_blade_here","_law_kinds_here"]:List Str) ; decide +kernel) rfl rfl rfl rfl rfl rfl) (fun _ _ _ _ _=>bA) (fun _ _ _ _ _=>(@ar _ _ _ _ _ _ _ _ _ _ DT hr rfl (@aa _ _ _ _ _ (pv 3) (@aa _ _ _ _ _ (pv 4) (@aa _ _ _ _ _ (pv 0) (@aa _ _ _ _ _ (pv 1) (@aa _ _ _ _ _ (pv 2) ab rfl) rfl) rfl) rfl) rfl) (by decide) rfl rfl))) (@ae _ _ _ _ _ (@aH _ _ _ _ _ _ _ _ (@ax _ _ _ _ _ _ _ _ um (@aI _ _ _ _ _ _ _ _ _ (nV rfl) rfl B.min PyProof.Rows.boot_min (@aa _ _ _ _ _ (pv 7) ab rfl) (by decide) (by decide) rfl rfl) ad (aw _)) (@ag _ _ _ (@aq _ _ _ _ (@fR _ _ _ _ _ _ dD ad))) au) (@ag _ _ _ (@aq _ _ _ _ (@aD _ _ _ _ _ _ _ _ aS (@av _ _ _ _ _ _ _ ix_list (pv 7) ad (fun _ _=>rfl)) (@av _ _ _ _ _ _ _ ix_list (pv 7) ad (fun _ _=>rfl)))))))))))))),?_⟩
 have z4:4096≤sizeLine:=by decide
 obtain ⟨ta,y0,rr,rfl,hta⟩:∃ (ta:Addr) (y0:Str) (rr:List V),v=.ref ta∧H ta=some (.tup (.str y0 :: rr)):=by
  cases t with
  | rest=>obtain ⟨a,e,h⟩:=hv; exact ⟨a,_,_,e,h⟩
  | piece=>obtain ⟨a,e,h⟩:=hv; exact ⟨a,_,_,e,h⟩
  | cut=>obtain ⟨a,x,y,e,h,_⟩:=hv; exact ⟨a,_,_,e,h⟩
 have dat:=TrV.dat (K:=K) t hv
 have shp:=kI hd60
 refine ap (fun σ' H'=>σ'=[some (.int b),some (.ref kl),some (.int w1),some (.int h1),some (.ref ta),none,none,none]∧Same H H') (fun R hR=>?_) ?_
 ·refine ⟨_,rfl,_,_,_,_,_,rfl,.tup hta,rfl,vw,_,rfl,az ?_⟩
  refine ⟨_,rfl,(by show 0≤sizeLine; decide),fun e he=>?_⟩
  obtain ⟨H1,e1,k1,s1⟩:∃H',upd H e (.tup [])=H'∧H' e=some (.tup [])∧Same H H':=⟨_,rfl,af,Same.new he⟩
  rw [show upd H e _=H1 from e1]
  refine ⟨toD t,.tuple [],TrV.dat t (TrV.keep (fun a xs e=>s1 _ _ e) t hv),.tup (SqT.of k1) .nil,shp,by decide +kernel,_,rfl,?_⟩
  rw [vy]
  refine az ⟨_,rfl,ta,_,0,_,rfl,rfl,SqT.of (s1 _ _ hta),aY (Int.le_refl _) rfl,_,_,_,_,_,rfl,.str y0,rfl,vx,_,rfl,az (hR _ _ ⟨rfl,s1⟩)⟩
 rintro _ H1 ⟨rfl,s1⟩
 have hv1:=TrV.keep (fun a xs e=>s1 _ _ e) t hv
 refine ap (fun σ' H'=>σ'=[some (.int b),some (.ref kl),some (.int w1),some (.int h1),some (.ref ta),none,none,none]∧t≠.rest∧Same H H') (fun R hR=>?_) ?_
 ·refine ⟨_,rfl,(by show 1≤sizeLine; decide),fun e he=>?_⟩
  obtain ⟨H2, e2, k2, s2⟩:∃H', upd H1 e (.tup [.str "rest"])=H'∧H' e=some (.tup [.str "rest"])∧Same H1 H':=⟨_, rfl, af, Same.new he⟩
  rw [show upd H1 e _=H2 from e2]
  refine ⟨toD t,.tuple [.str "rest"],TrV.dat t (TrV.keep (fun a xs e=>s2 _ _ e) t hv1),.tup (SqT.of k2) (.cons (.str _) .nil),shp,by decide +kernel,_,rfl,?_⟩
  by_cases hr:t=.rest
  ·subst hr
   rw [show PyData.eqv (toD .rest) (.tuple [.str "rest"])=true from PySem.SeqAt.eqv_refl _ (by decide +kernel)]
   exact be (q H2 (s1.trans s2))
  ·rw [tX t hr]
   exact az (hR _ _ ⟨rfl,hr,s1.trans s2⟩)
 clear hv1 s1
 clear H1
 rintro _ H1 ⟨rfl,hr,s1⟩
 have hv1:=TrV.keep (fun a xs e=>s1 _ _ e) t hv
 have hk1:=s1 _ _ hk0
 have tp1:Tups H1 rs ks:=Tups.keep (fun c xs e=>s1 _ _ e) tp
 cases t with
 | rest=>exact absurd rfl hr
 | piece i c x y =>
  obtain ⟨a,ea,hpp⟩:=hv1
  cases ea
  obtain ⟨rfl,rfl,k,hi,hc,hf⟩:=okl
  refine ap (fun σ' H'=>False) (fun R hR=>?_) (fun _ _ z=>z.elim)
  refine ⟨_,rfl,ta,_,0,_,rfl,rfl,SqT.of hpp,rfl,rfl,_,rfl,be ?_⟩
  refine ⟨_,rfl,_,rfl,_,rfl,_,rfl,kl,ta,rs,ks,w1,h1,i,c,k,rfl,hk1,tp1,r8,hpp,hi,hc,hf,?_⟩
  have e:bu ks (.piece i c 0 0)=k.wo:=by show wq ks (i,c)=k.wo; unfold wq; simp only [hi]
  rw [← e]
  exact q H1 s1
 | cut dn qq l r =>
  obtain ⟨a,x,y,ea,hpp,hl,hr'⟩:=hv1
  cases ea
  obtain ⟨cm,okl1,okl2⟩:=okl
  obtain ⟨⟨g1,g2,g3,g4,_,_⟩,⟨g5,g6,g7,g8,_,_⟩⟩:=dh b0 w0 h0 cm
  obtain ⟨q1,q2⟩:=fN cm
  have q1:1≤qq:=q1
  have dl:dpt l < n∧dpt r < n:=by have:max (dpt l) (dpt r) + 1 < n + 1:=hn; omega
  have dl60:dpt l≤60∧dpt r≤60:=by have:max (dpt l) (dpt r) + 1≤60:=hd60; omega
  have nnl:=fz gk l
  have nnr:=fz gk r
  refine ap (fun σ' H'=>σ'=[some (.int b),some (.ref kl),some (.int w1),some (.int h1),some (.ref ta),none,none,none]∧H1=H') (fun R hR=>?_) ?_
  ·refine ⟨_,rfl,ta,_,0,_,rfl,rfl,SqT.of (hpp),rfl,rfl,_,rfl,?_⟩
   rw [show decide (wv dn=V.str "piece")=false by cases dn <;> decide +kernel]
   exact az (hR _ _ ⟨rfl,rfl⟩)
  rintro _ _ ⟨rfl,rfl⟩
  refine ap (fun σ' H'=>σ'=[some (.int b),some (.ref kl),some (.int w1),some (.int h1),some (.ref ta),none,none,none]∧Same H H') (fun R hR=>?_) ?_
  ·refine ⟨_,rfl,ta,_,0,_,rfl,rfl,SqT.of (hpp),rfl,(by show 2≤sizeLine; decide),fun e he=>?_⟩
   obtain ⟨H2, e2, k2, s2⟩:∃H', upd H1 e (.lst [.str "down", .str "across"])=H'∧H' e=some (.lst [.str "down", .str "across"])∧Same H1 H':=⟨_, rfl, af, Same.new he⟩
   rw [show upd H1 e _=H2 from e2]
   refine ⟨e,_,rfl,.inl (SqL.of k2),rfl,rfl,_,rfl,?_⟩
   rw [show (if true=true then !inV (wv dn) [V.str "down",V.str "across"] else inV (wv dn) [V.str "down",V.str "across"])=false by rw [if_pos rfl,uy]; rfl]
   have hp2:=s2 _ _ hpp
   refine az ⟨_,rfl,ta,_,rfl,.inr (SqT.of hp2),rfl,_,rfl,az ⟨_,rfl,ta,_,1,_,rfl,rfl,SqT.of hp2,rfl,qq,1,rfl,_,rfl,?_⟩⟩
   rw [show decide ((1:Int)≤qq)=true from decide_eq_true q1]
   exact az (hR _ _ ⟨rfl,s1.trans s2⟩)
  clear hpp hl hr' hk1 tp1 s1
  clear H1
  rintro _ H1 ⟨rfl,s1⟩
  obtain ⟨a,x',y',ea,hpp,hl,hr'⟩:=TrV.keep (fun a xs e=>s1 _ _ e) (.cut dn qq l r) hv
  cases ea
  refine ap (fun σ' H'=>σ'=[some (.int b),some (.ref kl),some (.int w1),some (.int h1),some (.ref ta),some (.int (qq + b)),none,none]∧H1=H') (fun R hR=>?_) ?_
  ·exact ⟨_,rfl,ta,_,1,_,rfl,rfl,SqT.of (hpp),rfl,_,rfl,_,_,rfl,rfl,hR _ _ ⟨rfl,rfl⟩⟩
  rintro _ _ ⟨rfl,rfl⟩
  refine ap (fun σ' H'=>σ'=[some (.int b),some (.ref kl),some (.int w1),some (.int h1),some (.ref ta),some (.int (qq + b)),none,none]∧Same H H') (fun R hR=>?_) ?_
  ·refine ⟨_,rfl,_,rfl,_,rfl,(by show 2≤sizeLine; decide),fun e he=>?_⟩
   obtain ⟨H2,e2,k2,s2⟩:∃H',upd H1 e (.lst [.int w1,.int h1])=H'∧H' e=some (.lst [.int w1,.int h1])∧Same H1 H':=⟨_,rfl,af,Same.new he⟩
   rw [show upd H1 e _=H2 from e2]
   have hp2:=s2 _ _ hpp
   refine ⟨_,rfl,ta,_,0,_,rfl,rfl,SqT.of hp2,rfl,rfl,.inr ⟨_,rfl,?_⟩⟩
   obtain ⟨sd,hsd,hlt⟩:∃sd:Int,atI [V.int w1,V.int h1] (if decide (wv dn=V.str "across")=true then (1:Int) else 0)=some (.int sd)∧qq + b < sd:=by
    cases dn with
    | true=>exact ⟨w1,by rw [show decide (wv true=V.str "across")=false by decide +kernel]; rfl,q2⟩
    | false=>exact ⟨h1,by rw [show decide (wv false=V.str "across")=true by decide +kernel]; rfl,q2⟩
   refine ⟨e,_,_,_,rfl,rfl,SqL.of k2,hsd,_,_,rfl,rfl,_,rfl,?_⟩
   rw [show decide (sd≤qq + b)=false from decide_eq_false (by omega)]
   exact az (hR _ _ ⟨rfl,s1.trans s2⟩)
  clear hpp hl hr' s1
  clear H1
  rintro _ H1 ⟨rfl,s1⟩
  obtain ⟨a,x',y',ea,hpp,hl,hr'⟩:=TrV.keep (fun a xs e=>s1 _ _ e) (.cut dn qq l r) hv
  cases ea
  refine ap (fun σ' H'=>∃so t1 t2:Addr,σ'=[some (.int b),some (.ref kl),some (.int w1),some (.int h1),some (.ref ta),some (.int (qq + b)),some (.ref so),none]∧H' so=some (.lst [.ref t1,.ref t2])∧H' t1=some (.tup [.int (aO w1 h1 (dn,qq)).1,.int (aO w1 h1 (dn,qq)).2,x'])∧H' t2=some (.tup [.int (aP b w1 h1 (dn,qq)).1,.int (aP b w1 h1 (dn,qq)).2,y'])∧Same H H') (fun R hR=>?_) ?_
  ·refine ⟨_,rfl,ta,_,0,_,rfl,rfl,SqT.of (hpp),rfl,rfl,_,rfl,?_⟩
   cases dn with
   | true =>
    rw [show decide (wv true=V.str "down")=true by decide +kernel]
    refine be ⟨_,rfl,ta,_,1,_,rfl,rfl,SqT.of (hpp),rfl,_,rfl,_,rfl,ta,_,2,_,rfl,rfl,SqT.of (hpp),rfl,(by show 3≤sizeLine; decide),fun t1 ht1=>?_⟩
    obtain ⟨X1,e3,k3,s3⟩:∃H',upd H1 t1 (.tup [.int qq,.int h1,x'])=H'∧H' t1=some (.tup [.int qq,.int h1,x'])∧Same H1 H':=⟨_,rfl,af,Same.new ht1⟩
    rw [show upd H1 t1 _=X1 from e3]
    refine ⟨_,rfl,_,rfl,_,_,rfl,rfl,_,rfl,_,rfl,ta,_,3,_,rfl,rfl,SqT.of (s3 _ _ hpp),rfl,(by show 3≤sizeLine; decide),fun t2 ht2=>?_⟩
    obtain ⟨X2,e4,k4,s4⟩:∃H',upd X1 t2 (.tup [.int (w1 - (qq + b)),.int h1,y'])=H'∧H' t2=some (.tup [.int (w1 - (qq + b)),.int h1,y'])∧Same X1 H':=⟨_,rfl,af,Same.new ht2⟩
    rw [show upd X1 t2 _=X2 from e4]
    refine ⟨(by show 2≤sizeLine; decide),fun so hso=>?_⟩
    obtain ⟨X3,e5,k5,s5⟩:∃H',upd X2 so (.lst [.ref t1,.ref t2])=H'∧H' so=some (.lst [.ref t1,.ref t2])∧Same X2 H':=⟨_,rfl,af,Same.new hso⟩
    rw [show upd X2 so _=X3 from e5]
    refine hR _ _ ⟨so,t1,t2,rfl,k5,s5 _ _ (s4 _ _ k3),?_,s1.trans (s3.trans (s4.trans s5))⟩
    show X3 t2=some (.tup [.int (w1 - qq - b),.int h1,y'])
    rw [show w1 - qq - b=w1 - (qq + b) by omega]
    exact s5 _ _ k4
   | false =>
    rw [show decide (wv false=V.str "down")=false by decide +kernel]
    refine az ⟨_,rfl,_,rfl,ta,_,1,_,rfl,rfl,SqT.of (hpp),rfl,_,rfl,ta,_,2,_,rfl,rfl,SqT.of (hpp),rfl,(by show 3≤sizeLine; decide),fun t1 ht1=>?_⟩
    obtain ⟨X1,e3,k3,s3⟩:∃H',upd H1 t1 (.tup [.int w1,.int qq,x'])=H'∧H' t1=some (.tup [.int w1,.int qq,x'])∧Same H1 H':=⟨_,rfl,af,Same.new ht1⟩
    rw [show upd H1 t1 _=X1 from e3]
    refine ⟨_,rfl,_,rfl,_,rfl,_,_,rfl,rfl,_,rfl,ta,_,3,_,rfl,rfl,SqT.of (s3 _ _ hpp),rfl,(by show 3≤sizeLine; decide),fun t2 ht2=>?_⟩
    obtain ⟨X2,e4,k4,s4⟩:∃H',upd X1 t2 (.tup [.int w1,.int (h1 - (qq + b)),y'])=H'∧H' t2=some (.tup [.int w1,.int (h1 - (qq + b)),y'])∧Same X1 H':=⟨_,rfl,af,Same.new ht2⟩
    rw [show upd X1 t2 _=X2 from e4]
    refine ⟨(by show 2≤sizeLine; decide),fun so hso=>?_⟩
    obtain ⟨X3,e5,k5,s5⟩:∃H',upd X2 so (.lst [.ref t1,.ref t2])=H'∧H' so=some (.lst [.ref t1,.ref t2])∧Same X2 H':=⟨_,rfl,af,Same.new hso⟩
    rw [show upd X2 so _=X3 from e5]
    refine hR _ _ ⟨so,t1,t2,rfl,k5,s5 _ _ (s4 _ _ k3),?_,s1.trans (s3.trans (s4.trans s5))⟩
    show X3 t2=some (.tup [.int w1,.int (h1 - qq - b),y'])
    rw [show h1 - qq - b=h1 - (qq + b) by omega]
    exact s5 _ _ k4
  have hl0:=hl
  have hr0:=hr'
  rintro _ H2 ⟨so,t1,t2,rfl,hso,ht1,ht2,s2⟩
  obtain ⟨a,x2,y2,ea,hpp2,hl2,hr2⟩:=TrV.keep (fun a xs e=>s2 _ _ e) (.cut dn qq l r) hv
  cases ea
  have exy:x2=x'∧y2=y':=by
   obtain ⟨a0,x0,y0,ea0,hpp0,_,_⟩:=hv
   cases ea0
   have u1:=hpp.symm.trans (s1 _ _ hpp0)
   have u2:=hpp2.symm.trans (s2 _ _ hpp0)
   cases u1; cases u2
   exact ⟨rfl,rfl⟩
  obtain ⟨rfl,rfl⟩:=exy
  have hk1:=s2 _ _ hk0
  have tp1:Tups H2 rs ks:=Tups.keep (fun c xs e=>s2 _ _ e) tp
  refine ap (fun σ' H'=>∃fo:Addr,σ'=[some (.int b),some (.ref kl),some (.int w1),some (.int h1),some (.ref ta),some (.int (qq + b)),some (.ref so),some (.ref fo)]∧H' fo=some (.lst ([bu ks l,bu ks r].map V.int))∧Same H H') (fun R hR=>?_) ?_
  ·refine ⟨_,rfl,so,rfl,⟨_,SqL.of hso⟩,(cQ (K:=K) (.inl hso) (fun i us Hx=>Same H2 Hx∧us=([bu ks l,bu ks r].take i).map V.int) (fun i us Hx _ ⟨sx,_⟩ o e=>sx _ _ e) ⟨Same.refl _,rfl⟩ ?_ ?_).1 hso⟩
   ·rintro i x us Hx hi ⟨sx,rfl⟩
    have hi2:i < 2:=(List.getElem?_eq_some_iff.mp hi).1
    obtain ⟨tt,vt,pp,ty,rfl,hty,hvt,okt,dpt1,dpt2,gp1,gp2,ett⟩:∃ (tt:Tr) (vt:V) (pp:Int×Int) (ty:Addr),x=.ref ty∧Hx ty=some (.tup [.int pp.1,.int pp.2,vt])∧TrV Hx tt vt∧okZ b ks pp.1 pp.2 tt∧dpt tt≤60∧dpt tt < n∧1≤pp.1∧1≤pp.2∧(([bu ks l,bu ks r].take i).map V.int ++ [V.int (bu ks tt)]=([bu ks l,bu ks r].take (i + 1)).map V.int):=by
     match i,hi2,hi with
     | 0,_,hi=>exact ⟨l,x2,(aO w1 h1 (dn,qq)),t1,(Option.some.inj hi).symm,sx _ _ ht1,TrV.keep (fun a xs e=>sx _ _ e) l hl2,okl1,dl60.1,dl.1,g1,g2,rfl⟩
     | 1,_,hi=>exact ⟨r,y2,(aP b w1 h1 (dn,qq)),t2,(Option.some.inj hi).symm,sx _ _ ht2,TrV.keep (fun a xs e=>sx _ _ e) r hr2,okl2,dl60.2,dl.2,g5,g6,rfl⟩
    refine ⟨by rw [List.length_map,List.length_take]; show min i 2 < _; omega,ty,_,rfl,SqT.of hty,rfl,_,_,rfl,_,_,rfl,_,_,rfl,rfl,rC (rC (leS.set rfl) (leS.set rfl)) (leS.set rfl),bD ?_⟩
    refine ⟨_,rfl,_,rfl,_,rfl,_,rfl,_,rfl,b,kl,vt,rs,ks,pp.1,pp.2,tt,rfl,sx _ _ hk1,Tups.keep (fun c xs e=>sx _ _ e) tp1,r8,gk,hvt,okt,dpt1,dpt2,b0,gp1,gp2,fun Hy sy=>Nx.of hi2 ⟨sx.trans sy,ett⟩⟩
   ·rintro us Hx ⟨sx,rfl⟩
    refine ⟨(by show 2≤sizeLine; decide),fun fo hfo=>?_⟩
    obtain ⟨Hy,e3,k3,s3⟩:∃H',upd Hx fo (.lst (([bu ks l,bu ks r].take [V.ref t1,V.ref t2].length).map V.int))=H'∧H' fo=some (.lst (([bu ks l,bu ks r].take [V.ref t1,V.ref t2].length).map V.int))∧Same Hx H':=⟨_,rfl,af,Same.new hfo⟩
    rw [show upd Hx fo _=Hy from e3]
    exact hR _ _ ⟨fo,rfl,k3,s2.trans (sx.trans s3)⟩
  rintro _ H3 ⟨fo,rfl,hfo,s3⟩
  refine ap (fun σ' H'=>σ'=[some (.int b),some (.ref kl),some (.int w1),some (.int h1),some (.ref ta),some (.int (qq + b)),some (.ref so),some (.ref fo)]∧H3=H') (fun R hR=>?_) ?_
  ·refine ⟨_,rfl,fo,[bu ks l,bu ks r],rfl,SqL.of hfo,List.cons_ne_nil _ _,fun m hm hx=>⟨_,_,rfl,rfl,_,rfl,?_⟩⟩
   have m0:0≤m:=by
    rcases List.mem_cons.mp hm with h | h
    ·omega
    ·have:=List.mem_singleton.mp h; omega
   rw [show decide (m < 0)=false from decide_eq_false (by omega)]
   exact az (hR _ _ ⟨rfl,rfl⟩)
  rintro _ _ ⟨rfl,rfl⟩
  exact ⟨_,rfl,fo,_,0,_,rfl,rfl,SqL.of hfo,rfl,_,rfl,fo,_,1,_,rfl,rfl,SqL.of hfo,rfl,_,_,rfl,rfl,q H3 s3⟩
theorem lS {f:Addr} {fd:FuncData} (F:Fun K "_law_worth" "_law_worth" dJ f fd):FnOk P w K mg base CX0 3 f fd ["_law_blade_here","_law_kinds_here","_law_wide","_law_high","_law_tree"] (ce 0):=by
 refine F.ok scwortht (fun vs H Q E h=>?_) (fun cdv A outer s H vs Q E hr h=>?_)
 ·obtain ⟨b,kl,v,rs,ks,w1,h1,t,rfl,_⟩:=h
  rfl
 ·obtain ⟨b,kl,v,rs,ks,w1,h1,t,_,_,_,_,_,_,_,_,z,_⟩:=h
  exact absurd z (Nat.not_lt_zero _)
theorem hW {f:Addr} {fd:FuncData} (F:Fun K "_law_worth" "_law_worth" dJ f fd) (B:Blt mg) (hst:mg "str" = none) (DW:Dn P w K mg base "_law_whole" ["_law_number","_law_least"] 1 (di)) (DPW:Dn P w K mg base "_law_piece_worth" ["_law_kinds_here","_law_wide","_law_high","_law_tree"] 2 (fA)) (mk:∀n,FnOk P w K mg base CX0 (3 + n) f fd ["_law_blade_here","_law_kinds_here","_law_wide","_law_high","_law_tree"] (ce n)→Dn P w K mg base "_law_worth" ["_law_blade_here","_law_kinds_here","_law_wide","_law_high","_law_tree"] (3 + n) (ce n)):∀n,FnOk P w K mg base CX0 (3 + n) f fd ["_law_blade_here","_law_kinds_here","_law_wide","_law_high","_law_tree"] (ce n)
 | 0=>lS F
 | n + 1=>oM F n B hst DW DPW (mk n (hW F B hst DW DPW mk n))
end
mutual
def lsD:PyData→PyData
 | .tuple ds=>.list (dB ds)
 | .none=>.none
 | .bool b=>.bool b
 | .int i=>.int i
 | .str z=>.str z
 | .list ds=>.list ds
 | .dict k=>.dict k
def dB:List PyData→List PyData
 | []=>[]
 | d :: r=>lsD d :: dB r
end
mutual
theorem oN:∀d:PyData,(lsD d).depth=d.depth
 | .tuple ds=>by rw [lsD,PyData.depth,PyData.depth,hX ds]
 | .none=>rfl
 | .bool _=>rfl
 | .int _=>rfl
 | .str _=>rfl
 | .list _=>rfl
 | .dict _=>rfl
theorem hX:∀ds:List PyData,PyData.depthAll (dB ds)=PyData.depthAll ds
 | []=>rfl
 | d :: r=>by rw [dB,PyData.depthAll,PyData.depthAll,oN d,hX r]
end
mutual
theorem rQ:∀d:PyData,wt (lsD d)=wt d
 | .tuple ds=>by rw [lsD,wt,wt,nk ds]
 | .none=>rfl
 | .bool _=>rfl
 | .int _=>rfl
 | .str _=>rfl
 | .list _=>rfl
 | .dict _=>rfl
theorem nk:∀ds:List PyData,wts (dB ds)=wts ds
 | []=>rfl
 | d :: r=>by rw [dB,wts,wts,rQ d,nk r]
end
mutual
theorem tY:∀d:PyData,(lsD d).canLay0=d.canLay0
 | .tuple ds=>by rw [lsD,PyData.canLay0,PyData.canLay0,kJ ds]
 | .none=>rfl
 | .bool _=>rfl
 | .int _=>rfl
 | .str _=>rfl
 | .list _=>rfl
 | .dict _=>rfl
theorem kJ:∀ds:List PyData,PyData.canLayAll0 (dB ds)=PyData.canLayAll0 ds
 | []=>rfl
 | d :: r=>by rw [dB,PyData.canLayAll0,PyData.canLayAll0,tY d,kJ r]
end
theorem kL:∀a b:List PyData,dB (a ++ b)=dB a ++ dB b
 | [],_=>rfl
 | d :: r,b=>by rw [List.cons_append,dB,dB,kL r b]; rfl
theorem hZ:∀a:List PyData,(dB a).length=a.length
 | []=>rfl
 | d :: r=>by rw [dB,List.length_cons,List.length_cons,hZ r]
theorem nr:∀ds:List PyData,ds.length≤wts ds
 | []=>Nat.le_refl _
 | d :: r=>by have:=nr r; have:=rp d; rw [List.length_cons,wts]; omega
theorem nu {x:PyData}:∀ {ds:List PyData},x∈ds→wt x≤wts ds
 | d :: r,h=>by
  rw [wts]
  rcases List.mem_cons.mp h with h | h
  ·rw [h]; omega
  ·have:=nu h; omega
mutual
theorem Dt.dat {K:PySem.W.Frag} {p:Addr} {H:Hp}:∀ {v:V} {d:PyData},Dt p H v d→d.canLay0=true→DatV K H v d
 | _,_,.non,_=>.non
 | _,_,.bl b,_=>.bl b
 | _,_,.int i,_=>.int i
 | _,_,.str z,_=>.str z
 | _,_,.lst n h r,c=>.lst (SqL.of h) (r.dat c)
 | _,_,.tup h r,c=>.tup (SqT.of h) (r.dat c)
 | _,_,.emp h,c=>nomatch c
theorem Dts.dat {K:PySem.W.Frag} {p:Addr} {H:Hp}:∀ {vs:List V} {ds:List PyData},Dts p H vs ds→PyData.canLayAll0 ds=true→DatVs K H vs ds
 | _,_,.nil,_=>.nil
 | _,_,.cons a r,c=>.cons (a.dat (Bool.and_eq_true_iff.mp c).1) (r.dat (Bool.and_eq_true_iff.mp c).2)
end
theorem Dts.get {p:Addr} {H:Hp}:∀ {vs:List V} {ds:List PyData} {i:Nat} {x:V},Dts p H vs ds→vs[i]? = some x→∃d,ds[i]? = some d∧Dt p H x d
 | _,_,0,_,.cons a _,e=>⟨_,rfl,by cases e; exact a⟩
 | _,_,i + 1,_,.cons _ r,e=>by
  obtain ⟨d,h1,h2⟩:=r.get (i:=i) (by simpa using e)
  exact ⟨d,by simpa using h1,h2⟩
theorem Dts.app {p:Addr} {H:Hp}:∀ {vs us:List V} {ds es:List PyData},Dts p H vs ds→Dts p H us es→Dts p H (vs ++ us) (ds ++ es)
 | _,_,_,_,.nil,h=>h
 | _,_,_,_,.cons a r,h=>.cons a (r.app h)
theorem TrD.ls:∀t:Tr,TrD t (lsD (toD t))
 | .rest=>rfl
 | .piece .. => rfl
 | .cut _ _ l r=>⟨lsD (toD l),lsD (toD r),rfl,TrD.ls l,TrD.ls r⟩
theorem lT:∀t:Tr,wt (toD t)≤11 * szT t
 | .rest=>by decide +kernel
 | .piece .. => by
  have:wt (.str "piece")=6:=by decide +kernel
  show wt (.str "piece") + (1 + (1 + (1 + (1 + 0)))) + 1≤11 * 1
  omega
 | .cut dn p l r=>by
  have h1:=lT l
  have h2:=lT r
  have h3:wt (.str (if dn=true then "down" else "across"))≤7:=by cases dn <;> decide +kernel
  show wt (.str (if dn=true then "down" else "across")) + (1 + (wt (toD l) + (wt (toD r) + 0))) + 1≤11 * (szT l + szT r + 1)
  omega
section
variable {P:Program} {w:World} {K:PySem.W.Frag} {mg:Str→Option Value} {base:Heap}
def bz (n:Nat):Sp:=fun vs H Q _=>∃ (pp:Addr) (v:V) (ds:List PyData),vs=[v]∧Dt pp H v (.tuple ds)∧PyData.depthAll ds < n∧wts ds≤40000∧(∃xs,H pp=some (.lst xs))∧∀v' H',Dt pp H' v' (.list (dB ds))→Same H H'→Q v' H'
theorem sclistedb:FnScope ["_law_tree"] ["_law_tree"] (defScope cK):=⟨rfl,rfl,rfl,by decide +kernel,rfl,by decide +kernel,by decide +kernel⟩
theorem lU {f:Addr} {fd:FuncData} (F:Fun K "_law_listed" "_law_listed" cK f fd) (B:Blt mg) (n:Nat) (DLs:Dn P w K mg base "_law_listed" ["_law_tree"] (1 + n) (bz n)):FnOk P w K mg base CX0 (1 + (n + 1)) f fd ["_law_tree"] (bz (n + 1)):=by
 refine F.ok sclistedb (fun vs H Q E h=>?_) (fun cdv A outer s H vs Q E hr h=>?_)
 ·obtain ⟨pp,v,ds,rfl,_⟩:=h
  rfl
 obtain ⟨pp,v,ds,rfl,hd,hn,wd,hpp,q⟩:=h
 have nd:=sclistedb.nd
 refine ⟨_,(@ag _ _ _ (@aq _ _ _ _ (eM (own:=["_law_one"]) (cs:=[]) (cap:=[]) rfl (kS (pv 0)) (bn (sc:=defScope cK) (N:=["_law_tree"]) rfl rfl (by decide +kernel)) (fun _ _ _ _ _=>ai (i:=0) (by show List.Nodup (["_law_one"]:List Str) ; decide +kernel) rfl (Or.inl rfl) (Or.inr rfl)) (fun _ _ _ _ _=>bA) (fun _ _ _ _ _=>(gs (@aE _ _ _ (aI (r:=Es K) aT rfl B.isi PyProof.Rows.boot_isinstance (@aa _ _ _ _ _ (pv 0) (@aa _ _ _ _ _ (bE (v:=.ty "tuple") rfl B.tuple PyProof.Rows.boot_tuple rfl) ab rfl) rfl)) (by intro _; rfl)) (@ar _ _ _ _ _ _ _ _ _ _ DLs hr rfl (@aa _ _ _ _ _ (pv 0) ab rfl) (by decide) rfl rfl) (pv 0)))))),?_⟩
 cases hd with
 | @tup a xs ds h r =>
  have hl:=r.length
  have wl:=nr ds
  have sz:40000 < sizeLine:=by decide
  refine ⟨_,rfl,a,rfl,⟨_,SqT.of h⟩,(cQ (K:=K) (.inr h) (fun i ys Hx=>Same H Hx∧Dts pp Hx ys (dB (ds.take i))) (fun i ys Hx _ ⟨sx,_⟩ o e=>sx _ _ e) ⟨Same.refl _,.nil⟩ ?_ ?_).2 h⟩
  ·rintro i x ys H1 hi ⟨s1,py⟩
   have hin:i < xs.length:=(List.getElem?_eq_some_iff.mp hi).1
   obtain ⟨d,hd,hx⟩:=r.get hi
   have yl:=py.length
   rw [hZ,List.length_take] at yl
   have dm:=List.mem_of_getElem? hd
   have d1:=iP dm
   have w1:=nu dm
   refine ⟨by omega,leS.set rfl,bD ?_⟩
   have fin:∀ (v':V) (H2:Hp),Same H1 H2→Dt pp H2 v' (lsD d)→Nx xs.length (fun i ys Hx=>Same H Hx∧Dts pp Hx ys (dB (ds.take i))) i (ys ++ [v']) H2:=fun v' H2 s2 hv=>Nx.of hin ⟨s1.trans s2,by
    rw [List.take_add_one,hd,kL]
    exact (py.same s2).app (.cons hv .nil)⟩
   clear hd
   cases hx with
   | @tup a2 xs2 ds2 h2 r2 =>
    have d1:PyData.depthAll ds2 + 1≤PyData.depthAll ds:=d1
    have w1:wts ds2 + 1≤wts ds:=w1
    obtain ⟨us,hu⟩:=hpp
    refine ⟨_,rfl,_,_,_,_,_,rfl,(Ty.tup (s1 _ _ h2) (K:=K)).2,rfl,bI "tuple" (by simp [aA]),_,rfl,be ?_⟩
    exact ⟨_,rfl,pp,_,ds2,rfl,.tup (s1 _ _ h2) (r2.same s1),by omega,by omega,⟨us,s1 _ _ hu⟩,fun v' H2 hv s2=>fin v' H2 s2 hv⟩
   | non=>exact ⟨_,rfl,_,_,_,_,_,rfl,(Ty.non (K:=K)).2,rfl,bI "NoneType" (by simp [aA]),_,rfl,az ⟨_,rfl,fin _ H1 (Same.refl _) (.non)⟩⟩
   | bl b=>exact ⟨_,rfl,_,_,_,_,_,rfl,(Ty.bl (K:=K)).2,rfl,bI "bool" (by simp [aA]),_,rfl,az ⟨_,rfl,fin _ H1 (Same.refl _) (.bl b)⟩⟩
   | int i=>exact ⟨_,rfl,_,_,_,_,_,rfl,(Ty.int (K:=K)).2,rfl,bI "int" (by simp [aA]),_,rfl,az ⟨_,rfl,fin _ H1 (Same.refl _) (.int i)⟩⟩
   | str z=>exact ⟨_,rfl,_,_,_,_,_,rfl,(Ty.str (K:=K)).2,rfl,bI "str" (by simp [aA]),_,rfl,az ⟨_,rfl,fin _ H1 (Same.refl _) (.str z)⟩⟩
   | lst n h r=>exact ⟨_,rfl,_,_,_,_,_,rfl,(Ty.lst (s1 _ _ h) (K:=K)).2,rfl,bI "list" (by simp [aA]),_,rfl,az ⟨_,rfl,fin _ H1 (Same.refl _) ((Dt.lst n h r).same s1)⟩⟩
   | emp h=>exact ⟨_,rfl,_,_,_,_,_,rfl,(Ty.dK (s1 _ _ h) (K:=K)).2,rfl,bI "dict" (by simp [aA]),_,rfl,az ⟨_,rfl,fin _ H1 (Same.refl _) ((Dt.emp h).same s1)⟩⟩
  ·rintro ys H1 ⟨s1,py⟩
   have yl:=py.length
   rw [hZ,List.length_take] at yl
   obtain ⟨us,hu⟩:=hpp
   refine ⟨by omega,fun t ht=>?_⟩
   rw [hl,List.take_length] at py
   refine q _ _ (.lst (Ne.symm (am (s1 _ _ hu) ht)) af (py.same (Same.new ht))) (s1.trans (Same.new ht))
theorem kM {f:Addr} {fd:FuncData} (F:Fun K "_law_listed" "_law_listed" cK f fd):FnOk P w K mg base CX0 1 f fd ["_law_tree"] (bz 0):=by
 refine F.ok sclistedb (fun vs H Q E h=>?_) (fun cdv A outer s H vs Q E hr h=>?_)
 ·obtain ⟨pp,v,ds,rfl,_⟩:=h
  rfl
 ·obtain ⟨pp,v,d,_,_,z,_⟩:=h
  exact absurd z (Nat.not_lt_zero _)
theorem gc {f:Addr} {fd:FuncData} (F:Fun K "_law_listed" "_law_listed" cK f fd) (B:Blt mg) (mk:∀n,FnOk P w K mg base CX0 (1 + n) f fd ["_law_tree"] (bz n)→Dn P w K mg base "_law_listed" ["_law_tree"] (1 + n) (bz n)):∀n,FnOk P w K mg base CX0 (1 + n) f fd ["_law_tree"] (bz n)
 | 0=>kM F
 | n + 1=>lU F B n (mk n (gc F B mk n))
end
theorem Ex {t:Addr} {H H':Hp} {a:Addr} {u:HO} (s:∀c o,c≠t→H c=some o→H' c=some o) (n:a≠t) (h:Rd H a u):Rd H' a u:=h.imp (s _ _ n) fun ⟨o,e⟩=>⟨o,s _ _ n e⟩
theorem vz {H H':Hp} {a:Addr} {u:HO} (h:Rd H a u) (s:Same H H'):Rd H' a u:=h.imp (s _ _) fun ⟨o,e⟩=>⟨o,s _ _ e⟩
theorem tZ:∀t:Tr,∃ds,toD t=.tuple ds
 | .rest=>⟨_,rfl⟩
 | .piece .. => ⟨_,rfl⟩
 | .cut .. => ⟨_,rfl⟩
theorem xO (W:Int) {t:Tr} (h:dpt t≤60):SeqAt.shaped (.tuple [.int W,toD t])=true:=by
 unfold SeqAt.shaped
 rw [show PyData.canLay0 (.tuple [.int W,toD t])=true by show (true && (PyData.canLay0 (toD t) && true))=true; rw [fv]; rfl,decide_eq_true (by
  show PyData.depthAll [.int W,toD t] + 1≤64
  have:=dg t
  simp only [PyData.depthAll,PyData.depth]
  omega)]; rfl
section
variable {P:Program} {w:World} {K:PySem.W.Frag} {mg:Str→Option Value} {base:Heap}
def ju (C:Addr):Sp:=fun vs H Q _=>∃ (s kl pa:Addr) (b:Int) (rs:List V) (ks:List Kd) (m n:Nat),vs=[.ref s,.int b,.ref kl,.ref pa]∧ShopAt C H s b ks∧H kl=some (.lst rs)∧Tups H rs ks∧rs.length≤8∧(∀k∈ks,Good k)∧0≤b∧H pa=some (.tup [.int (m:Int),.int (n:Int)])∧1≤m∧m≤16∧1≤n∧n≤16∧∀H',Same H H'→Q (.bl true) H'
def nv (K:PySem.W.Frag):Sp:=fun vs H Q _=>∃ (a:Addr) (ns:List Int),vs=[.ref a]∧SqL K H a (ns.map V.int)∧ns.length≤63∧∀H',Q (.bl true) H'
theorem sctold4:FnScope ["_law_shop","_law_blade_here","_law_kinds_here","_law_plate_here","_law_wide","_law_high","_law_told_here","_law_worth_here","_law_tree"] ["_law_shop","_law_blade_here","_law_kinds_here","_law_plate_here"] (defScope km):=⟨rfl,rfl,rfl,by decide +kernel,rfl,by decide +kernel,by decide +kernel⟩
set_option maxHeartbeats 1000000 in
theorem rR {f C:Addr} {fd:FuncData} (F:Fun K "_law_told" "_law_told" km f fd) (B:Blt mg) (DBo:Dn P w K mg base "best_of" ["shop","wide","high"] 35 (hG C)) (DW:Dn P w K mg base "_law_whole" ["_law_number","_law_least"] 1 (di)) (DWo:Dn P w K mg base "_law_worth" ["_law_blade_here","_law_kinds_here","_law_wide","_law_high","_law_tree"] 37 (ce 34)) (DIs:Dn P w K mg base "is_tree" ["shop","wide","high","thing"] 6 (fm C)) (DLi:Dn P w K mg base "_law_listed" ["_law_tree"] 37 (bz 36)) (DOf:Dn P w K mg base "worth_of" ["shop","wide","high","tree"] 10 (gX C)):FnOk P w K mg base CX0 38 f fd ["_law_shop","_law_blade_here","_law_kinds_here","_law_plate_here"] (ju C):=by
 refine F.ok sctold4 (fun vs H Q E h=>?_) (fun cdv A outer s H vs Q E hr h=>?_)
 ·obtain ⟨s,kl,pa,b,rs,ks,m,n,rfl,_⟩:=h
  rfl
 obtain ⟨s,kl,pa,b,rs,ks,m,n,rfl,S0,hk0,tp,r8,gk,b0,hpa,m1,m16,n1,n16,q⟩:=h
 have nd:=sctold4.nd
 have hu:=hr.units
 refine ⟨_,(@ae _ _ _ _ _ (@bi _ _ _ _ _ _ (pv 3) (aU rfl (ah (ai (i:=4) nd rfl (Or.inl rfl)) (ah (ai (i:=5) nd rfl (Or.inl rfl)) aK))) rfl rfl rfl) (@ae _ _ _ _ _ (@aG _ _ 6 _ _ _ _ nd rfl (Or.inl rfl) (@ar _ _ _ _ _ _ _ _ _ _ DBo (hr.mono (by decide)) rfl (@aa _ _ _ _ _ (pv 0) (@aa _ _ _ _ _ (pv 4) (@aa _ _ _ _ _ (pv 5) ab rfl) rfl) rfl) (by decide) rfl rfl) rfl (Or.inl rfl)) (@ae _ _ _ _ _ (@bi _ _ _ _ _ _ (@gy _ _ _ _ _ _ _ _ _ _ qx (pv 6) iX (iY ad)) (aU rfl (ah (ai (i:=7) nd rfl (Or.inl rfl)) (ah (ai (i:=8) nd rfl (Or.inl rfl)) aK))) rfl rfl rfl) (@ae _ _ _ _ _ (@aH _ _ _ _ _ _ _ _ (PW.pt (bh (@aL _ _ _ _ (@aE _ _ _ (@ar _ _ _ _ _ _ _ _ _ _ DW (hr.mono (by decide)) rfl (@aa _ _ _ _ _ (pv 7) (@aa _ _ _ _ _ ad ab rfl) rfl) (by decide) rfl rfl) (by intro _; rfl))) (bo (@ax _ _ _ _ _ _ _ _ eE (@ar _ _ _ _ _ _ _ _ _ _ DWo (hr.mono (by decide)) rfl (@aa _ _ _ _ _ (pv 1) (@aa _ _ _ _ _ (pv 2) (@aa _ _ _ _ _ (pv 4) (@aa _ _ _ _ _ (pv 5) (@aa _ _ _ _ _ (pv 8) ab rfl) rfl) rfl) rfl) rfl) (by decide) rfl rfl) (pv 7) (aw _))))) (@ag _ _ _ (@aq _ _ _ _ bQ)) au) (@ae _ _ _ _ _ (@aH _ _ _ _ _ _ _ _ (PW.pt (bh (@ax _ _ _ _ _ _ _ _ jY (@ar _ _ _ _ _ _ _ _ _ _ DIs (hr.mono (by decide)) rfl (@aa _ _ _ _ _ (pv 0) (@aa _ _ _ _ _ (pv 4) (@aa _ _ _ _ _ (pv 5) (@aa _ _ _ _ _ (pv 8) ab rfl) rfl) rfl) rfl) (by decide) rfl rfl) bQ (aw _)) (bo (@ax _ _ _ _ _ _ _ _ jY (@ar _ _ _ _ _ _ _ _ _ _ DIs (hr.mono (by decide)) rfl (@aa _ _ _ _ _ (pv 0) (@aa _ _ _ _ _ (pv 4) (@aa _ _ _ _ _ (pv 5) (@aa _ _ _ _ _ (@ar _ _ _ _ _ _ _ _ _ _ DLi (hr.mono (by decide)) rfl (@aa _ _ _ _ _ (pv 8) ab rfl) (by decide) rfl rfl) ab rfl) rfl) rfl) rfl) (by decide) rfl rfl) bQ (aw _))))) (@ag _ _ _ (@aq _ _ _ _ bQ)) au) (@ae _ _ _ _ _ (@aH _ _ _ _ _ _ _ _ (PW.pt (bh (@ax _ _ _ _ _ _ _ _ eE (@ar _ _ _ _ _ _ _ _ _ _ DOf (hr.mono (by decide)) rfl (@aa _ _ _ _ _ (pv 0) (@aa _ _ _ _ _ (pv 4) (@aa _ _ _ _ _ (pv 5) (@aa _ _ _ _ _ (pv 8) ab rfl) rfl) rfl) rfl) (by decide) rfl rfl) (pv 7) (aw _)) (bo (@ax _ _ _ _ _ _ _ _ eE (@ar _ _ _ _ _ _ _ _ _ _ DOf (hr.mono (by decide)) rfl (@aa _ _ _ _ _ (pv 0) (@aa _ _ _ _ _ (pv 4) (@aa _ _ _ _ _ (pv 5) (@aa _ _ _ _ _ (@ar _ _ _ _ _ _ _ _ _ _ DLi (hr.mono (by decide)) rfl (@aa _ _ _ _ _ (pv 8) ab rfl) (by decide) rfl rfl) ab rfl) rfl) rfl) rfl) (by decide) rfl rfl) (pv 7) (aw _))))) (@ag _ _ _ (@aq _ _ _ _ bQ)) au) (@ag _ _ _ (@aq _ _ _ _ (@bg _ _ _ _ _ _ _ _ (lj hu) (@gy _ _ _ _ _ _ _ _ _ _ qx (@ar _ _ _ _ _ _ _ _ _ _ DBo (hr.mono (by decide)) rfl (@aa _ _ _ _ _ (pv 0) (@aa _ _ _ _ _ (pv 4) (@aa _ _ _ _ _ (pv 5) ab rfl) rfl) rfl) (by decide) rfl rfl) iX (iY ad)) (@aB _ _ _ _ _ (@aa _ _ _ _ _ (pv 7) (@aa _ _ _ _ _ (pv 8) ab rfl) rfl)) (aw _)))))))))),?_⟩
 have z4:4096≤sizeLine:=by decide
 have k8:ks.length≤8:=by have:=Paired.length tp; omega
 have m0:(1:Int)≤m:=by omega
 have n0:(1:Int)≤n:=by omega
 have dp:dpt (bT b ks 33 ((m:Int),(n:Int)))≤33:=lP _ _ _ _
 obtain ⟨okz,etv⟩:=lQ (ks:=ks) b0 33 ((m:Int),(n:Int)) (by show ((m:Int) + (n:Int)).toNat < 33; omega) m0 n0
 have okt:okT b ks m n (bT b ks 33 ((m:Int),(n:Int))):=js _ _ _ okz
 have lvn:lvN (bT b ks 33 ((m:Int),(n:Int)))≤256:=by
  have h1:=hV b0 _ _ _ m0 n0 okt
  have h2:(m:Int) * (n:Int)≤16 * 16:=Int.mul_le_mul (by omega) (by omega) (by omega) (by decide)
  omega
 have szn:=jt (bT b ks 33 ((m:Int),(n:Int)))
 have wtd:=lT (bT b ks 33 ((m:Int),(n:Int)))
 obtain ⟨ds,eds⟩:=tZ (bT b ks 33 ((m:Int),(n:Int)))
 have isT1:=gR (bT b ks 33 ((m:Int),(n:Int))) m n okt
 have isT2:=TrD.good (bT b ks 33 ((m:Int),(n:Int))) _ m n (TrD.ls _) okt
 have wsum:=lR okt
 rw [etv] at wsum
 refine ap (fun σ' H'=>σ'=[some (.ref s),some (.int b),some (.ref kl),some (.ref pa),some (.int (m:Int)),some (.int (n:Int)),none,none,none]∧H=H') (fun R hR=>?_) ?_
 ·exact ⟨_,rfl,pa,_,rfl,SqT.of hpa,rfl,_,_,rfl,_,_,rfl,rfl,hR _ _ ⟨rfl,rfl⟩⟩
 rintro _ _ ⟨rfl,rfl⟩
 refine ap (fun σ' H'=>∃ (r tb:Addr) (tv:V),σ'=[some (.ref s),some (.int b),some (.ref kl),some (.ref pa),some (.int (m:Int)),some (.int (n:Int)),some (.ref r),none,none]∧H' r=some (.tup [.int (bW b ks ((m:Int),(n:Int))),tv,.ref tb])∧TrV H' (bT b ks 33 ((m:Int),(n:Int))) tv∧Same H H') (fun R hR=>?_) ?_
 ·exact ⟨_,rfl,_,rfl,_,rfl,s,b,ks,m,n,rfl,S0,k8,b0,m1,m16,n1,n16,fun r tb tv H1 htb hr ht1 hv1 s1=>hR _ _ ⟨r,tb,tv,rfl,hr,hv1,s1⟩⟩
 rintro _ H1 ⟨r,tb,tv,rfl,hr1,hv1,s1⟩
 refine ap (fun σ' H'=>σ'=[some (.ref s),some (.int b),some (.ref kl),some (.ref pa),some (.int (m:Int)),some (.int (n:Int)),some (.ref r),some (.int (bW b ks ((m:Int),(n:Int)))),some tv]∧Same H1 H') (fun R hR=>?_) ?_
 ·refine ⟨_,rfl,_,rfl,r,_,rfl,SqT.of hr1,(fun z=>absurd z.2 (show ¬ HT.sIx 3 3 (some 2)=3 by decide)),fun t2 ht2=>?_⟩
  obtain ⟨H2,e2,k2,s2⟩:∃H',upd H1 t2 (.tup (eI [.int (bW b ks ((m:Int),(n:Int))),tv,.ref tb] none (some 2)))=H'∧H' t2=some (.tup (eI [.int (bW b ks ((m:Int),(n:Int))),tv,.ref tb] none (some 2)))∧Same H1 H':=⟨_,rfl,af,Same.new ht2⟩
  rw [show upd H1 t2 _=H2 from e2]
  exact ⟨t2,_,rfl,SqT.of (show H2 t2=some (.tup [.int (bW b ks ((m:Int),(n:Int))),tv]) from k2),rfl,_,_,rfl,_,_,rfl,rfl,hR _ _ ⟨rfl,s2⟩⟩
 rintro _ H2 ⟨rfl,s12⟩
 have s02:=s1.trans s12
 have tvk:∀ {Hx:Hp},Same H2 Hx→TrV Hx (bT b ks 33 ((m:Int),(n:Int))) tv:=fun sx=>TrV.keep (fun c xs e=>sx _ _ (s12 _ _ e)) _ hv1
 have shk:∀ {Hx:Hp},Same H2 Hx→ShopAt C Hx s b ks:=fun sx=>S0.keep (fun c o e=>sx _ _ (s02 _ _ e)) (fun c C' d fs e=>sx _ _ (s02 _ _ e))
 have klk:∀ {Hx:Hp},Same H2 Hx→Hx kl=some (.lst rs):=fun sx=>sx _ _ (s02 _ _ hk0)
 have th:∀ {Hx:Hp},Same H2 Hx→TrH C kl s b m n ks tv (toD (bT b ks 33 ((m:Int),(n:Int)))) (bT b ks 33 ((m:Int),(n:Int))) Hx:=fun sx=>⟨shk sx,m0,n0,TrV.dt _ (tvk sx),TrD.to _,okt,by omega,by omega⟩
 have ls:∀ {Hx:Hp},Same H2 Hx→∀ (R:VK),(∀v' Hy,Dt kl Hy v' (lsD (toD (bT b ks 33 ((m:Int),(n:Int)))))→Same Hx Hy→R v' Hy)→bz 36 [tv] Hx R E:=fun {Hx} sx R hR=>by
  refine ⟨kl,tv,ds,rfl,eds ▸ TrV.dt _ (tvk sx),?_,?_,⟨rs,klk sx⟩,fun v' Hy hv sy=>hR v' Hy (by rw [eds]; exact hv) sy⟩
  ·have:=dg (bT b ks 33 ((m:Int),(n:Int)))
   rw [eds] at this
   have:PyData.depthAll ds + 1≤dpt (bT b ks 33 ((m:Int),(n:Int))) + 1:=this
   omega
  ·have h1:=wtd
   rw [eds] at h1
   have h1:wts ds + 1≤11 * szT (bT b ks 33 ((m:Int),(n:Int))):=h1
   omega
 have wlt:wt (lsD (toD (bT b ks 33 ((m:Int),(n:Int)))))=wt (toD (bT b ks 33 ((m:Int),(n:Int)))):=rQ _
 have nee:(!decide (V.int (bW b ks ((m:Int),(n:Int)))=V.int (bW b ks ((m:Int),(n:Int)))))=false:=by rw [decide_eq_true rfl]; rfl
 refine ap (fun σ' H'=>σ'=[some (.ref s),some (.int b),some (.ref kl),some (.ref pa),some (.int (m:Int)),some (.int (n:Int)),some (.ref r),some (.int (bW b ks ((m:Int),(n:Int)))),some tv]∧Same H2 H') (fun R hR=>?_) ?_
 ·refine ⟨_,rfl,(bW b ks ((m:Int),(n:Int))),0,rfl,_,rfl,?_⟩
  rw [show decide ((0:Int)≤(bW b ks ((m:Int),(n:Int))))=true from decide_eq_true (by rw [← etv]; exact fz gk _)]
  refine az ⟨_,rfl,_,rfl,_,rfl,_,rfl,_,rfl,b,kl,tv,rs,ks,m,n,(bT b ks 33 ((m:Int),(n:Int))),rfl,klk (Same.refl _),Tups.keep (fun c xs e=>s02 _ _ e) tp,r8,gk,tvk (Same.refl _),okz,by omega,by omega,b0,m0,n0,fun Hx sx=>⟨_,rfl,rfl,_,rfl,?_⟩⟩
  rw [etv,nee]
  exact az (hR _ _ ⟨rfl,sx⟩)
 rintro _ H3 ⟨rfl,s23⟩
 refine ap (fun σ' H'=>σ'=[some (.ref s),some (.int b),some (.ref kl),some (.ref pa),some (.int (m:Int)),some (.int (n:Int)),some (.ref r),some (.int (bW b ks ((m:Int),(n:Int)))),some tv]∧Same H2 H') (fun R hR=>?_) ?_
 ·refine ⟨_,rfl,_,rfl,_,rfl,_,rfl,kl,s,b,m,n,ks,tv,toD (bT b ks 33 ((m:Int),(n:Int))),rfl,shk s23,m0,n0,TrV.dt _ (tvk s23),by omega,fun Hx sx=>⟨rfl,_,rfl,_,rfl,?_⟩⟩
  rw [isT1]
  have s2x:=s23.trans sx
  refine az ⟨_,rfl,_,rfl,_,rfl,_,rfl,ls s2x _ fun v' Hy hv sy=>⟨kl,s,b,m,n,ks,v',_,rfl,shk (s2x.trans sy),m0,n0,hv,by omega,fun Hz sz=>⟨rfl,_,rfl,_,rfl,?_⟩⟩⟩
  rw [isT2]
  exact az (hR _ _ ⟨rfl,s2x.trans (sy.trans sz)⟩)
 rintro _ H4 ⟨rfl,s24⟩
 refine ap (fun σ' H'=>σ'=[some (.ref s),some (.int b),some (.ref kl),some (.ref pa),some (.int (m:Int)),some (.int (n:Int)),some (.ref r),some (.int (bW b ks ((m:Int),(n:Int)))),some tv]∧Same H2 H') (fun R hR=>?_) ?_
 ·refine ⟨_,rfl,_,rfl,_,rfl,_,rfl,kl,s,b,m,n,ks,tv,toD (bT b ks 33 ((m:Int),(n:Int))),(bT b ks 33 ((m:Int),(n:Int))),rfl,th s24,k8,gk,fun Hx sx=>⟨_,rfl,rfl,_,rfl,?_⟩⟩
  rw [wsum,nee]
  have s2x:=s24.trans sx
  refine az ⟨_,rfl,_,rfl,_,rfl,_,rfl,ls s2x _ fun v' Hy hv sy=>⟨kl,s,b,m,n,ks,v',_,(bT b ks 33 ((m:Int),(n:Int))),rfl,⟨shk (s2x.trans sy),m0,n0,hv,TrD.ls _,okt,by omega,by omega⟩,k8,gk,fun Hz sz=>⟨_,rfl,rfl,_,rfl,?_⟩⟩⟩
  rw [wsum,nee]
  exact az (hR _ _ ⟨rfl,s2x.trans (sy.trans sz)⟩)
 rintro _ H5 ⟨rfl,s25⟩
 refine ⟨_,rfl,_,rfl,_,rfl,s,b,ks,m,n,rfl,shk s25,k8,b0,m1,m16,n1,n16,fun r3 t3 tv3 H6 ht3 hr6 ht6 hv6 s56=>⟨_,rfl,r3,_,rfl,SqT.of hr6,(fun z=>absurd z.2 (show ¬ HT.sIx 3 3 (some 2)=3 by decide)),fun t5 ht5=>?_⟩⟩
 obtain ⟨H7,e1,k1,u1⟩:∃H',upd H6 t5 (.tup (eI [.int (bW b ks ((m:Int),(n:Int))),tv3,.ref t3] none (some 2)))=H'∧H' t5=some (.tup (eI [.int (bW b ks ((m:Int),(n:Int))),tv3,.ref t3] none (some 2)))∧Same H6 H':=⟨_,rfl,af,Same.new ht5⟩
 rw [show upd H6 t5 _=H7 from e1]
 refine ⟨_,rfl,_,rfl,(by show 2≤sizeLine; decide),fun t6 ht6=>?_⟩
 obtain ⟨H8,e2,k2,u2⟩:∃H',upd H7 t6 (.tup [.int (bW b ks ((m:Int),(n:Int))),tv])=H'∧H' t6=some (.tup [.int (bW b ks ((m:Int),(n:Int))),tv])∧Same H7 H':=⟨_,rfl,af,Same.new ht6⟩
 rw [show upd H7 t6 _=H8 from e2]
 have s28:=s25.trans (s56.trans (u1.trans u2))
 refine ⟨.tuple [.int (bW b ks ((m:Int),(n:Int))),toD (bT b ks 33 ((m:Int),(n:Int)))],.tuple [.int (bW b ks ((m:Int),(n:Int))),toD (bT b ks 33 ((m:Int),(n:Int)))],.tup (SqT.of (show H8 t5=some (.tup [.int (bW b ks ((m:Int),(n:Int))),tv3]) from u2 _ _ k1)) (.cons (.int _) (.cons (TrV.dat _ (TrV.keep (fun c xs e=>u2 _ _ (u1 _ _ e)) _ hv6)) .nil)),.tup (SqT.of k2) (.cons (.int _) (.cons (TrV.dat _ (tvk s28)) .nil)),xO _ (by omega),xO _ (by omega),?_⟩
 rw [PySem.SeqAt.eqv_refl _ (show PyData.canLay0 (.tuple [.int (bW b ks ((m:Int),(n:Int))),toD (bT b ks 33 ((m:Int),(n:Int)))])=true by show (true && (PyData.canLay0 (toD (bT b ks 33 ((m:Int),(n:Int)))) && true))=true; rw [fv]; rfl)]
 exact q _ (s02.trans s28)
theorem sclaw:FnScope ["_law_script","_law_cell","_law_pot_here","_law_blade_here","_law_kinds_here"] ["_law_script"] (defScope kn):=⟨rfl,rfl,rfl,by decide +kernel,rfl,by decide +kernel,by decide +kernel⟩
theorem vA {f C:Addr} {fd:FuncData} (F:Fun K "law" "law" kn f fd) (B:Blt mg) (DP:Dn P w K mg base "_law_pot" ["_law_cell"] 1 (lA)) (DBl:Dn P w K mg base "_law_blade" ["_law_pot_here"] 3 (hI)) (DKi:Dn P w K mg base "_law_kinds" ["_law_pot_here"] 4 (hJ)) (DPl:Dn P w K mg base "_law_plate" ["_law_pot_here"] 2 (hU)) (DT:Dn P w K mg base "_law_told" ["_law_shop","_law_blade_here","_law_kinds_here","_law_plate_here"] 38 (ju C)) (DSh:Kn P w K mg base "Shop" C ["self","blade","kinds"] 3 (lr C)):FnOk P w K mg base CX0 39 f fd ["_law_script"] (nv K):=by
 refine F.ok sclaw (fun vs H Q E h=>?_) (fun cdv A outer s H vs Q E hr h=>?_)
 ·obtain ⟨a,ns,rfl,_⟩:=h
  rfl
 obtain ⟨a,ns,rfl,hS,n63,q⟩:=h
 have nd:=sclaw.nd
 refine ⟨_,(@ae _ _ _ _ _ (@cz _ _ _ _ _ _ _ _ PassesOwn.never rfl (bJ (@gy _ _ _ _ _ _ _ _ _ _ sT (@aD _ _ _ _ _ _ _ _ tw (pv 0) (@bp _ _ _ _ (@aa _ _ _ _ _ ad ab rfl))) iX (iY ad))) (ai (i:=1) nd rfl (Or.inl rfl)) (@ae _ _ _ _ _ (@aG _ _ 2 _ _ _ _ nd rfl (Or.inl rfl) (@ar _ _ _ _ _ _ _ _ _ _ DP (hr.mono (by decide)) rfl (@aa _ _ _ _ _ (pv 1) ab rfl) (by decide) rfl rfl) rfl (Or.inl rfl)) (@ae _ _ _ _ _ (@aG _ _ 3 _ _ _ _ nd rfl (Or.inl rfl) (@ar _ _ _ _ _ _ _ _ _ _ DBl (hr.mono (by decide)) rfl (@aa _ _ _ _ _ (pv 2) ab rfl) (by decide) rfl rfl) rfl (Or.inl rfl)) (@ae _ _ _ _ _ (@aG _ _ 4 _ _ _ _ nd rfl (Or.inl rfl) (@ar _ _ _ _ _ _ _ _ _ _ DKi (hr.mono (by decide)) rfl (@aa _ _ _ _ _ (pv 2) ab rfl) (by decide) rfl rfl) rfl (Or.inl rfl)) (@ag _ _ _ (@aH _ _ _ _ _ _ _ _ (@aL _ _ _ _ (@aE _ _ _ (@ar _ _ _ _ _ _ _ _ _ _ DT hr rfl (@aa _ _ _ _ _ (xC DSh (hr.mono (by decide)) rfl (@aa _ _ _ _ _ (pv 3) (@aa _ _ _ _ _ (@bv _ _ _ _ _ _ _ _ _ eL rfl B.list PyProof.Rows.boot_list (@aa _ _ _ _ _ (pv 4) ab rfl) (by decide) (by decide) rfl rfl) ab rfl) rfl)) (@aa _ _ _ _ _ (pv 3) (@aa _ _ _ _ _ (pv 4) (@aa _ _ _ _ _ (@ar _ _ _ _ _ _ _ _ _ _ DPl (hr.mono (by decide)) rfl (@aa _ _ _ _ _ (pv 2) ab rfl) (by decide) rfl rfl) ab rfl) rfl) rfl) rfl) (by decide) rfl rfl) (by intro _; rfl))) (@ag _ _ _ (@aq _ _ _ _ bQ)) au))))) (by intro _; rfl)) (@ag _ _ _ (@aq _ _ _ _ bQ))),?_⟩
 have z4:4096≤sizeLine:=by decide
 have ln:(ns.map V.int).length=ns.length:=List.length_map _
 refine ap (fun σ' H'=>∃v1 v2 v3 v4:Option V,σ'=[some (.ref a),v1,v2,v3,v4]) (fun R hR=>?_) ?_
 ·refine ⟨_,rfl,(by show 1≤sizeLine; decide),fun u hu=>?_⟩
  obtain ⟨H1,e1,k1,s1⟩:∃H',upd H u (.lst [.int 0])=H'∧H' u=some (.lst [.int 0])∧Same H H':=⟨_,rfl,af,Same.new hu⟩
  rw [show upd H u _=H1 from e1]
  refine ⟨a,u,_,_,rfl,rfl,hS.imp (fun h=>vz h s1) id,SqL.of k1,(by show _ + 1≤_; omega),fun l hl=>?_⟩
  obtain ⟨H2,e2,k2,s2⟩:∃H',upd H1 l (.lst (ns.map V.int ++ [.int 0]))=H'∧H' l=some (.lst (ns.map V.int ++ [.int 0]))∧Same H1 H':=⟨_,rfl,af,Same.new hl⟩
  rw [show upd H1 l _=H2 from e2]
  refine ⟨_,rfl,l,_,rfl,SqL.of k2,fun v hv=>?_⟩
  obtain ⟨H3,e3,k3,s3⟩:∃H',upd H2 v (.lst (eI (ns.map V.int ++ [.int 0]) none (some 2)))=H'∧H' v=some (.lst (eI (ns.map V.int ++ [.int 0]) none (some 2)))∧Same H2 H':=⟨_,rfl,af,Same.new hv⟩
  rw [show upd H2 v _=H3 from e3]
  refine ⟨v,rfl,⟨_,SqL.of k3⟩,cA (xs:=eI (ns.map V.int ++ [.int 0]) none (some 2)) (fun i σ' H'=>(∃v1 v2 v3 v4:Option V,σ'=[some (.ref a),v1,v2,v3,v4])∧Same H3 H') ⟨⟨_,_,_,_,rfl⟩,Same.refl _⟩ (fun i σ Hx _ ⟨_,s⟩=>SqL.of (s _ _ k3)) ?_ (fun σ Hx ⟨e,s⟩=>hR _ _ e)⟩
  rintro i x _ Hx hi ⟨⟨v1,v2,v3,v4,rfl⟩,sx⟩
  obtain ⟨c,rfl⟩:∃c,x=V.int c:=by
   have h:=List.mem_of_getElem? hi
   unfold eI at h
   rcases List.mem_append.mp (List.mem_of_mem_drop (List.mem_of_mem_take h)) with h | h
   ·obtain ⟨c,_,e⟩:=List.mem_map.mp h
    exact ⟨c,e.symm⟩
   ·exact ⟨0,List.mem_singleton.mp h⟩
  refine ap (fun σ' H'=>∃p,σ'=[some (.ref a),some (.int c),some (.ref p),v3,v4]∧Hx p=none∧PotB H' p∧But p Hx H') (fun R hR=>?_) ?_
  ·exact ⟨_,rfl,c,rfl,fun p Hy hp pt sy=>hR _ _ ⟨p,rfl,hp,pt,Pc.Same.but sy⟩⟩
  rintro _ Ha ⟨p,rfl,hp,pta,ba⟩
  refine ap (fun σ' H'=>∃b:Int,σ'=[some (.ref a),some (.int c),some (.ref p),some (.int b),v4]∧0≤b∧PotB H' p∧But p Hx H') (fun R hR=>?_) ?_
  ·exact ⟨_,rfl,p,rfl,pta,fun b Hb b0 b60 ptb bb=>hR _ _ ⟨b,rfl,b0,ptb,ba.trans bb⟩⟩
  clear pta ba
  clear Ha
  rintro _ Ha ⟨b,rfl,b0,pta,ba⟩
  refine ap (fun σ' H'=>∃ (kl:Addr) (rs:List V) (ks:List Kd),σ'=[some (.ref a),some (.int c),some (.ref p),some (.int b),some (.ref kl)]∧kl≠p∧H' kl=some (.lst rs)∧Tups H' rs ks∧(∀k∈ks,Good k)∧1≤rs.length∧rs.length≤8∧PotB H' p∧But p Hx H') (fun R hR=>?_) ?_
  ·exact ⟨_,rfl,p,rfl,pta,fun kl rs ks H2 nkp hkl hk tp gk r1 r8 pt2 b2=>hR _ _ ⟨kl,rs,ks,rfl,nkp,hk,tp,gk,r1,r8,pt2,ba.trans b2⟩⟩
  clear pta ba
  clear Ha
  rintro _ Ha ⟨kl,rs,ks,rfl,nkp,hka,tpa,gk,r1,r8,pta,ba⟩
  refine ⟨_,rfl,_,rfl,kl,_,rfl,.inl (SqL.of hka),fun l2 hl2=>?_⟩
  obtain ⟨H5,e5,k5,n5,s5,b5,pt5⟩:=gP (o:=.lst rs) ba pta hl2
  rw [show upd Ha l2 _=H5 from e5]
  refine fun x dx hx hdx ne0=>?_
  have sm:Same H5 (upd (upd H5 dx (.own x)) x (.ins C dx [])):=ot hx hdx
  refine ⟨x,dx,l2,b,rs,ks,rfl,af,b0,.inl (sm _ _ k5),Paired.mapP (Tups.keep (fun c xs e=>sm _ _ (s5 _ _ e)) tpa) (fun v k h=>.inl h),gk,r1,r8,fun Hb Sb kb=>⟨rfl,?_⟩⟩
  have sb:Same H5 Hb:=fun c o e=>kb c o (am e hx) (sm _ _ e)
  have sab:=s5.trans sb
  have ptb:PotB Hb p:=pta.same sab
  refine ⟨_,rfl,_,rfl,_,rfl,p,rfl,ptb,fun pa m n Hc hpa m1 m16 n1 n16 ptc bc=>?_⟩
  obtain ⟨_,hpl⟩:=xM ptb
  refine ⟨x,kl,pa,b,rs,ks,m,n,rfl,Sb.keep (fun c xs e=>bc _ _ (fun z=>by rw [z,hpl] at e; cases e) e) (fun c C' d fs e=>bc _ _ (fun z=>by rw [z,hpl] at e; cases e) e),bc _ _ nkp (sab _ _ hka),ng bc ptb (Tups.keep (fun c xs e=>sab _ _ e) tpa),r8,gk,b0,hpa,m1,m16,n1,n16,fun Hd sd=>⟨_,rfl,az ⟨⟨_,_,_,_,rfl⟩,fun c o e=>?_⟩⟩⟩
  have np:c≠p:=am (sx _ _ e) hp
  exact sd _ _ (bc _ _ np (sab _ _ (ba _ _ np (sx _ _ e))))
 rintro _ H1 ⟨v1,v2,v3,v4,rfl⟩
 exact q H1
end
theorem fB {α:Type} {us:List α} (h:us.length=1):∃a,us=[a]:=by
 match us,h with
 | [a],_=>exact ⟨a,rfl⟩
theorem eB {α:Type} {us:List α} (h:us.length=2):∃a b,us=[a,b]:=by
 match us,h with
 | [a,b],_=>exact ⟨a,b,rfl⟩
theorem ic {α:Type} {us:List α} (h:us.length=3):∃a b c,us=[a,b,c]:=by
 match us,h with
 | [a,b,c],_=>exact ⟨a,b,c,rfl⟩
theorem jv {α:Type} {us:List α} (h:us.length=4):∃a b c d,us=[a,b,c,d]:=by
 match us,h with
 | [a,b,c,d],_=>exact ⟨a,b,c,d,rfl⟩
theorem Ey {α:Type} {us:List α} (h:us.length=5):∃a b c d e,us=[a,b,c,d,e]:=by
 match us,h with
 | [a,b,c,d,e],_=>exact ⟨a,b,c,d,e,rfl⟩
abbrev DI (K:PySem.W.Frag) (n:Str) (st:Stmt) (f:Addr):Prop:=∃ (od an:Option Addr) (sl:Array (Option Value)) (oc kV dc pm cd ct:Value),PySem.W.nsIn K mainGlobals n=some (some (.ref f))∧K.lookup f=some ⟨oc,od,.func (PySem.W.fnOf n n (defArgs st) (defBody st) (defScope st) .none kV dc pm an cd ct),sl⟩∧PySem.W.codeIn K cd n=true∧PySem.W.keepIn K (.ref f)=true
abbrev MI (K:PySem.W.Frag) (C:Addr) (n q:Str) (st:Stmt) (f:Addr):Prop:=∃ (od an:Option Addr) (sl:Array (Option Value)) (oc kV dc pm cd ct:Value),PySem.W.findIn K (.ref C) n=some (some (.ref f))∧PySem.W.isFn K (.ref f)=true∧K.lookup f=some ⟨oc,od,.func (PySem.W.fnOf n q (defArgs st) (defBody st) (defScope st) .none kV dc pm an cd ct),sl⟩∧PySem.W.codeIn K cd q=true∧PySem.W.keepIn K (.ref f)=true
theorem diM {K:PySem.W.Frag} {n:Str} {st:Stmt} {f:Addr} {od an:Option Addr} {sl:Array (Option Value)} {oc kV dc pm cd ct:Value} (a:PySem.W.nsIn K mainGlobals n=some (some (.ref f))) (l:K.lookup f=some ⟨oc,od,.func (PySem.W.fnOf n n (defArgs st) (defBody st) (defScope st) .none kV dc pm an cd ct),sl⟩) (c:PySem.W.codeIn K cd n=true) (k:PySem.W.keepIn K (.ref f)=true):DI K n st f:=⟨_,_,_,_,_,_,_,_,_,a,l,c,k⟩
theorem miM {K:PySem.W.Frag} {C:Addr} {n q:Str} {st:Stmt} {f:Addr} {od an:Option Addr} {sl:Array (Option Value)} {oc kV dc pm cd ct:Value} (a:PySem.W.findIn K (.ref C) n=some (some (.ref f))) (i:PySem.W.isFn K (.ref f)=true) (l:K.lookup f=some ⟨oc,od,.func (PySem.W.fnOf n q (defArgs st) (defBody st) (defScope st) .none kV dc pm an cd ct),sl⟩) (c:PySem.W.codeIn K cd q=true) (k:PySem.W.keepIn K (.ref f)=true):MI K C n q st f:=⟨_,_,_,_,_,_,_,_,_,a,i,l,c,k⟩
theorem FT {α:Type} {us:List α} (h:us.length=6):∃a b c d e f,us=[a,b,c,d,e,f]:=by
 match us,h with
 | [a,b,c,d,e,f],_=>exact ⟨a,b,c,d,e,f,rfl⟩
theorem Ez {α:Type} {us:List α} (h:us.length=7):∃a b c d e f g,us=[a,b,c,d,e,f,g]:=by
 match us,h with
 | [a,b,c,d,e,f,g],_=>exact ⟨a,b,c,d,e,f,g,rfl⟩
open PySem.W in
theorem all_mk {l:OpenLaw} {w:World} {K:Frag} {h:Heap} {mg:Str→Option Value} {fa f0 f1 f2 f3 f4 f5 f6 f7 f8 f9 f10 f11 f12 f13 f14 f15 f16 f17 f18 f19 f20 f21 f22 f23 f24 f25 f26 f27 f28 f29 f30 f31 f32 f33 f34 f35 f36 f37 f38 C fm0 fm1 fm2 fm3 fm4 fm5 xWAYS:Addr} (X:K.In h) (G:h.Ns mainGlobals mg) (hfa:mg "law" = some (.ref fa))
  {tc0:Tok} {tc1:Tok} {tc2:Tok} {tc3:Tok} {tc4:Tok} {tc5:Tok} {tc6:Tok} {tc7:Tok} {tc8:Tok} {tc9:Tok}
  (d0:DI K "is_whole" gI f0)
  (d1:DI K "is_truth" gJ f1)
  (d2:DI K "is_row" rc f2)
  (d3:DI K "is_kind" ff f3)
  (d4:DI K "can_lie_turned" fg f4)
  (d5:DI K "check_plate" bU f5)
  (d6:DI K "check_sides" bV f6)
  (d7:DI K "lies_in" dw f7)
  (d8:DI K "lyings_in" cr f8)
  (d9:DI K "parts_up_to" bS f9)
  (d10:DI K "cut_parts" cU f10)
  (d11:DI K "cuts_of" cJ f11)
  (d12:DI K "best_leaf" cW f12)
  (d13:DI K "best_step" cX f13)
  (d14:DI K "tree_by_steps" bm f14)
  (d15:DI K "best_of" fe f15)
  (d16:DI K "begins_with" bX f16)
  (d17:DI K "is_cut" gK f17)
  (d18:DI K "is_leaf" eZ f18)
  (d19:DI K "spots_behind" bN f19)
  (d20:DI K "is_tree" fb f20)
  (d21:DI K "check_tree" cD f21)
  (d22:DI K "leaves_of" cV f22)
  (d23:DI K "pieces_of" cY f23)
  (d24:DI K "counts_of" cu f24)
  (d25:DI K "worth_of" cZ f25)
  (d26:DI K "_law_pot" rd f26)
  (d27:DI K "_law_draw" kh f27)
  (d28:DI K "_law_great" gL f28)
  (d29:DI K "_law_blade" gM f29)
  (d30:DI K "_law_side" kj f30)
  (d31:DI K "_law_kinds" gN f31)
  (d32:DI K "_law_plate" gO f32)
  (d33:DI K "_law_whole" fh f33)
  (d34:DI K "_law_piece_worth" bZ f34)
  (d35:DI K "_law_worth" dJ f35)
  (d36:DI K "_law_listed" cK f36)
  (d37:DI K "_law_told" km f37)
  (d38:DI K "law" kn f38)
  (aC:nsIn K mainGlobals "Shop" = some (some (.ref C)))
  (dm0:MI K C "__init__" "Shop.__init__" cw fm0)
  (dm1:MI K C "blade" "Shop.blade" cF fm1)
  (dm2:MI K C "kinds" "Shop.kinds" cG fm2)
  (dm3:MI K C "lyings" "Shop.lyings" bY fm3)
  (dm4:MI K C "is_lying" "Shop.is_lying" bO fm4)
  (dm5:MI K C "sides" "Shop.sides" cH fm5)
  (pg:plainGet K C Str.empty=true)
  (hd:hasDictIn K C=true)
  (po:plainOver K C=true)
  (sa:findIn K (.ref C) "__setattr__" = some (some (.builtin "object.__setattr__")))
  (mk:makesIn K C=true)
  (kc:keepIn K (.ref C)=true)
  (n0:findIn K (.ref C) "blade_width" = some none)
  (n1:findIn K (.ref C) "kind_rows" = some none)
  (eWAYS:nsIn K mainGlobals "WAYS" = some (some (.ref xWAYS)))
  (lWAYS:∃ (o:Obj) (its:Array Value) (n:Nat),K.lookup xWAYS=some o∧o.cls=.type "tuple" ∧ o.data=.seq its n∧its.size≤sizeLine∧Vals [.str "down",.str "across"] its.toList)
  (z0:nsIn K mainGlobals "isinstance" = some none)
  (z1:nsIn K mainGlobals "int" = some none)
  (z2:nsIn K mainGlobals "bool" = some none)
  (z3:nsIn K mainGlobals "list" = some none)
  (z4:nsIn K mainGlobals "tuple" = some none)
  (z5:nsIn K mainGlobals "len" = some none)
  (z6:nsIn K mainGlobals "range" = some none)
  (z7:nsIn K mainGlobals "max" = some none)
  (z8:nsIn K mainGlobals "min" = some none)
  (z9:nsIn K mainGlobals "abs" = some none)
  (z10:nsIn K mainGlobals "divmod" = some none)
  (z11:nsIn K mainGlobals "sum" = some none)
  (z12:nsIn K mainGlobals "sorted" = some none)
  (z13:nsIn K mainGlobals "all" = some none)
  (z14:nsIn K mainGlobals "repr" = some none)
  (z15:nsIn K mainGlobals "zip" = some none)
  (z16:nsIn K mainGlobals "enumerate" = some none)
  (z17:nsIn K mainGlobals "str" = some none)
  (uc0:nsIn K mainGlobals "MOST_KINDS" = some (some (.int 8 tc0)))
  (uc1:nsIn K mainGlobals "THINGS_OF_A_KIND" = some (some (.int 5 tc1)))
  (uc2:nsIn K mainGlobals "DOWN" = some (some (.str "down" tc2)))
  (uc3:nsIn K mainGlobals "REST" = some (some (.str "rest" tc3)))
  (uc4:nsIn K mainGlobals "PIECE" = some (some (.str "piece" tc4)))
  (uc5:nsIn K mainGlobals "ACROSS" = some (some (.str "across" tc5)))
  (uc6:nsIn K mainGlobals "MOST_SIDE" = some (some (.int 16 tc6)))
  (uc7:nsIn K mainGlobals "THINGS_OF_A_REST" = some (some (.int 1 tc7)))
  (uc8:nsIn K mainGlobals "THINGS_OF_A_PIECE" = some (some (.int 5 tc8)))
  (uc9:nsIn K mainGlobals "THINGS_OF_A_CUT" = some (some (.int 4 tc9))) :
  ∃fd:FuncData,(∀ (s:Shared) (v:Value),BindsTo s fd ⟨[v],[]⟩ [("_law_script",v)])∧∀base:Heap,K.In base→base.Ns mainGlobals mg→FnOk l.prog w K mg base CX0 39 fa fd ["_law_script"] (nv K):=by
 obtain ⟨_,_,_,_,_,_,_,_,_,a0,l0,c0,k0⟩:=d0
 obtain ⟨_,_,_,_,_,_,_,_,_,a1,l1,c1,k1⟩:=d1
 obtain ⟨_,_,_,_,_,_,_,_,_,a2,l2,c2,k2⟩:=d2
 obtain ⟨_,_,_,_,_,_,_,_,_,a3,l3,c3,k3⟩:=d3
 obtain ⟨_,_,_,_,_,_,_,_,_,a4,l4,c4,k4⟩:=d4
 obtain ⟨_,_,_,_,_,_,_,_,_,a5,l5,c5,k5⟩:=d5
 obtain ⟨_,_,_,_,_,_,_,_,_,a6,l6,c6,k6⟩:=d6
 obtain ⟨_,_,_,_,_,_,_,_,_,a7,l7,c7,k7⟩:=d7
 obtain ⟨_,_,_,_,_,_,_,_,_,a8,l8,c8,k8⟩:=d8
 obtain ⟨_,_,_,_,_,_,_,_,_,a9,l9,c9,k9⟩:=d9
 obtain ⟨_,_,_,_,_,_,_,_,_,a10,l10,c10,k10⟩:=d10
 obtain ⟨_,_,_,_,_,_,_,_,_,a11,l11,c11,k11⟩:=d11
 obtain ⟨_,_,_,_,_,_,_,_,_,a12,l12,c12,k12⟩:=d12
 obtain ⟨_,_,_,_,_,_,_,_,_,a13,l13,c13,k13⟩:=d13
 obtain ⟨_,_,_,_,_,_,_,_,_,a14,l14,c14,k14⟩:=d14
 obtain ⟨_,_,_,_,_,_,_,_,_,a15,l15,c15,k15⟩:=d15
 obtain ⟨_,_,_,_,_,_,_,_,_,a16,l16,c16,k16⟩:=d16
 obtain ⟨_,_,_,_,_,_,_,_,_,a17,l17,c17,k17⟩:=d17
 obtain ⟨_,_,_,_,_,_,_,_,_,a18,l18,c18,k18⟩:=d18
 obtain ⟨_,_,_,_,_,_,_,_,_,a19,l19,c19,k19⟩:=d19
 obtain ⟨_,_,_,_,_,_,_,_,_,a20,l20,c20,k20⟩:=d20
 obtain ⟨_,_,_,_,_,_,_,_,_,a21,l21,c21,k21⟩:=d21
 obtain ⟨_,_,_,_,_,_,_,_,_,a22,l22,c22,k22⟩:=d22
 obtain ⟨_,_,_,_,_,_,_,_,_,a23,l23,c23,k23⟩:=d23
 obtain ⟨_,_,_,_,_,_,_,_,_,a24,l24,c24,k24⟩:=d24
 obtain ⟨_,_,_,_,_,_,_,_,_,a25,l25,c25,k25⟩:=d25
 obtain ⟨_,_,_,_,_,_,_,_,_,a26,l26,c26,k26⟩:=d26
 obtain ⟨_,_,_,_,_,_,_,_,_,a27,l27,c27,k27⟩:=d27
 obtain ⟨_,_,_,_,_,_,_,_,_,a28,l28,c28,k28⟩:=d28
 obtain ⟨_,_,_,_,_,_,_,_,_,a29,l29,c29,k29⟩:=d29
 obtain ⟨_,_,_,_,_,_,_,_,_,a30,l30,c30,k30⟩:=d30
 obtain ⟨_,_,_,_,_,_,_,_,_,a31,l31,c31,k31⟩:=d31
 obtain ⟨_,_,_,_,_,_,_,_,_,a32,l32,c32,k32⟩:=d32
 obtain ⟨_,_,_,_,_,_,_,_,_,a33,l33,c33,k33⟩:=d33
 obtain ⟨_,_,_,_,_,_,_,_,_,a34,l34,c34,k34⟩:=d34
 obtain ⟨_,_,_,_,_,_,_,_,_,a35,l35,c35,k35⟩:=d35
 obtain ⟨_,_,_,_,_,_,_,_,_,a36,l36,c36,k36⟩:=d36
 obtain ⟨_,_,_,_,_,_,_,_,_,a37,l37,c37,k37⟩:=d37
 obtain ⟨_,an,_,_,kV,dc,pm,cd,ct,a38,l38,c38,k38⟩:=d38
 obtain ⟨_,_,_,_,_,_,_,_,_,am0,im0,lm0,cm0,km0⟩:=dm0
 obtain ⟨_,_,_,_,_,_,_,_,_,am1,im1,lm1,cm1,km1⟩:=dm1
 obtain ⟨_,_,_,_,_,_,_,_,_,am2,im2,lm2,cm2,km2⟩:=dm2
 obtain ⟨_,_,_,_,_,_,_,_,_,am3,im3,lm3,cm3,km3⟩:=dm3
 obtain ⟨_,_,_,_,_,_,_,_,_,am4,im4,lm4,cm4,km4⟩:=dm4
 obtain ⟨_,_,_,_,_,_,_,_,_,am5,im5,lm5,cm5,km5⟩:=dm5
 have e:=hfa.symm.trans (mg_of X G a38)
 cases e
 have F0:=ay (st:=gI) l0 c0 k0
 have b0:=F0.binds (ps:=["thing","least"]) fun _ _ _ _ _ _ us hl=>by obtain ⟨_,_,rfl⟩:=eB hl; rfl
 have F1:=ay (st:=gJ) l1 c1 k1
 have b1:=F1.binds (ps:=["thing"]) fun _ _ _ _ _ _ us hl=>by obtain ⟨_,rfl⟩:=fB hl; rfl
 have F2:=ay (st:=rc) l2 c2 k2
 have b2:=F2.binds (ps:=["thing"]) fun _ _ _ _ _ _ us hl=>by obtain ⟨_,rfl⟩:=fB hl; rfl
 have F3:=ay (st:=ff) l3 c3 k3
 have b3:=F3.binds (ps:=["thing"]) fun _ _ _ _ _ _ us hl=>by obtain ⟨_,rfl⟩:=fB hl; rfl
 have F4:=ay (st:=fg) l4 c4 k4
 have b4:=F4.binds (ps:=["kind"]) fun _ _ _ _ _ _ us hl=>by obtain ⟨_,rfl⟩:=fB hl; rfl
 have F5:=ay (st:=bU) l5 c5 k5
 have b5:=F5.binds (ps:=["wide","high"]) fun _ _ _ _ _ _ us hl=>by obtain ⟨_,_,rfl⟩:=eB hl; rfl
 have F6:=ay (st:=bV) l6 c6 k6
 have b6:=F6.binds (ps:=["wide","high","most"]) fun _ _ _ _ _ _ us hl=>by obtain ⟨_,_,_,rfl⟩:=ic hl; rfl
 have F7:=ay (st:=dw) l7 c7 k7
 have b7:=F7.binds (ps:=["shop","wide","high","kind","turned","x","y"]) fun _ _ _ _ _ _ us hl=>by obtain ⟨_,_,_,_,_,_,_,rfl⟩:=Ez hl; rfl
 have F8:=ay (st:=cr) l8 c8 k8
 have b8:=F8.binds (ps:=["shop","part"]) fun _ _ _ _ _ _ us hl=>by obtain ⟨_,_,rfl⟩:=eB hl; rfl
 have F9:=ay (st:=bS) l9 c9 k9
 have b9:=F9.binds (ps:=["wide","high"]) fun _ _ _ _ _ _ us hl=>by obtain ⟨_,_,rfl⟩:=eB hl; rfl
 have F10:=ay (st:=cU) l10 c10 k10
 have b10:=F10.binds (ps:=["blade","part","way","p"]) fun _ _ _ _ _ _ us hl=>by obtain ⟨_,_,_,_,rfl⟩:=jv hl; rfl
 have F11:=ay (st:=cJ) l11 c11 k11
 have b11:=F11.binds (ps:=["blade","part"]) fun _ _ _ _ _ _ us hl=>by obtain ⟨_,_,rfl⟩:=eB hl; rfl
 have F12:=ay (st:=cW) l12 c12 k12
 have b12:=F12.binds (ps:=["shop","part"]) fun _ _ _ _ _ _ us hl=>by obtain ⟨_,_,rfl⟩:=eB hl; rfl
 have F13:=ay (st:=cX) l13 c13 k13
 have b13:=F13.binds (ps:=["leaf_found","cuts","worths"]) fun _ _ _ _ _ _ us hl=>by obtain ⟨_,_,_,rfl⟩:=ic hl; rfl
 have F14:=ay (st:=bm) l14 c14 k14
 have b14:=F14.binds (ps:=["steps","key"]) fun _ _ _ _ _ _ us hl=>by obtain ⟨_,_,rfl⟩:=eB hl; rfl
 have F15:=ay (st:=fe) l15 c15 k15
 have b15:=F15.binds (ps:=["shop","wide","high"]) fun _ _ _ _ _ _ us hl=>by obtain ⟨_,_,_,rfl⟩:=ic hl; rfl
 have F16:=ay (st:=bX) l16 c16 k16
 have b16:=F16.binds (ps:=["thing","word","many"]) fun _ _ _ _ _ _ us hl=>by obtain ⟨_,_,_,rfl⟩:=ic hl; rfl
 have F17:=ay (st:=gK) l17 c17 k17
 have b17:=F17.binds (ps:=["blade","spot"]) fun _ _ _ _ _ _ us hl=>by obtain ⟨_,_,rfl⟩:=eB hl; rfl
 have F18:=ay (st:=eZ) l18 c18 k18
 have b18:=F18.binds (ps:=["shop","spot"]) fun _ _ _ _ _ _ us hl=>by obtain ⟨_,_,rfl⟩:=eB hl; rfl
 have F19:=ay (st:=bN) l19 c19 k19
 have b19:=F19.binds (ps:=["blade","spot"]) fun _ _ _ _ _ _ us hl=>by obtain ⟨_,_,rfl⟩:=eB hl; rfl
 have F20:=ay (st:=fb) l20 c20 k20
 have b20:=F20.binds (ps:=["shop","wide","high","thing"]) fun _ _ _ _ _ _ us hl=>by obtain ⟨_,_,_,_,rfl⟩:=jv hl; rfl
 have F21:=ay (st:=cD) l21 c21 k21
 have b21:=F21.binds (ps:=["shop","wide","high","thing"]) fun _ _ _ _ _ _ us hl=>by obtain ⟨_,_,_,_,rfl⟩:=jv hl; rfl
 have F22:=ay (st:=cV) l22 c22 k22
 have b22:=F22.binds (ps:=["shop","wide","high","tree"]) fun _ _ _ _ _ _ us hl=>by obtain ⟨_,_,_,_,rfl⟩:=jv hl; rfl
 have F23:=ay (st:=cY) l23 c23 k23
 have b23:=F23.binds (ps:=["shop","wide","high","tree"]) fun _ _ _ _ _ _ us hl=>by obtain ⟨_,_,_,_,rfl⟩:=jv hl; rfl
 have F24:=ay (st:=cu) l24 c24 k24
 have b24:=F24.binds (ps:=["shop","wide","high","tree"]) fun _ _ _ _ _ _ us hl=>by obtain ⟨_,_,_,_,rfl⟩:=jv hl; rfl
 have F25:=ay (st:=cZ) l25 c25 k25
 have b25:=F25.binds (ps:=["shop","wide","high","tree"]) fun _ _ _ _ _ _ us hl=>by obtain ⟨_,_,_,_,rfl⟩:=jv hl; rfl
 have F26:=ay (st:=rd) l26 c26 k26
 have b26:=F26.binds (ps:=["_law_cell"]) fun _ _ _ _ _ _ us hl=>by obtain ⟨_,rfl⟩:=fB hl; rfl
 have F27:=ay (st:=kh) l27 c27 k27
 have b27:=F27.binds (ps:=["_law_pot_here","_law_many"]) fun _ _ _ _ _ _ us hl=>by obtain ⟨_,_,rfl⟩:=eB hl; rfl
 have F28:=ay (st:=gL) l28 c28 k28
 have b28:=F28.binds (ps:=["_law_pot_here","_law_many"]) fun _ _ _ _ _ _ us hl=>by obtain ⟨_,_,rfl⟩:=eB hl; rfl
 have F29:=ay (st:=gM) l29 c29 k29
 have b29:=F29.binds (ps:=["_law_pot_here"]) fun _ _ _ _ _ _ us hl=>by obtain ⟨_,rfl⟩:=fB hl; rfl
 have F30:=ay (st:=kj) l30 c30 k30
 have b30:=F30.binds (ps:=["_law_pot_here"]) fun _ _ _ _ _ _ us hl=>by obtain ⟨_,rfl⟩:=fB hl; rfl
 have F31:=ay (st:=gN) l31 c31 k31
 have b31:=F31.binds (ps:=["_law_pot_here"]) fun _ _ _ _ _ _ us hl=>by obtain ⟨_,rfl⟩:=fB hl; rfl
 have F32:=ay (st:=gO) l32 c32 k32
 have b32:=F32.binds (ps:=["_law_pot_here"]) fun _ _ _ _ _ _ us hl=>by obtain ⟨_,rfl⟩:=fB hl; rfl
 have F33:=ay (st:=fh) l33 c33 k33
 have b33:=F33.binds (ps:=["_law_number","_law_least"]) fun _ _ _ _ _ _ us hl=>by obtain ⟨_,_,rfl⟩:=eB hl; rfl
 have F34:=ay (st:=bZ) l34 c34 k34
 have b34:=F34.binds (ps:=["_law_kinds_here","_law_wide","_law_high","_law_tree"]) fun _ _ _ _ _ _ us hl=>by obtain ⟨_,_,_,_,rfl⟩:=jv hl; rfl
 have F35:=ay (st:=dJ) l35 c35 k35
 have b35:=F35.binds (ps:=["_law_blade_here","_law_kinds_here","_law_wide","_law_high","_law_tree"]) fun _ _ _ _ _ _ us hl=>by obtain ⟨_,_,_,_,_,rfl⟩:=Ey hl; rfl
 have F36:=ay (st:=cK) l36 c36 k36
 have b36:=F36.binds (ps:=["_law_tree"]) fun _ _ _ _ _ _ us hl=>by obtain ⟨_,rfl⟩:=fB hl; rfl
 have F37:=ay (st:=km) l37 c37 k37
 have b37:=F37.binds (ps:=["_law_shop","_law_blade_here","_law_kinds_here","_law_plate_here"]) fun _ _ _ _ _ _ us hl=>by obtain ⟨_,_,_,_,rfl⟩:=jv hl; rfl
 have F38:=ay (st:=kn) l38 c38 k38
 have b38:=F38.binds (ps:=["_law_script"]) fun _ _ _ _ _ _ us hl=>by obtain ⟨_,rfl⟩:=fB hl; rfl
 have Fm0:=ay (st:=cw) lm0 cm0 km0
 have bm0:=Fm0.binds (ps:=["self","blade","kinds"]) fun _ _ _ _ _ _ us hl=>by obtain ⟨_,_,_,rfl⟩:=ic hl; rfl
 have Fm1:=ay (st:=cF) lm1 cm1 km1
 have bm1:=Fm1.binds (ps:=["self"]) fun _ _ _ _ _ _ us hl=>by obtain ⟨_,rfl⟩:=fB hl; rfl
 have Fm2:=ay (st:=cG) lm2 cm2 km2
 have bm2:=Fm2.binds (ps:=["self"]) fun _ _ _ _ _ _ us hl=>by obtain ⟨_,rfl⟩:=fB hl; rfl
 have Fm3:=ay (st:=bY) lm3 cm3 km3
 have bm3:=Fm3.binds (ps:=["self"]) fun _ _ _ _ _ _ us hl=>by obtain ⟨_,rfl⟩:=fB hl; rfl
 have Fm4:=ay (st:=bO) lm4 cm4 km4
 have bm4:=Fm4.binds (ps:=["self","kind","turned"]) fun _ _ _ _ _ _ us hl=>by obtain ⟨_,_,_,rfl⟩:=ic hl; rfl
 have Fm5:=ay (st:=cH) lm5 cm5 km5
 have bm5:=Fm5.binds (ps:=["self","kind","turned"]) fun _ _ _ _ _ _ us hl=>by obtain ⟨_,_,_,rfl⟩:=ic hl; rfl
 have y0:=mg_none_of X G z0
 have y1:=mg_none_of X G z1
 have y2:=mg_none_of X G z2
 have y3:=mg_none_of X G z3
 have y4:=mg_none_of X G z4
 have y5:=mg_none_of X G z5
 have y6:=mg_none_of X G z6
 have y7:=mg_none_of X G z7
 have y8:=mg_none_of X G z8
 have y9:=mg_none_of X G z9
 have y10:=mg_none_of X G z10
 have y11:=mg_none_of X G z11
 have y12:=mg_none_of X G z12
 have y13:=mg_none_of X G z13
 have y14:=mg_none_of X G z14
 have y15:=mg_none_of X G z15
 have y16:=mg_none_of X G z16
 have y17:=mg_none_of X G z17
 have gWAYS:=mg_of X G eWAYS
 have u0:=mg_of X G uc0
 have u1:=mg_of X G uc1
 have u2:=mg_of X G uc2
 have u3:=mg_of X G uc3
 have u4:=mg_of X G uc4
 have u5:=mg_of X G uc5
 have u6:=mg_of X G uc6
 have u7:=mg_of X G uc7
 have u8:=mg_of X G uc8
 have u9:=mg_of X G uc9
 have q0:=mg_of X G a0
 have q1:=mg_of X G a1
 have q2:=mg_of X G a2
 have q3:=mg_of X G a3
 have q4:=mg_of X G a4
 have q5:=mg_of X G a5
 have q6:=mg_of X G a6
 have q7:=mg_of X G a7
 have q8:=mg_of X G a8
 have q9:=mg_of X G a9
 have q10:=mg_of X G a10
 have q11:=mg_of X G a11
 have q12:=mg_of X G a12
 have q13:=mg_of X G a13
 have q14:=mg_of X G a14
 have q15:=mg_of X G a15
 have q16:=mg_of X G a16
 have q17:=mg_of X G a17
 have q18:=mg_of X G a18
 have q19:=mg_of X G a19
 have q20:=mg_of X G a20
 have q21:=mg_of X G a21
 have q22:=mg_of X G a22
 have q23:=mg_of X G a23
 have q24:=mg_of X G a24
 have q25:=mg_of X G a25
 have q26:=mg_of X G a26
 have q27:=mg_of X G a27
 have q28:=mg_of X G a28
 have q29:=mg_of X G a29
 have q30:=mg_of X G a30
 have q31:=mg_of X G a31
 have q32:=mg_of X G a32
 have q33:=mg_of X G a33
 have q34:=mg_of X G a34
 have q35:=mg_of X G a35
 have q36:=mg_of X G a36
 have q37:=mg_of X G a37
 have q38:=mg_of X G a38
 have qC:=mg_of X G aC
 refine ⟨fnOf "law" "law" (defArgs kn) (defBody kn) (defScope kn) .none kV dc pm an cd ct,fun s v=>.of_eq rfl,fun base _ _=>?_⟩
 have B:Blt mg:=⟨y0,y1,y2,y3,y4,y5,y6,y7,y8,y9,y10,y11,y12,y13,y14,y15,y16,⟨_,u0⟩,⟨_,u1⟩⟩
 have T:ShopTxt K C:=⟨⟨pg,hd,po,sa⟩,n0,n1⟩
 have ZB:BeC K mg xWAYS:=⟨⟨_,u2⟩,⟨_,u3⟩,⟨_,u4⟩,⟨_,u5⟩,⟨_,u6⟩,gWAYS,fun H=>.inr lWAYS⟩
 have Z:TrC K mg xWAYS:=⟨⟨_,u2⟩,⟨_,u3⟩,⟨_,u4⟩,⟨_,u7⟩,⟨_,u8⟩,⟨_,u9⟩,gWAYS,fun H=>.inr lWAYS⟩
 have D0:Dn l.prog w K mg base "is_whole" ["thing","least"] 1 (cj K):=⟨_,_,re F0 B,b0,k0,q0⟩
 have D1:Dn l.prog w K mg base "is_truth" ["thing"] 1 (gm K):=⟨_,_,rf F1 B,b1,k1,q1⟩
 have D2:Dn l.prog w K mg base "is_row" ["thing"] 1 (jI K):=⟨_,_,vf F2 B,b2,k2,q2⟩
 have D3:Dn l.prog w K mg base "is_kind" ["thing"] 2 (eO K):=⟨_,_,nX F3 B D0 D1 D2,b3,k3,q3⟩
 have D4:Dn l.prog w K mg base "can_lie_turned" ["kind"] 1 (eR K):=⟨_,_,nY F4,b4,k4,q4⟩
 have MB:Mn l.prog w K mg base C "blade" ["self"] 1 (eP C):=⟨_,_,rg Fm1 T,bm1,⟨am1,im1,km1⟩⟩
 have MK:Mn l.prog w K mg base C "kinds" ["self"] 1 (eQ C):=⟨_,_,rh Fm2 T y3,bm2,⟨am2,im2,km2⟩⟩
 have ML:Mn l.prog w K mg base C "lyings" ["self"] 2 (gE C):=⟨_,_,nZ Fm3 T y16 D4,bm3,⟨am3,im3,km3⟩⟩
 have MI:Mn l.prog w K mg base C "is_lying" ["self","kind","turned"] 2 (cS K C):=⟨_,_,lG Fm4 B T D0 D1 D4,bm4,⟨am4,im4,km4⟩⟩
 have MS:Mn l.prog w K mg base C "sides" ["self","kind","turned"] 3 (gp K C):=⟨_,_,rn Fm5 T MI,bm5,⟨am5,im5,km5⟩⟩
 have DS:Kn l.prog w K mg base "Shop" C ["self","blade","kinds"] 3 (lr C):=⟨_,_,⟨mk,am0,im0,kc⟩,tI Fm0 B T D0 D2 D3,bm0,qC⟩
 have D5:Dn l.prog w K mg base "check_plate" ["wide","high"] 2 (tN):=⟨_,_,oj F5 D0,b5,k5,q5⟩
 have D6:Dn l.prog w K mg base "check_sides" ["wide","high","most"] 1 (vi):=⟨_,_,oC F6,b6,k6,q6⟩
 have D7:Dn l.prog w K mg base "lies_in" ["shop","wide","high","kind","turned","x","y"] 4 (lK C):=⟨_,_,tO F7 T D0 MI MS,b7,k7,q7⟩
 have D8:Dn l.prog w K mg base "lyings_in" ["shop","part"] 5 (lL C):=⟨_,_,tQ F8 T ML D7,b8,k8,q8⟩
 have D9:Dn l.prog w K mg base "parts_up_to" ["wide","high"] 1 (jm):=⟨_,_,rG F9 B,b9,k9,q9⟩
 have D10:Dn l.prog w K mg base "cut_parts" ["blade","part","way","p"] 1 (fj):=⟨_,_,og F10 Z,b10,k10,q10⟩
 have D11:Dn l.prog w K mg base "cuts_of" ["blade","part"] 2 (lM):=⟨_,_,tR F11 B ZB D10,b11,k11,q11⟩
 have D12:Dn l.prog w K mg base "best_leaf" ["shop","part"] 6 (jo C):=⟨_,_,rL F12 ZB T MK D8,b12,k12,q12⟩
 have D13:Dn l.prog w K mg base "best_step" ["leaf_found","cuts","worths"] 1 (lN):=⟨_,_,rM F13,b13,k13,q13⟩
 have D14:Dn l.prog w K mg base "tree_by_steps" ["steps","key"] 34 (gb 33):=⟨_,_,mZ F14 ZB (fun n h=>⟨_,_,h,b14,k14,q14⟩) 33,b14,k14,q14⟩
 have D15:Dn l.prog w K mg base "best_of" ["shop","wide","high"] 35 (hG C):=⟨_,_,oE F15 ZB T MB D5 D6 D9 D11 D12 D13 D14,b15,k15,q15⟩
 have D7:Dn l.prog w K mg base "lies_in" ["shop","wide","high","kind","turned","x","y"] 4 (jk K C):=⟨_,_,rz F7 T D0 MI MS,b7,k7,q7⟩
 have D16:Dn l.prog w K mg base "begins_with" ["thing","word","many"] 2 (fi):=⟨_,_,oe F16 B y17 D2,b16,k16,q16⟩
 have D17:Dn l.prog w K mg base "is_cut" ["blade","spot"] 3 (rA):=⟨_,_,vh F17 Z D16 D0,b17,k17,q17⟩
 have D18:Dn l.prog w K mg base "is_leaf" ["shop","spot"] 5 (lH C):=⟨_,_,tM F18 Z D16 D7,b18,k18,q18⟩
 have D19:Dn l.prog w K mg base "spots_behind" ["blade","spot"] 2 (fk):=⟨_,_,oh F19 Z D10,b19,k19,q19⟩
 have D20:Dn l.prog w K mg base "is_tree" ["shop","wide","high","thing"] 6 (fm C):=⟨_,_,om F20 T MB D5 D17 D18 D19,b20,k20,q20⟩
 have D21:Dn l.prog w K mg base "check_tree" ["shop","wide","high","thing"] 7 (gT C):=⟨_,_,ow F21 D20,b21,k21,q21⟩
 have D22:Dn l.prog w K mg base "leaves_of" ["shop","wide","high","tree"] 3 (gS C):=⟨_,_,ou F22 T Z MB D19,b22,k22,q22⟩
 have D23:Dn l.prog w K mg base "pieces_of" ["shop","wide","high","tree"] 8 (gU C):=⟨_,_,oz F23 B Z D21 D22,b23,k23,q23⟩
 have D24:Dn l.prog w K mg base "counts_of" ["shop","wide","high","tree"] 9 (fM C):=⟨_,_,lJ F24 B T MK D23,b24,k24,q24⟩
 have D25:Dn l.prog w K mg base "worth_of" ["shop","wide","high","tree"] 10 (gX C):=⟨_,_,oB F25 B T MK D24,b25,k25,q25⟩
 have D26:Dn l.prog w K mg base "_law_pot" ["_law_cell"] 1 (lA):=⟨_,_,vn F26 B,b26,k26,q26⟩
 have D27:Dn l.prog w K mg base "_law_draw" ["_law_pot_here","_law_many"] 1 (dv):=⟨_,_,tT F27 B,b27,k27,q27⟩
 have D28:Dn l.prog w K mg base "_law_great" ["_law_pot_here","_law_many"] 2 (dQ):=⟨_,_,oF F28 B D27,b28,k28,q28⟩
 have D29:Dn l.prog w K mg base "_law_blade" ["_law_pot_here"] 3 (hI):=⟨_,_,oG F29 B D27 D28,b29,k29,q29⟩
 have D30:Dn l.prog w K mg base "_law_side" ["_law_pot_here"] 3 (jr):=⟨_,_,rP F30 B D27 D28,b30,k30,q30⟩
 have D31:Dn l.prog w K mg base "_law_kinds" ["_law_pot_here"] 4 (hJ):=⟨_,_,oH F31 B D27 D28 D30,b31,k31,q31⟩
 have D32:Dn l.prog w K mg base "_law_plate" ["_law_pot_here"] 2 (hU):=⟨_,_,oI F32 B D27,b32,k32,q32⟩
 have D33:Dn l.prog w K mg base "_law_whole" ["_law_number","_law_least"] 1 (di):=⟨_,_,oJ F33 B,b33,k33,q33⟩
 have D34:Dn l.prog w K mg base "_law_piece_worth" ["_law_kinds_here","_law_wide","_law_high","_law_tree"] 2 (fA):=⟨_,_,oK F34 B D33,b34,k34,q34⟩
 have D35:Dn l.prog w K mg base "_law_worth" ["_law_blade_here","_law_kinds_here","_law_wide","_law_high","_law_tree"] 37 (ce 34):=⟨_,_,hW F35 B y17 D33 D34 (fun n h=>⟨_,_,h,b35,k35,q35⟩) 34,b35,k35,q35⟩
 have D36:Dn l.prog w K mg base "_law_listed" ["_law_tree"] 37 (bz 36):=⟨_,_,gc F36 B (fun n h=>⟨_,_,h,b36,k36,q36⟩) 36,b36,k36,q36⟩
 have D37:Dn l.prog w K mg base "_law_told" ["_law_shop","_law_blade_here","_law_kinds_here","_law_plate_here"] 38 (ju C):=⟨_,_,rR F37 B D15 D33 D35 D20 D36 D25,b37,k37,q37⟩
 exact vA F38 B D26 D29 D31 D32 D37 DS
theorem walk {l:PySem.W.OpenLaw} {q:Program} {loose:List Str} {XP:(Str→Option Value)→Heap→Prop} {YP:World→Heap→Prop} {d:DefRec} {K:Params→PySem.W.Frag} (hn:l.most=some 63) (hdf:d.params.defaults=[])
  (hY:∀ (w:World) (h:Heap),YP w h→(K w.params).In h)
  (F:∀ (w:World) (mg:Str→Option Value) (fa:Addr) (h:Heap),(K w.params).In h→h.Ns mainGlobals mg→mg d.name=some (.ref fa) →
   ∃fd:FuncData,(∀ (s:Shared) (u:Value),BindsTo s fd ⟨[u],[]⟩ [("_law_script",u)])∧∀base:Heap,(K w.params).In base→base.Ns mainGlobals mg→FnOk l.prog w (K w.params) mg base CX0 39 fa fd ["_law_script"] (nv (K w.params))) :
  PySem.W.WalkO q loose XP YP l.row.toRowW d [] (fun f vs=>PySem.call f vs) :=
 L2.walk_of (n:=63) (k:=39) (x := "_law_script") (CX:=fun _=>CX0) (sp:=fun w=>nv (K w.params)) hn (by decide) hdf ⟨rfl,by decide,by decide,rfl⟩ hY F (fun _ _ a ns hl _ hS=>⟨a,ns,rfl,hS,hl,fun _=>rfl⟩) fun _ _ _ _ _ z=>z
end Pc
namespace Pc
open PySem L2
section
open PySem.W
noncomputable def kE (P:Params) (n:Str) (t:Nat) (v:Value):DictEntry:=⟨PyData.keyHash P n,.str n t,v⟩
noncomputable def kO3 (P:Params):Obj:=⟨(.type "dict"),none,(.dict #[kE P "__name__" 165 (.str "law_platecuts_k42_whole_tree_worth_so" 713),kE P "__doc__" 166 .none,kE P "__package__" 167 .none,kE P "__loader__" 168 (.builtin "__main__.__loader__#opaque"),kE P "__spec__" 169 .none,kE P "__annotations__" 170 (.ref 6),kE P "__builtins__" 171 (.ref 4),kE P "__file__" 173 (.str "/claim/cut.py" 172),kE P "__cached__" 174 .none,kE P "PlateError" 206 (.ref 24),kE P "NoBlade" 222 (.ref 37),kE P "NoKinds" 238 (.ref 49),kE P "NoKind" 254 (.ref 61),kE P "NoLying" 270 (.ref 73),kE P "NoPlate" 286 (.ref 85),kE P "NoTree" 302 (.ref 97),kE P "TooLarge" 318 (.ref 109),kE P "is_whole" 328 (.ref 118),kE P "is_truth" 335 (.ref 125),kE P "is_row" 342 (.ref 132),kE P "check_plate" 350 (.ref 139),kE P "check_sides" 359 (.ref 146),kE P "DOWN" 363 (.str "down" 362),kE P "ACROSS" 365 (.str "across" 364),kE P "WAYS" 366 (.ref 147),kE P "lies_in" 381 (.ref 154),kE P "lyings_in" 387 (.ref 159),kE P "cut_parts" 399 (.ref 166),kE P "cuts_of" 405 (.ref 171),kE P "parts_up_to" 411 (.ref 176),kE P "REST" 415 (.str "rest" 414),kE P "PIECE" 417 (.str "piece" 416),kE P "THINGS_OF_A_REST" 419 (.int 1 418),kE P "THINGS_OF_A_PIECE" 421 (.int 5 420),kE P "THINGS_OF_A_CUT" 423 (.int 4 422),kE P "begins_with" 432 (.ref 183),kE P "is_cut" 443 (.ref 190),kE P "is_leaf" 456 (.ref 197),kE P "spots_behind" 480 (.ref 204),kE P "is_tree" 493 (.ref 211),kE P "check_tree" 503 (.ref 218),kE P "leaves_of" 516 (.ref 225),kE P "MOST_SIDE" 520 (.int 16 519),kE P "best_leaf" 533 (.ref 232),kE P "best_step" 546 (.ref 239),kE P "tree_by_steps" 559 (.ref 246),kE P "best_of" 575 (.ref 253),kE P "pieces_of" 598 (.ref 260),kE P "counts_of" 604 (.ref 265),kE P "worth_of" 610 (.ref 270),kE P "MOST_KINDS" 614 (.int 8 613),kE P "THINGS_OF_A_KIND" 616 (.int 5 615),kE P "is_kind" 628 (.ref 277),kE P "can_lie_turned" 635 (.ref 284),kE P "Shop" 712 (.ref 339),kE P "_law_pot" 721 (.ref 350),kE P "_law_draw" 730 (.ref 357),kE P "_law_great" 740 (.ref 364),kE P "_law_blade" 748 (.ref 371),kE P "_law_side" 756 (.ref 378),kE P "_law_kinds" 768 (.ref 385),kE P "_law_plate" 778 (.ref 392),kE P "_law_whole" 786 (.ref 399),kE P "_law_piece_worth" 801 (.ref 406),kE P "_law_worth" 807 (.ref 411),kE P "_law_listed" 813 (.ref 416),kE P "_law_told" 828 (.ref 423),kE P "law" 839 (.ref 430)] 68),#[]⟩
noncomputable def EA (P:Params):Obj:=⟨(.type "dict"),none,(.dict #[kE P "__module__" 196 (.str "platecuts.errors" 187),kE P "__firstlineno__" 200 (.int 2 199),kE P "__static_attributes__" 201 (.ref 22),kE P "__weakref__" 203 (.ref 25),kE P "__doc__" 204 .none] 3),#[]⟩
noncomputable def EB (P:Params):Obj:=⟨(.type "type"),none,(.cls ⟨"PlateError",[.type "ValueError"],[.ref 24,.type "ValueError",.type "Exception",.type "BaseException",.type "object"],23,"PlateError",true,[],[.ref 37,.ref 49,.ref 61,.ref 73,.ref 85,.ref 97,.ref 109],false,none,false⟩),#[some (.ref 15),none,some (.str "PlateError" 189),some (.str "PlateError" 197),some (.builtin "ValueError.__new__"),some (.bool true)]⟩
noncomputable def gk0 (x0 x1 x2 x3 x4 x5 x6:Nat)(P:Params):Obj:=⟨(.type "dict"),none,(.dict #[kE P "__module__" x0 (.str "platecuts.errors" 187),kE P "__firstlineno__" x1 (.int x2 x3),kE P "__static_attributes__" x4 (.ref x5),kE P "__doc__" x6 .none] 2),#[]⟩
noncomputable def EC:=gk0 214 218 4 217 219 35 220
noncomputable def gk1 (x0:Str)(x1 x2 x3 x4 x5:Nat)(P:Params):Obj:=⟨(.type "type"),none,(.cls ⟨x0,[.ref 24],[.ref x1,.ref 24,.type "ValueError",.type "Exception",.type "BaseException",.type "object"],x2,x0,true,[],[],false,none,false⟩),#[some (.ref x3),none,some (.str x0 x4),some (.str x0 x5),some (.builtin "ValueError.__new__"),some (.bool true)]⟩
noncomputable def ED:=gk1 "NoBlade" 37 36 28 207 215
noncomputable def EE:=gk0 230 234 6 233 235 47 236
noncomputable def EF:=gk1 "NoKinds" 49 48 40 223 231
noncomputable def EG:=gk0 246 250 8 249 251 59 252
noncomputable def EH:=gk1 "NoKind" 61 60 52 239 247
noncomputable def EI:=gk0 262 266 10 265 267 71 268
noncomputable def EJ:=gk1 "NoLying" 73 72 64 255 263
noncomputable def EK:=gk0 278 282 12 281 283 83 284
noncomputable def EL:=gk1 "NoPlate" 85 84 76 271 279
noncomputable def EM:=gk0 294 298 14 297 299 95 300
noncomputable def EN:=gk1 "NoTree" 97 96 88 287 295
noncomputable def xP:=gk0 310 314 16 313 315 107 316
noncomputable def xQ:=gk1 "TooLarge" 109 108 100 303 311
noncomputable def gk2 (x0:Str)(x1:Nat)(x2:Str)(x3 x4 x5 x6 x7 x8 x9 x10 x11 x12 x13:Nat)(P:Params):Obj:=⟨(.type "code"),none,(.fields #[.str x0 x1,.str x2 x3,.str "/claim/cut.py" x4,.int x5 0,.int x6 0,.int 0 0,.int 0 0,.int 3 0,.ref x7,.bool true,.int 181 0,.ref x8,.none,.ref x9,.ref x10,.ref x11,.int x12 0,.int x5 0,.str "/claim/cut.py" x13]),#[]⟩
noncomputable def xR:=gk2 "is_whole" 321 "is_whole" 322 323 19 2 112 113 114 115 116 326 327
noncomputable def gk3 (x0 x1:Str)(x2:Stmt)(x3:Str)(x4 x5:Nat)(P:Params):Obj:=⟨(.type "function"),none,(.func (fnOf x0 x1 (defArgs x2) (defBody x2) (defScope x2) .none .none .none (.str x3 x4) none (.ref x5) .none)),#[]⟩
noncomputable def xS:=gk3 "is_whole" "is_whole" gI "platecuts.checks" 319 117
noncomputable def xT:=gk2 "is_truth" 329 "is_truth" 330 331 21 1 119 120 121 122 123 333 334
noncomputable def xU:=gk3 "is_truth" "is_truth" gJ "platecuts.checks" 319 124
noncomputable def xV:=gk2 "is_row" 336 "is_row" 337 338 23 1 126 127 128 129 130 340 341
noncomputable def xW:=gk3 "is_row" "is_row" rc "platecuts.checks" 319 131
noncomputable def xX:=gk2 "check_plate" 343 "check_plate" 344 345 25 2 133 134 135 136 137 348 349
noncomputable def xY:=gk3 "check_plate" "check_plate" bU "platecuts.checks" 319 138
noncomputable def xZ:=gk2 "check_sides" 351 "check_sides" 352 353 28 3 140 141 142 143 144 357 358
noncomputable def ya:=gk3 "check_sides" "check_sides" bV "platecuts.checks" 319 145
noncomputable def yb (P:Params):Obj:=⟨(.type "tuple"),none,(.seq #[.str "down" 362,.str "across" 364] 0),#[]⟩
noncomputable def yc:=gk2 "lies_in" 367 "lies_in" 368 369 35 7 148 149 150 151 152 379 380
noncomputable def yd:=gk3 "lies_in" "lies_in" dw "platecuts.parts" 360 153
noncomputable def gk4 (x0:Str)(x1:Nat)(x2:Str)(x3 x4 x5 x6 x7 x8 x9 x10 x11:Nat)(P:Params):Obj:=⟨(.type "code"),none,(.fields #[.str x0 x1,.str x2 x3,.str "/claim/cut.py" x4,.int x5 0,.int x6 0,.int 0 0,.int 0 0,.int 3 0,.ref x7,.bool true,.int 181 0,.ref x8,.none,.none,.none,.ref x9,.int x10 0,.int x5 0,.str "/claim/cut.py" x11]),#[]⟩
noncomputable def ye:=gk4 "lyings_in" 382 "lyings_in" 383 384 40 2 155 156 157 385 386
noncomputable def yf:=gk3 "lyings_in" "lyings_in" cr "platecuts.parts" 360 158
noncomputable def yg:=gk2 "cut_parts" 388 "cut_parts" 389 390 43 4 160 161 162 163 164 397 398
noncomputable def yh:=gk3 "cut_parts" "cut_parts" cU "platecuts.parts" 360 165
noncomputable def yi:=gk4 "cuts_of" 400 "cuts_of" 401 402 48 2 167 168 169 403 404
noncomputable def yj:=gk3 "cuts_of" "cuts_of" cJ "platecuts.parts" 360 170
noncomputable def yk:=gk4 "parts_up_to" 406 "parts_up_to" 407 408 52 2 172 173 174 409 410
noncomputable def ym:=gk3 "parts_up_to" "parts_up_to" bS "platecuts.parts" 360 175
noncomputable def yn:=gk2 "begins_with" 424 "begins_with" 425 426 60 3 177 178 179 180 181 430 431
noncomputable def yo:=gk3 "begins_with" "begins_with" bX "platecuts.trees" 412 182
noncomputable def yp:=gk2 "is_cut" 433 "is_cut" 434 435 64 2 184 185 186 187 188 441 442
noncomputable def yq:=gk3 "is_cut" "is_cut" gK "platecuts.trees" 412 189
noncomputable def yr:=gk2 "is_leaf" 444 "is_leaf" 445 446 71 2 191 192 193 194 195 454 455
noncomputable def yt:=gk3 "is_leaf" "is_leaf" eZ "platecuts.trees" 412 196
noncomputable def yu:=gk2 "spots_behind" 457 "spots_behind" 458 459 76 2 198 199 200 201 202 478 479
noncomputable def yw:=gk3 "spots_behind" "spots_behind" bN "platecuts.trees" 412 203
noncomputable def yx:=gk2 "is_tree" 481 "is_tree" 482 483 83 4 205 206 207 208 209 491 492
noncomputable def yy:=gk3 "is_tree" "is_tree" fb "platecuts.trees" 412 210
noncomputable def yz:=gk2 "check_tree" 494 "check_tree" 495 496 94 4 212 213 214 215 216 501 502
noncomputable def yA:=gk3 "check_tree" "check_tree" cD "platecuts.trees" 412 217
noncomputable def yB:=gk2 "leaves_of" 504 "leaves_of" 505 506 97 4 219 220 221 222 223 514 515
noncomputable def yC:=gk3 "leaves_of" "leaves_of" cV "platecuts.trees" 412 224
noncomputable def yD:=gk2 "best_leaf" 521 "best_leaf" 522 523 109 2 226 227 228 229 230 531 532
noncomputable def yE:=gk3 "best_leaf" "best_leaf" cW "platecuts.best" 517 231
noncomputable def yF:=gk2 "best_step" 534 "best_step" 535 536 116 3 233 234 235 236 237 544 545
noncomputable def yG:=gk3 "best_step" "best_step" cX "platecuts.best" 517 238
noncomputable def yH:=gk2 "tree_by_steps" 547 "tree_by_steps" 548 549 123 2 240 241 242 243 244 557 558
noncomputable def yI:=gk3 "tree_by_steps" "tree_by_steps" bm "platecuts.best" 517 245
noncomputable def yJ:=gk2 "best_of" 560 "best_of" 561 562 129 3 247 248 249 250 251 573 574
noncomputable def yK:=gk3 "best_of" "best_of" fe "platecuts.best" 517 252
noncomputable def yL:=gk2 "pieces_of" 578 "pieces_of" 579 580 142 4 254 255 256 257 258 596 597
noncomputable def yM:=gk3 "pieces_of" "pieces_of" cY "platecuts.measures" 576 259
noncomputable def yN:=gk4 "counts_of" 599 "counts_of" 600 601 150 4 261 262 263 602 603
noncomputable def yO:=gk3 "counts_of" "counts_of" cu "platecuts.measures" 576 264
noncomputable def yP:=gk4 "worth_of" 605 "worth_of" 606 607 156 4 266 267 268 608 609
noncomputable def yQ:=gk3 "worth_of" "worth_of" cZ "platecuts.measures" 576 269
noncomputable def yR:=gk2 "is_kind" 617 "is_kind" 618 619 162 1 271 272 273 274 275 626 627
noncomputable def yS:=gk3 "is_kind" "is_kind" ff "platecuts.shops" 611 276
noncomputable def yT:=gk2 "can_lie_turned" 629 "can_lie_turned" 630 631 169 1 278 279 280 281 282 633 634
noncomputable def yU:=gk3 "can_lie_turned" "can_lie_turned" fg "platecuts.shops" 611 283
noncomputable def yV:=gk4 "__init__" 648 "Shop.__init__" 649 650 173 3 292 293 294 651 652
noncomputable def yW:=gk3 "__init__" "Shop.__init__" cw "platecuts.shops" 611 295
noncomputable def yX:=gk2 "blade" 654 "Shop.blade" 655 656 184 1 297 298 299 300 301 658 659
noncomputable def yY:=gk3 "blade" "Shop.blade" cF "platecuts.shops" 611 302
noncomputable def yZ:=gk2 "kinds" 661 "Shop.kinds" 662 663 187 1 304 305 306 307 308 665 666
noncomputable def za:=gk3 "kinds" "Shop.kinds" cG "platecuts.shops" 611 309
noncomputable def zb:=gk4 "wanted" 668 "Shop.wanted" 669 670 190 1 311 312 313 671 672
noncomputable def zc:=gk3 "wanted" "Shop.wanted" jZ "platecuts.shops" 611 314
noncomputable def zd:=gk2 "lyings" 674 "Shop.lyings" 675 676 193 1 316 317 318 319 320 681 682
noncomputable def ze:=gk3 "lyings" "Shop.lyings" bY "platecuts.shops" 611 321
noncomputable def zf:=gk2 "is_lying" 684 "Shop.is_lying" 685 686 201 3 323 324 325 326 327 690 691
noncomputable def zg:=gk3 "is_lying" "Shop.is_lying" bO "platecuts.shops" 611 328
noncomputable def zh:=gk2 "sides" 693 "Shop.sides" 694 695 206 3 330 331 332 333 334 700 701
noncomputable def zi:=gk3 "sides" "Shop.sides" cH "platecuts.shops" 611 335
noncomputable def zj (P:Params):Obj:=⟨(.type "dict"),none,(.dict #[kE P "__module__" 643 (.str "platecuts.shops" 611),kE P "__firstlineno__" 647 (.int 171 646),kE P "__init__" 653 (.ref 296),kE P "blade" 660 (.ref 303),kE P "kinds" 667 (.ref 310),kE P "wanted" 673 (.ref 315),kE P "lyings" 683 (.ref 322),kE P "is_lying" 692 (.ref 329),kE P "sides" 702 (.ref 336),kE P "__static_attributes__" 705 (.ref 337),kE P "__dict__" 707 (.ref 340),kE P "__weakref__" 709 (.ref 341),kE P "__doc__" 710 .none] 4),#[]⟩
noncomputable def zk (P:Params):Obj:=⟨(.type "type"),none,(.cls ⟨"Shop",[.type "object"],[.ref 339,.type "object"],338,"Shop",true,[],[],false,none,false⟩),#[none,none,some (.str "Shop" 636),some (.str "Shop" 644),some (.builtin "object.__new__"),some (.bool true)]⟩
noncomputable def zm:=gk2 "_law_pot" 715 "_law_pot" 716 717 214 1 344 345 346 347 348 719 720
noncomputable def zn:=gk3 "_law_pot" "_law_pot" rd "law_platecuts_k42_whole_tree_worth_so" 713 349
noncomputable def zo:=gk2 "_law_draw" 722 "_law_draw" 723 724 216 2 351 352 353 354 355 728 729
noncomputable def zp:=gk3 "_law_draw" "_law_draw" kh "law_platecuts_k42_whole_tree_worth_so" 713 356
noncomputable def zq:=gk2 "_law_great" 731 "_law_great" 732 733 223 2 358 359 360 361 362 738 739
noncomputable def zr:=gk3 "_law_great" "_law_great" gL "law_platecuts_k42_whole_tree_worth_so" 713 363
noncomputable def zt:=gk2 "_law_blade" 741 "_law_blade" 742 743 230 1 365 366 367 368 369 746 747
noncomputable def zu:=gk3 "_law_blade" "_law_blade" gM "law_platecuts_k42_whole_tree_worth_so" 713 370
noncomputable def zv:=gk2 "_law_side" 749 "_law_side" 750 751 235 1 372 373 374 375 376 754 755
noncomputable def zw:=gk3 "_law_side" "_law_side" kj "law_platecuts_k42_whole_tree_worth_so" 713 377
noncomputable def zx:=gk2 "_law_kinds" 757 "_law_kinds" 758 759 240 1 379 380 381 382 383 766 767
noncomputable def zy:=gk3 "_law_kinds" "_law_kinds" gN "law_platecuts_k42_whole_tree_worth_so" 713 384
noncomputable def zA:=gk2 "_law_plate" 769 "_law_plate" 770 771 252 1 386 387 388 389 390 776 777
noncomputable def zB:=gk3 "_law_plate" "_law_plate" gO "law_platecuts_k42_whole_tree_worth_so" 713 391
noncomputable def zC:=gk2 "_law_whole" 779 "_law_whole" 780 781 258 2 393 394 395 396 397 784 785
noncomputable def zD:=gk3 "_law_whole" "_law_whole" fh "law_platecuts_k42_whole_tree_worth_so" 713 398
noncomputable def zE:=gk2 "_law_piece_worth" 787 "_law_piece_worth" 788 789 260 4 400 401 402 403 404 799 800
noncomputable def zF:=gk3 "_law_piece_worth" "_law_piece_worth" bZ "law_platecuts_k42_whole_tree_worth_so" 713 405
noncomputable def zG:=gk4 "_law_worth" 802 "_law_worth" 803 804 271 5 407 408 409 805 806
noncomputable def zH:=gk3 "_law_worth" "_law_worth" dJ "law_platecuts_k42_whole_tree_worth_so" 713 410
noncomputable def zI:=gk4 "_law_listed" 808 "_law_listed" 809 810 291 1 412 413 414 811 812
noncomputable def zJ:=gk3 "_law_listed" "_law_listed" cK "law_platecuts_k42_whole_tree_worth_so" 713 415
noncomputable def zK:=gk2 "_law_told" 814 "_law_told" 815 816 293 4 417 418 419 420 421 826 827
noncomputable def zL:=gk3 "_law_told" "_law_told" km "law_platecuts_k42_whole_tree_worth_so" 713 422
noncomputable def zM:=gk2 "law" 829 "law" 830 831 304 1 424 425 426 427 428 837 838
noncomputable def zN:=gk3 "law" "law" kn "law_platecuts_k42_whole_tree_worth_so" 713 429
noncomputable def kK:Params→Frag:=fun P=>(nat_lit 3,kO3 P) :: (nat_lit 23,EA P) :: (nat_lit 24,EB P) :: (nat_lit 36,EC P) :: (nat_lit 37,ED P) :: (nat_lit 48,EE P) :: (nat_lit 49,EF P) :: (nat_lit 60,EG P) :: (nat_lit 61,EH P) :: (nat_lit 72,EI P) :: (nat_lit 73,EJ P) :: (nat_lit 84,EK P) :: (nat_lit 85,EL P) :: (nat_lit 96,EM P) :: (nat_lit 97,EN P) :: (nat_lit 108,xP P) :: (nat_lit 109,xQ P) :: (nat_lit 117,xR P) :: (nat_lit 118,xS P) :: (nat_lit 124,xT P) :: (nat_lit 125,xU P) :: (nat_lit 131,xV P) :: (nat_lit 132,xW P) :: (nat_lit 138,xX P) :: (nat_lit 139,xY P) :: (nat_lit 145,xZ P) :: (nat_lit 146,ya P) :: (nat_lit 147,yb P) :: (nat_lit 153,yc P) :: (nat_lit 154,yd P) :: (nat_lit 158,ye P) :: (nat_lit 159,yf P) :: (nat_lit 165,yg P) :: (nat_lit 166,yh P) :: (nat_lit 170,yi P) :: (nat_lit 171,yj P) :: (nat_lit 175,yk P) :: (nat_lit 176,ym P) :: (nat_lit 182,yn P) :: (nat_lit 183,yo P) :: (nat_lit 189,yp P) :: (nat_lit 190,yq P) :: (nat_lit 196,yr P) :: (nat_lit 197,yt P) :: (nat_lit 203,yu P) :: (nat_lit 204,yw P) :: (nat_lit 210,yx P) :: (nat_lit 211,yy P) :: (nat_lit 217,yz P) :: (nat_lit 218,yA P) :: (nat_lit 224,yB P) :: (nat_lit 225,yC P) :: (nat_lit 231,yD P) :: (nat_lit 232,yE P) :: (nat_lit 238,yF P) :: (nat_lit 239,yG P) :: (nat_lit 245,yH P) :: (nat_lit 246,yI P) :: (nat_lit 252,yJ P) :: (nat_lit 253,yK P) :: (nat_lit 259,yL P) :: (nat_lit 260,yM P) :: (nat_lit 264,yN P) :: (nat_lit 265,yO P) :: (nat_lit 269,yP P) :: (nat_lit 270,yQ P) :: (nat_lit 276,yR P) :: (nat_lit 277,yS P) :: (nat_lit 283,yT P) :: (nat_lit 284,yU P) :: (nat_lit 295,yV P) :: (nat_lit 296,yW P) :: (nat_lit 302,yX P) :: (nat_lit 303,yY P) :: (nat_lit 309,yZ P) :: (nat_lit 310,za P) :: (nat_lit 314,zb P) :: (nat_lit 315,zc P) :: (nat_lit 321,zd P) :: (nat_lit 322,ze P) :: (nat_lit 328,zf P) :: (nat_lit 329,zg P) :: (nat_lit 335,zh P) :: (nat_lit 336,zi P) :: (nat_lit 338,zj P) :: (nat_lit 339,zk P) :: (nat_lit 349,zm P) :: (nat_lit 350,zn P) :: (nat_lit 356,zo P) :: (nat_lit 357,zp P) :: (nat_lit 363,zq P) :: (nat_lit 364,zr P) :: (nat_lit 370,zt P) :: (nat_lit 371,zu P) :: (nat_lit 377,zv P) :: (nat_lit 378,zw P) :: (nat_lit 384,zx P) :: (nat_lit 385,zy P) :: (nat_lit 391,zA P) :: (nat_lit 392,zB P) :: (nat_lit 398,zC P) :: (nat_lit 399,zD P) :: (nat_lit 405,zE P) :: (nat_lit 406,zF P) :: (nat_lit 410,zG P) :: (nat_lit 411,zH P) :: (nat_lit 415,zI P) :: (nat_lit 416,zJ P) :: (nat_lit 422,zK P) :: (nat_lit 423,zL P) :: (nat_lit 429,zM P) :: (nat_lit 430,zN P) :: []
end
end Pc
set_option maxHeartbeats 0
lay_quick PySem.Challenge.pw_platecuts_k42_whole_tree_worth_so
namespace Hd
open PySem PySem.W
noncomputable def S0:Str:=⟨⟨[95,95,110,97,109,101,95,95]⟩⟩
noncomputable def S2:Str:=⟨⟨[95,95,100,111,99,95,95]⟩⟩
noncomputable def S3:Str:=⟨⟨[95,95,112,97,99,107,97,103,101,95,95]⟩⟩
noncomputable def S4:Str:=⟨⟨[95,95,108,111,97,100,101,114,95,95]⟩⟩
noncomputable def S5:Str:=⟨⟨[95,95,115,112,101,99,95,95]⟩⟩
noncomputable def EO:Str:=⟨⟨[95,95,109,97,105,110,95,95]⟩⟩
noncomputable def zO:Str:=⟨⟨[95,95,97,110,110,111,116,97,116,105,111,110,115,95,95]⟩⟩
noncomputable def zP:Str:=⟨⟨[95,95,98,117,105,108,116,105,110,115,95,95]⟩⟩
noncomputable def zQ:Str:=⟨⟨[95,95,102,105,108,101,95,95]⟩⟩
noncomputable def kN:Str:=⟨⟨[47,99,108,97,105,109,47,99,117,116,46,112,121]⟩⟩
noncomputable def zR:Str:=⟨⟨[95,95,99,97,99,104,101,100,95,95]⟩⟩
noncomputable def EQ:Str:=⟨⟨[60,109,111,100,117,108,101,62]⟩⟩
noncomputable def oO:Str:=⟨⟨[112,108,97,116,101,99,117,116,115,46,112,97,114,116,115]⟩⟩
noncomputable def jw:Str:=⟨⟨[80,108,97,116,101,69,114,114,111,114]⟩⟩
noncomputable def oP:Str:=⟨⟨[78,111,66,108,97,100,101]⟩⟩
noncomputable def oQ:Str:=⟨⟨[78,111,75,105,110,100,115]⟩⟩
noncomputable def oR:Str:=⟨⟨[78,111,75,105,110,100]⟩⟩
noncomputable def oS:Str:=⟨⟨[78,111,76,121,105,110,103]⟩⟩
noncomputable def oT:Str:=⟨⟨[78,111,80,108,97,116,101]⟩⟩
noncomputable def oU:Str:=⟨⟨[78,111,84,114,101,101]⟩⟩
noncomputable def oV:Str:=⟨⟨[84,111,111,76,97,114,103,101]⟩⟩
noncomputable def lV:Str:=⟨⟨[105,115,95,119,104,111,108,101]⟩⟩
noncomputable def lW:Str:=⟨⟨[105,115,95,116,114,117,116,104]⟩⟩
noncomputable def lX:Str:=⟨⟨[105,115,95,114,111,119]⟩⟩
noncomputable def lY:Str:=⟨⟨[99,104,101,99,107,95,112,108,97,116,101]⟩⟩
noncomputable def lZ:Str:=⟨⟨[99,104,101,99,107,95,115,105,100,101,115]⟩⟩
noncomputable def vB:Str:=⟨⟨[68,79,87,78]⟩⟩
noncomputable def vC:Str:=⟨⟨[100,111,119,110]⟩⟩
noncomputable def vD:Str:=⟨⟨[65,67,82,79,83,83]⟩⟩
noncomputable def vE:Str:=⟨⟨[97,99,114,111,115,115]⟩⟩
noncomputable def vF:Str:=⟨⟨[87,65,89,83]⟩⟩
noncomputable def ma:Str:=⟨⟨[108,105,101,115,95,105,110]⟩⟩
noncomputable def md:Str:=⟨⟨[108,121,105,110,103,115,95,105,110]⟩⟩
noncomputable def mf:Str:=⟨⟨[99,117,116,95,112,97,114,116,115]⟩⟩
noncomputable def rS:Str:=⟨⟨[95,95,109,111,100,117,108,101,95,95]⟩⟩
noncomputable def ig:Str:=⟨⟨[112,108,97,116,101,99,117,116,115,46,101,114,114,111,114,115]⟩⟩
noncomputable def zS:Str:=⟨⟨[95,95,113,117,97,108,110,97,109,101,95,95]⟩⟩
noncomputable def rT:Str:=⟨⟨[95,95,102,105,114,115,116,108,105,110,101,110,111,95,95]⟩⟩
noncomputable def rV:Str:=⟨⟨[95,95,115,116,97,116,105,99,95,97,116,116,114,105,98,117,116,101,115,95,95]⟩⟩
noncomputable def vG:Str:=⟨⟨[95,95,119,101,97,107,114,101,102,95,95]⟩⟩
noncomputable def mh:Str:=⟨⟨[116,104,105,110,103]⟩⟩
noncomputable def ER:Str:=⟨⟨[108,101,97,115,116]⟩⟩
noncomputable def rW:Str:=⟨⟨[112,108,97,116,101,99,117,116,115,46,99,104,101,99,107,115]⟩⟩
noncomputable def gh:Str:=⟨⟨[119,105,100,101]⟩⟩
noncomputable def gi:Str:=⟨⟨[104,105,103,104]⟩⟩
noncomputable def ES:Str:=⟨⟨[109,111,115,116]⟩⟩
noncomputable def kO:Str:=⟨⟨[115,104,111,112]⟩⟩
noncomputable def mi:Str:=⟨⟨[107,105,110,100]⟩⟩
noncomputable def rX:Str:=⟨⟨[116,117,114,110,101,100]⟩⟩
noncomputable def ua:Str:=⟨⟨[120]⟩⟩
noncomputable def ub:Str:=⟨⟨[121]⟩⟩
noncomputable def ET:Str:=⟨⟨[112,105,101,99,101,95,119,105,100,101]⟩⟩
noncomputable def EU:Str:=⟨⟨[112,105,101,99,101,95,104,105,103,104]⟩⟩
noncomputable def ik:Str:=⟨⟨[98,108,97,100,101]⟩⟩
noncomputable def vH:Str:=⟨⟨[112,97,114,116]⟩⟩
noncomputable def uc:Str:=⟨⟨[119,97,121]⟩⟩
noncomputable def vI:Str:=⟨⟨[112]⟩⟩
noncomputable def fC:Str:=⟨⟨[108,97,119,95,112,108,97,116,101,99,117,116,115,95,107,52,50,95,119,104,111,108,101,95,116,114,101,101,95,119,111,114,116,104,95,115,111]⟩⟩
noncomputable def oW:Str:=⟨⟨[99,117,116,115,95,111,102]⟩⟩
noncomputable def oX:Str:=⟨⟨[112,97,114,116,115,95,117,112,95,116,111]⟩⟩
noncomputable def zT:Str:=⟨⟨[82,69,83,84]⟩⟩
noncomputable def EV:Str:=⟨⟨[114,101,115,116]⟩⟩
noncomputable def zU:Str:=⟨⟨[80,73,69,67,69]⟩⟩
noncomputable def EW:Str:=⟨⟨[112,105,101,99,101]⟩⟩
noncomputable def zV:Str:=⟨⟨[84,72,73,78,71,83,95,79,70,95,65,95,82,69,83,84]⟩⟩
noncomputable def zW:Str:=⟨⟨[84,72,73,78,71,83,95,79,70,95,65,95,80,73,69,67,69]⟩⟩
noncomputable def zX:Str:=⟨⟨[84,72,73,78,71,83,95,79,70,95,65,95,67,85,84]⟩⟩
noncomputable def oY:Str:=⟨⟨[98,101,103,105,110,115,95,119,105,116,104]⟩⟩
noncomputable def oZ:Str:=⟨⟨[105,115,95,99,117,116]⟩⟩
noncomputable def pf:Str:=⟨⟨[105,115,95,108,101,97,102]⟩⟩
noncomputable def pi:Str:=⟨⟨[115,112,111,116,115,95,98,101,104,105,110,100]⟩⟩
noncomputable def pj:Str:=⟨⟨[105,115,95,116,114,101,101]⟩⟩
noncomputable def pC:Str:=⟨⟨[99,104,101,99,107,95,116,114,101,101]⟩⟩
noncomputable def pE:Str:=⟨⟨[108,101,97,118,101,115,95,111,102]⟩⟩
noncomputable def zY:Str:=⟨⟨[77,79,83,84,95,83,73,68,69]⟩⟩
noncomputable def pF:Str:=⟨⟨[98,101,115,116,95,108,101,97,102]⟩⟩
noncomputable def pG:Str:=⟨⟨[98,101,115,116,95,115,116,101,112]⟩⟩
noncomputable def pH:Str:=⟨⟨[116,114,101,101,95,98,121,95,115,116,101,112,115]⟩⟩
noncomputable def pI:Str:=⟨⟨[98,101,115,116,95,111,102]⟩⟩
noncomputable def pJ:Str:=⟨⟨[112,105,101,99,101,115,95,111,102]⟩⟩
noncomputable def pK:Str:=⟨⟨[99,111,117,110,116,115,95,111,102]⟩⟩
noncomputable def pL:Str:=⟨⟨[119,111,114,116,104,95,111,102]⟩⟩
noncomputable def zZ:Str:=⟨⟨[77,79,83,84,95,75,73,78,68,83]⟩⟩
noncomputable def Aa:Str:=⟨⟨[84,72,73,78,71,83,95,79,70,95,65,95,75,73,78,68]⟩⟩
noncomputable def pM:Str:=⟨⟨[105,115,95,107,105,110,100]⟩⟩
noncomputable def pN:Str:=⟨⟨[99,97,110,95,108,105,101,95,116,117,114,110,101,100]⟩⟩
noncomputable def kP:Str:=⟨⟨[83,104,111,112]⟩⟩
noncomputable def pO:Str:=⟨⟨[95,108,97,119,95,112,111,116]⟩⟩
noncomputable def pP:Str:=⟨⟨[95,108,97,119,95,100,114,97,119]⟩⟩
noncomputable def pQ:Str:=⟨⟨[95,108,97,119,95,103,114,101,97,116]⟩⟩
noncomputable def pR:Str:=⟨⟨[95,108,97,119,95,98,108,97,100,101]⟩⟩
noncomputable def pS:Str:=⟨⟨[95,108,97,119,95,115,105,100,101]⟩⟩
noncomputable def pT:Str:=⟨⟨[95,108,97,119,95,107,105,110,100,115]⟩⟩
noncomputable def pU:Str:=⟨⟨[95,108,97,119,95,112,108,97,116,101]⟩⟩
noncomputable def pV:Str:=⟨⟨[95,108,97,119,95,119,104,111,108,101]⟩⟩
noncomputable def pW:Str:=⟨⟨[95,108,97,119,95,112,105,101,99,101,95,119,111,114,116,104]⟩⟩
noncomputable def pX:Str:=⟨⟨[95,108,97,119,95,119,111,114,116,104]⟩⟩
noncomputable def pY:Str:=⟨⟨[95,108,97,119,95,108,105,115,116,101,100]⟩⟩
noncomputable def pZ:Str:=⟨⟨[95,108,97,119,95,116,111,108,100]⟩⟩
noncomputable def rY:Str:=⟨⟨[108,97,119]⟩⟩
noncomputable def Ab:Str:=⟨⟨[119,111,114,100]⟩⟩
noncomputable def EX:Str:=⟨⟨[109,97,110,121]⟩⟩
noncomputable def mj:Str:=⟨⟨[112,108,97,116,101,99,117,116,115,46,116,114,101,101,115]⟩⟩
noncomputable def rZ:Str:=⟨⟨[115,112,111,116]⟩⟩
noncomputable def si:Str:=⟨⟨[116,114,101,101]⟩⟩
noncomputable def EY:Str:=⟨⟨[115,105,100,101]⟩⟩
noncomputable def Ac:Str:=⟨⟨[102,105,114,115,116]⟩⟩
noncomputable def Ad:Str:=⟨⟨[115,101,99,111,110,100]⟩⟩
noncomputable def EZ:Str:=⟨⟨[119,105,100,101,95,97,104,101,97,100]⟩⟩
noncomputable def Fa:Str:=⟨⟨[104,105,103,104,95,97,104,101,97,100]⟩⟩
noncomputable def Fb:Str:=⟨⟨[119,105,100,101,95,98,101,104,105,110,100]⟩⟩
noncomputable def Fc:Str:=⟨⟨[104,105,103,104,95,98,101,104,105,110,100]⟩⟩
noncomputable def ud:Str:=⟨⟨[115,116,101,112]⟩⟩
noncomputable def Fd:Str:=⟨⟨[102,97,114,95,120]⟩⟩
noncomputable def Fe:Str:=⟨⟨[102,97,114,95,121]⟩⟩
noncomputable def Ae:Str:=⟨⟨[119,97,105,116,105,110,103]⟩⟩
noncomputable def Ff:Str:=⟨⟨[108,101,97,118,101,115]⟩⟩
noncomputable def ue:Str:=⟨⟨[119,111,114,116,104]⟩⟩
noncomputable def Af:Str:=⟨⟨[108,101,97,102]⟩⟩
noncomputable def qb:Str:=⟨⟨[107,105,110,100,115]⟩⟩
noncomputable def uf:Str:=⟨⟨[112,108,97,116,101,99,117,116,115,46,98,101,115,116]⟩⟩
noncomputable def Fg:Str:=⟨⟨[108,101,97,102,95,102,111,117,110,100]⟩⟩
noncomputable def Fh:Str:=⟨⟨[99,117,116,115]⟩⟩
noncomputable def Fi:Str:=⟨⟨[119,111,114,116,104,115]⟩⟩
noncomputable def Fj:Str:=⟨⟨[99,117,116]⟩⟩
noncomputable def Fk:Str:=⟨⟨[116,111,103,101,116,104,101,114]⟩⟩
noncomputable def Ag:Str:=⟨⟨[115,116,101,112,115]⟩⟩
noncomputable def Fl:Str:=⟨⟨[107,101,121]⟩⟩
noncomputable def Fm:Str:=⟨⟨[116,97,98,108,101]⟩⟩
noncomputable def Fn:Str:=⟨⟨[112,108,97,116,101]⟩⟩
noncomputable def Fo:Str:=⟨⟨[112,105,101,99,101,115]⟩⟩
noncomputable def Fp:Str:=⟨⟨[112,97,114,116,95,119,105,100,101]⟩⟩
noncomputable def Fq:Str:=⟨⟨[112,97,114,116,95,104,105,103,104]⟩⟩
noncomputable def Fs:Str:=⟨⟨[112,105,101,99,101,95,120]⟩⟩
noncomputable def Ft:Str:=⟨⟨[112,105,101,99,101,95,121]⟩⟩
noncomputable def vJ:Str:=⟨⟨[112,108,97,116,101,99,117,116,115,46,109,101,97,115,117,114,101,115]⟩⟩
noncomputable def qc:Str:=⟨⟨[119,97,110,116,101,100]⟩⟩
noncomputable def Fu:Str:=⟨⟨[116,117,114,110,115]⟩⟩
noncomputable def qd:Str:=⟨⟨[112,108,97,116,101,99,117,116,115,46,115,104,111,112,115]⟩⟩
noncomputable def sj:Str:=⟨⟨[95,95,105,110,105,116,95,95]⟩⟩
noncomputable def sk:Str:=⟨⟨[108,121,105,110,103,115]⟩⟩
noncomputable def sr:Str:=⟨⟨[105,115,95,108,121,105,110,103]⟩⟩
noncomputable def su:Str:=⟨⟨[115,105,100,101,115]⟩⟩
noncomputable def vK:Str:=⟨⟨[83,104,111,112,46,95,95,105,110,105,116,95,95]⟩⟩
noncomputable def sw:Str:=⟨⟨[115,101,108,102]⟩⟩
noncomputable def vL:Str:=⟨⟨[83,104,111,112,46,98,108,97,100,101]⟩⟩
noncomputable def vM:Str:=⟨⟨[83,104,111,112,46,107,105,110,100,115]⟩⟩
noncomputable def vN:Str:=⟨⟨[83,104,111,112,46,119,97,110,116,101,100]⟩⟩
noncomputable def Fv:Str:=⟨⟨[116,111,108,100]⟩⟩
noncomputable def Fw:Str:=⟨⟨[110,117,109,98,101,114]⟩⟩
noncomputable def vO:Str:=⟨⟨[83,104,111,112,46,108,121,105,110,103,115]⟩⟩
noncomputable def vP:Str:=⟨⟨[83,104,111,112,46,105,115,95,108,121,105,110,103]⟩⟩
noncomputable def Fx:Str:=⟨⟨[114,111,119]⟩⟩
noncomputable def vQ:Str:=⟨⟨[83,104,111,112,46,115,105,100,101,115]⟩⟩
noncomputable def Fy:Str:=⟨⟨[98,108,97,100,101,95,119,105,100,116,104]⟩⟩
noncomputable def Fz:Str:=⟨⟨[107,105,110,100,95,114,111,119,115]⟩⟩
noncomputable def Ah:Str:=⟨⟨[95,95,100,105,99,116,95,95]⟩⟩
noncomputable def Ai:Str:=⟨⟨[95,108,97,119,95,99,101,108,108]⟩⟩
noncomputable def mq:Str:=⟨⟨[95,108,97,119,95,112,111,116,95,104,101,114,101]⟩⟩
noncomputable def Aj:Str:=⟨⟨[95,108,97,119,95,109,97,110,121]⟩⟩
noncomputable def Ak:Str:=⟨⟨[95,108,97,119,95,110,117,109,98,101,114]⟩⟩
noncomputable def FA:Str:=⟨⟨[95,108,97,119,95,102,111,117,110,100]⟩⟩
noncomputable def Al:Str:=⟨⟨[95,108,97,119,95,107]⟩⟩
noncomputable def vR:Str:=⟨⟨[95,108,97,119,95,119,97,121]⟩⟩
noncomputable def ug:Str:=⟨⟨[95,108,97,119,95,107,105,110,100,115,95,104,101,114,101]⟩⟩
noncomputable def uh:Str:=⟨⟨[95,108,97,119,95,119,105,100,101]⟩⟩
noncomputable def ui:Str:=⟨⟨[95,108,97,119,95,104,105,103,104]⟩⟩
noncomputable def vS:Str:=⟨⟨[95,108,97,119,95,119,111,114,116,104,95,104,101,114,101]⟩⟩
noncomputable def FB:Str:=⟨⟨[95,108,97,119,95,108,101,97,115,116]⟩⟩
noncomputable def Am:Str:=⟨⟨[95,108,97,119,95,116,114,101,101]⟩⟩
noncomputable def FC:Str:=⟨⟨[95,108,97,119,95,111,119,110,95,119,105,100,101]⟩⟩
noncomputable def FD:Str:=⟨⟨[95,108,97,119,95,111,119,110,95,104,105,103,104]⟩⟩
noncomputable def FE:Str:=⟨⟨[95,108,97,119,95,119,97,110,116,101,100]⟩⟩
noncomputable def FF:Str:=⟨⟨[95,108,97,119,95,116,117,114,110,115]⟩⟩
noncomputable def FG:Str:=⟨⟨[95,108,97,119,95,115,104,111,112]⟩⟩
noncomputable def An:Str:=⟨⟨[95,108,97,119,95,98,108,97,100,101,95,104,101,114,101]⟩⟩
noncomputable def FH:Str:=⟨⟨[95,108,97,119,95,112,108,97,116,101,95,104,101,114,101]⟩⟩
noncomputable def FI:Str:=⟨⟨[95,108,97,119,95,116,111,108,100,95,104,101,114,101]⟩⟩
noncomputable def FJ:Str:=⟨⟨[95,108,97,119,95,115,99,114,105,112,116]⟩⟩
noncomputable abbrev HK:Hook:=kHook Pc.kK [nat_lit 3,nat_lit 23,nat_lit 24,nat_lit 36,nat_lit 37,nat_lit 48,nat_lit 49,nat_lit 60,nat_lit 61,nat_lit 72,nat_lit 73,nat_lit 84,nat_lit 85,nat_lit 96,nat_lit 97,nat_lit 108,nat_lit 109,nat_lit 117,nat_lit 118,nat_lit 124,nat_lit 125,nat_lit 131,nat_lit 132,nat_lit 138,nat_lit 139,nat_lit 145,nat_lit 146,nat_lit 147,nat_lit 153,nat_lit 154,nat_lit 158,nat_lit 159,nat_lit 165,nat_lit 166,nat_lit 170,nat_lit 171,nat_lit 175,nat_lit 176,nat_lit 182,nat_lit 183,nat_lit 189,nat_lit 190,nat_lit 196,nat_lit 197,nat_lit 203,nat_lit 204,nat_lit 210,nat_lit 211,nat_lit 217,nat_lit 218,nat_lit 224,nat_lit 225,nat_lit 231,nat_lit 232,nat_lit 238,nat_lit 239,nat_lit 245,nat_lit 246,nat_lit 252,nat_lit 253,nat_lit 259,nat_lit 260,nat_lit 264,nat_lit 265,nat_lit 269,nat_lit 270,nat_lit 276,nat_lit 277,nat_lit 283,nat_lit 284,nat_lit 295,nat_lit 296,nat_lit 302,nat_lit 303,nat_lit 309,nat_lit 310,nat_lit 314,nat_lit 315,nat_lit 321,nat_lit 322,nat_lit 328,nat_lit 329,nat_lit 335,nat_lit 336,nat_lit 338,nat_lit 339,nat_lit 349,nat_lit 350,nat_lit 356,nat_lit 357,nat_lit 363,nat_lit 364,nat_lit 370,nat_lit 371,nat_lit 377,nat_lit 378,nat_lit 384,nat_lit 385,nat_lit 391,nat_lit 392,nat_lit 398,nat_lit 399,nat_lit 405,nat_lit 406,nat_lit 410,nat_lit 411,nat_lit 415,nat_lit 416,nat_lit 422,nat_lit 423,nat_lit 429,nat_lit 430] (fun _=>by kernel_rfl)
noncomputable abbrev pt:Program:=PySem.W.Fast.tw15102793534721017240
theorem pt_eq:PySem.Challenge.pw_platecuts_k42_whole_tree_worth_so=pt:=PySem.W.Fast.te15102793534721017240
noncomputable def tp (i:Nat):Stmt:=pt.main.body.getD i (.Pass ⟨0,0,0,0⟩)
noncomputable abbrev f (o:Params→Obj) (l r:Params→BT):Params→BT:=fun P=>.node (o P) (l P) (r P)
noncomputable abbrev z:Params→BT:=fun _=>.nil
noncomputable abbrev e (P:Params) (n:Str) (t:Nat) (v:Value):DictEntry:=⟨PyData.keyHash P n,.str n t,v⟩
noncomputable abbrev m0:Nat:=nat_lit 11
noncomputable abbrev an:Option Value:=(some (.ref 6))
noncomputable abbrev en:Env:={ scope:=pt.main.scope,locals:=mainNs,globals:=mainNs,cells:=[],code:=(.ref 13),frame:=some 14 }
noncomputable abbrev cE:Code:=.body (behindTheImports pt) en
noncomputable abbrev qP:Pos:=⟨0,0,0,0⟩
noncomputable abbrev B:List Frame:=[topFrame qP]
noncomputable abbrev L0:=SL.s14018661285674007319x4
noncomputable abbrev L1:=SL.s11665532747177232413x24
noncomputable abbrev L2:=SL.s15183661809925369436x15
noncomputable abbrev L3:=SL.s13915890719876406383x10
noncomputable abbrev L4:=SL.s13459172003223722735x3
noncomputable abbrev L5:=SL.s10557405761357834076x3
noncomputable abbrev L6:=SL.s4233737765568776869x3
noncomputable abbrev L7:=SL.s2508922471967985374x5
noncomputable abbrev L8:=SL.s15574269061696679450x3
noncomputable abbrev L9:=SL.s6016482663378992977x10
noncomputable abbrev L10:=SL.s5596568736180474577x8
noncomputable abbrev L11:=SL.s2839554839881490554x3
noncomputable abbrev L12:=SL.s725004073602090463x7
noncomputable abbrev L13:=SL.s9436932552931045734x7
noncomputable abbrev L14:=SL.s2754603736356183583x3
noncomputable abbrev L15:=SL.s15185746759980889043x6
noncomputable abbrev L16:=SL.s8192189862530294059x4
noncomputable abbrev L17:=SL.s7038307821325472102x4
noncomputable abbrev L18:=SL.s5662562618415449548x6
noncomputable abbrev L19:=SL.s15281542589158584767x7
noncomputable abbrev L20:=SL.s17651547275483570877x7
noncomputable abbrev L21:=SL.s4036449017235975746x7
noncomputable abbrev L22:=SL.s8879979712987360175x4
noncomputable abbrev L23:=SL.s1801250619170735830x3
noncomputable abbrev L24:=SL.s17659931425627118568x2
noncomputable abbrev L25:=SL.s6063217899685152688x5
noncomputable abbrev L26:=SL.s8008927332132565319x10
noncomputable abbrev L27:=SL.s3544116645089599534x10
noncomputable abbrev L28:=SL.s13761710972054866084x4
noncomputable abbrev L29:=SL.s12896375587409280029x5
noncomputable abbrev L30:=SL.s13014049009108672802x3
noncomputable abbrev L31:=SL.s13935586738268321596x6
noncomputable abbrev L32:=SL.s8200498257699607233x3
noncomputable abbrev L33:=SL.s14114244577727609259x3
noncomputable abbrev L34:=SL.s1499430450269397089x4
noncomputable abbrev L35:=SL.s8755793994789770505x5
noncomputable abbrev L36:=SL.s15725212667919936108x3
noncomputable abbrev L37:=SL.s15791221867095933363x3
noncomputable abbrev L38:=SL.s81309575031448614x3
noncomputable abbrev L39:=SL.s8069831620301644142x5
noncomputable abbrev L40:=SL.s10061844253413749634x4
noncomputable abbrev L41:=SL.s9496514870978017513x5
noncomputable abbrev L42:=SL.s8899691144933366716x7
noncomputable abbrev L43:=SL.s15201008993051130160x6
noncomputable abbrev L44:=SL.s741896355592496720x3
noncomputable abbrev L45:=SL.s17925004256654032244x4
noncomputable abbrev L46:=SL.s11695548795398191787x4
noncomputable abbrev L47:=SL.s4156966113859768872x10
noncomputable abbrev L48:=SL.s9501651726347032510x9
noncomputable abbrev L49:=SL.s15722918466584999320x5
noncomputable abbrev L50:=SL.s591115383303110208x11
noncomputable abbrev L51:=SL.s15721156781594690315x7
noncomputable abbrev L52:=SL.s14340494229221121180x9
noncomputable abbrev L53:=SL.s13429844117177748173x6
noncomputable abbrev L54:=SL.s16463266125957815391x5
noncomputable abbrev L55:=SL.s4922535414793169389x9
noncomputable abbrev L56:=SL.s8101838861749082086x8
noncomputable abbrev L57:=SL.s7066276694103001551x3
noncomputable abbrev L58:=SL.s9222952809800978799x4
noncomputable abbrev L59:=SL.s462964344163437139x3
noncomputable abbrev L60:=SL.s2742458400755230247x6
noncomputable abbrev L61:=SL.s1438033511350832697x5
noncomputable abbrev L62:=SL.s14365286008749172514x8
noncomputable abbrev L63:=SL.s3642769012341782148x3
noncomputable abbrev L64:=SL.s4674234679698826739x5
noncomputable abbrev L65:=SL.s16656946322747308186x12
noncomputable abbrev L66:=SL.s10796804682411823810x3
noncomputable abbrev L67:=SL.s4290257624100764138x5
noncomputable abbrev L68:=SL.s2766695959194262286x5
noncomputable abbrev L69:=SL.s17162191345867700912x4
noncomputable abbrev L70:=SL.s14339709457334898076x3
noncomputable abbrev L71:=SL.s4278001404047624695x13
noncomputable abbrev L72:=SL.s6585700554429387442x18
noncomputable abbrev L73:=SL.s5946037652744460706x9
noncomputable abbrev L74:=SL.s7410770068591931388x13
noncomputable abbrev L75:=SL.s11817881795495490833x17
noncomputable abbrev L76:=SL.s15679963881808890155x10
noncomputable abbrev L77:=SL.s3871700062485845797x15
noncomputable abbrev L78:=SL.s7689518266570723881x14
noncomputable abbrev L79:=SL.s9001593270443806431x14
noncomputable abbrev L80:=SL.s6882542574934516792x11
noncomputable abbrev L81:=SL.s14403400214490484960x8
noncomputable abbrev L82:=SL.s14457978657717015782x11
noncomputable abbrev L83:=SL.s1753610191782819921x11
noncomputable abbrev L84:=SL.s14119380538032626715x11
noncomputable abbrev L85:=SL.s11437920000406562045x9
noncomputable abbrev L86:=SL.s10852414792293593619x7
noncomputable abbrev L87:=SL.s14816307405966870543x14
noncomputable abbrev L88:=SL.s8682627914449686677x12
noncomputable abbrev L89:=SL.s4428170145600203450x18
noncomputable abbrev L90:=SL.s5991306692159431302x13
noncomputable abbrev L91:=SL.s16067994140765818257x11
noncomputable abbrev L92:=SL.s2327743974964600596x11
noncomputable abbrev L93:=SL.s2804747833354056582x9
noncomputable abbrev L94:=SL.s6070975301684473832x10
noncomputable abbrev L95:=SL.s14270485950484850486x7
noncomputable abbrev L96:=SL.s12041534306414923332x18
noncomputable abbrev L97:=SL.s2531307568338490285x13
noncomputable abbrev L98:=SL.s631175304937289666x17
noncomputable abbrev L99:=SL.s5144983644357021410x12
noncomputable abbrev FU:=SL.s18039099521571816885x18
noncomputable abbrev FV:=SL.s6011586214260557989x15
noncomputable abbrev FW:=SL.s5430567037509283100x13
noncomputable abbrev FX:=SL.s8117915138073963741x13
noncomputable abbrev FY:=SL.s3423317712779056401x25
noncomputable abbrev FZ:=SL.s2007317383269046180x15
noncomputable abbrev Ga:=SL.s17481586968713580700x14
noncomputable abbrev Gb:=SL.s2450899226349176912x13
noncomputable abbrev Gc:=SL.s16626165730633575011x14
noncomputable abbrev Gd:=SL.s14288496050688921416x11
noncomputable abbrev Ge:=SL.s5735081916595925998x15
noncomputable abbrev Gf:=SL.s3865607918536308442x17
noncomputable abbrev Gg:=SL.s13337502604062700212x15
noncomputable abbrev Gh:=SL.s13114017843053701147x15
noncomputable abbrev Gi:=SL.s17467278006356818441x17
noncomputable abbrev Gj:=SL.s17722149559621369488x16
noncomputable abbrev Gk:=SL.s7855274175708717672x17
noncomputable abbrev Gm:=SL.s13351283678309829046x18
noncomputable abbrev Gn:=SL.s6668348653404991179x15
noncomputable abbrev Go:=SL.s12913350958174193794x18
noncomputable abbrev Gp:=SL.s16115879512475548326x12
noncomputable abbrev Gq:=SL.s15920661018069861047x16
noncomputable abbrev Gr:=SL.s10779130036587390575x21
noncomputable abbrev Gs:=SL.s7801419657504700863x10
noncomputable abbrev Gu:=SL.s1688129525768580628x8
noncomputable abbrev Gv:=SL.s1031832959479892071x19
noncomputable abbrev Gw:=SL.s8991790508128307865x19
noncomputable abbrev Gx:=SL.s14539662485746970245x23
noncomputable abbrev Gy:=SL.s11643622729373238714x14
noncomputable abbrev Gz:=SL.s3386828779285465597x17
noncomputable abbrev GA:=SL.s13042696260734638735x12
noncomputable abbrev GB:=SL.s18239426817015966623x15
noncomputable abbrev GC:=SL.s1270395311379034370x22
noncomputable abbrev GD:=SL.s10696252587037064777x22
noncomputable abbrev GE:=SL.s7852717498200857586x20
noncomputable abbrev GF:=SL.s6377248116197321094x8
noncomputable abbrev GG:=SL.s3834378056692298002x18
noncomputable abbrev GH:=SL.s17586630440231065808x18
noncomputable abbrev GI:=SL.s15234114252648025395x21
noncomputable abbrev GJ:=SL.s8496462677383758984x14
noncomputable abbrev GK:=SL.s16789243406116112673x4
noncomputable abbrev GL:=SL.s14400166428656793546x20
noncomputable abbrev GM:=SL.s5857708277339239366x20
noncomputable abbrev GN:=SL.s7804999707787243718x20
noncomputable abbrev Ao:=SL.s7097527257260152453x26
noncomputable abbrev GO:=SL.s6658869562736209489x6
noncomputable abbrev vT:=SL.s5856160107412720595x4
noncomputable abbrev FK:=SL.s658472552662922059x5
noncomputable abbrev sZ (w:World) (os:OsState):Shared:=⟨boot_heap w.params,Array.mk [],boot_drawn,boot_toks,os⟩
noncomputable def o11 (P:Params):Obj:=⟨(.type L68),none,(.seq #[] 0),#[]⟩
noncomputable def o12 (P:Params):Obj:=⟨.none,none,(.fields #[]),#[]⟩
noncomputable def g0 (x0:Str)(x1 x2 x3:Nat)(P:Params):Obj:=⟨(.type vT),none,(.fields #[.str x0 x1,.str x0 (x1+1),.str kN (x1+2),.int x2 0,.int 0 0,.int 0 0,.int 0 0,.int 0 0,.ref x3,.bool false,.int 181 0,.ref (x3+1),.none,.none,.none,.none,.int (x1+3) 0,.int x2 0,.str kN (x1+4)]),#[]⟩
noncomputable def o13:=g0 EQ 182 1 11
noncomputable def g1 (x0 x1:Nat)(x2:Str)(x3:Nat)(P:Params):Obj:=⟨(.type FK),none,.plain,#[some (.ref x0),some (.ref 3),some (.ref x1),none,some (.str x2 x3),none,some (.ref 0)]⟩
noncomputable def o14:=g1 13 3 EO 164
noncomputable def hA (P:Params):Heap:=⟨⟨[boot_o_0 P,boot_o_1 P,boot_o_2 P,boot_o_3 P,boot_o_4 P,boot_o_5 P,boot_o_6 P,boot_o_7 P,boot_o_8 P,boot_o_9 P,boot_o_10 P,o11 P,o12 P,o13 P,o14 P]⟩,{ }⟩
noncomputable abbrev sA (w:World) (os:OsState):Shared:=⟨hA w.params,(Array.mk []),⟨0,0,0,0⟩,187,os⟩
noncomputable abbrev pA:Pos:=⟨0,0,0,0⟩
theorem pre (w:World):(fun os=>topGo treeTable pt w m0 an 12 (sZ w os) (topStub pt))=fun os=>some (sA w os,(⟨denote treeTable cE,cE,pA,B⟩:Thread)):=by
 rw [PySem.W.Fast.te15667345088766844465,PySem.W.Fast.te14364793385576792824,PySem.W.Fast.te11892475500146522536]; kernel_rfl
noncomputable def tB:Params→BT:=(f boot_o_0 (f boot_o_1 (f boot_o_3 (f boot_o_7 z z) (f o11 z z)) (f boot_o_5 (f boot_o_9 z z) (f o13 z z))) (f boot_o_2 (f boot_o_4 (f boot_o_8 z z) (f o12 z z)) (f boot_o_6 (f boot_o_10 z z) (f o14 z z))))
noncomputable abbrev sB (w:World) (os:OsState):SharedT:=⟨tB w.params,15,{ },(Array.mk []),⟨0,0,0,0⟩,187,os⟩
noncomputable abbrev pB:Pos:=⟨0,0,0,0⟩
theorem blk (w:World):(fun os=>segRun treeTable pt w m0 an 1 1 (sA w os) ⟨(blockStart (behindTheImports pt) en).wrap (fun _=>doneF .next) deadEnd id id,cE,pA,B⟩)=fun os=>some (.next,(sB w os).abs,cE,pB):=by
 rw [PySem.W.Fast.te14374325043358763698,PySem.W.Fast.te14364793385576792824,PySem.W.Fast.te1066825118222455980]; kernel_rfl
noncomputable def FL (P:Params):Obj:=⟨(.type L0),none,(.dict #[e P S0 165 (.str oO 360),e P S2 166 .none,e P S3 167 .none,e P S4 168 (.builtin Ao),e P S5 169 .none,e P zO 170 (.ref 6),e P zP 171 (.ref 4),e P zQ 173 (.str kN 172),e P zR 174 .none,e P jw 206 (.ref 24),e P oP 222 (.ref 37),e P oQ 238 (.ref 49),e P oR 254 (.ref 61),e P oS 270 (.ref 73),e P oT 286 (.ref 85),e P oU 302 (.ref 97),e P oV 318 (.ref 109),e P lV 328 (.ref 118),e P lW 335 (.ref 125),e P lX 342 (.ref 132),e P lY 350 (.ref 139),e P lZ 359 (.ref 146),e P vB 363 (.str vC 362),e P vD 365 (.str vE 364),e P vF 366 (.ref 147),e P ma 381 (.ref 154),e P md 387 (.ref 159),e P mf 399 (.ref 166)] 28),#[]⟩
noncomputable def Ap (P:Params):Obj:=⟨.none,none,(.fields #[.int 2 0,.int 0 0,.ref 20,.int 4 0,.int 0 0,.ref 33,.int 6 0,.int 0 0,.ref 45,.int 8 0,.int 0 0,.ref 57,.int 10 0,.int 0 0,.ref 69,.int 12 0,.int 0 0,.ref 81,.int 14 0,.int 0 0,.ref 93,.int 16 0,.int 0 0,.ref 105,.int 19 0,.int 0 0,.ref 117,.int 21 0,.int 0 0,.ref 124,.int 23 0,.int 0 0,.ref 131,.int 25 0,.int 0 0,.ref 138,.int 28 0,.int 0 0,.ref 145,.int 35 0,.int 0 0,.ref 153,.int 40 0,.int 0 0,.ref 158,.int 43 0,.int 0 0,.ref 165]),#[]⟩
noncomputable def o15 (P:Params):Obj:=⟨(.type L68),none,(.seq #[.type L94] 0),#[]⟩
noncomputable abbrev Aq:=SL.s11030030927630378310x26
noncomputable abbrev FM:=SL.s10062305145149207511x16
noncomputable def o16 (P:Params):Obj:=⟨(.type Aq),none,(.fields #[.builtin FM,.type L69]),#[]⟩
noncomputable def g2 (x0:Nat)(x1:Str)(x2 x3:Nat)(P:Params):Obj:=⟨(.type L0),none,(.dict #[e P rS x0 (.str ig 187),e P zS (x0+2) (.str x1 (x0+1)),e P rT (x0+4) (.int x2 (x0+3)),e P rV (x0+5) (.ref x3)] 4),#[]⟩
noncomputable def o17:=g2 196 jw 2 22
noncomputable def o20:=g0 jw 191 2 18
noncomputable def o21:=g1 20 17 ig 187
noncomputable def o23 (P:Params):Obj:=⟨(.type L0),none,(.dict #[e P rS 196 (.str ig 187),e P rT 200 (.int 2 199),e P rV 201 (.ref 22),e P vG 203 (.ref 25),e P S2 204 .none] 3),#[]⟩
noncomputable abbrev Ar:=SL.s4209523147560561109x18
noncomputable def o24 (P:Params):Obj:=⟨(.type L69),none,(.cls ⟨jw,[.type L94],[.ref 24,.type L94,.type L73,.type L71,.type L60],23,jw,true,[],[.ref 37,.ref 49,.ref 61,.ref 73,.ref 85,.ref 97,.ref 109],false,none,false⟩),#[some (.ref 15),none,some (.str jw 189),some (.str jw 197),some (.builtin Ar),some (.bool true)]⟩
noncomputable abbrev As:=SL.s14755015743595814543x17
noncomputable abbrev FN:=SL.s10220274742760427390x26
noncomputable def g3 (x0 x1:Nat)(P:Params):Obj:=⟨(.type As),none,(.fields #[.str vG x0,.ref x1,.builtin FN,.none]),#[]⟩
noncomputable def o25:=g3 202 24
noncomputable def g4 (x0:Nat)(P:Params):Obj:=⟨(.type L67),none,(.fields #[.ref x0,.ref x0,.ref x0]),#[]⟩
noncomputable def o26:=g4 24
noncomputable abbrev FO:=SL.s4860613602091757760x24
noncomputable def g5 (x0:Nat)(P:Params):Obj:=⟨(.type Aq),none,(.fields #[.builtin FO,.ref x0]),#[]⟩
noncomputable def o27:=g5 24
noncomputable def o28 (P:Params):Obj:=⟨(.type L68),none,(.seq #[.ref 24] 0),#[]⟩
noncomputable def o30:=g2 214 oP 4 35
noncomputable def o33:=g0 oP 209 4 31
noncomputable def o34:=g1 33 30 ig 187
noncomputable def g6 (x0 x1 x2:Nat)(P:Params):Obj:=⟨(.type L0),none,(.dict #[e P rS x0 (.str ig 187),e P rT (x0+4) (.int x1 (x0+3)),e P rV (x0+5) (.ref x2),e P S2 (x0+6) .none] 2),#[]⟩
noncomputable def o36:=g6 214 4 35
noncomputable def g7 (x0:Str)(x1 x2 x3 x4:Nat)(P:Params):Obj:=⟨(.type L69),none,(.cls ⟨x0,[.ref 24],[.ref x1,.ref 24,.type L94,.type L73,.type L71,.type L60],x2,x0,true,[],[],false,none,false⟩),#[some (.ref x3),none,some (.str x0 x4),some (.str x0 (x4+8)),some (.builtin Ar),some (.bool true)]⟩
noncomputable def o37:=g7 oP 37 36 28 207
noncomputable def o38:=g4 37
noncomputable def o39:=g5 37
noncomputable def o42:=g2 230 oQ 6 47
noncomputable def o45:=g0 oQ 225 6 43
noncomputable def o46:=g1 45 42 ig 187
noncomputable def o48:=g6 230 6 47
noncomputable def o49:=g7 oQ 49 48 40 223
noncomputable def o50:=g4 49
noncomputable def o51:=g5 49
noncomputable def o54:=g2 246 oR 8 59
noncomputable def o57:=g0 oR 241 8 55
noncomputable def o58:=g1 57 54 ig 187
noncomputable def o60:=g6 246 8 59
noncomputable def o61:=g7 oR 61 60 52 239
noncomputable def o62:=g4 61
noncomputable def o63:=g5 61
noncomputable def o66:=g2 262 oS 10 71
noncomputable def o69:=g0 oS 257 10 67
noncomputable def o70:=g1 69 66 ig 187
noncomputable def o72:=g6 262 10 71
noncomputable def o73:=g7 oS 73 72 64 255
noncomputable def o74:=g4 73
noncomputable def o75:=g5 73
noncomputable def o78:=g2 278 oT 12 83
noncomputable def o81:=g0 oT 273 12 79
noncomputable def o82:=g1 81 78 ig 187
noncomputable def o84:=g6 278 12 83
noncomputable def o85:=g7 oT 85 84 76 271
noncomputable def o86:=g4 85
noncomputable def o87:=g5 85
noncomputable def o90:=g2 294 oU 14 95
noncomputable def o93:=g0 oU 289 14 91
noncomputable def o94:=g1 93 90 ig 187
noncomputable def o96:=g6 294 14 95
noncomputable def o97:=g7 oU 97 96 88 287
noncomputable def o98:=g4 97
noncomputable def o99:=g5 97
noncomputable def vU:=g2 310 oV 16 107
noncomputable def vV:=g0 oV 305 16 103
noncomputable def vW:=g1 105 102 ig 187
noncomputable def vX:=g6 310 16 107
noncomputable def vY:=g7 oV 109 108 100 303
noncomputable def vZ:=g4 109
noncomputable def wc:=g5 109
noncomputable def g8 (x0:Str)(x1:Nat)(x2:Str)(x3:Nat)(P:Params):Obj:=⟨(.type L68),none,(.seq #[.str x0 x1,.str x2 x3] 0),#[]⟩
noncomputable def we:=g8 mh 324 ER 325
noncomputable def g9 (x0:Str)(x1:Nat)(P:Params):Obj:=⟨.none,none,(.func ⟨x0,x0,L2.defArgs (tp x1),(.stmts (L2.defBody (tp x1))),L2.defScope (tp x1),0,[],.none,.none,.none,.none,none,.none,.none,0⟩),#[]⟩
noncomputable def wf:=g9 lV 10
noncomputable def g10 (x0:Str)(x1:Nat)(x2:Str)(x3 x4 x5 x6:Nat)(P:Params):Obj:=⟨(.type vT),none,(.fields #[.str x0 x1,.str x2 (x1+1),.str kN (x1+2),.int x3 0,.int x4 0,.int 0 0,.int 0 0,.int 3 0,.ref x5,.bool true,.int 181 0,.ref (x5+1),.none,.ref (x5+2),.ref (x5+3),.ref (x5+4),.int x6 0,.int x3 0,.str kN (x6+1)]),#[]⟩
noncomputable def wg:=g10 lV 321 lV 19 2 112 326
noncomputable abbrev At:=SL.s7174869446012820540x8
noncomputable def g11 (x0:Str)(x1:Nat)(x2:Str)(x3 x4:Nat)(P:Params):Obj:=⟨(.type At),none,(.func ⟨x0,x0,L2.defArgs (tp x1),(.stmts (L2.defBody (tp x1))),L2.defScope (tp x1),3,[],.none,.none,.none,.str x2 x3,none,.ref x4,.none,0⟩),#[]⟩
noncomputable def wj:=g11 lV 10 rW 319 117
noncomputable def g12 (x0:Str)(x1:Nat)(P:Params):Obj:=⟨(.type L68),none,(.seq #[.str x0 x1] 0),#[]⟩
noncomputable def wk:=g12 mh 332
noncomputable def wm:=g9 lW 11
noncomputable def wu:=g10 lW 329 lW 21 1 119 333
noncomputable def ww:=g11 lW 11 rW 319 124
noncomputable def wx:=g12 mh 339
noncomputable def wz:=g9 lX 12
noncomputable def wA:=g10 lX 336 lX 23 1 126 340
noncomputable def wB:=g11 lX 12 rW 319 131
noncomputable def wC:=g8 gh 346 gi 347
noncomputable def wD:=g9 lY 13
noncomputable def wE:=g10 lY 343 lY 25 2 133 348
noncomputable def wF:=g11 lY 13 rW 319 138
noncomputable def g13 (x0:Str)(x1:Nat)(x2 x3:Str)(P:Params):Obj:=⟨(.type L68),none,(.seq #[.str x0 x1,.str x2 (x1+1),.str x3 (x1+2)] 0),#[]⟩
noncomputable def wG:=g13 gh 354 gi ES
noncomputable def wH:=g9 lZ 14
noncomputable def wI:=g10 lZ 351 lZ 28 3 140 357
noncomputable def wJ:=g11 lZ 14 rW 319 145
noncomputable def wK:=g8 vC 362 vE 364
noncomputable def g14 (x0:Str)(x1:Nat)(x2 x3 x4 x5 x6 x7 x8 x9:Str)(P:Params):Obj:=⟨(.type L68),none,(.seq #[.str x0 x1,.str x2 (x1+1),.str x3 (x1+2),.str x4 (x1+3),.str x5 (x1+4),.str x6 (x1+5),.str x7 (x1+6),.str x8 (x1+7),.str x9 (x1+8)] 0),#[]⟩
noncomputable def wL:=g14 kO 370 gh gi mi rX ua ub ET EU
noncomputable def wM:=g9 ma 19
noncomputable def wN:=g10 ma 367 ma 35 7 148 379
noncomputable def wO:=g11 ma 19 oO 360 153
noncomputable def wP:=g9 md 20
noncomputable def g15 (x0:Str)(x1:Nat)(x2:Str)(x3 x4 x5:Nat)(P:Params):Obj:=⟨(.type vT),none,(.fields #[.str x0 x1,.str x2 (x1+1),.str kN (x1+2),.int x3 0,.int x4 0,.int 0 0,.int 0 0,.int 3 0,.ref x5,.bool true,.int 181 0,.ref (x5+1),.none,.none,.none,.ref (x5+2),.int (x1+3) 0,.int x3 0,.str kN (x1+4)]),#[]⟩
noncomputable def wQ:=g15 md 382 md 40 2 155
noncomputable def wR:=g11 md 20 oO 360 158
noncomputable def g16 (x0:Str)(x1:Nat)(x2 x3 x4 x5 x6:Str)(P:Params):Obj:=⟨(.type L68),none,(.seq #[.str x0 x1,.str x2 (x1+1),.str x3 (x1+2),.str x4 (x1+3),.str x5 (x1+4),.str x6 (x1+5)] 0),#[]⟩
noncomputable def wS:=g16 ik 391 vH uc vI gh gi
noncomputable def wT:=g9 mf 21
noncomputable def wU:=g10 mf 388 mf 43 4 160 397
noncomputable def wV:=g11 mf 21 oO 360 165
noncomputable def t0:Params→BT:=(f boot_o_0 (f boot_o_1 (f FL (f boot_o_7 (f o15 (f o11 (f o63 (f o12 z z) z) (f o11 (f wR z z) z)) (f o11 (f o11 (f o11 z z) z) (f wc z z))) (f o23 (f o39 (f o11 (f wC z z) z) (f o11 z z)) (f o11 (f o87 (f o11 z z) z) (f o11 z z)))) (f o11 (f o12 (f o11 (f o11 (f wA z z) z) (f o99 (f o11 z z) z)) (f o51 (f o11 (f wK z z) z) (f o11 z z))) (f o27 (f o11 (f o75 (f wF z z) z) (f o11 z z)) (f o11 (f o11 (f o11 z z) z) (f wm z z))))) (f boot_o_5 (f boot_o_9 (f o17 (f o33 (f o16 (f o11 z z) z) (f o97 (f o12 z z) z)) (f o49 (f o81 (f wI z z) z) (f o12 z z))) (f o25 (f o16 (f o73 (f wD z z) z) (f vV z z)) (f o57 (f o16 (f wN z z) z) (f wk z z)))) (f o13 (f o21 (f o37 (f o69 (f o11 z z) z) (f o16 (f wU z z) z)) (f o16 (f o85 (f o12 z z) z) (f wg z z))) (f o16 (f o45 (f o16 (f o12 z z) z) (f vY z z)) (f o61 (f o93 (f wP z z) z) (f ww z z)))))) (f boot_o_2 (f boot_o_4 (f boot_o_8 (f o16 (f o12 (f o28 (f wx z z) z) (f o96 (f o11 z z) z)) (f o48 (f o12 (f wH z z) z) (f o11 z z))) (f o24 (f o28 (f o72 (f o11 z z) z) (f o12 z z)) (f o12 (f o28 (f wM z z) z) (f o12 z z)))) (f Ap (f o20 (f o36 (f o12 (f wB z z) z) (f o28 (f wT z z) z)) (f o28 (f o84 (f o11 z z) z) (f wf z z))) (f o28 (f o12 (f o28 (f o11 z z) z) (f vX z z)) (f o60 (f o12 (f o12 z z) z) (f wu z z))))) (f boot_o_6 (f boot_o_10 (f o11 (f o34 (f o66 (f wz z z) z) (f o98 (f wS z z) z)) (f o50 (f o82 (f wJ z z) z) (f we z z))) (f o26 (f o42 (f o74 (f wE z z) z) (f vW z z)) (f o58 (f o90 (f wO z z) z) (f o11 z z)))) (f o14 (f o11 (f o38 (f o70 (f o12 z z) z) (f vU (f wV z z) z)) (f o54 (f o86 (f wL z z) z) (f wj z z))) (f o30 (f o46 (f o78 (f wG z z) z) (f vZ z z)) (f o62 (f o94 (f wQ z z) z) (f o11 z z)))))))
noncomputable abbrev s0 (w:World) (os:OsState):SharedT:=⟨t0 w.params,167,{ },(Array.mk []),⟨0,0,0,0⟩,400,os⟩
noncomputable abbrev p0:Pos:=⟨43,0,47,48⟩
noncomputable abbrev st0:List Stmt:=(pt.main.body.drop 0).take 22
theorem q0 (w:World):(fun os=>segRunT treeTable pt w m0 an 1 1983 (sB w os) ⟨(execs st0 en).wrap doneF deadEnd id id,cE,pB,B⟩)=fun os=>some (.next,s0 w os,cE,p0):=by
 rw [PySem.W.Fast.te10110043849684766642,PySem.W.Fast.te14364793385576792824,PySem.W.Fast.te12563942051412417395]; kernel_rfl
noncomputable def Au (P:Params):Obj:=⟨(.type L0),none,(.dict #[e P S0 165 (.str fC 713),e P S2 166 .none,e P S3 167 .none,e P S4 168 (.builtin Ao),e P S5 169 .none,e P zO 170 (.ref 6),e P zP 171 (.ref 4),e P zQ 173 (.str kN 172),e P zR 174 .none,e P jw 206 (.ref 24),e P oP 222 (.ref 37),e P oQ 238 (.ref 49),e P oR 254 (.ref 61),e P oS 270 (.ref 73),e P oT 286 (.ref 85),e P oU 302 (.ref 97),e P oV 318 (.ref 109),e P lV 328 (.ref 118),e P lW 335 (.ref 125),e P lX 342 (.ref 132),e P lY 350 (.ref 139),e P lZ 359 (.ref 146),e P vB 363 (.str vC 362),e P vD 365 (.str vE 364),e P vF 366 (.ref 147),e P ma 381 (.ref 154),e P md 387 (.ref 159),e P mf 399 (.ref 166),e P oW 405 (.ref 171),e P oX 411 (.ref 176),e P zT 415 (.str EV 414),e P zU 417 (.str EW 416),e P zV 419 (.int 1 418),e P zW 421 (.int 5 420),e P zX 423 (.int 4 422),e P oY 432 (.ref 183),e P oZ 443 (.ref 190),e P pf 456 (.ref 197),e P pi 480 (.ref 204),e P pj 493 (.ref 211),e P pC 503 (.ref 218),e P pE 516 (.ref 225),e P zY 520 (.int 16 519),e P pF 533 (.ref 232),e P pG 546 (.ref 239),e P pH 559 (.ref 246),e P pI 575 (.ref 253),e P pJ 598 (.ref 260),e P pK 604 (.ref 265),e P pL 610 (.ref 270),e P zZ 614 (.int 8 613),e P Aa 616 (.int 5 615),e P pM 628 (.ref 277),e P pN 635 (.ref 284),e P kP 712 (.ref 339),e P pO 721 (.ref 350),e P pP 730 (.ref 357),e P pQ 740 (.ref 364),e P pR 748 (.ref 371),e P pS 756 (.ref 378),e P pT 768 (.ref 385),e P pU 778 (.ref 392),e P pV 786 (.ref 399),e P pW 801 (.ref 406),e P pX 807 (.ref 411),e P pY 813 (.ref 416),e P pZ 828 (.ref 423),e P rY 839 (.ref 430)] 68),#[]⟩
noncomputable def uz (P:Params):Obj:=⟨.none,none,(.fields #[.int 2 0,.int 0 0,.ref 20,.int 4 0,.int 0 0,.ref 33,.int 6 0,.int 0 0,.ref 45,.int 8 0,.int 0 0,.ref 57,.int 10 0,.int 0 0,.ref 69,.int 12 0,.int 0 0,.ref 81,.int 14 0,.int 0 0,.ref 93,.int 16 0,.int 0 0,.ref 105,.int 19 0,.int 0 0,.ref 117,.int 21 0,.int 0 0,.ref 124,.int 23 0,.int 0 0,.ref 131,.int 25 0,.int 0 0,.ref 138,.int 28 0,.int 0 0,.ref 145,.int 35 0,.int 0 0,.ref 153,.int 40 0,.int 0 0,.ref 158,.int 43 0,.int 0 0,.ref 165,.int 48 0,.int 0 0,.ref 170,.int 52 0,.int 0 0,.ref 175,.int 60 0,.int 0 0,.ref 182,.int 64 0,.int 0 0,.ref 189,.int 71 0,.int 0 0,.ref 196,.int 76 0,.int 0 0,.ref 203,.int 83 0,.int 0 0,.ref 210,.int 94 0,.int 0 0,.ref 217,.int 97 0,.int 0 0,.ref 224,.int 109 0,.int 0 0,.ref 231,.int 116 0,.int 0 0,.ref 238,.int 123 0,.int 0 0,.ref 245,.int 129 0,.int 0 0,.ref 252,.int 142 0,.int 0 0,.ref 259,.int 150 0,.int 0 0,.ref 264,.int 156 0,.int 0 0,.ref 269,.int 162 0,.int 0 0,.ref 276,.int 169 0,.int 0 0,.ref 283,.int 171 0,.int 0 0,.ref 290,.int 214 0,.int 0 0,.ref 349,.int 216 0,.int 0 0,.ref 356,.int 223 0,.int 0 0,.ref 363,.int 230 0,.int 0 0,.ref 370,.int 235 0,.int 0 0,.ref 377,.int 240 0,.int 0 0,.ref 384,.int 252 0,.int 0 0,.ref 391,.int 258 0,.int 0 0,.ref 398,.int 260 0,.int 0 0,.ref 405,.int 271 0,.int 0 0,.ref 410,.int 291 0,.int 0 0,.ref 415,.int 293 0,.int 0 0,.ref 422,.int 304 0,.int 0 0,.ref 429]),#[]⟩
noncomputable def Av:=g9 oW 22
noncomputable def Aw:=g15 oW 400 oW 48 2 167
noncomputable def Ax:=g11 oW 22 oO 360 170
noncomputable def Ay:=g9 oX 23
noncomputable def Az:=g15 oX 406 oX 52 2 172
noncomputable def AA:=g11 oX 23 oO 360 175
noncomputable def AB:=g13 mh 427 Ab EX
noncomputable def AC:=g9 oY 30
noncomputable def AD:=g10 oY 424 oY 60 3 177 430
noncomputable def AE:=g11 oY 30 mj 412 182
noncomputable def g17 (x0:Str)(x1:Nat)(x2 x3 x4 x5:Str)(P:Params):Obj:=⟨(.type L68),none,(.seq #[.str x0 x1,.str x2 (x1+1),.str x3 (x1+2),.str x4 (x1+3),.str x5 (x1+4)] 0),#[]⟩
noncomputable def AF:=g17 ik 436 rZ si uc EY
noncomputable def AG:=g9 oZ 31
noncomputable def AH:=g10 oZ 433 oZ 64 2 184 441
noncomputable def AI:=g11 oZ 31 mj 412 189
noncomputable def g18 (x0:Str)(x1:Nat)(x2 x3 x4 x5 x6 x7:Str)(P:Params):Obj:=⟨(.type L68),none,(.seq #[.str x0 x1,.str x2 (x1+1),.str x3 (x1+2),.str x4 (x1+3),.str x5 (x1+4),.str x6 (x1+5),.str x7 (x1+6)] 0),#[]⟩
noncomputable def AJ:=g18 kO 447 rZ ua ub gh gi si
noncomputable def AK:=g9 pf 32
noncomputable def AL:=g10 pf 444 pf 71 2 191 454
noncomputable def AM:=g11 pf 32 mj 412 196
noncomputable def AN (P:Params):Obj:=⟨(.type L68),none,(.seq #[.str ik 460,.str rZ 461,.str ua 462,.str ub 463,.str gh 464,.str gi 465,.str si 466,.str uc 467,.str vI 468,.str Ac 469,.str Ad 470,.str EZ 471,.str Fa 472,.str Fb 473,.str Fc 474,.str ud 475,.str Fd 476,.str Fe 477] 0),#[]⟩
noncomputable def AO:=g9 pi 33
noncomputable def AQ:=g10 pi 457 pi 76 2 198 478
noncomputable def AR:=g11 pi 33 mj 412 203
noncomputable def AS:=g18 kO 484 gh gi mh ik Ae rZ
noncomputable def AT:=g9 pj 34
noncomputable def AU:=g10 pj 481 pj 83 4 205 491
noncomputable def AV:=g11 pj 34 mj 412 210
noncomputable def g19 (x0:Str)(x1:Nat)(x2 x3 x4:Str)(P:Params):Obj:=⟨(.type L68),none,(.seq #[.str x0 x1,.str x2 (x1+1),.str x3 (x1+2),.str x4 (x1+3)] 0),#[]⟩
noncomputable def AW:=g19 kO 497 gh gi mh
noncomputable def AX:=g9 pC 35
noncomputable def AY:=g10 pC 494 pC 94 4 212 501
noncomputable def AZ:=g11 pC 35 mj 412 217
noncomputable def Ba:=g18 kO 507 gh gi si Ff Ae rZ
noncomputable def Bb:=g9 pE 36
noncomputable def Bc:=g10 pE 504 pE 97 4 219 514
noncomputable def Bd:=g11 pE 36 mj 412 224
noncomputable def Be:=g18 kO 524 vH ue Af qb mi rX
noncomputable def Bf:=g9 pF 39
noncomputable def Bg:=g10 pF 521 pF 109 2 226 531
noncomputable def Bh:=g11 pF 39 uf 517 231
noncomputable def Bi:=g18 Fg 537 Fh Fi ue ud Fj Fk
noncomputable def Bj:=g9 pG 40
noncomputable def Bk:=g10 pG 534 pG 116 3 233 544
noncomputable def Bl:=g11 pG 40 uf 517 238
noncomputable def Bm:=g18 Ag 550 Fl ud uc vI Ac Ad
noncomputable def Bn:=g9 pH 41
noncomputable def Bo:=g10 pH 547 pH 123 2 240 557
noncomputable def Bp:=g11 pH 41 uf 517 245
noncomputable def Bq (P:Params):Obj:=⟨(.type L68),none,(.seq #[.str kO 563,.str gh 564,.str gi 565,.str ik 566,.str Fm 567,.str Ag 568,.str vH 569,.str ue 570,.str ud 571,.str Fn 572] 0),#[]⟩
noncomputable def Br:=g9 pI 42
noncomputable def Bs:=g10 pI 560 pI 129 3 247 573
noncomputable def Bt:=g11 pI 42 uf 517 252
noncomputable def Bu (P:Params):Obj:=⟨(.type L68),none,(.seq #[.str kO 581,.str gh 582,.str gi 583,.str si 584,.str Fo 585,.str ua 586,.str ub 587,.str Fp 588,.str Fq 589,.str Af 590,.str Ab 591,.str mi 592,.str rX 593,.str Fs 594,.str Ft 595] 0),#[]⟩
noncomputable def Bv:=g9 pJ 44
noncomputable def Bw:=g10 pJ 578 pJ 142 4 254 596
noncomputable def Bx:=g11 pJ 44 vJ 576 259
noncomputable def By:=g9 pK 45
noncomputable def Bz:=g15 pK 599 pK 150 4 261
noncomputable def BA:=g11 pK 45 vJ 576 264
noncomputable def BB:=g9 pL 46
noncomputable def BC:=g15 pL 605 pL 156 4 266
noncomputable def BD:=g11 pL 46 vJ 576 269
noncomputable def BE:=g16 mh 620 gh gi ue qc Fu
noncomputable def BF:=g9 pM 50
noncomputable def BG:=g10 pM 617 pM 162 1 271 626
noncomputable def BH:=g11 pM 50 qd 611 276
noncomputable def BI:=g12 mi 632
noncomputable def BJ:=g9 pN 51
noncomputable def BK:=g10 pN 629 pN 169 1 278 633
noncomputable def BL:=g11 pN 51 qd 611 283
noncomputable def BM (P:Params):Obj:=⟨(.type L0),none,(.dict #[e P rS 643 (.str qd 611),e P zS 645 (.str kP 644),e P rT 647 (.int 171 646),e P sj 653 (.ref 296),e P ik 660 (.ref 303),e P qb 667 (.ref 310),e P qc 673 (.ref 315),e P sk 683 (.ref 322),e P sr 692 (.ref 329),e P su 702 (.ref 336),e P rV 705 (.ref 337)] 11),#[]⟩
noncomputable def BN (P:Params):Obj:=⟨.none,none,(.fields #[.int 173 0,.int 4 0,.ref 295,.int 184 0,.int 4 0,.ref 302,.int 187 0,.int 4 0,.ref 309,.int 190 0,.int 4 0,.ref 314,.int 193 0,.int 4 0,.ref 321,.int 201 0,.int 4 0,.ref 328,.int 206 0,.int 4 0,.ref 335]),#[]⟩
noncomputable def BO:=g0 kP 638 171 288
noncomputable def BP:=g1 290 287 qd 611
noncomputable def g20 (x0 x1:Str)(x2:Nat)(P:Params):Obj:=⟨.none,none,(.func ⟨x0,x1,L2.defArgs (L2.inClass (tp 52) x2),(.stmts (L2.defBody (L2.inClass (tp 52) x2))),L2.defScope (L2.inClass (tp 52) x2),0,[],.none,.none,.none,.none,none,.none,.none,0⟩),#[]⟩
noncomputable def BQ:=g20 sj vK 0
noncomputable def BR:=g15 sj 648 vK 173 3 292
noncomputable def g21 (x0 x1:Str)(x2 x3:Nat)(P:Params):Obj:=⟨(.type At),none,(.func ⟨x0,x1,L2.defArgs (L2.inClass (tp 52) x2),(.stmts (L2.defBody (L2.inClass (tp 52) x2))),L2.defScope (L2.inClass (tp 52) x2),3,[],.none,.none,.none,.str qd 611,none,.ref x3,.none,0⟩),#[]⟩
noncomputable def BS:=g21 sj vK 0 295
noncomputable def BU:=g12 sw 657
noncomputable def BV:=g20 ik vL 1
noncomputable def BW:=g10 ik 654 vL 184 1 297 658
noncomputable def BX:=g21 ik vL 1 302
noncomputable def BY:=g12 sw 664
noncomputable def BZ:=g20 qb vM 2
noncomputable def Ca:=g10 qb 661 vM 187 1 304 665
noncomputable def Cb:=g21 qb vM 2 309
noncomputable def Cc:=g20 qc vN 3
noncomputable def Cd:=g15 qc 668 vN 190 1 311
noncomputable def Ce:=g21 qc vN 3 314
noncomputable def Cf:=g19 sw 677 Fv Fw mi
noncomputable def Cg:=g20 sk vO 4
noncomputable def Ch:=g10 sk 674 vO 193 1 316 681
noncomputable def Ci:=g21 sk vO 4 321
noncomputable def Cj:=g13 sw 687 mi rX
noncomputable def Ck:=g20 sr vP 5
noncomputable def Cl:=g10 sr 684 vP 201 3 323 690
noncomputable def Cm:=g21 sr vP 5 328
noncomputable def Cn:=g19 sw 696 mi rX Fx
noncomputable def Co:=g20 su vQ 6
noncomputable def Cp:=g10 su 693 vQ 206 3 330 700
noncomputable def Cq:=g21 su vQ 6 335
noncomputable def Cr:=g8 Fy 703 Fz 704
noncomputable def Cs (P:Params):Obj:=⟨(.type L0),none,(.dict #[e P rS 643 (.str qd 611),e P rT 647 (.int 171 646),e P sj 653 (.ref 296),e P ik 660 (.ref 303),e P qb 667 (.ref 310),e P qc 673 (.ref 315),e P sk 683 (.ref 322),e P sr 692 (.ref 329),e P su 702 (.ref 336),e P rV 705 (.ref 337),e P Ah 707 (.ref 340),e P vG 709 (.ref 341),e P S2 710 .none] 4),#[]⟩
noncomputable abbrev FP:=SL.s11443829558043349243x14
noncomputable def Ct (P:Params):Obj:=⟨(.type L69),none,(.cls ⟨kP,[.type L60],[.ref 339,.type L60],338,kP,true,[],[],false,none,false⟩),#[none,none,some (.str kP 636),some (.str kP 644),some (.builtin FP),some (.bool true)]⟩
noncomputable abbrev FQ:=SL.s6511155373996960695x17
noncomputable abbrev FR:=SL.s12411053484034534018x21
noncomputable def Cu (P:Params):Obj:=⟨(.type As),none,(.fields #[.str Ah 706,.ref 339,.builtin FQ,.builtin FR]),#[]⟩
noncomputable def Cv:=g3 708 339
noncomputable def Cw:=g4 339
noncomputable def Cy:=g5 339
noncomputable def Cz:=g12 Ai 718
noncomputable def CA:=g9 pO 54
noncomputable def CB:=g10 pO 715 pO 214 1 344 719
noncomputable def CC:=g11 pO 54 fC 713 349
noncomputable def CD:=g13 mq 725 Aj Ak
noncomputable def CF:=g9 pP 55
noncomputable def CG:=g10 pP 722 pP 216 2 351 728
noncomputable def CI:=g11 pP 55 fC 713 356
noncomputable def CJ:=g19 mq 734 Aj FA Al
noncomputable def CK:=g9 pQ 56
noncomputable def CL:=g10 pQ 731 pQ 223 2 358 738
noncomputable def CM:=g11 pQ 56 fC 713 363
noncomputable def CN:=g8 mq 744 vR 745
noncomputable def CO:=g9 pR 57
noncomputable def CP:=g10 pR 741 pR 230 1 365 746
noncomputable def CQ:=g11 pR 57 fC 713 370
noncomputable def CS:=g8 mq 752 vR 753
noncomputable def CT:=g9 pS 58
noncomputable def CU:=g10 pS 749 pS 235 1 372 754
noncomputable def CV:=g11 pS 58 fC 713 377
noncomputable def CW:=g16 mq 760 ug Al uh ui vS
noncomputable def CY:=g9 pT 59
noncomputable def CZ:=g10 pT 757 pT 240 1 379 766
noncomputable def Da:=g11 pT 59 fC 713 384
noncomputable def Db:=g19 mq 772 vR uh ui
noncomputable def Dc:=g9 pU 60
noncomputable def Dd:=g10 pU 769 pU 252 1 386 776
noncomputable def De:=g11 pU 60 fC 713 391
noncomputable def Df:=g8 Ak 782 FB 783
noncomputable def Dg:=g9 pV 61
noncomputable def Dh:=g10 pV 779 pV 258 2 393 784
noncomputable def Di:=g11 pV 61 fC 713 398
noncomputable def Dj:=g14 ug 790 uh ui Am FC FD vS FE FF
noncomputable def Dk:=g9 pW 62
noncomputable def Dl:=g10 pW 787 pW 260 4 400 799
noncomputable def Dm:=g11 pW 62 fC 713 405
noncomputable def Do:=g9 pX 63
noncomputable def Dp:=g15 pX 802 pX 271 5 407
noncomputable def Dq:=g11 pX 63 fC 713 410
noncomputable def Dr:=g9 pY 64
noncomputable def Ds:=g15 pY 808 pY 291 1 412
noncomputable def Du:=g11 pY 64 fC 713 415
noncomputable def Dv:=g14 FG 817 An ug FH uh ui FI vS Am
noncomputable def Dw:=g9 pZ 65
noncomputable def Dx:=g10 pZ 814 pZ 293 4 417 826
noncomputable def Dy:=g11 pZ 65 fC 713 422
noncomputable def Dz:=g17 FJ 832 Ai mq An ug
noncomputable def DA:=g9 rY 66
noncomputable def DE:=g10 rY 829 rY 304 1 424 837
noncomputable def DH:=g11 rY 66 fC 713 429
noncomputable def t1:Params→BT:=(f boot_o_0 (f boot_o_1 (f Au (f boot_o_7 (f o15 (f o11 (f o63 (f o12 (f o12 z z) (f CY z z)) (f o11 (f o11 z z) z)) (f o11 (f wR (f BM z z) (f Ds z z)) (f Bb (f o11 z z) z))) (f o11 (f o11 (f o11 (f o11 z z) (f Di z z)) (f AS (f Cp z z) z)) (f wc (f Az (f BX z z) z) (f Bl (f CN z z) z)))) (f o23 (f o39 (f o11 (f wC (f By z z) (f Dd z z)) (f o12 (f Ck z z) z)) (f o11 (f o11 (f BR z z) (f Dy z z)) (f Bg (f o12 z z) z))) (f o11 (f o87 (f o11 (f o12 z z) (f o11 z z)) (f o11 (f Cy z z) z)) (f o11 (f AE (f o11 z z) z) (f o11 (f o11 z z) z))))) (f o11 (f o12 (f o11 (f o11 (f wA (f Bw z z) (f o12 z z)) (f AK (f o11 z z) z)) (f o99 (f o11 (f BP z z) (f Dv z z)) (f o12 (f CF z z) z))) (f o51 (f o11 (f wK (f BF z z) (f o11 z z)) (f AV (f Ct z z) z)) (f o11 (f AB (f o11 z z) z) (f o11 (f CQ z z) z)))) (f o27 (f o11 (f o75 (f wF (f o12 z z) (f Df z z)) (f AQ (f o12 z z) z)) (f o11 (f Ax (f BU z z) (f o11 z z)) (f Bi (f CL z z) z))) (f o11 (f o11 (f o11 (f BK z z) (f Dq z z)) (f o11 (f o11 z z) z)) (f wm (f o11 (f Ce z z) z) (f Br (f o11 z z) z)))))) (f boot_o_5 (f boot_o_9 (f o17 (f o33 (f o16 (f o11 (f o11 z z) (f Da z z)) (f AJ (f Ch z z) z)) (f o97 (f o12 (f BN z z) (f o11 z z)) (f Bd (f CD z z) z))) (f o49 (f o81 (f wI (f BE z z) (f o12 z z)) (f AT (f Cr z z) z)) (f o12 (f o11 (f o12 z z) z) (f o12 (f CO z z) z)))) (f o25 (f o16 (f o73 (f wD (f BA z z) (f o11 z z)) (f o11 (f Cm z z) z)) (f vV (f Av (f o11 z z) (f o12 z z)) (f o11 (f o11 z z) z))) (f o57 (f o16 (f wN (f o11 z z) (f Do z z)) (f AY (f o12 z z) z)) (f wk (f o12 (f Cc z z) z) (f Bq (f CU z z) z))))) (f o13 (f o21 (f o37 (f o69 (f o11 (f o11 z z) (f o11 z z)) (f AM (f Cj z z) z)) (f o16 (f wU (f o12 z z) (f Dw z z)) (f o11 (f CI z z) z))) (f o16 (f o85 (f o12 (f BH z z) (f Dl z z)) (f o12 (f Cv z z) z)) (f wg (f AC (f Ca z z) z) (f Bo (f o12 z z) z)))) (f o16 (f o45 (f o16 (f o12 (f BC z z) (f Dg z z)) (f o11 (f o11 z z) z)) (f vY (f o12 (f BV z z) (f DE z z)) (f Bj (f o11 z z) z))) (f o61 (f o93 (f wP (f o11 z z) (f o12 z z)) (f Ba (f CB z z) z)) (f ww (f AH (f o12 z z) z) (f Bt (f CW z z) z))))))) (f boot_o_2 (f boot_o_4 (f boot_o_8 (f o16 (f o12 (f o28 (f wx (f Bu z z) (f CZ z z)) (f o12 (f Cg z z) z)) (f o96 (f o11 (f o11 z z) (f Du z z)) (f Bc (f o12 z z) z))) (f o48 (f o12 (f wH (f o12 z z) (f o11 z z)) (f o11 (f Cq z z) z)) (f o11 (f AA (f o11 z z) z) (f o11 (f o11 z z) z)))) (f o24 (f o28 (f o72 (f o11 (f Bz z z) (f De z z)) (f AN (f Cl z z) z)) (f o12 (f o12 (f BS z z) (f o11 z z)) (f Bh (f CJ z z) z))) (f o12 (f o28 (f wM (f BI z z) (f o12 z z)) (f AX (f o11 z z) z)) (f o12 (f o11 (f o12 z z) z) (f o12 (f CT z z) z))))) (f uz (f o20 (f o36 (f o12 (f wB (f Bx z z) (f Db z z)) (f AL (f o12 z z) z)) (f o28 (f wT (f o11 z z) (f o11 z z)) (f Be (f CG z z) z))) (f o28 (f o84 (f o11 (f BG z z) (f Dk z z)) (f o11 (f Cu z z) z)) (f wf (f o11 (f BZ z z) z) (f Bn (f o11 z z) z)))) (f o28 (f o12 (f o28 (f o11 (f BB z z) (f o11 z z)) (f AR (f Cn z z) z)) (f vX (f o11 (f o11 z z) (f DA z z)) (f o11 (f CM z z) z))) (f o60 (f o12 (f o12 (f BL z z) (f o11 z z)) (f o12 (f CA z z) z)) (f wu (f AG (f o11 z z) z) (f Bs (f o12 z z) z)))))) (f boot_o_6 (f boot_o_10 (f o11 (f o34 (f o66 (f wz (f Bv z z) (f o11 z z)) (f o11 (f Ci z z) z)) (f o98 (f wS (f BO z z) (f o12 z z)) (f o11 (f o11 z z) z))) (f o50 (f o82 (f wJ (f o11 z z) (f Dj z z)) (f AU (f Cs z z) z)) (f we (f o12 (f BY z z) z) (f Bm (f CP z z) z)))) (f o26 (f o42 (f o74 (f wE (f o11 z z) (f o12 z z)) (f AO (f o11 z z) z)) (f vW (f Aw (f o12 z z) (f Dz z z)) (f o12 (f CK z z) z))) (f o58 (f o90 (f wO (f BJ z z) (f Dp z z)) (f AZ (f Cz z z) z)) (f o11 (f AF (f Cd z z) z) (f o11 (f CV z z) z))))) (f o14 (f o11 (f o38 (f o70 (f o12 (f o12 z z) (f Dc z z)) (f o11 (f o11 z z) z)) (f vU (f wV (f BQ z z) (f Dx z z)) (f Bf (f o11 z z) z))) (f o54 (f o86 (f wL (f o11 z z) (f Dm z z)) (f AW (f Cw z z) z)) (f wj (f AD (f Cb z z) z) (f Bp (f CS z z) z)))) (f o30 (f o46 (f o78 (f wG (f BD z z) (f Dh z z)) (f o12 (f Co z z) z)) (f vZ (f Ay (f BW z z) (f DH z z)) (f Bk (f o12 z z) z))) (f o62 (f o94 (f wQ (f o16 z z) (f Dr z z)) (f o11 (f CC z z) z)) (f o11 (f AI (f Cf z z) z) (f o11 (f o11 z z) z))))))))
noncomputable abbrev s1 (w:World) (os:OsState):SharedT:=⟨t1 w.params,431,{ },(Array.mk []),⟨0,0,0,0⟩,840,os⟩
noncomputable abbrev p1:Pos:=⟨304,0,311,15⟩
noncomputable abbrev st1:List Stmt:=(pt.main.body.drop 22).take 45
theorem q1 (w:World):(fun os=>segRunT treeTable pt w m0 an 1 1535 (s0 w os) ⟨(execs st1 en).wrap doneF deadEnd id id,cE,p0,B⟩)=fun os=>some (.next,s1 w os,cE,p1):=by
 rw [PySem.W.Fast.te10110043849684766642,PySem.W.Fast.te14364793385576792824,PySem.W.Fast.te12563942051412417395]; kernel_rfl
noncomputable def hF (P:Params):Heap:=⟨⟨[boot_o_0 P,boot_o_1 P,boot_o_2 P,Au P,boot_o_4 P,boot_o_5 P,boot_o_6 P,boot_o_7 P,boot_o_8 P,boot_o_9 P,boot_o_10 P,o11 P,uz P,o13 P,o14 P,o15 P,o16 P,o17 P,o11 P,o12 P,o20 P,o21 P,o11 P,o23 P,o24 P,o25 P,o26 P,o27 P,o28 P,o16 P,o30 P,o11 P,o12 P,o33 P,o34 P,o11 P,o36 P,o37 P,o38 P,o39 P,o28 P,o16 P,o42 P,o11 P,o12 P,o45 P,o46 P,o11 P,o48 P,o49 P,o50 P,o51 P,o28 P,o16 P,o54 P,o11 P,o12 P,o57 P,o58 P,o11 P,o60 P,o61 P,o62 P,o63 P,o28 P,o16 P,o66 P,o11 P,o12 P,o69 P,o70 P,o11 P,o72 P,o73 P,o74 P,o75 P,o28 P,o16 P,o78 P,o11 P,o12 P,o81 P,o82 P,o11 P,o84 P,o85 P,o86 P,o87 P,o28 P,o16 P,o90 P,o11 P,o12 P,o93 P,o94 P,o11 P,o96 P,o97 P,o98 P,o99 P,o28 P,o16 P,vU P,o11 P,o12 P,vV P,vW P,o11 P,vX P,vY P,vZ P,wc P,o11 P,o12 P,we P,o11 P,wf P,wg P,wj P,o11 P,o12 P,wk P,o11 P,wm P,wu P,ww P,o11 P,o12 P,wx P,o11 P,wz P,wA P,wB P,o11 P,o12 P,wC P,o11 P,wD P,wE P,wF P,o11 P,o12 P,wG P,o11 P,wH P,wI P,wJ P,wK P,o11 P,o12 P,wL P,o11 P,wM P,wN P,wO P,o11 P,o12 P,wP P,wQ P,wR P,o11 P,o12 P,wS P,o11 P,wT P,wU P,wV P,o11 P,o12 P,Av P,Aw P,Ax P,o11 P,o12 P,Ay P,Az P,AA P,o11 P,o12 P,AB P,o11 P,AC P,AD P,AE P,o11 P,o12 P,AF P,o11 P,AG P,AH P,AI P,o11 P,o12 P,AJ P,o11 P,AK P,AL P,AM P,o11 P,o12 P,AN P,o11 P,AO P,AQ P,AR P,o11 P,o12 P,AS P,o11 P,AT P,AU P,AV P,o11 P,o12 P,AW P,o11 P,AX P,AY P,AZ P,o11 P,o12 P,Ba P,o11 P,Bb P,Bc P,Bd P,o11 P,o12 P,Be P,o11 P,Bf P,Bg P,Bh P,o11 P,o12 P,Bi P,o11 P,Bj P,Bk P,Bl P,o11 P,o12 P,Bm P,o11 P,Bn P,Bo P,Bp P,o11 P,o12 P,Bq P,o11 P,Br P,Bs P,Bt P,o11 P,o12 P,Bu P,o11 P,Bv P,Bw P,Bx P,o11 P,o12 P,By P,Bz P,BA P,o11 P,o12 P,BB P,BC P,BD P,o11 P,o12 P,BE P,o11 P,BF P,BG P,BH P,o11 P,o12 P,BI P,o11 P,BJ P,BK P,BL P,o11 P,o16 P,BM P,o11 P,BN P,BO P,BP P,o11 P,o12 P,BQ P,BR P,BS P,o11 P,o12 P,BU P,o11 P,BV P,BW P,BX P,o11 P,o12 P,BY P,o11 P,BZ P,Ca P,Cb P,o11 P,o12 P,Cc P,Cd P,Ce P,o11 P,o12 P,Cf P,o11 P,Cg P,Ch P,Ci P,o11 P,o12 P,Cj P,o11 P,Ck P,Cl P,Cm P,o11 P,o12 P,Cn P,o11 P,Co P,Cp P,Cq P,Cr P,Cs P,Ct P,Cu P,Cv P,Cw P,Cy P,o11 P,o12 P,Cz P,o11 P,CA P,CB P,CC P,o11 P,o12 P,CD P,o11 P,CF P,CG P,CI P,o11 P,o12 P,CJ P,o11 P,CK P,CL P,CM P,o11 P,o12 P,CN P,o11 P,CO P,CP P,CQ P,o11 P,o12 P,CS P,o11 P,CT P,CU P,CV P,o11 P,o12 P,CW P,o11 P,CY P,CZ P,Da P,o11 P,o12 P,Db P,o11 P,Dc P,Dd P,De P,o11 P,o12 P,Df P,o11 P,Dg P,Dh P,Di P,o11 P,o12 P,Dj P,o11 P,Dk P,Dl P,Dm P,o11 P,o12 P,Do P,Dp P,Dq P,o11 P,o12 P,Dr P,Ds P,Du P,o11 P,o12 P,Dv P,o11 P,Dw P,Dx P,Dy P,o11 P,o12 P,Dz P,o11 P,DA P,DE P,DH P]⟩,{ }⟩
noncomputable abbrev sF (w:World) (os:OsState):Shared:=⟨hF w.params,(Array.mk []),⟨0,0,0,0⟩,840,os⟩
theorem fin (w:World):(fun os=>topRun treeTable pt w m0 an 2 (s1 w os).abs ⟨doneF .next,cE,p1,B⟩)=fun os=>some (sF w os):=by
 rw [PySem.W.Fast.te14082659384304107361,PySem.W.Fast.te14364793385576792824]; kernel_rfl
theorem uj:behindTheImports pt=st0 ++ (st1 ++ ([])):=by kernel_rfl
noncomputable abbrev MM:Nat:=12 + (1 + (1983 + (1535 + 2)))
theorem wW (w:World) (os:OsState):topRun treeTable pt w m0 an MM (sZ w os) (topStub pt)=some (sF w os) :=
 go_top (congrFun (pre w) os) (piece_block (congrFun (blk w) os) (uj ▸ (piece_app (l:=st0) (segRun_of (congrFun (q0 w) os)) (piece_app (l:=st1) (segRun_of (congrFun (q1 w) os)) (piece_nil (congrFun (fin w) os))))))
noncomputable def loose:List Str:=[jw,oP,oQ,oR,oS,oT,oU,oV,lV,lW,lX,lY,lZ,vB,vD,vF,ma,md,mf,oW,oX,zT,zU,zV,zW,zX,oY,oZ,pf,pi,pj,pC,pE,zY,pF,pG,pH,pI,pJ,pK,pL,zZ,Aa,pM,pN,kP,pO,pP,pQ,pR,pS,pT,pU,pV,pW,pX,pY,pZ]
noncomputable abbrev NN:Nat:=7158
noncomputable abbrev q:Program:=view pt [66]
noncomputable abbrev Xt:Shared→Bool:=fun s=>xlAt q [] s && recOk [] s
theorem size (w:World):((boot_heap w.params).isNs mainGlobals && (Array.mk []:Array GenState).size == 0,(boot_heap w.params).objs.size,(boot_heap w.params).nsMap mainGlobals "__annotations__")=(true,m0,an):=by
 rw [PySem.W.Fast.te8920871248978507458]; kernel_rfl
theorem DJ (w:World):(fun os=>((staticsOk (importedModules pt.main.body) (boot_heap w.params) (hF w.params) && namesBound pt (hF w.params) && gensDone (sF w os) && laidKept (boot_heap w.params) (hF w.params)),openSeen q loose (importedModules pt.main.body) Xt true (sF w os),HK.obs (sF w os)))=fun _=>(true,openGood q loose,HK.val w):=by
 rw [PySem.W.Fast.te4187177175401517315,PySem.W.Fast.te5923862056798008813]; kernel_rfl
theorem left:LeftO pt q loose Xt HK.obs HK.val NN true:=LeftO.of_pieces (boot_open (by kernel_rfl) (by decide) (fun s=>rfl)) size wW (by decide) DJ
end Hd
open PySem PySem.W PyProof.Rows
set_option maxRecDepth 100000 in
set_option maxHeartbeats 0 in
theorem PySem.Challenge.cw_platecuts_k42_whole_tree_worth_so_holds : PySem.Challenge.rw_platecuts_k42_whole_tree_worth_so.Holds := by
 w_on; o_law
 refine holds_open (q:=view PySem.Challenge.pw_platecuts_k42_whole_tree_worth_so [66]) (loose:=Hd.loose) (Xt:=fun s=>xlAt (view PySem.Challenge.pw_platecuts_k42_whole_tree_worth_so [66]) [] s && recOk [] s) (XP:=XL (view PySem.Challenge.pw_platecuts_k42_whole_tree_worth_so [66]) []) (Yf:=Hook.obs Hd.HK) (Ya:=Hook.val Hd.HK) (YP:=InK Pc.kK) (N:=Hd.NN) ?hl (Hook.of Hd.HK) (Hook.keeps Hd.HK) (fun s e=>xl_of s (Bool.and_eq_true_iff.mp e).1) XL.keeps (by rfl) (by rfl) (by rfl) (fun s e=>recFacts_of (Bool.and_eq_true_iff.mp e).2) (by rfl) (by first | assumption | decide +kernel) (by decide +kernel) ⟨rfl,rfl,rfl,rfl,rfl,by decide +kernel⟩ ?hw ?hc
 case hl=>exact Hd.pt_eq ▸ Hd.left
 case hw=>w_witness2
 k_fill
 refine Pc.walk (l:=PySem.Challenge.rw_platecuts_k42_whole_tree_worth_so) rfl rfl (fun w h Y=>Y) ?F
 case F =>
  intro w mg fa h KX G hmg
  refine' Pc.all_mk KX G hmg ?d0 ?d1 ?d2 ?d3 ?d4 ?d5 ?d6 ?d7 ?d8 ?d9 ?d10 ?d11 ?d12 ?d13 ?d14 ?d15 ?d16 ?d17 ?d18 ?d19 ?d20 ?d21 ?d22 ?d23 ?d24 ?d25 ?d26 ?d27 ?d28 ?d29 ?d30 ?d31 ?d32 ?d33 ?d34 ?d35 ?d36 ?d37 ?d38 ?aC ?dm0 ?dm1 ?dm2 ?dm3 ?dm4 ?dm5 ?pg ?hd ?po ?sa ?mk ?kc ?n0 ?n1 ?eWAYS ?lWAYS ?z0 ?z1 ?z2 ?z3 ?z4 ?z5 ?z6 ?z7 ?z8 ?z9 ?z10 ?z11 ?z12 ?z13 ?z14 ?z15 ?z16 ?z17 ?uc0 ?uc1 ?uc2 ?uc3 ?uc4 ?uc5 ?uc6 ?uc7 ?uc8 ?uc9
  (case d0 | d1 | d2 | d3 | d4 | d5 | d6 | d7 | d8 | d9 | d10 | d11 | d12 | d13 | d14 | d15 | d16 | d17 | d18 | d19 | d20 | d21 | d22 | d23 | d24 | d25 | d26 | d27 | d28 | d29 | d30 | d31 | d32 | d33 | d34 | d35 | d36 | d37 | d38=>refine' Pc.diM ?a ?l ?c ?k; (case a=>k_is); (case l=>k_is); (case c=>k_is); (case k=>k_is))
  (case aC=>k_is)
  (case dm0 | dm1 | dm2 | dm3 | dm4 | dm5=>refine' Pc.miM ?a ?i ?l ?c ?k; (case a=>k_is); (case i=>k_is); (case l=>k_is); (case c=>k_is); (case k=>k_is))
  (case pg | hd | po | sa | mk | kc | n0 | n1 | eWAYS=>k_is)
  (case lWAYS=>exact ⟨_,_,_,rfl,rfl,rfl,by decide,.cons ⟨_,rfl⟩ (.cons ⟨_,rfl⟩ .nil)⟩)
  (case z0 | z1 | z2 | z3 | z4 | z5 | z6 | z7 | z8 | z9 | z10 | z11 | z12 | z13 | z14 | z15 | z16 | z17 | uc0 | uc1 | uc2 | uc3 | uc4 | uc5 | uc6 | uc7 | uc8 | uc9=>k_is)