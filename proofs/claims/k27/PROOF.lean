import PyProof.Rows.All
import Wide.All
import OpenK.AllK
import Wide.FinOn
import Lean
import PyProof.EqAt
import PyProof.EqKinds
import PyProof.TupleCall
import PyProof.Draws
import PyProof.WalksMore
import PyProof.EnumMake
import PyProof.ReprRoads
import PyProof.Rows.SortWalk
import PyProof.Rows.SumAny
import KE.KSortedM
import PyProof.FitsBits
import KE.KSortTup
import PySem.Challenge.RW_platecuts_k27_whole_deep_trees
set_option maxRecDepth 100000
set_option maxHeartbeats 0
local macro_rules|`(def $i $s:optDeclSig $v:declVal)=>`(noncomputable def $i $s:optDeclSig $v:declVal)
local macro_rules|`(abbrev $i $s:optDeclSig $v:declVal)=>`(noncomputable abbrev $i $s:optDeclSig $v:declVal)
local macro_rules|`(∅)=>`(by decide +kernel)
local macro_rules|`(⋯)=>`(by omega)
local macro_rules|`(↑$x)=>`(some (.ref $x))
local macro_rules|`(⇑$x)=>`(some (.int $x))
local macro_rules|`(↥$x)=>`(some (.lst $x))
local macro_rules|`(~~~$x)=>`(some (.tup $x))
section
open PySem PySem.W PySem.Spec PyProof PyProof.Rows
abbrev EO:=@Shared
abbrev EQ:=@Program
abbrev ER:=@FuncData
abbrev ES:=@World
abbrev ET:=@Value
abbrev A0:=@wpAny_bind
abbrev A1:=@wpAny_pure
abbrev A3:=@wpS_bind
abbrev A4:=@wpS_pure
abbrev A5:=@List.mem_append_right
abbrev A6:=@List.getElem?_eq_some_iff
abbrev A7:=@Heap.get?_push_of_some
abbrev A8:=@Heap.get?_push_size
abbrev A9:=@Heap.lt_size
abbrev B0:=@decide_eq_true
abbrev B1:=@decide_eq_false
abbrev B2:=@Bool.false_ne_true
abbrev B3:=@Nat.le_refl
abbrev B4:=@List.mem_cons_of_mem
abbrev B5:=@List.mem_of_getElem?
abbrev B6:=@List.mem_append_left
abbrev B7:=@List.mem_cons_self
abbrev B8:=@Option.some.inj
abbrev B9:=@Nat.ne_of_lt
abbrev C0:=@of_decide_eq_true
abbrev C1:=@Nat.lt_of_lt_of_le
abbrev C2:=@List.mem_append
abbrev C3:=@beq_iff_eq
abbrev C4:=@PySem.W.Frag
abbrev C5:=@Nat.le_trans
abbrev C6:=@List.getElem?_eq_none
abbrev C7:=@Bool.and_eq_true_iff
abbrev C8:=@Nat.lt_irrefl
abbrev C9:=@List.Perm.trans
abbrev EB:=@List.mem_singleton
abbrev EC:=@Paired.length
abbrev ED:=@PassesOwn.never
abbrev EE:=@Int.le_refl
abbrev EF:=@PySem.W.fnOf
abbrev EG:=@False.elim
abbrev EH:=@Nat.zero_le
abbrev EI:=@Nat.lt_succ_self
abbrev EJ:=@List.getElem?_eq_getElem
abbrev EK:=@wpAny_truthy_bool
abbrev EL:=@wpAny_call_entry
abbrev EM:=@wpAny_newObj_type
abbrev EN:=@PySem.F.plainAttrs_list
end
theorem zS2:2<=PySem.sizeLine:=∅
theorem zS5:5<=PySem.sizeLine:=∅
theorem zS1:1<=PySem.sizeLine:=∅
theorem zS3:3<=PySem.sizeLine:=∅
theorem zS4:4<=PySem.sizeLine:=∅
theorem Y{α:Sort _}{a:α}:a=a:=rfl
set_option Elab.async false
set_option linter.all false
namespace L2
open PySem PySem.Spec PyProof.Rows
abbrev Key:=Sum Int Str
def rN:Key->ET->Bool
 | .inl k,v=>Value.isInt k v
 | .inr x,v=>Value.isStrOf x v
def Bs (w:ES):Key->Int
 | .inl k=>hashInt k
 | .inr x=>hashStr w x
theorem aT:∀ {k:Key} {v:ET},rN k v=true->(∃i t,k=Sum.inl i/\v=Value.int i t)\/(∃x t,k=Sum.inr x/\v=Value.str x t)
 | .inl i,v,h=>by obtain ⟨t,e⟩:=Value.isInt_shape (k:=i) (v:=v) h;exact .inl ⟨i,t,Y,e⟩
 | .inr x,v,h=>by obtain ⟨t,e⟩:=Value.isStrOf_shape (x:=x) (v:=v) h;exact .inr ⟨x,t,Y,e⟩
theorem rZ (a b:Int):decide ((Sum.inl a:Key)=Sum.inl b)=(a == b):=by
 by_cases e:a=b
 ·subst e; simp
 ·have h:¬ (Sum.inl a:Key)=Sum.inl b:=λ q=>e (Sum.inl.inj q);rw [decide_eq_false h];exact (beq_eq_false_iff_ne.mpr e).symm
theorem si (a b:Str):decide ((Sum.inr a:Key)=Sum.inr b)=decide (a=b):=by
 by_cases e:a=b
 ·subst e; simp
 ·have h:¬ (Sum.inr a:Key)=Sum.inr b:=λ q=>e (Sum.inr.inj q);rw [decide_eq_false h,decide_eq_false e]
theorem sj (a:Int) (b:Str):decide ((Sum.inl a:Key)=Sum.inr b)=false:=B1 (λ q=>nomatch q)
theorem sk (a:Str) (b:Int):decide ((Sum.inr a:Key)=Sum.inl b)=false:=B1 (λ q=>nomatch q)
def ir (prog:EQ) (w:ES):PySem.KeyKind prog w Key where
 is:=rN
 hash:=Bs w
 inj:=λ v a b ha hb=>by
  rcases aT ha with ⟨i,t,rfl,rfl⟩ | ⟨x,t,rfl,rfl⟩
  ·rcases aT hb with ⟨j,u,rfl,e⟩ | ⟨y,u,rfl,e⟩
   ·injection e with e1 _; rw [e1]
   ·exact nomatch e
  ·rcases aT hb with ⟨j,u,rfl,e⟩ | ⟨y,u,rfl,e⟩
   ·exact nomatch e
   ·injection e with e1 _; rw [e1]
 byValue:=λ k v h=>by rcases aT h with ⟨i,t,rfl,rfl⟩ | ⟨x,t,rfl,rfl⟩ <;> rfl
 pyHash:=λ hv h=>by
  rcases aT hv with ⟨i,t,rfl,rfl⟩ | ⟨x,t,rfl,rfl⟩
  ·exact wpAny_pyHash_int h
  ·exact wpAny_pyHash_str h
 eqBool:=λ hu hv h=>by
  rcases aT hu with ⟨i,t,rfl,rfl⟩ | ⟨x,t,rfl,rfl⟩
  ·rcases aT hv with ⟨j,u,rfl,rfl⟩ | ⟨y,u,rfl,rfl⟩
   ·rw [rZ] at h; exact wpAny_eqBool_int h
   ·rw [sj] at h; exact SeqAt.EqAt.int_str i t y u _ _ _ _ h
  ·rcases aT hv with ⟨j,u,rfl,rfl⟩ | ⟨y,u,rfl,rfl⟩
   ·rw [sk] at h; exact SeqAt.EqAt.str_int x t j u _ _ _ _ h
   ·rw [si] at h; exact wpAny_eqBool_str h
 «strs» := λ k x t v h=>by
  rcases aT h with ⟨i,u,rfl,e⟩ | ⟨y,u,rfl,e⟩
  ·exact nomatch e
  ·injection e with e1 _
   subst e1;cases v <;> rfl
inductive V where
 | non | bl (b:Bool) | int (i:Int) | str (x:Str) | byt (b:Array UInt8) | flt (b:UInt64) | ref (a:Addr) | ty (n:String)
 deriving DecidableEq
def RelV:V->ET->Prop
 | .non,u=>u=Value.none
 | .bl b,u=>u=Value.bool b
 | .int i,u=>∃t,u=Value.int i t
 | .str x,u=>∃t,u=Value.str x t
 | .byt b,u=>∃t,u=Value.bytes b t
 | .flt b,u=>∃t,u=Value.float b t
 | .ref a,u=>u=Value.ref a
 | .ty n,u=>u=Value.type n
abbrev Vals:List V->List ET->Prop:=Paired RelV
theorem Vals.length {xs:List V} {us:List ET} (r:Vals xs us):xs.length=us.length:=EC r
theorem Vals.get:∀ {xs:List V} {us:List ET} {i:Nat} {x:V},Vals xs us->xs[i]? = some x->∃u,us[i]? = some u/\RelV x u
 | _,_,_,_,.nil,e=>by simp at e
 | _,_,0,_,.cons r _,e=>by simp at e; subst e; exact ⟨_,Y,r⟩
 | _,_,i + 1,x,.cons _ t,e=>by obtain ⟨u,h1,h2⟩:=Vals.get (i:=i) (x:=x) t (by simpa using e);exact ⟨u,by simpa using h1,h2⟩
theorem Vals.set {x:V} {u:ET} (r:RelV x u):∀ {xs:List V} {us:List ET} (i:Nat),Vals xs us->Vals (xs.set i x) (us.set i u)
 | _,_,_,.nil=>.nil
 | _,_,0,.cons _ t=>.cons r t
 | _,_,i + 1,.cons q t=>.cons q (Vals.set r i t)
theorem Vals.append:∀ {xs ys:List V} {us ws:List ET},Vals xs us->Vals ys ws->Vals (xs ++ ys) (us ++ ws)
 | _,_,_,_,.nil,s=>s
 | _,_,_,_,.cons r t,s=>.cons r (Vals.append t s)
theorem Vals.take:∀ {xs:List V} {us:List ET} (n:Nat),Vals xs us->Vals (xs.take n) (us.take n)
 | _,_,0,_=>.nil
 | _,_,_ + 1,.nil=>.nil
 | _,_,n + 1,.cons r t=>.cons r (Vals.take n t)
theorem Vals.drop:∀ {xs:List V} {us:List ET} (n:Nat),Vals xs us->Vals (xs.drop n) (us.drop n)
 | _,_,0,r=>r
 | _,_,_ + 1,.nil=>.nil
 | _,_,n + 1,.cons _ t=>Vals.drop n t
def RelO:Option V->Option ET->Prop
 | some v,some u=>RelV v u
 | none,none=>True
 | _,_=>False
def KV {κ:Type}:List (κ×V)->List (κ×ET)->Prop:=Paired λ (p:κ×V) (q:κ×ET)=>p.1=q.1/\RelV p.2 q.2
def kV:Key->V
 | .inl i=>.int i
 | .inr x=>.str x
inductive HO where
 | lst (xs:List V)
 | tup (xs:List V)
 | dK (kvs:List (Key×V)) | dT (kvs:List (List Key×V))
 | set (S:Int->Bool) (n:Nat)
 | ins (C dx:Addr) (fs:List (Str×V))
 | own (x:Addr)
 | xd (fs:List (Str×V))
 | met (f x:Addr)
 | rng (lo hi:Int)
 | frz (o:Obj) (u:HO)
 | tbl (ps:Array ET)
 | ext (φ:Heap->Prop)
abbrev Hp:=Addr->Option HO
def upd (H:Hp) (a:Addr) (o:HO):Hp:=λ b=>if b=a then some o else H b
theorem af {H:Hp} {a:Addr} {o:HO}:upd H a o a=some o:=by unfold upd; rw [if_pos rfl]
theorem aj {H:Hp} {a b:Addr} {o:HO} (h:b≠a):upd H a o b=H b:=by unfold upd; rw [if_neg h]
theorem aq {H:Hp} {a b:Addr} {o:HO} (h:H a=some o) (h':H b=none):a≠b:=by intro e; subst e; rw [h] at h'; cases h'
section
variable (P:EQ) (w:ES)
def ObjOk (H:Hp) (h:Heap) (a:Addr):HO->Prop
 | .lst xs=>xs.length<=sizeLine/\∃ (its:List ET) (n:Nat),Vals xs its/\h.get? a=some { cls:=.type "list",data:=.seq its.toArray n }
 | .tup xs=>xs.length<=sizeLine/\∃its:List ET,Vals xs its/\IsTup h a its.toArray
 | .dK kvs=>kvs.length<=sizeLine/\(a == sysModules)=false/\∃vs,KV kvs vs/\h.DictOf (ir P w) a vs
 | .dT kvs=>kvs.length<=sizeLine/\(a == sysModules)=false/\∃xs:List (List Key×Addr×ET),
   Paired (λ (p:List Key×V) (q:List Key×Addr×ET)=>p.1=q.1/\H q.2.1= ~~~(p.1.map kV)/\RelV p.2 q.2.2) kvs xs /\
   ∃o es ep,h.get? a=some o/\o.ExactDict/\o.data=.dict es ep/\es.toList=xs.map (entryOfKey (tupleKind (ir P w)))/\(xs.map (·.1)).Nodup
 | .set S n=>h.SetOf (intKind P w) a S n
 | .ins C dx fs=>H dx=some (.own a)/\fs.length<=1000/\dx≠a/\h.get? a=some (PySem.W.instObj C dx) /\
   ∃mA,h.Ns1 dx mA/\(∀f,RelO (fs.lookup f) (mA f))/\PySem.Within mA (fs.map (·.1))
 | .own _=>∃o,h.get? a=some o
 | .xd fs=>∃mA,h.Ns1 a mA/\∀f,RelO (fs.lookup f) (mA f)
 | .rng lo hi=>∃t u v,h.get? a=some { cls:=.type "range",data:=.fields #[.int lo t,.int hi u,.int 1 v] }
 | .frz o u=>h.get? a=some o/\ObjOk H h a u
 | .tbl ps=>h.get? a=some { cls:=.none,data:=.fields ps }
 | .met f x=>h.get? a=some (PySem.W.methodObj (.ref f) (.ref x))
 | .ext φ=>φ h/\(∃o,h.get? a=some o)/\∀h1 h2:Heap,φ h1->(∀o,h1.get? a=some o->h2.get? a=some o)->φ h2
def HOk (H:Hp) (h:Heap):Prop:=∀a o,H a=some o->ObjOk P w H h a o
end
section
variable {P:EQ} {w:ES} {H H':Hp} {h h':Heap} {a:Addr} {o:HO}
theorem ObjOk.lt (x:ObjOk P w H h a o):a < h.objs.size:=by
 cases o with
 | lst xs=>obtain ⟨_,_,_,_,e⟩:=x; exact A9 e
 | tup xs=>obtain ⟨_,_,_,p⟩:=x; exact p.lt
 | dK kvs=>obtain ⟨_,_,_,_,o,_,_,e,_⟩:=x; exact A9 e
 | dT kvs=>obtain ⟨_,_,_,_,o,_,_,e,_⟩:=x; exact A9 e
 | set S n=>obtain ⟨o,_,_,_,e,_⟩:=x; exact A9 e
 | ins C dx fs=>obtain ⟨_,_,_,e,_⟩:=x; exact A9 e
 | own y=>obtain ⟨_,e⟩:=x; exact A9 e
 | xd fs=>obtain ⟨_,⟨_,_,_,e,_⟩,_⟩:=x; exact A9 e
 | rng lo hi=>obtain ⟨_,_,_,e⟩:=x; exact A9 e
 | frz ob u=>obtain ⟨e,_⟩:=x; exact A9 e
 | tbl ps=>exact A9 (show h.get? a=some _ from x)
 | met f y=>exact A9 (show h.get? a=some _ from x)
 | ext φ=>obtain ⟨_,⟨_,e⟩,_⟩:=x; exact A9 e
theorem Paired.mapP {α β:Type} {F G:α->β->Prop}:∀ {l₁:List α} {l₂:List β},Paired F l₁ l₂->(∀a b,F a b->G a b)->Paired G l₁ l₂
 | _,_,.nil,_=>.nil
 | _,_,.cons r t,f=>.cons (f _ _ r) (Paired.mapP t f)
abbrev EX:=@Paired.mapP
theorem ObjOk.stay (x:ObjOk P w H h a o) (k:∀b u,(b=a\/H b=some (.own a))->h.get? b=some u->h'.get? b=some u)
  (ho:∀b,H b=some (.own a)->H' b=some (.own a)) (ht:∀b xs,H b= ~~~xs->H' b= ~~~xs):ObjOk P w H' h' a o:=by
 induction o with
 | lst xs=>obtain ⟨z,its,n,r,e⟩:=x; exact ⟨z,its,n,r,k _ _ (.inl rfl) e⟩
 | tup xs=>obtain ⟨z,its,r,ob,e,c⟩:=x; exact ⟨z,its,r,ob,k _ _ (.inl rfl) e,c⟩
 | dK kvs=>obtain ⟨z,y,vs,r,ob,es,ep,e,c⟩:=x; exact ⟨z,y,vs,r,ob,es,ep,k _ _ (.inl rfl) e,c⟩
 | dT kvs =>
  obtain ⟨z,y,xs,r,ob,es,ep,e,c⟩:=x;exact ⟨z,y,xs,EX r λ p q z=>⟨z.1,ht _ _ z.2.1,z.2.2⟩,ob,es,ep,k _ _ (.inl rfl) e,c⟩
 | set S n=>obtain ⟨ob,es,ep,t,e,c⟩:=x; exact ⟨ob,es,ep,t,k _ _ (.inl rfl) e,c⟩
 | ins C dx fs =>
  obtain ⟨d,z,ne,e,mA,⟨od,es,ep,e2,c⟩,r⟩:=x;exact ⟨ho _ d,z,ne,k _ _ (.inl rfl) e,mA,⟨od,es,ep,k _ _ (.inr d) e2,c⟩,r⟩
 | own y=>obtain ⟨ob,e⟩:=x; exact ⟨ob,k _ _ (.inl rfl) e⟩
 | xd fs=>obtain ⟨mA,⟨od,es,ep,e,c⟩,r⟩:=x; exact ⟨mA,⟨od,es,ep,k _ _ (.inl rfl) e,c⟩,r⟩
 | rng lo hi=>obtain ⟨t,u,v,e⟩:=x; exact ⟨t,u,v,k _ _ (.inl rfl) e⟩
 | frz ob u ih=>obtain ⟨e,q⟩:=x; exact ⟨k _ _ (.inl rfl) e,ih q⟩
 | tbl ps =>
  have e:h.get? a=some { cls:=.none,data:=.fields ps }:=x;show h'.get? a=some { cls:=.none,data:=.fields ps };exact k a _ (.inl rfl) e
 | met f y =>
  have e:h.get? a=some (PySem.W.methodObj (.ref f) (.ref y)):=x;show h'.get? a=some (PySem.W.methodObj (.ref f) (.ref y));exact k a _ (.inl rfl) e
 | ext φ=>obtain ⟨p,⟨o,e⟩,st⟩:=x; exact ⟨st _ _ p λ o q=>k _ _ (.inl rfl) q,⟨o,k _ _ (.inl rfl) e⟩,st⟩
theorem HOk.lt (x:HOk P w H h) (e:H a=some o):a < h.objs.size:=(x a o e).lt
theorem HOk.fresh (x:HOk P w H h) (e:h.objs.size<=a):H a=none:=by
 cases q:H a with
 | none=>rfl
 | some u=>exact absurd (C1 (x.lt q) e) (C8 _)
theorem HOk.kept (x:HOk P w H h) (k:∀b u,h.get? b=some u->h'.get? b=some u):HOk P w H h':=λ a o e =>
 (x a o e).stay (λ b u _ q=>k b u q) (λ _ q=>q) λ _ _ q=>q
theorem HOk.laid (x:HOk P w H h) (k:∀b u,h.get? b=some u->h'.get? b=some u) (hp:h.objs.size<=a) (new:ObjOk P w (upd H a o) h' a o):HOk P w (upd H a o) h':=λ b u e=>by
 have hn:=x.fresh hp
 by_cases hb:b=a
 ·subst hb; rw [af] at e; cases e; exact new
 ·rw [aj hb] at e;exact (x b u e).stay (λ c v _ q=>k c v q) (λ c q=>by rw [aj (aq q hn)]; exact q) λ c xs q=>by rw [aj (aq q hn)]; exact q
end
def Rd (H:Hp) (a:Addr) (u:HO):Prop:=H a=some u\/∃o,H a=some (.frz o u)
theorem Rd.ok {P:EQ} {w:ES} {H:Hp} {h:Heap} {a:Addr} {u:HO} (r:Rd H a u) (x:HOk P w H h):ObjOk P w H h a u:=by
 rcases r with r | ⟨o,r⟩
 ·exact x a u r
 ·obtain ⟨_,q⟩:=x a _ r;exact q
def Mut:Option HO->Prop
 | ↥_=>True
 | some (.dK _)=>True
 | some (.dT _)=>True
 | some (.set _ _)=>True
 | some (.ins _ _ _)=>True
 | some (.ext _)=>True
 | _=>False
section
variable {P:EQ} {w:ES} {H:Hp} {h h':Heap} {x e:Addr} {o':HO}
theorem HOk.write (ok:HOk P w H h) (mu:Mut (H x)) (he:e=x\/H e=some (.own x)) (k:∀b u,b≠e->h.get? b=some u->h'.get? b=some u) (heo:∃u,h'.get? e=some u)
  (new:ObjOk P w (upd H x o') h' x o'):HOk P w (upd H x o') h':=λ b u q=>by
 have nown:∀c y,H c=some (.own y)->c≠x:=λ c y r z=>by subst z; rw [r] at mu; exact mu
 have ntup:∀c xs,H c= ~~~xs->c≠x:=λ c xs r z=>by subst z; rw [r] at mu; exact mu
 by_cases hb:b=x
 ·subst hb; rw [af] at q; cases q; exact new
 ·rw [aj hb] at q
  by_cases hbe:b=e
  ·have q':H b=some (.own x):=by
    rcases he with z | z
    ·exact absurd (hbe.trans z) hb
    ·rw [hbe]; exact z
   rw [q] at q'; cases q';obtain ⟨v,hv⟩:=heo;exact ⟨v,by rw [hbe]; exact hv⟩
  ·refine (ok b u q).stay (λ c v hc r=>k c v ?_ r) (λ c r=>by rw [aj (nown c b r)]; exact r) λ c xs r=>by rw [aj (ntup c xs r)]; exact r
   rcases hc with rfl | hc
   ·exact hbe
   ·rintro rfl;rcases he with z | z
    ·exact nown c b hc z
    ·rw [hc] at z; cases z; exact hb rfl
end
structure Un (fs ex:List Addr) (H H':Hp) (h h':Heap):Prop where
 keep:∀b o,h.get? b=some o->H b=none->b∉fs->b∉ex->h'.get? b=some o
 slot:∀b o,h.get? b=some o->H b=none->b∈fs->b∉ex->∃sl,h'.get? b=some { o with slots:=sl }
 free:∀b o,h.get? b=some o->H b=none->b∉ex->H' b=none
 there:∀b o,h.get? b=some o->b∉ex->∃o',h'.get? b=some o'
 tups:∀b xs,H b= ~~~xs->H' b= ~~~xs
 frzs:∀b o u,H b=some (.frz o u)->H' b=some (.frz o u)
 tbls:∀b ps,H b=some (.tbl ps)->∃more,H' b=some (.tbl (ps ++ more))
section
variable {fs fs' ex ex':List Addr} {H H1 H2:Hp} {h h1 h2 h':Heap} {a x e:Addr} {o:HO}
theorem Un.any (u:Un fs ex H H1 h h1) {b:Addr} {ob:Obj} (q:h.get? b=some ob) (n:H b=none) (hx:b∉ex):∃sl,h1.get? b=some { ob with slots:=sl }:=by
 by_cases hb:b∈fs
 ·exact u.slot b ob q n hb hx
 ·exact ⟨ob.slots,u.keep b ob q n hb hx⟩
theorem Un.kept (k:∀b u,h.get? b=some u->h'.get? b=some u):Un fs ex H H h h' :=
 ⟨λ b ob q _ _ _=>k b ob q,λ b ob q _ _ _=>⟨ob.slots,k b ob q⟩,λ _ _ _ n _=>n,λ b ob q _=>⟨ob,k b ob q⟩,λ _ _ q=>q,λ _ _ _ q=>q,λ _ ps q=>⟨#[],by rw [q]; simp⟩⟩
theorem Un.refl:Un fs ex H H h h:=Un.kept λ _ _ q=>q
theorem Un.laid (k:∀b u,h.get? b=some u->h'.get? b=some u) (hp:h.objs.size<=a) (hn:H a=none):Un fs ex H (upd H a o) h h' where
 keep:=λ b u q _ _ _=>k b u q
 slot:=λ b u q _ _ _=>⟨u.slots,k b u q⟩
 free:=λ b u q n _=>by rw [aj (Nat.ne_of_lt (Nat.lt_of_lt_of_le (Heap.lt_size q) hp))]; exact n
 there:=λ b u q _=>⟨u,k b u q⟩
 tups:=λ b xs q=>by rw [aj (aq q hn)]; exact q
 frzs:=λ b u xs q=>by rw [aj (aq q hn)]; exact q
 tbls:=λ b ps q=>⟨#[],by rw [aj (aq q hn),q]; simp⟩
theorem Un.write (mu:Mut (H x)) (he:e=x\/H e=some (.own x)) (k:∀b u,b≠e->h.get? b=some u->h'.get? b=some u) (heo:∃u,h'.get? e=some u):Un fs ex H (upd H x o) h h':=by
 have hx:∀b,H b=none->b≠x:=λ b n z=>by subst z; rw [n] at mu; exact mu
 have hb:∀b,H b=none->b≠e:=λ b n z=>by
  subst z;rcases he with r | r
  ·exact hx b n r
  ·rw [n] at r; cases r
 have hm:∀b u,H b=some u->¬ Mut (some u)->b≠x:=λ b u q nm z=>by subst z; rw [q] at mu; exact nm mu
 refine ⟨λ b u q n _ _=>k b u (hb b n) q,λ b u q n _ _=>⟨u.slots,k b u (hb b n) q⟩,λ b u q n _=>by rw [aj (hx b n)]; exact n,λ b u q _=>?_,
  λ b xs q=>by rw [aj (hm b _ q λ z=>z)]; exact q,λ b u xs q=>by rw [aj (hm b _ q λ z=>z)]; exact q,λ b ps q=>⟨#[],by rw [aj (hm b _ q λ z=>z),q]; simp⟩⟩
 by_cases hbe:b=e
 ·subst hbe; exact heo
 ·exact ⟨u,k b u hbe q⟩
end
def trk (h:Heap) (H:Hp):List Addr:=(List.range h.objs.size).filter λ a=>(H a).isSome
def iu (h:Heap) (H:Hp):Heap:=PySem.W.hideAll h (trk h H)
theorem lU (h:Heap) (H:Hp):(iu h H).objs.size=h.objs.size:=PySem.W.hideAll_size _ _
theorem nU {h:Heap} {H:Hp} {b:Addr} {o:Obj} (e:h.get? b=some o) (n:H b=none):(iu h H).get? b=some o :=
 PySem.W.hideAll_get _ e λ hm=>by have q:(H b).isSome=true:=(List.mem_filter.mp hm).2;rw [n] at q; simp at q
theorem qx {h:Heap} {H:Hp} {b:Addr} {o:Obj} (e:(iu h H).get? b=some o):h.get? b=some o/\H b=none:=by
 have e':h.get? b=some o:=PySem.W.of_hideAll (trk h H) e;refine ⟨e',?_⟩;cases q:H b with
 | none=>rfl
 | some x =>
  have hm:b∈trk h H:=List.mem_filter.mpr ⟨List.mem_range.mpr (A9 e'),by simp [q]⟩;have z:(iu h H).get? b=none:=PySem.W.hideAll_none (trk h H) hm;rw [z] at e; cases e
def qy (g h:Heap) (L:Addr):List (Addr×Obj):=(List.range h.objs.size).filterMap λ a=>if a=L\/(g.get? a).isSome=true then none else (h.get? a).map λ o=>(a,o)
def rest (g h:Heap) (L d:Addr):List (Addr×Obj):=(qy g h L).filter λ p=>decide (p.1≠d)
structure Mod (K:C4) (mg:Str->Option Value) (base:Heap):Prop where
 kin:K.In base
 glob:base.Ns mainGlobals mg
 blt:∃mb,base.Ns builtinsNs mb/\∀x:Str,x ≠ "__name__" -> mb x=bootBuiltins x
 nolimit:base.NoLimit
/-- the context: a def's body (or a comprehension's block) running. base: fixed through the aM law; s₀,H₀: the entry; outer: the frames whose slots others may change (a def's callers); stack: all frames that run;
   ex: iterators that were made ahead of the entry and are walked here (a comprehension's); fn: the names whose cells were made at the entry (a def: all; a comprehension's block: its own); calm: not within an except suite; pn: pins that every state bears; xe: what is wanted of an exception that leaves the code -/
structure Cx where
 prog:Program
 w:World
 K:C4
 mg:Str->Option Value
 base:Heap
 A:Around
 N:List Str
 s₀:Shared
 H₀:Hp
 env:Env
 outer:List Env
 stack:List Env
 ex:List Addr
 fn:Str->Bool
 calm:Bool
 pn:List (Addr×Obj)
 xe:ET->EO->Prop
def frs (l:List Env):List Addr:=l.filterMap (·.frame)
abbrev Cx.fs (X:Cx):List Addr:=frs X.outer
def Vis (sc:Scope) (x:Str):Prop:=sc.names.lookup x=some .local\/sc.names.lookup x=some .cell\/sc.names.lookup x=some .free
def Loc (sc:Scope) (x:Str):Prop:=sc.names.lookup x=some .local\/sc.names.lookup x=some .cell
def Bt (env:Env) (h:Heap) (m:Str->Option ET) (x:Str) (u:ET):Prop :=
 (env.kindOf x=some .local/\m x=some u)\/((env.kindOf x=some .cell\/env.kindOf x=some .free)/\∃c,env.cells.lookup x=some c/\h.IsCell c (some u))
structure Cx.Ok (X:Cx):Prop where
 mod:Mod X.K X.mg X.base
 kind:X.env.scope.kind=.function
 glob:X.env.globals=mainGlobals
 blt:X.env.builtins=builtinsNs
 above:X.s₀.heap.objs.size<=X.env.locals
 inj:∀x y c,X.env.cells.lookup x=some c->X.env.cells.lookup y=some c->x=y
 has:∀x,(X.env.kindOf x=some .cell\/X.env.kindOf x=some .free)->∃c,X.env.cells.lookup x=some c
 cab:∀x c,X.fn x=true->X.env.cells.lookup x=some c->X.s₀.heap.objs.size<=c
 hd:X.calm=true->X.A.handled=none
 frames:X.A.frames=some X.stack
 stk:X.stack=X.outer\/(X.stack=X.env :: X.outer/\X.env.frame=some X.env.locals)
 exf:∀b∈X.ex,b≠X.env.locals/\∀x c,X.env.cells.lookup x=some c->c≠b
 bs:∀b o,X.base.get? b=some o->X.s₀.heap.get? b=some o/\X.H₀ b=none
 bsz:X.base.objs.size<=X.s₀.heap.objs.size
 noex:∀b o,X.base.get? b=some o->b∉X.ex
 exfs:∀b∈X.ex,b∉X.fs
 funs:X.s₀.heap.FunFrames X.base X.outer
 frf:∀b∈X.fs,X.H₀ b=none
structure Inv (X:Cx) (pins:List (Addr×Obj)) (σ:List (Option V)) (H:Hp) (s:Shared):Prop where
 ok:X.Ok
 os:s.os=X.s₀.os
 bare:AllBare s.gens
 base:Un X.fs X.ex X.H₀ H X.s₀.heap s.heap
 loc:∃m,s.heap.Ns X.env.locals m/\∀ (i:Nat) (x:Str) (v:V),X.N[i]? = some x->σ[i]? = some (some v)->Vis X.env.scope x->∃u,RelV v u/\Bt X.env s.heap m x u
 cell:∀x c,X.env.cells.lookup x=some c->∃v,s.heap.IsCell c v
 free:H X.env.locals=none
 freeC:∀x c,X.env.cells.lookup x=some c->H c=none
 pin:∀p∈X.pn ++ pins,s.heap.get? p.1=some p.2/\H p.1=none/\p.1≠X.env.locals/\p.1∉X.fs/\∀v,p.2.data≠.cell v
 hok:HOk X.prog X.w H s.heap
 len:σ.length=X.N.length
section
variable {X:Cx} {pins:List (Addr×Obj)} {σ:List (Option V)} {H H':Hp} {s:EO} {h':Heap}
theorem Cx.Ok.nofr (ok:X.Ok) {b:Addr} {o:Obj} (e:X.base.get? b=some o):b∉X.fs:=λ hb=>by have:=(ok.funs.mem hb).1;rw [e] at this; cases this
theorem Inv.bs (I:Inv X pins σ H s):∀b o,X.base.get? b=some o->s.heap.get? b=some o/\H b=none:=λ b o e =>
 ⟨I.base.keep b o (I.ok.bs b o e).1 (I.ok.bs b o e).2 (I.ok.nofr e) (I.ok.noex b o e),I.base.free b o (I.ok.bs b o e).1 (I.ok.bs b o e).2 (I.ok.noex b o e)⟩
theorem Inv.bk (I:Inv X pins σ H s):∀b o,X.base.get? b=some o->s.heap.get? b=some o:=λ b o e=>(I.bs b o e).1
theorem Inv.mod (I:Inv X pins σ H s):Mod X.K X.mg X.base:=I.ok.mod
theorem Inv.kIn (I:Inv X pins σ H s):X.K.In s.heap:=I.ok.mod.kin.keeps I.bk
theorem Inv.fr (I:Inv X pins σ H s):∃m,Fr X.base X.env.locals s.heap m :=
 let ⟨m,hn,_⟩:=I.loc
 ⟨m,hn,I.bk,C5 I.ok.bsz I.ok.above⟩
theorem Inv.lt (I:Inv X pins σ H s):X.env.locals < s.heap.objs.size:=let ⟨_,hn,_⟩:=I.loc; hn.lt
theorem Inv.sz (I:Inv X pins σ H s):X.s₀.heap.objs.size<=s.heap.objs.size:=C5 I.ok.above (Nat.le_of_lt I.lt)
theorem Inv.nofs (I:Inv X pins σ H s) {a:Addr} (h:s.heap.objs.size<=a):a∉X.fs:=λ hb=>by obtain ⟨_,o,ho,_⟩:=I.ok.funs.mem hb;exact absurd (C1 (A9 ho) (C5 I.sz h)) (C8 _)
theorem Inv.cne (I:Inv X pins σ H s):∀x c,X.env.cells.lookup x=some c->c≠X.env.locals:=λ x c e z=>by obtain ⟨v,o,ho,hd⟩:=I.cell x c e;obtain ⟨m,⟨o',es,ep,ho',hd',_⟩,_⟩:=I.loc;rw [z,ho'] at ho; cases ho; rw [hd'] at hd; cases hd
theorem Inv.funs (I:Inv X pins σ H s):s.heap.FunFrames X.base X.outer:=by
 have all:∀ (l:List Env),(∀b∈frs l,b∈X.fs)->X.s₀.heap.FunFrames X.base l->s.heap.FunFrames X.base l:=by
  intro l
  induction l with
  | nil=>intro _ _; trivial
  | cons env r ih =>
   intro hs hl;obtain ⟨hk,⟨L,o,hf,hn,ho,hd⟩,hr⟩:=hl;have hL:L∈X.fs:=hs L (by unfold frs; rw [List.filterMap_cons,hf]; exact List.mem_cons_self);obtain ⟨sl,e⟩:=I.base.slot L o ho (I.ok.frf L hL) hL λ z=>I.ok.exfs L z hL;exact ⟨hk,⟨L,_,hf,hn,e,hd⟩,ih (λ b hb=>hs b (by unfold frs; rw [List.filterMap_cons,hf]; exact List.mem_cons_of_mem _ hb)) hr⟩
 exact all X.outer (λ _ hb=>hb) I.ok.funs
theorem Inv.stack (I:Inv X pins σ H s):s.heap.FunFrames X.base X.stack:=by
 rcases I.ok.stk with e | ⟨e,hf⟩
 ·rw [e]; exact I.funs
 ·rw [e];obtain ⟨m,hn,_⟩:=I.loc;refine .cons (by rw [I.ok.kind]; decide) hf hn ?_ I.funs;exact Heap.get?_none_of_le (C5 I.ok.bsz I.ok.above)
theorem Inv.stkSub (I:Inv X pins σ H s):∀b∈frs X.stack,b∈X.env.locals :: X.fs:=λ b hb=>by
 rcases I.ok.stk with e | ⟨e,hf⟩
 ·rw [e] at hb; exact B4 _ hb
 ·rw [e] at hb;unfold frs at hb;rw [List.filterMap_cons,hf] at hb;exact hb
theorem Inv.stkFree (I:Inv X pins σ H s):∀b∈frs X.stack,H b=none:=λ b hb=>by
 rcases List.mem_cons.mp (I.stkSub b hb) with e | hb
 ·rw [e]; exact I.free
 ·obtain ⟨_,o,ho,_⟩:=I.ok.funs.mem hb;exact I.base.free b o ho (I.ok.frf b hb) λ z=>I.ok.exfs b z hb
theorem Inv.step {g':Array GenState} {t':Nat} {d':Drawn} {ch:List Addr} (I:Inv X pins σ H s)
  (hch:∀b∈ch,(b∈X.ex\/X.s₀.heap.objs.size<=b)/\b≠X.env.locals/\(∀x c,X.env.cells.lookup x=some c->c≠b)/\∀p∈X.pn ++ pins,p.1≠b)
  (keep:∀b o,b≠X.env.locals->b∉X.fs->b∉ch->s.heap.get? b=some o->H b=none->h'.get? b=some o)
  (slot:∀b o,b≠X.env.locals->b∈X.fs->b∉ch->s.heap.get? b=some o->H b=none->∃sl,h'.get? b=some { o with slots:=sl }) (free:∀b o,b∉ch->s.heap.get? b=some o->H b=none->H' b=none)
  (there:∀b o,b∉ch->s.heap.get? b=some o->∃o',h'.get? b=some o')
  (tups:∀b xs,H b= ~~~xs->H' b= ~~~xs) (frzs:∀b o u,H b=some (.frz o u)->H' b=some (.frz o u)) (tbls:∀b ps,H b=some (.tbl ps)->∃more,H' b=some (.tbl (ps ++ more)))
  (ns:∀m,s.heap.Ns X.env.locals m->h'.Ns X.env.locals m) (hok:HOk X.prog X.w H' h') (hg:AllBare g') :
  Inv X pins σ H' { s with heap:=h',gens:=g',drawn:=d',toks:=t' }:=by
 have neL:∀b o,X.s₀.heap.get? b=some o->b≠X.env.locals:=λ b o e=>B9 (C1 (A9 e) I.ok.above);have neC:∀b o,X.s₀.heap.get? b=some o->b∉X.ex->b∉ch:=λ b o e hx hb=>by
  rcases (hch b hb).1 with z | z
  ·exact hx z
  ·exact absurd (C1 (A9 e) z) (C8 _)
 have cellK:∀x c,X.env.cells.lookup x=some c->∀v,s.heap.IsCell c v->h'.IsCell c v:=λ x c e v ⟨o,ho,hd⟩=>by
  have nch:c∉ch:=λ z=>(hch c z).2.2.1 x c e rfl
  by_cases hc:c∈X.fs
  ·obtain ⟨sl,q⟩:=slot c o (I.cne x c e) hc nch ho (I.freeC x c e);exact ⟨_,q,hd⟩
  ·exact ⟨o,keep c o (I.cne x c e) hc nch ho (I.freeC x c e),hd⟩
 refine ⟨I.ok,I.os,hg,⟨λ b o e n hb hx=>?_,λ b o e n hb hx=>?_,λ b o e n hx=>?_,λ b o e hx=>?_,λ b xs e=>tups b xs (I.base.tups b xs e),λ b o xs e=>frzs b o xs (I.base.frzs b o xs e),λ b ps e=>?_⟩,?_,λ x c e=>?_,?_,λ x c e=>?_,λ p hp=>?_,hok,I.len⟩
 ·exact keep b o (neL b o e) hb (neC b o e hx) (I.base.keep b o e n hb hx) (I.base.free b o e n hx)
 ·obtain ⟨sl,e1⟩:=I.base.slot b o e n hb hx;obtain ⟨sl',e2⟩:=slot b _ (neL b o e) hb (neC b o e hx) e1 (I.base.free b o e n hx);exact ⟨sl',e2⟩
 ·obtain ⟨o',e1⟩:=I.base.there b o e hx;exact free b o' (neC b o e hx) e1 (I.base.free b o e n hx)
 ·obtain ⟨o',e1⟩:=I.base.there b o e hx;exact there b o' (neC b o e hx) e1
 ·obtain ⟨m1,e1⟩:=I.base.tbls b ps e;obtain ⟨m2,e2⟩:=tbls b _ e1;exact ⟨m1 ++ m2,by rw [e2,Array.append_assoc]⟩
 ·obtain ⟨m,hn,hl⟩:=I.loc;refine ⟨m,ns m hn,λ i x v e1 e2 e3=>?_⟩;obtain ⟨u,r,l⟩:=hl i x v e1 e2 e3;refine ⟨u,r,?_⟩;rcases l with l | ⟨k,c,e,z⟩
  ·exact .inl l
  ·exact .inr ⟨k,c,e,cellK x c e _ z⟩
 ·obtain ⟨v,z⟩:=I.cell x c e;exact ⟨v,cellK x c e v z⟩
 ·obtain ⟨m,⟨o,_,_,ho,_⟩,_⟩:=I.loc;exact free _ o (λ z=>(hch _ z).2.1 rfl) ho I.free
 ·obtain ⟨v,o,ho,hd⟩:=I.cell x c e;exact free c o (λ z=>(hch c z).2.2.1 x c e rfl) ho (I.freeC x c e)
 ·obtain ⟨e,n,ne,nf,d⟩:=I.pin p hp;have nch:p.1∉ch:=λ z=>(hch p.1 z).2.2.2 p hp rfl;exact ⟨keep p.1 p.2 ne nf nch e n,free p.1 p.2 nch e n,ne,nf,d⟩
theorem Inv.un {t':Nat} (I:Inv X pins σ H s) (u:Un X.fs [] H H' s.heap h') (hok:HOk X.prog X.w H' h'):Inv X pins σ H' { s with heap:=h',toks:=t' }:=by
 obtain ⟨m,⟨o,es,ep,ho,r⟩,_⟩:=id I.loc;obtain ⟨sl,hL⟩:=u.any ho I.free (by simp);exact I.step (g':=s.gens) (d':=s.drawn) (ch:=[]) (λ _ z=>nomatch z) (λ b o _ hb _ e n=>u.keep b o e n hb (by simp)) (λ b o _ hb _ e n=>u.slot b o e n hb (by simp)) (λ b o _ e n=>u.free b o e n (by simp)) (λ b o _ e=>u.there b o e (by simp)) u.tups u.frzs u.tbls (λ m' hm=>by
  obtain ⟨o',es',ep',ho',r'⟩:=hm;rw [ho] at ho'; cases ho';exact ⟨_,es',ep',hL,r'⟩) hok I.bare
theorem Inv.call {g':Array GenState} {t':Nat} {d':Drawn} {ch:List Addr} (I:Inv X pins σ H s) (u:Un (frs X.stack) ch H H' s.heap h') (hok:HOk X.prog X.w H' h') (hg:AllBare g')
  (hch:∀b∈ch,(b∈X.ex\/X.s₀.heap.objs.size<=b)/\b≠X.env.locals/\(∀x c,X.env.cells.lookup x=some c->c≠b)/\∀p∈X.pn ++ pins,p.1≠b) :
  Inv X pins σ H' { s with heap:=h',gens:=g',drawn:=d',toks:=t' }:=by
 obtain ⟨m,⟨o,es,ep,ho,r⟩,_⟩:=id I.loc;obtain ⟨sl,hL⟩:=u.any ho I.free λ z=>(hch _ z).2.1 rfl;exact I.step (ch:=ch) hch (λ b o hL hb hc e n=>u.keep b o e n (λ z=>(List.mem_cons.mp (I.stkSub b z)).elim hL hb) hc) (λ b o _ _ hc e n=>u.any e n hc) (λ b o hc e n=>u.free b o e n hc) (λ b o hc e=>u.there b o e hc) u.tups u.frzs u.tbls (λ m' hm=>by
  obtain ⟨o',es',ep',ho',r'⟩:=hm;rw [ho] at ho'; cases ho';exact ⟨_,es',ep',hL,r'⟩) hok hg
theorem Inv.turned {t':Nat} {it:Addr} (I:Inv X pins σ H s) (k:∀b o,b≠it->s.heap.get? b=some o->h'.get? b=some o) (hn:H it=none) (hL:it≠X.env.locals)
  (h1:it∈X.ex\/X.s₀.heap.objs.size<=it) (h2:∀x c,X.env.cells.lookup x=some c->c≠it) (h3:∀p∈X.pn ++ pins,p.1≠it):Inv X pins σ H { s with heap:=h',toks:=t' }:=by
 have nit:∀b u,H b=some u->b≠it:=λ b u e z=>by rw [z,hn] at e; cases e
 refine I.step (g':=s.gens) (d':=s.drawn) (ch:=[it]) (λ b hb=>?_) (λ b o _ _ hc e _=>k b o (λ z=>hc (by simp [z])) e) (λ b o _ _ hc e _=>⟨o.slots,k b o (λ z=>hc (by simp [z])) e⟩) (λ _ _ _ _ n=>n)
  (λ b o hc e=>⟨o,k b o (λ z=>hc (by simp [z])) e⟩) (λ _ _ e=>e) (λ _ _ _ e=>e) (λ b ps e=>⟨#[],by rw [e]; simp⟩) (λ m hm=>?_) (λ b u e=>?_) I.bare
 ·have e:b=it:=by simpa using hb
  subst e;exact ⟨h1,hL,h2,h3⟩
 ·obtain ⟨o,es,ep,ho,r⟩:=hm;exact ⟨o,es,ep,k _ o (Ne.symm hL) ho,r⟩
 ·refine (I.hok b u e).stay (λ c v hc q=>k c v ?_ q) (λ _ q=>q) λ _ _ q=>q;rcases hc with z | z
  ·rw [z]; exact nit b u e
  ·exact nit c _ z
theorem Inv.tok (I:Inv X pins σ H s) (t:Nat):Inv X pins σ H { s with toks:=t }:=I.un (h':=s.heap) (t':=t) Un.refl I.hok
theorem Inv.kept {t':Nat} (I:Inv X pins σ H s) (k:∀b u,s.heap.get? b=some u->h'.get? b=some u):Inv X pins σ H { s with heap:=h',toks:=t' }:=I.un (Un.kept k) (I.hok.kept k)
theorem Inv.laid {a:Addr} {o:HO} {t':Nat} (I:Inv X pins σ H s) (k:∀b u,s.heap.get? b=some u->h'.get? b=some u) (hp:s.heap.objs.size<=a) (new:ObjOk X.prog X.w (upd H a o) h' a o) :
  Inv X pins σ (upd H a o) { s with heap:=h',toks:=t' }:=I.un (Un.laid k hp (I.hok.fresh hp)) (I.hok.laid k hp new)
theorem Inv.write {x e:Addr} {o:HO} {t':Nat} (I:Inv X pins σ H s) (mu:Mut (H x)) (he:e=x\/H e=some (.own x)) (k:∀b u,b≠e->s.heap.get? b=some u->h'.get? b=some u) (heo:∃u,h'.get? e=some u)
  (new:ObjOk X.prog X.w (upd H x o) h' x o):Inv X pins σ (upd H x o) { s with heap:=h',toks:=t' }:=I.un (Un.write mu he k heo) (I.hok.write mu he k heo new)
theorem Inv.weak {σ':List (Option V)} (I:Inv X pins σ H s) (hl:σ'.length=σ.length) (w:∀ (i:Nat) v,σ'[i]? = some (some v)->σ[i]? = some (some v)):Inv X pins σ' H s :=
 ⟨I.ok,I.os,I.bare,I.base,let ⟨m,hn,hl'⟩:=I.loc; ⟨m,hn,λ i x v e1 e2 e3=>hl' i x v e1 (w i v e2) e3⟩,I.cell,I.free,I.freeC,I.pin,I.hok,hl.trans I.len⟩
theorem Inv.pins_of {pins':List (Addr×Obj)} (I:Inv X pins σ H s) (h:∀p∈pins',s.heap.get? p.1=some p.2/\H p.1=none/\p.1≠X.env.locals/\p.1∉X.fs/\∀v,p.2.data≠.cell v):Inv X pins' σ H s :=
 ⟨I.ok,I.os,I.bare,I.base,I.loc,I.cell,I.free,I.freeC,λ p hp=>(C2.mp hp).elim (λ z=>I.pin p (B6 _ z)) (h p),I.hok,I.len⟩
theorem iT {N:List Str} (hN:N.Nodup) {i j:Nat} {x:Str} (a:N[i]? = some x) (b:N[j]? = some x):i=j:=by obtain ⟨h1,e1⟩:=A6.mp a;obtain ⟨h2,e2⟩:=A6.mp b;exact (List.getElem_inj hN).mp (e1.trans e2.symm)
theorem gP {M:Model} {A:Around} {E:ET->EO->Prop} {i:Nat} {x:Str} {v:V} {u:ET} {Q:Unit->EO->Prop} (I:Inv X pins σ H s) (hN:X.N.Nodup) (hi:X.N[i]? = some x) (hx:Loc X.env.scope x) (r:RelV v u)
  (h:∀s',Inv X pins (σ.set i (some v)) H s'->(∃a,Heap.SameBut a s.heap s'.heap/\(a=X.env.locals\/X.env.cells.lookup x=some a))->Q () s') (hf:X.fn x=true\/X.env.scope.names.lookup x=some .local:=by first | exact .inl rfl | exact .inr rfl | assumption):wpAny M A (storeName X.env x u) Q E s:=by
 obtain ⟨m,hn,hl⟩:=id I.loc;have hcls:(X.env.scope.kind == .class || (X.env.scope.kind == .module && X.env.locals != X.env.globals))=false:=by rw [I.ok.kind]; rfl
 have hiσ:i < σ.length:=by rw [I.len]; exact (A6.mp hi).1
 have cne:=I.cne;have tracked:∀ {a:Addr} {h':Heap},(∃o,s.heap.get? a=some o/\H a=none)->Heap.SameBut a s.heap h'->HOk X.prog X.w H h':=λ {a h'} ha hs b ob e=>by
  obtain ⟨_,_,hfree⟩:=ha;refine (I.hok b ob e).stay (λ c w' hc q=>(hs.2 c ?_).trans q) (λ _ q=>q) λ _ _ q=>q;rintro rfl;rcases hc with rfl | hc
  ·rw [hfree] at e; cases e
  ·rw [hfree] at hc; cases hc
 rcases hx with hk | hk
 ·refine wpAny_storeName_local hk hn (λ h' hn' hs=>?_) hcls;obtain ⟨oL,_,_,hoL,_⟩:=id hn;refine h _ ⟨I.ok,I.os,I.bare,⟨λ b o e n hb hx=>?_,λ b o e n hb hx=>?_,I.base.free,λ b o e hx=>?_,I.base.tups,I.base.frzs,I.base.tbls⟩,⟨_,hn',λ j y v' e1 e2 e3=>?_⟩,λ y c e=>?_,I.free,I.freeC,λ p hp=>?_,tracked ⟨oL,hoL,I.free⟩ hs,by simpa using I.len⟩ ⟨_,hs,.inl rfl⟩
  ·exact (hs.2 b (B9 (C1 (A9 e) I.ok.above))).trans (I.base.keep b o e n hb hx)
  ·obtain ⟨sl,e1⟩:=I.base.slot b o e n hb hx;exact ⟨sl,(hs.2 b (B9 (C1 (A9 e) I.ok.above))).trans e1⟩
  ·obtain ⟨o',e1⟩:=I.base.there b o e hx;exact ⟨o',(hs.2 b (B9 (C1 (A9 e) I.ok.above))).trans e1⟩
  ·by_cases hj:j=i
   ·subst hj;rw [hi] at e1; cases e1;rw [List.getElem?_set_self hiσ] at e2;cases e2;exact ⟨u,r,.inl ⟨hk,by simp⟩⟩
   ·rw [List.getElem?_set_ne (Ne.symm hj)] at e2;obtain ⟨u',r',q⟩:=hl j y v' e1 e2 e3;refine ⟨u',r',?_⟩;rcases q with ⟨k,e⟩ | ⟨k,c,e,z⟩
    ·refine .inl ⟨k,?_⟩;have:y≠x:=λ e=>hj (iT hN e1 (e ▸ hi));simp [this,e]
    ·exact .inr ⟨k,c,e,z.sameBut hs (cne y c e)⟩
  ·obtain ⟨w',z⟩:=I.cell y c e;exact ⟨w',z.sameBut hs (cne y c e)⟩
  ·obtain ⟨e,n,ne,nf,d⟩:=I.pin p hp;exact ⟨(hs.2 p.1 ne).trans e,n,ne,nf,d⟩
 ·have hfn:X.fn x=true:=by
   rcases hf with z | z
   ·exact z
   ·rw [z] at hk; cases hk
  obtain ⟨c,hc⟩:=I.ok.has x (.inl hk);obtain ⟨w',z⟩:=I.cell x c hc;refine wpAny_storeName_cell I.ok.kind hk hc z (λ h' hc' hs=>?_);obtain ⟨oc,hoc,hocd⟩:=id z;refine h { s with heap:=h' } ⟨I.ok,I.os,I.bare,⟨λ b o e n hb hx=>?_,λ b o e n hb hx=>?_,I.base.free,λ b o e hx=>?_,I.base.tups,I.base.frzs,I.base.tbls⟩,⟨m,hn.sameBut hs (Ne.symm (cne x c hc)),λ j y v' e1 e2 e3=>?_⟩,λ y c' e=>?_,I.free,I.freeC,λ p hp=>?_,tracked ⟨oc,hoc,I.freeC x c hc⟩ hs,by simpa using I.len⟩ ⟨c,hs,.inr hc⟩
  ·exact (hs.2 b (B9 (C1 (A9 e) (I.ok.cab x c hfn hc)))).trans (I.base.keep b o e n hb hx)
  ·obtain ⟨sl,e1⟩:=I.base.slot b o e n hb hx;exact ⟨sl,(hs.2 b (B9 (C1 (A9 e) (I.ok.cab x c hfn hc)))).trans e1⟩
  ·obtain ⟨o',e1⟩:=I.base.there b o e hx;exact ⟨o',(hs.2 b (B9 (C1 (A9 e) (I.ok.cab x c hfn hc)))).trans e1⟩
  ·by_cases hj:j=i
   ·subst hj;rw [hi] at e1; cases e1;rw [List.getElem?_set_self hiσ] at e2;cases e2;exact ⟨u,r,.inr ⟨.inl hk,c,hc,hc'⟩⟩
   ·rw [List.getElem?_set_ne (Ne.symm hj)] at e2;obtain ⟨u',r',q⟩:=hl j y v' e1 e2 e3;refine ⟨u',r',?_⟩;rcases q with q | ⟨k,c',e,z'⟩
    ·exact .inl q
    ·refine .inr ⟨k,c',e,z'.sameBut hs ?_⟩;rintro rfl;exact hj (iT hN e1 (I.ok.inj _ _ _ e hc ▸ hi))
  ·by_cases hcc:c'=c
   ·subst hcc; exact ⟨_,hc'⟩
   ·obtain ⟨w2,z2⟩:=I.cell y c' e;exact ⟨w2,z2.sameBut hs hcc⟩
  ·obtain ⟨e,n,ne,nf,d⟩:=I.pin p hp;refine ⟨(hs.2 p.1 ?_).trans e,n,ne,nf,d⟩;intro q;rw [q,hoc] at e;have q':oc=p.2:=B8 e;exact d w' (by rw [<- q']; exact hocd)
theorem cA {M:Model} {A:Around} {E:ET->EO->Prop} {i:Nat} {x:Str} {v:V} {u:ET} {Q:Unit->EO->Prop} (I:Inv X pins σ H s) (hN:X.N.Nodup) (hi:X.N[i]? = some x) (hx:Loc X.env.scope x) (r:RelV v u)
  (h:∀s',Inv X pins (σ.set i (some v)) H s'->Q () s') (hf:X.fn x=true\/X.env.scope.names.lookup x=some .local:=by first | exact .inl rfl | exact .inr rfl | assumption):wpAny M A (storeName X.env x u) Q E s :=
 gP I hN hi hx r (λ s' I' _=>h s' I') hf
theorem Inv.call' {s':EO} {ch:List Addr} (I:Inv X pins σ H s) (ho:s'.os=s.os) (u:Un (frs X.stack) ch H H' s.heap s'.heap) (hok:HOk X.prog X.w H' s'.heap) (hg:AllBare s'.gens)
  (hch:∀b∈ch,(b∈X.ex\/X.s₀.heap.objs.size<=b)/\b≠X.env.locals/\(∀x c,X.env.cells.lookup x=some c->c≠b)/\∀p∈X.pn ++ pins,p.1≠b):Inv X pins σ H' s':=by
 obtain ⟨h',g',d',t',o'⟩:=s';have e:o'=s.os:=ho;subst e;exact I.call (g':=g') (t':=t') (d':=d') u hok hg hch
end
abbrev XK:=Value->Option Addr->Hp->Prop
abbrev St:=List (Option V)
abbrev VK:=V->Hp->Prop
abbrev TE:=St->Hp->VK->Prop
abbrev TT:=St->Hp->(Bool->Hp->Prop)->Prop
abbrev TA:=St->Hp->(List V->Hp->Prop)->Prop
structure Ends where
 nx:St->Hp->Prop
 rt:VK
 bk:St->Hp->Prop:=λ _ _=>False
 ct:St->Hp->Prop:=λ _ _=>False
abbrev TS:=Ends->St->Hp->Prop
def EP (X:Cx) (pins:List (Addr×Obj)) (σ:St) (Q:VK) (u:ET) (s':EO):Prop:=∃v H',Inv X pins σ H' s'/\RelV v u/\Q v H'
def TP (X:Cx) (pins:List (Addr×Obj)) (σ:St) (Q:Bool->Hp->Prop) (b:Bool) (s':EO):Prop:=∃H',Inv X pins σ H' s'/\Q b H'
def AP (X:Cx) (pins:List (Addr×Obj)) (σ:St) (Q:List V->Hp->Prop) (us:List ET) (s':EO):Prop:=∃vs H',Inv X pins σ H' s'/\Vals vs us/\Q vs H'
def SP (X:Cx) (pins:List (Addr×Obj)) (D:Ends) (f:Flow) (s':EO):Prop :=
 match f with
 | .next=>∃σ' H',Inv X pins σ' H' s'/\D.nx σ' H'
 | .brk=>∃σ' H',Inv X pins σ' H' s'/\D.bk σ' H'
 | .cont=>∃σ' H',Inv X pins σ' H' s'/\D.ct σ' H'
 | .ret u=>∃v σ' H',Inv X pins σ' H' s'/\RelV v u/\D.rt v H'
def PE (X:Cx) (e:Expr) (t:TE):Prop :=
 ∀ (pins:List (Addr×Obj)) (s:EO) (σ:St) (H:Hp) (Q:VK),Inv X pins σ H s->t σ H Q->wpAny (model X.prog X.w) X.A (eval e X.env) (EP X pins σ Q) X.xe s
def PT (X:Cx) (e:Expr) (t:TT):Prop :=
 ∀ (pins:List (Addr×Obj)) (s:EO) (σ:St) (H:Hp) (Q:Bool->Hp->Prop),Inv X pins σ H s->t σ H Q->wpAny (model X.prog X.w) X.A (isTrue e X.env (eval e X.env)) (TP X pins σ Q) X.xe s
def PW (X:Cx) (e:Expr) (t:TT):Prop :=
 ∀ (aM:Sem ET) (pins:List (Addr×Obj)) (s:EO) (σ:St) (H:Hp) (Q:Bool->Hp->Prop),Inv X pins σ H s->t σ H Q->wpAny (model X.prog X.w) X.A (isTrue e X.env aM) (TP X pins σ Q) X.xe s
theorem PW.pt {X:Cx} {e:Expr} {t:TT} (h:PW X e t):PT X e t:=h _
def PA (X:Cx) (es:List Expr) (t:TA):Prop :=
 ∀ (pos:Pos) (pins:List (Addr×Obj)) (s:EO) (σ:St) (H:Hp) (Q:List V->Hp->Prop),Inv X pins σ H s->t σ H Q->wpAny (model X.prog X.w) X.A (spliced (backTo pos (starEach es X.env))) (AP X pins σ Q) X.xe s
def PS (X:Cx) (st:Stmt) (t:TS):Prop :=
 ∀ (pins:List (Addr×Obj)) (s:EO) (σ:St) (H:Hp) (D:Ends),Inv X pins σ H s->t D σ H->wpAny (model X.prog X.w) X.A (exec st X.env) (SP X pins D) X.xe s
def PSs (X:Cx) (st:List Stmt) (t:TS):Prop :=
 ∀ (pins:List (Addr×Obj)) (s:EO) (σ:St) (H:Hp) (D:Ends),Inv X pins σ H s->t D σ H->wpAny (model X.prog X.w) X.A (execs st X.env) (SP X pins D) X.xe s
theorem thn {α:Type} {t:Sem α} {Q Q':α->EO->Prop} {M:Model} {A:Around} {E:ET->EO->Prop} {s:EO} (h:wpAny M A t Q E s) (hQ:∀a s,Q a s->Q' a s):wpAny M A t Q' E s:=wpAny_mono h hQ λ _ _ x=>x
section
variable {X:Cx}
theorem bin {a b:Expr} {ta tb:TE} (ha:PE X a ta) (hb:PE X b tb) {pins:List (Addr×Obj)} {s:EO} {σ:St} {H:Hp} {R:V->V->Hp->Prop} (I:Inv X pins σ H s) (h:ta σ H λ x H1=>tb σ H1 λ y H2=>R x y H2)
  {α:Type} {Q:α->EO->Prop} {f:ET->ET->Sem α}
  (hf:∀v u s2 x y H2,Inv X pins σ H2 s2->RelV x v->RelV y u->R x y H2->wpAny (model X.prog X.w) X.A (f v u) Q X.xe s2) :
  wpAny (model X.prog X.w) X.A (eval a X.env) (λ v s₁=>wpAny (model X.prog X.w) X.A (eval b X.env) (λ u s₂=>wpAny (model X.prog X.w) X.A (f v u) Q X.xe s₂) X.xe s₁) X.xe s:=by
 refine thn (ha pins s σ H _ I h) λ v s1 ⟨x,H1,I1,r1,q1⟩=>?_;refine thn (hb pins s1 σ H1 _ I1 q1) λ u s2 ⟨y,H2,I2,r2,q2⟩=>?_;exact hf v u s2 x y H2 I2 r1 r2 q2
inductive tVar (i:Nat) (σ:St) (H:Hp) (Q:VK):Prop
 | mk (v:V) (e_0:σ[i]? = some (some v)) (e_1:Q v H):tVar i σ H Q
def tC (v:V):TE:=λ _ H Q=>Q v H
theorem sn {i:Nat} {x:Str} {pos:Pos} (hN:X.N[i]? = some x) (hv:Vis X.env.scope x) (hd:(x == ("__debug__" : Str))=false:=by decide) (hcd:(x == ("__classdict__" : Str))=false:=by decide):PE X (.Name x pos) (tVar i):=by
 intro pins s σ H Q I h;obtain ⟨v,e,h⟩:=h;obtain ⟨m,hn,hl⟩:=I.loc;obtain ⟨u,r,l⟩:=hl i x v hN e hv;have fin:EP X pins σ Q u s:=⟨v,H,I,r,h⟩
 rcases l with ⟨hk,hm⟩ | ⟨hk,c,hc,hcell⟩
 ·exact wpAny_Name (wpAny_loadName_local I.ok.kind hk hn hm fin) hd
 ·rcases hk with hk | hk
  ·exact wpAny_Name (wpAny_loadName_cell I.ok.kind hk hc hcell fin) hd
  ·exact wpAny_Name (wpAny_loadName_free I.ok.kind hk hc hcell fin hcd) hd
theorem ad {i j pos}:PE X (.Constant (.int i) j pos) (tC (.int i)):=λ _ _ _ H _ I h=>wpAny_Constant_int ⟨.int i,H,I.tok _,⟨_,rfl⟩,h⟩
theorem bO {b j pos}:PE X (.Constant (.bool b) j pos) (tC (.bl b)):=λ _ _ _ H _ I h=>Constant_bool ⟨.bl b,H,I,rfl,h⟩
theorem bq {x j pos}:PE X (.Constant (.str x) j pos) (tC (.str x)):=λ _ _ _ H _ I h=>Calls.Constant_str ⟨.str x,H,I.tok _,⟨_,Y⟩,h⟩
def Gl (X:Cx) (x:Str):Prop:=X.env.kindOf x=some .globalImplicit
theorem iw {E:ET->EO->Prop} {pins:List (Addr×Obj)} {s:EO} {σ:St} {H:Hp} {x:Str} {u:ET} {pos:Pos} {Q:ET->EO->Prop} (I:Inv X pins σ H s) (hg:Gl X x) (hm:X.mg x=some u) (h:Q u s)
  (hd:(x == ("__debug__" : Str))=false:=by decide):wpAny (model X.prog X.w) X.A (eval (.Name x pos) X.env) Q E s :=
 Calls.Name_function_global I.ok.kind hg (Calls.loadGlobal_global (by rw [I.ok.glob]; exact I.mod.glob.keeps I.bk) hm h) hd
theorem ee {E:ET->EO->Prop} {pins:List (Addr×Obj)} {s:EO} {σ:St} {H:Hp} {x:Str} {u:ET} {pos:Pos} {Q:ET->EO->Prop} (I:Inv X pins σ H s) (hg:Gl X x) (hm:X.mg x=none) (hv:bootBuiltins x=some u) (h:Q u s)
  (hn:x ≠ "__name__" := by decide) (hd:(x == ("__debug__" : Str))=false:=by decide):wpAny (model X.prog X.w) X.A (eval (.Name x pos) X.env) Q E s:=by
 obtain ⟨mb,h1,h2⟩:=I.mod.blt;exact Calls.Name_function_global I.ok.kind hg (Calls.loadGlobal_builtin (by rw [I.ok.glob]; exact I.mod.glob.keeps I.bk) hm (by rw [I.ok.blt]; exact h1.keeps I.bk) ((h2 x hn).trans hv) h) hd
theorem aY {x:Str} {v:V} {u:ET} {pos:Pos} (hg:Gl X x) (hm:X.mg x=some u) (r:RelV v u) (hd:(x == ("__debug__" : Str))=false:=by decide):PE X (.Name x pos) (tC v) :=
 λ _ _ _ H _ I h=>iw I hg hm ⟨v,H,I,r,h⟩ hd
theorem cN {x:Str} {v:V} {u:ET} {pos:Pos} (hg:Gl X x) (hm:X.mg x=none) (hv:bootBuiltins x=some u) (r:RelV v u) (hn:x ≠ "__name__" := by decide) (hd:(x == ("__debug__" : Str))=false:=by decide):PE X (.Name x pos) (tC v) :=
 λ _ _ _ H _ I h=>ee I hg hm hv ⟨v,H,I,r,h⟩ hn hd
variable {a b:Expr} {ta tb:TE} {pos:Pos}
def PC (X:Cx) (op:CmpOp) (a b:Expr) (t:TE):Prop :=
 ∀ (pins:List (Addr×Obj)) (s:EO) (σ:St) (H:Hp) (Q:VK),Inv X pins σ H s->t σ H Q ->
  wpAny (model X.prog X.w) X.A (eval a X.env) (λ v s₁=>wpAny (model X.prog X.w) X.A (eval b X.env) (λ u s₂=>wpAny (model X.prog X.w) X.A (compareOp op v u) (EP X pins σ Q) X.xe s₂) X.xe s₁) X.xe s
inductive IsB (x:V) (Q:Bool->Prop):Prop
 | mk (c:Bool) (e:x=.bl c) (q:Q c):IsB x Q
def tB (t:TE):TT:=λ σ H Q=>t σ H λ x H1=>IsB x λ c=>Q c H1
theorem Bu {op:CmpOp} {t:TE} (h:PC X op a b t) (h1:behindInMarks op b=false:=by first | exact nobehind _ ∅ ∅ | rfl):PT X (.Compare a [op] [b] pos) (tB t):=by intro pins s σ H Q I hw;refine wpAny_isTrue_Compare1 (thn (h pins s σ H _ I hw) λ v s1 h1=>thn h1 λ u s2 h2=>thn h2 λ c s3 ⟨x,H1,I1,r1,q1⟩=>?_) h1;obtain ⟨d,rfl,q⟩:=q1;cases r1;exact EK ⟨H1,I1,q⟩
theorem aO {e:Expr} {t:TE} (h:PE X e t) (he:∀aM,isTrue e X.env aM=(do let v<-aM; standAt e.pos; holding [v] (truthy v)):=by intro _; rfl):PT X e (tB t):=by intro pins s σ H Q I hw;refine isTrue_plain (thn (h pins s σ H _ I hw) λ v s1 ⟨x,H1,I1,r1,q1⟩=>?_) (he _);obtain ⟨d,rfl,q⟩:=q1;cases r1;exact EK ⟨H1,I1,q⟩
variable {tA tB':TT} {rest:List Expr}
def Bv (t u:TT):TT:=λ σ H Q=>t σ H λ c H1=>if c=true then u σ H1 Q else Q false H1
def tOr (t u:TT):TT:=λ σ H Q=>t σ H λ c H1=>if c=true then Q true H1 else u σ H1 Q
def Bw (t:TT):TT:=λ σ H Q=>t σ H λ c H1=>Q (!c) H1
theorem kW (ha:PT X a tA):PW X (.BoolOp .And [a] pos) tA:=by
 intro wh pins s σ H Q I h;refine isTrue_and (thn (ha pins s σ H Q I h) λ c s1 e=>?_);cases c with
 | true=>exact isTrue_and_nil e
 | false=>exact e
theorem cf (ha:PT X a tA):PW X (.BoolOp .Or [a] pos) tA:=by
 intro wh pins s σ H Q I h;refine isTrue_or (thn (ha pins s σ H Q I h) λ c s1 e=>?_);cases c with
 | false=>exact isTrue_or_nil e
 | true=>exact e
theorem nV (ha:PT X a tA) (hb:PW X (.BoolOp .And (b :: rest) pos) tB'):PW X (.BoolOp .And (a :: b :: rest) pos) (Bv tA tB'):=by
 intro wh pins s σ H Q I h;refine isTrue_and (thn (ha pins s σ H _ I h) λ c s1 ⟨H1,I1,q1⟩=>?_);cases c with
 | true=>exact hb wh pins s1 σ H1 Q I1 q1
 | false=>exact ⟨H1,I1,q1⟩
theorem cB (ha:PT X a tA) (hb:PW X (.BoolOp .Or (b :: rest) pos) tB'):PW X (.BoolOp .Or (a :: b :: rest) pos) (tOr tA tB'):=by
 intro wh pins s σ H Q I h;refine isTrue_or (thn (ha pins s σ H _ I h) λ c s1 ⟨H1,I1,q1⟩=>?_);cases c with
 | true=>exact ⟨H1,I1,q1⟩
 | false=>exact hb wh pins s1 σ H1 Q I1 q1
theorem aZ (ha:PT X a tA):PT X (.UnaryOp .Not a pos) (Bw tA):=by intro pins s σ H Q I h;exact isTrue_not (ha pins s σ H (λ c H1=>Q (!c) H1) I h)
def vm (ta tb:TE):TE:=λ σ H Q=>ta σ H λ x H1=>IsB x λ c=>if c=true then tb σ H1 Q else Q (.bl false) H1
def Bx (ta tb:TE):TE:=λ σ H Q=>ta σ H λ x H1=>IsB x λ c=>if c=true then Q (.bl true) H1 else tb σ H1 Q
def vn (ta:TE):TE:=λ σ H Q=>ta σ H λ x H1=>IsB x λ c=>Q (.bl (!c)) H1
theorem ef {op} {t:TE} (h:PE X a t):PE X (.BoolOp op [a] pos) t:=λ pins s σ H Q I hw=>BoolOp_one (h pins s σ H Q I hw)
theorem dd (ha:PE X a ta) (hb:PE X (.BoolOp .And (b :: rest) pos) tb):PE X (.BoolOp .And (a :: b :: rest) pos) (vm ta tb):=by
 intro pins s σ H Q I h;refine BoolOp_and (thn (ha pins s σ H _ I h) λ v s1 ⟨x,H1,I1,r1,q1⟩=>?_);obtain ⟨c,rfl,q1⟩:=q1;cases r1;refine EK ?_;cases c with
 | true=>exact hb pins s1 σ H1 Q I1 q1
 | false=>exact ⟨.bl false,H1,I1,Y,q1⟩
theorem vo (ha:PE X a ta) (hb:PE X (.BoolOp .Or (b :: rest) pos) tb):PE X (.BoolOp .Or (a :: b :: rest) pos) (Bx ta tb):=by
 intro pins s σ H Q I h;refine BoolOp_or (thn (ha pins s σ H _ I h) λ v s1 ⟨x,H1,I1,r1,q1⟩=>?_);obtain ⟨c,rfl,q1⟩:=q1;cases r1;refine EK ?_;cases c with
 | false=>exact hb pins s1 σ H1 Q I1 q1
 | true=>exact ⟨.bl true,H1,I1,Y,q1⟩
theorem nW (ha:PE X a ta):PE X (.UnaryOp .Not a pos) (vn ta):=by intro pins s σ H Q I h;refine UnaryOp_ (thn (ha pins s σ H _ I h) λ v s1 ⟨x,H1,I1,r1,q1⟩=>?_);obtain ⟨c,rfl,q1⟩:=q1;cases r1;exact not_of (EK ⟨.bl (!c),H1,I1,rfl,q1⟩)
def tIf (t:TT) (ta tb:TE):TE:=λ σ H Q=>t σ H λ c H1=>if c=true then ta σ H1 Q else tb σ H1 Q
theorem iU {c:Expr} (hc:PT X c tA) (ha:PE X a ta) (hb:PE X b tb):PE X (.IfExp c a b pos) (tIf tA ta tb):=by
 intro pins s σ H Q I h;refine wpAny_IfExp (thn (hc pins s σ H _ I h) λ d s1 ⟨H1,I1,q1⟩=>?_);cases d with
 | true=>exact ha pins s1 σ H1 Q I1 q1
 | false=>exact hb pins s1 σ H1 Q I1 q1
end
def SqL (K:C4) (H:Hp) (a:Addr) (xs:List V):Prop :=
 Rd H a (.lst xs) \/
  ∃ (o:Obj) (its:Array ET) (n:Nat),K.lookup a=some o/\o.cls=.type "list" /\ o.dict=none/\o.data=.seq its n/\its.size<=sizeLine/\Vals xs its.toList
def SqT (K:C4) (H:Hp) (a:Addr) (xs:List V):Prop :=
 Rd H a (.tup xs) \/
  ∃ (o:Obj) (its:Array ET) (n:Nat),K.lookup a=some o/\o.cls=.type "tuple" /\ o.data=.seq its n/\its.size<=sizeLine/\Vals xs its.toList
def By:ET->Option V
 | .none=>some .non
 | .bool b=>some (.bl b)
 | .int i _=>⇑i
 | .str x _=>some (.str x)
 | .bytes b _=>some (.byt b)
 | .float b _=>some (.flt b)
 | .ref a=>↑a
 | .type n=>some (.ty n)
 | _=>none
theorem RelV.abs {x:V} {u:ET} (r:RelV x u):By u=some x:=by
 cases x with
 | non=>cases r; rfl
 | bl _=>cases r; rfl
 | int _=>obtain ⟨t,rfl⟩:=r; rfl
 | str _=>obtain ⟨t,rfl⟩:=r; rfl
 | byt _=>obtain ⟨t,rfl⟩:=r; rfl
 | flt _=>obtain ⟨t,rfl⟩:=r; rfl
 | ref _=>cases r; rfl
 | ty _=>cases r; rfl
theorem RelV.inj {x y:V} {u:ET} (r:RelV x u) (q:RelV y u):x=y:=B8 (r.abs.symm.trans q.abs)
theorem Vals.inj:∀ {xs ys:List V} {us:List ET},Vals xs us->Vals ys us->xs=ys
 | _,_,_,.nil,.nil=>rfl
 | _,_,_,.cons r t,.cons r' t'=>by rw [r.inj r',Vals.inj t t']
section
variable {X:Cx} {pins:List (Addr×Obj)} {σ:St} {H:Hp} {s:EO} {a:Addr} {xs ys:List V}
theorem SqL.of {K:C4} (h:H a=↥xs):SqL K H a xs:=.inl (.inl h)
abbrev EW:=@SqL.of
theorem SqT.of {K:C4} (h:H a= ~~~xs):SqT K H a xs:=.inl (.inl h)
abbrev EV:=@SqT.of
theorem Inv.list (I:Inv X pins σ H s) (h:SqL X.K H a xs):∃its:List ET,Vals xs its/\PlainL s.heap a its.toArray/\xs.length<=sizeLine:=by
 rcases h with h | ⟨o,its,n,hk,hc,hd,hs,hz,r⟩
 ·obtain ⟨z,its,n,r,e⟩:=h.ok I.hok;exact ⟨its,r,⟨_,n,e,Y,Y,Y⟩,z⟩
 ·refine ⟨its.toList,r,⟨o,n,I.kIn a o hk,hc,hd,by simpa using hs⟩,?_⟩;have e:=r.length;simp only [Array.length_toList] at e;omega
theorem Inv.tuple (I:Inv X pins σ H s) (h:SqT X.K H a xs):∃its:List ET,Vals xs its/\IsTup s.heap a its.toArray/\xs.length<=sizeLine:=by
 rcases h with h | ⟨o,its,n,hk,hc,hs,hz,r⟩
 ·obtain ⟨z,its,r,p⟩:=h.ok I.hok;exact ⟨its,r,p,z⟩
 ·refine ⟨its.toList,r,⟨o,I.kIn a o hk,hc,n,by simpa using hs⟩,?_⟩;have e:=r.length;simp only [Array.length_toList] at e;omega
theorem Inv.list_inj (I:Inv X pins σ H s) (h:SqL X.K H a xs) (h':SqL X.K H a ys):xs=ys:=by
 obtain ⟨its,r,⟨o,n,e,_,_,d⟩,_⟩:=I.list h;obtain ⟨its',r',⟨o',n',e',_,_,d'⟩,_⟩:=I.list h';rw [e] at e'; cases e';rw [d] at d';injection d' with d1 _
 have:its=its':=by simpa using congrArg Array.toList d1
 subst this;exact r.inj r'
theorem Inv.tuple_inj (I:Inv X pins σ H s) (h:SqT X.K H a xs) (h':SqT X.K H a ys):xs=ys:=by
 obtain ⟨its,r,⟨o,e,_,n,d⟩,_⟩:=I.tuple h;obtain ⟨its',r',⟨o',e',_,n',d'⟩,_⟩:=I.tuple h';rw [e] at e'; cases e';rw [d] at d';injection d' with d1 _
 have:its=its':=by simpa using congrArg Array.toList d1
 subst this;exact r.inj r'
end
abbrev Cx.wish (X:Cx) (E:ET->EO->Prop):Cx:={ X with xe:=E }
abbrev Cx.nox (X:Cx):Cx:=X.wish λ _ _=>False
theorem Cx.Ok.wish {X:Cx} (ok:X.Ok) (E:ET->EO->Prop):(X.wish E).Ok :=
 ⟨ok.mod,ok.kind,ok.glob,ok.blt,ok.above,ok.inj,ok.has,ok.cab,ok.hd,ok.frames,ok.stk,ok.exf,ok.bs,ok.bsz,ok.noex,ok.exfs,ok.funs,ok.frf⟩
theorem Cx.Ok.unwish {X:Cx} {E:ET->EO->Prop} (ok:(X.wish E).Ok):X.Ok :=
 ⟨ok.mod,ok.kind,ok.glob,ok.blt,ok.above,ok.inj,ok.has,ok.cab,ok.hd,ok.frames,ok.stk,ok.exf,ok.bs,ok.bsz,ok.noex,ok.exfs,ok.funs,ok.frf⟩
section
variable {X:Cx} {pins:List (Addr×Obj)} {σ:St} {H:Hp} {s:EO} {E:ET->EO->Prop}
theorem Inv.wish (I:Inv X pins σ H s) (E:ET->EO->Prop):Inv (X.wish E) pins σ H s:=⟨I.ok.wish E,I.os,I.bare,I.base,I.loc,I.cell,I.free,I.freeC,I.pin,I.hok,I.len⟩
theorem Inv.unwish (I:Inv (X.wish E) pins σ H s):Inv X pins σ H s:=⟨I.ok.unwish,I.os,I.bare,I.base,I.loc,I.cell,I.free,I.freeC,I.pin,I.hok,I.len⟩
theorem SP.unwish {D:Ends} {f:Flow} {s':EO} (h:SP (X.wish E) pins D f s'):SP X pins D f s':=by
 cases f with
 | next=>obtain ⟨σ',H',I,q⟩:=h; exact ⟨σ',H',I.unwish,q⟩
 | brk=>obtain ⟨σ',H',I,q⟩:=h; exact ⟨σ',H',I.unwish,q⟩
 | cont=>obtain ⟨σ',H',I,q⟩:=h; exact ⟨σ',H',I.unwish,q⟩
 | ret u=>obtain ⟨v,σ',H',I,r,q⟩:=h; exact ⟨v,σ',H',I.unwish,r,q⟩
theorem PSs.nox {st:List Stmt} {t:TS} (h:PSs X.nox st t):PSs X st t:=λ pins s σ H D I hw =>
 wpAny_mono (h pins s σ H D (I.wish _) hw) (λ _ _ q=>q.unwish) λ _ _ z=>EG z
end
section
variable {X:Cx} {st:Stmt} {rest:List Stmt} {t u:TS} {e:Expr} {te:TE} {pos:Pos}
def vp:TS:=λ D σ H=>D.nx σ H
def vq (t u:TS):TS:=λ D σ H=>t { D with nx:=u D } σ H
theorem aA:PSs X [] vp:=λ _ _ σ H _ I h=>wpAny_execs_nil ⟨σ,H,I,h⟩
theorem ae (h1:PS X st t) (h2:PSs X rest u):PSs X (st :: rest) (vq t u):=by
 intro pins s σ H D I h;refine wpAny_execs_cons (thn (h1 pins s σ H { D with nx:=u D } I h) λ f s1 q=>?_);cases f with
 | next =>
  obtain ⟨σ',H',I',q⟩:=q;exact h2 pins s1 σ' H' D I' q
 | ret v=>exact q
 | brk=>exact q
 | cont=>exact q
theorem ag (h1:PS X st t):PSs X [st] t:=by
 intro pins s σ H D I h;refine wpAny_execs_cons (thn (h1 pins s σ H D I h) λ f s1 q=>?_);cases f with
 | next=>exact wpAny_execs_nil q
 | ret v=>exact q
 | brk=>exact q
 | cont=>exact q
theorem Inv.quiet {pins:List (Addr×Obj)} {σ:St} {H:Hp} {s:EO} (I:Inv X pins σ H s):interactive X.env=false:=by simp [interactive,I.ok.kind]
def vt (te:TE):TS:=λ D σ H=>te σ H λ _ H1=>D.nx σ H1
theorem bG (he:PE X e te) (hs:swapsWith e none pos.line X.env=pure false:=by rfl):PS X (.Expr e pos) (vt te):=by intro pins s σ H D I h;exact wpAny_Expr_any (thn (he pins s σ H _ I h) λ v s1 ⟨x,H1,I1,r1,q1⟩=>⟨σ,H1,I1,q1⟩) I.quiet hs
def vv (te:TE):TS:=λ D σ H=>te σ H D.rt
theorem au (he:PE X e te):PS X (.Return (some e) pos) (vv te):=by intro pins s σ H D I h;exact wpAny_Return_some (thn (he pins s σ H _ I h) λ v s1 ⟨x,H1,I1,r1,q1⟩=>⟨x,σ,H1,I1,r1,q1⟩)
def Bz (c:TT) (t u:TS):TS:=λ D σ H=>c σ H λ b H1=>if b=true then t D σ H1 else u D σ H1
theorem aK {c:Expr} {a b:List Stmt} {tc:TT} (hc:PT X c tc) (ha:PSs X a t) (hb:PSs X b u):PS X (.If c a b pos) (Bz tc t u):=by
 intro pins s σ H D I h;refine wpAny_If (thn (hc pins s σ H _ I h) λ d s1 ⟨H1,I1,q1⟩=>?_);cases d with
 | true=>exact ha pins s1 σ H1 D I1 q1
 | false=>exact hb pins s1 σ H1 D I1 q1
def nX:TS:=λ _ _ _=>False
theorem fV:PS X st nX:=λ _ _ _ _ _ _ h=>h.elim
theorem eS {sts:List Stmt}:PSs X sts nX:=λ _ _ _ _ _ _ h=>h.elim
end
abbrev TG:=V->St->Hp->(St->Hp->Prop)->Prop
abbrev TGs:=List V->St->Hp->(St->Hp->Prop)->Prop
def PG (X:Cx) (target:Expr) (t:TG):Prop :=
 ∀ (pins:List (Addr×Obj)) (s:EO) (σ:St) (H:Hp) (v:V) (u:ET) (Q:St->Hp->Prop),Inv X pins σ H s->RelV v u->t v σ H Q ->
  wpAny (model X.prog X.w) X.A (assign target X.env u) (λ _ s'=>∃σ' H',Inv X pins σ' H' s'/\Q σ' H') X.xe s
def PGs (X:Cx) (ts:List Expr) (t:TGs):Prop :=
 ∀ (pins:List (Addr×Obj)) (s:EO) (σ:St) (H:Hp) (vs:List V) (us:List ET) (Q:St->Hp->Prop),Inv X pins σ H s->Vals vs us->t vs σ H Q ->
  wpAny (model X.prog X.w) X.A (assignInOrder ((assignEach ts X.env).map (·.2)) us) (λ _ s'=>∃σ' H',Inv X pins σ' H' s'/\Q σ' H') X.xe s
abbrev nY:=V->V->V->Hp->(Hp->Prop)->Prop
def sr (X:Cx) (t:nY):Prop :=
 ∀ (pins:List (Addr×Obj)) (s:EO) (σ:St) (H:Hp) (o i v:V) (ov iv u:ET) (Q:Hp->Prop),Inv X pins σ H s->RelV o ov->RelV i iv->RelV v u->t o i v H Q ->
  wpAny (model X.prog X.w) X.A (setItem ov iv u) (λ _ s'=>∃H',Inv X pins σ H' s'/\Q H') X.xe s
abbrev TIp:=V->V->Hp->VK->Prop
def PIp (X:Cx) (op:Operator) (t:TIp):Prop :=
 ∀ (pins:List (Addr×Obj)) (s:EO) (σ:St) (H:Hp) (x y:V) (v u:ET) (Q:VK),Inv X pins σ H s->RelV x v->RelV y u->t x y H Q ->
  wpAny (model X.prog X.w) X.A (inplaceOp op v u) (EP X pins σ Q) X.xe s
section
variable {X:Cx} {pos:Pos}
def cC (i:Nat):TG:=λ v σ H Q=>Q (σ.set i (some v)) H
theorem ai {i:Nat} {x:Str} (hN:X.N.Nodup) (hi:X.N[i]? = some x) (hx:Loc X.env.scope x) (hf:X.fn x=true\/X.env.scope.names.lookup x=some .local:=by first | exact .inl rfl | exact .inr rfl | assumption):PG X (.Name x pos) (cC i):=by intro pins s σ H v u Q I r h;exact wpAny_assign_Name (cA I hN hi hx r (λ s' I'=>⟨_,H,I',h⟩) hf)
def qz:TGs:=λ vs σ H Q=>vs=[]/\Q σ H
inductive gCons (t:TG) (u:TGs) (vs:List V) (σ:St) (H:Hp) (Q:St->Hp->Prop):Prop
 | mk (v:V) (r:List V) (e_0:vs=v :: r) (e_1:t v σ H λ σ' H'=>u r σ' H' Q):gCons t u vs σ H Q
theorem aI:PGs X [] qz:=by intro pins s σ H vs us Q I r h;obtain ⟨e,h⟩:=h;subst e;cases r;exact assignInOrder_nil ⟨σ,H,I,h⟩
theorem ah {e:Expr} {es:List Expr} {t:TG} {u:TGs} (h1:PG X e t) (h2:PGs X es u)
  (hs:(assignEach (e :: es) X.env).map (·.2)=assign e X.env :: (assignEach es X.env).map (·.2):=by rfl):PGs X (e :: es) (gCons t u):=by
 intro pins s σ H vs us Q I r h;obtain ⟨v,vr,e1,h⟩:=h;subst e1;cases r with
 | cons r rr =>
  rw [hs];refine assignInOrder_cons (thn (h1 pins s σ H _ _ _ I r h) λ _ s1 ⟨σ1,H1,I1,q1⟩=>?_);exact h2 pins s1 σ1 H1 _ _ Q I1 rr q1
inductive gTup (K:C4) (n:Nat) (t:TGs) (v:V) (σ:St) (H:Hp) (Q:St->Hp->Prop):Prop
 | mk (a:Addr) (xs:List V) (e_0:v=.ref a) (e_1:SqT K H a xs) (e_2:xs.length=n) (e_3:t xs σ H Q):gTup K n t v σ H Q
theorem aR {es:List Expr} {k:Nat} {t:TGs} {n:Nat} (hc:X.calm=true) (h:PGs X es t)
  (hn:(assignEach es X.env).length=n:=by rfl) (hst:(assignEach es X.env).findIdx? (·.1)=none:=by rfl):PG X (.Tuple es k pos) (gTup X.K n t):=by
 intro pins s σ H v u Q I r hw;obtain ⟨a,xs,e1,hq,hl,hw⟩:=hw;subst e1;cases r;obtain ⟨its,rv,ht,hz⟩:=I.tuple hq;refine assign_Tuple_tuple (I.ok.hd hc) ht (by simp [hn,<- hl,rv.length]) hst λ h' hx=>?_;have I1:Inv X pins σ H { s with heap:=h' }:=I.kept (t':=s.toks) λ b o e=>hx b o (B9 (A9 e)) e;exact h pins _ σ H xs _ Q I1 (by simpa using rv) hw
def BA (to ti:TE) (t:nY):TG:=λ v σ H Q=>to σ H λ o H1=>ti σ H1 λ i H2=>t o i v H2 λ H3=>Q σ H3
theorem jD {o i:Expr} {to ti:TE} {t:nY} (ho:PE X o to) (hi:PE X i ti) (hs:sr X t)
  (ha:∀v,assign (.Subscript o i pos) X.env v=(do
   let ov<-holding [v] (eval o X.env)
   let iv<-holding [v,ov] (eval i X.env)
   standAt pos
   holding [v,ov,iv] (setItem ov iv v)
   release [v,ov,iv] []):=by intro _; rfl):PG X (.Subscript o i pos) (BA to ti t):=by
 intro pins s σ H v u Q I r h;rw [ha];refine A0 (wpAny_holding (thn (ho pins s σ H _ I h) λ ov s1 ⟨x,H1,I1,r1,q1⟩=>?_));refine A0 (wpAny_holding (thn (hi pins s1 σ H1 _ I1 q1) λ iv s2 ⟨y,H2,I2,r2,q2⟩=>?_));refine A0 (wpAny_standAt (A0 (wpAny_holding (thn (hs pins s2 σ H2 x y v ov iv u _ I2 r1 r2 r q2) λ _ s3 ⟨H3,I3,q3⟩=>?_))));exact wpAny_release ⟨σ,H3,I3,q3⟩
def ss (te:TE) (g:TG):TS:=λ D σ H=>te σ H λ x H1=>g x σ H1 D.nx
theorem be {tg e:Expr} {te:TE} {g:TG} (he:PE X e te) (hg:PG X tg g) (hs:swapsWithSole [tg] e pos.line X.env=pure false:=by rfl) (hw:swappedStores [tg] e X.env=pure none:=by rfl)
  (h1:(assignEach [tg] X.env).map (·.2)=[assign tg X.env]:=by rfl):PS X (.Assign [tg] e pos) (ss te g):=by
 intro pins s σ H D I h;refine wpAny_Assign_stores (thn (he pins s σ H _ I h) λ v s1 ⟨x,H1,I1,r1,q1⟩=>?_) hs hw;rw [h1];exact thn (hg pins s1 σ H1 x v _ I1 r1 q1) λ _ s2 q=>q
theorem av {i:Nat} {x:Str} {e:Expr} {te:TE} {pos':Pos} (hN:X.N.Nodup) (hi:X.N[i]? = some x) (hx:Loc X.env.scope x) (he:PE X e te) (hs:swapsWith e (some (.Name x pos')) pos.line X.env=pure false:=by rfl) (hf:X.fn x=true\/X.env.scope.names.lookup x=some .local:=by first | exact .inl rfl | exact .inr rfl | assumption) :
  PS X (.Assign [.Name x pos'] e pos) (ss te (cC i)):=by
 intro pins s σ H D I h;refine wpAny_Assign_Name (thn (he pins s σ H _ I h) λ v s1 ⟨y,H1,I1,r1,q1⟩=>?_) hs;exact cA I1 hN hi hx r1 (λ s2 I2=>⟨_,H1,I2,q1⟩) hf
def BB (i:Nat) (te:TE) (ti:TIp):TS:=λ D σ H=>∃x,σ[i]? = some (some x)/\te σ H λ y H1=>ti x y H1 λ z H2=>D.nx (σ.set i (some z)) H2
theorem jE {i:Nat} {x:Str} {e:Expr} {te:TE} {op:Operator} {ti:TIp} {pos':Pos} (hN:X.N.Nodup) (hi:X.N[i]? = some x) (hx:Loc X.env.scope x) (he:PE X e te) (ho:PIp X op ti) (hf:X.fn x=true\/X.env.scope.names.lookup x=some .local:=by first | exact .inl rfl | exact .inr rfl | assumption) :
  PS X (.AugAssign (.Name x pos') op e pos) (BB i te ti):=by
 intro pins s σ H D I h;obtain ⟨v,e1,h⟩:=h;obtain ⟨m,hn,hl⟩:=I.loc;have vis:Vis X.env.scope x:=by rcases hx with k | k; exact .inl k; exact .inr (.inl k)
 obtain ⟨u,r,l⟩:=hl i x v hi e1 vis;refine wpAny_AugAssign_Name ?_;have go:wpAny (model X.prog X.w) X.A (eval e X.env) (λ w s₂=>wpAny (model X.prog X.w) X.A (inplaceOp op u w) (λ r s₃=>wpAny (model X.prog X.w) X.A (storeName X.env x r) (λ _=>SP X pins D .next) X.xe s₃) X.xe s₂) X.xe s:=by refine thn (he pins s σ H _ I h) λ w s1 ⟨y,H1,I1,r1,q1⟩=>?_;refine thn (ho pins s1 σ H1 v y u w _ I1 r r1 q1) λ z s2 ⟨zv,H2,I2,r2,q2⟩=>?_;exact cA I2 hN hi hx r2 (λ s3 I3=>⟨_,H2,I3,q2⟩) hf
 rcases l with ⟨hk,hm⟩ | ⟨hk,c,hc,hcell⟩
 ·exact wpAny_loadName_local I.ok.kind hk hn hm go
 ·rcases hk with hk | hk
  ·exact wpAny_loadName_cell I.ok.kind hk hc hcell go
  ·rcases hx with k | k
   ·have:X.env.scope.names.lookup x=some .free:=hk;rw [k] at this; cases this
   ·have:X.env.scope.names.lookup x=some .free:=hk;rw [k] at this; cases this
def vw (to ti te:TE) (tget:V->V->Hp->VK->Prop) (tip:TIp) (tset:nY):TS:=λ D σ H=>to σ H λ o H1=>ti σ H1 λ i H2=>tget o i H2 λ x H3=>te σ H3 λ y H4=>tip x y H4 λ z H5=>tset o i z H5 λ H6=>D.nx σ H6
def vx (X:Cx) (t:V->V->Hp->VK->Prop):Prop :=
 ∀ (pins:List (Addr×Obj)) (s:EO) (σ:St) (H:Hp) (o i:V) (ov iv:ET) (Q:VK),Inv X pins σ H s->RelV o ov->RelV i iv->t o i H Q ->
  wpAny (model X.prog X.w) X.A (getItem ov iv) (EP X pins σ Q) X.xe s
theorem qA {o i e:Expr} {to ti te:TE} {tget:V->V->Hp->VK->Prop} {tip:TIp} {tset:nY} {op:Operator} {tpos:Pos} (ho:PE X o to) (hi:PE X i ti) (hg:vx X tget) (he:PE X e te) (hp:PIp X op tip) (hs:sr X tset)
  (ha:∀ov iv new,augStore i ov iv new=(do holding [new,ov,iv] (setItem ov iv new); release [new,ov,iv] []; pure .next):=by intros; rfl):PS X (.AugAssign (.Subscript o i tpos) op e pos) (vw to ti te tget tip tset):=by
 intro pins s σ H D I h;refine wpAny_AugAssign_SubscriptAny (thn (ho pins s σ H _ I h) λ ov s1 ⟨x1,H1,I1,r1,q1⟩=>?_) ha;refine thn (hi pins s1 σ H1 _ I1 q1) λ iv s2 ⟨x2,H2,I2,r2,q2⟩=>?_;refine thn (hg pins s2 σ H2 x1 x2 ov iv _ I2 r1 r2 q2) λ old s3 ⟨x3,H3,I3,r3,q3⟩=>?_;refine thn (he pins s3 σ H3 _ I3 q3) λ v s4 ⟨x4,H4,I4,r4,q4⟩=>?_;refine thn (hp pins s4 σ H4 x3 x4 old v _ I4 r3 r4 q4) λ new s5 ⟨x5,H5,I5,r5,q5⟩=>?_;exact thn (hs pins s5 σ H5 x1 x2 x5 ov iv new _ I5 r1 r2 r5 q5) λ _ s6 ⟨H6,I6,q6⟩=>⟨σ,H6,I6,q6⟩
def ipI (f:Int->Int->Int):TIp:=λ x y H Q=>∃i j,x=.int i/\y=.int j/\Q (.int (f i j)) H
theorem ix:PIp X .Add (ipI λ i j=>i + j):=by intro pins s σ H x y v u Q I r1 r2 h;obtain ⟨i,j,e1,e2,q⟩:=h;subst e1; subst e2;obtain ⟨t,rfl⟩:=r1;obtain ⟨t',rfl⟩:=r2;exact iadd_int ⟨.int _,H,I.tok _,⟨_,rfl⟩,q⟩
end
section
variable {X:Cx} {pos:Pos}
def su (c:TT) (tb:TS):TS:=λ D σ H=>∃W:Nat->St->Hp->Prop,(∃m,W m σ H)/\∀m σ H,W m σ H ->
 c σ H λ b H1=>if b=true then ∃N:St->Hp->Prop,(∀σ' H',N σ' H'->∃m',m' < m/\W m' σ' H')/\tb { D with nx:=N,ct:=N,bk:=D.nx } σ H1 else D.nx σ H1
theorem iV {c:Expr} {body:List Stmt} {tc:TT} {tb:TS} (hp:PassesOwn (model X.prog X.w) X.A X.env X.xe) (hc:PT X c tc) (hb:PSs X body tb):PS X (.While c body [] pos) (su tc tb):=by
 intro pins s σ H D I h;obtain ⟨W,⟨m0,w0⟩,turn⟩:=h;refine wpAny_While (codeAny_whileLoop (λ n s'=>∃σ' H',Inv X pins σ' H' s'/\W n σ' H') ?_ m0 ⟨σ,H,I,w0⟩);rintro n s1 ⟨σ1,H1,I1,w1⟩;refine wpAny_passesOwn hp (thn (hc pins s1 σ1 H1 _ I1 (turn n σ1 H1 w1)) λ b s2 ⟨H2,I2,q2⟩=>?_);cases b with
 | true =>
  obtain ⟨N,hN,q2⟩:=q2;rw [if_pos rfl];refine wpAny_passesOwn hp (thn (hb pins s2 σ1 H2 _ I2 q2) λ f s3 q3=>?_);cases f with
  | next =>
   obtain ⟨σ3,H3,I3,n3⟩:=q3;obtain ⟨m',hm,w3⟩:=hN σ3 H3 n3;exact ⟨m',hm,σ3,H3,I3,w3⟩
  | cont =>
   obtain ⟨σ3,H3,I3,n3⟩:=q3;obtain ⟨m',hm,w3⟩:=hN σ3 H3 n3;exact ⟨m',hm,σ3,H3,I3,w3⟩
  | brk=>exact q3
  | ret v=>exact q3
 | false =>
  rw [if_neg Bool.false_ne_true];exact wpAny_execs_nil ⟨σ1,H2,I2,q2⟩
end
structure It where
 go:Nat->Hp->Prop
 yld:Nat->Hp->V->Hp->Prop
 stop:Nat->Hp->Prop
def eU (X:Cx) (pins:List (Addr×Obj)) (H:Hp) (b:Addr):Prop :=
 H b=none/\b≠X.env.locals/\b∉X.fs/\(b∈X.ex\/X.s₀.heap.objs.size<=b)/\(∀x c,X.env.cells.lookup x=some c->c≠b)/\∀p∈X.pn ++ pins,p.1≠b
theorem Inv.fpOk {X:Cx} {pins:List (Addr×Obj)} {σ:St} {H H':Hp} {s:EO} {b:Addr} (I:Inv X pins σ H s) (hb:s.heap.objs.size<=b) (hn:H' b=none):eU X pins H' b:=by
 refine ⟨hn,Nat.ne_of_gt (C1 I.lt hb),I.nofs hb,.inr (C5 I.sz hb),λ x c e z=>?_,λ p hp z=>?_⟩
 ·obtain ⟨v,q⟩:=I.cell x c e;exact absurd (C1 q.lt (by rw [z]; exact hb)) (C8 _)
 ·exact absurd (C1 (A9 (I.pin p hp).1) (by rw [z]; exact hb)) (C8 _)
structure Turn (P:Program) (w:World) (K:C4) (tg:Expr) (J:It) (fp:List Addr) (it:Addr) (tn:Nat->Heap->Prop):Prop where
 mem:it∈fp
 obj:∀i h,tn i h->∀b∈fp,∃o,h.get? b=some o/\∀v,o.data≠.cell v
 keep:∀i h h',tn i h->(∀b∈fp,∀o,h.get? b=some o->h'.get? b=some o)->tn i h'
 item:∀ (X:Cx),X.prog=P->X.w=w->X.K=K->X.calm=true->∀ (i:Nat) (pins:List (Addr×Obj)) (s:EO) (σ:St) (H:Hp) (E:ET->EO->Prop),Inv X pins σ H s->(∀b∈fp,eU X pins H b)->tn i s.heap->J.go i H ->
  wpAny (model P w) X.A (pyNext (.ref it)) (λ r s1=>∃u,r=some u /\
   wpAny (model P w) X.A (letOwnedTupleGo tg (.ref it) u) (λ _ s2=>∃x H',Inv X pins σ H' s2/\RelV x u/\J.yld i H x H'/\tn (i + 1) s2.heap/\∀b∈fp,H' b=none) E s1) E s
 done:∀ (X:Cx),X.prog=P->X.w=w->X.K=K->X.calm=true->∀ (i:Nat) (pins:List (Addr×Obj)) (s:EO) (σ:St) (H:Hp) (E:ET->EO->Prop),Inv X pins σ H s->(∀b∈fp,eU X pins H b)->tn i s.heap->J.stop i H ->
  wpAny (model P w) X.A (pyNext (.ref it)) (λ r s1=>r=none/\Inv X pins σ H s1) E s
 self:∀ (A:Around) (i:Nat) (s:EO) (Q:ET->EO->Prop) (E:ET->EO->Prop),tn i s.heap->Q (.ref it) s->wpAny (model P w) A (pyIter (.ref it)) Q E s
abbrev TI:=St->Hp->(It->Hp->Prop)->Prop
def PIE (X:Cx) (pins:List (Addr×Obj)) (σ:St) (tg:Expr) (R:It->Hp->Prop) (itv:ET) (s2:EO):Prop :=
 ∃ (it:Addr) (fp:List Addr) (tn:Nat->Heap->Prop) (J:It) (H':Hp),itv=.ref it/\Inv X pins σ H' s2/\Turn X.prog X.w X.K tg J fp it tn/\tn 0 s2.heap/\(∀b∈fp,eU X pins H' b)/\R J H'
def PI (X:Cx) (tg iter:Expr) (wi:TI):Prop :=
 ∀ (pins:List (Addr×Obj)) (s:EO) (σ:St) (H:Hp) (R:It->Hp->Prop),Inv X pins σ H s->wi σ H R ->
  wpAny (model X.prog X.w) X.A (eval iter X.env) (λ v s1=>wpAny (model X.prog X.w) X.A (pyIter v) (PIE X pins σ tg R) X.xe s1) X.xe s
theorem nZ {M:Model} {A:Around} {E:ET->EO->Prop} {s:EO} {tg:Expr} {it:Addr} {u:ET} {o:Obj} {n:String} {vs:Array ET} {Q:Unit->EO->Prop} (ho:s.heap.get? it=some o) (hc:o.cls=.type n) (hd:o.data=.fields vs)
    (hn:["enumerate","zip","dict_itemiterator","dict_reverseitemiterator","odict_iterator","itertools.zip_longest","itertools.pairwise"].contains n=false) (hQ:Q () s):wpAny M A (letOwnedTupleGo tg (.ref it) u) Q E s:=by
  unfold letOwnedTupleGo;cases tg <;> first
    | exact A1 hQ
    | (cases u <;> first
        | exact A1 hQ
        | (refine A0 (wpAny_load ho ?_)
           rw [hc,hd];show wpAny M A (if (["enumerate","zip","dict_itemiterator","dict_reverseitemiterator","odict_iterator","itertools.zip_longest","itertools.pairwise"].contains n && vs[0]? == some (rawInt _))=true then _ else _) Q E s;rw [if_neg (by intro h; rw [hn,Bool.false_and] at h; cases h)];exact A1 hQ))
def Itl (K:C4) (a:Addr):It :=
 ⟨λ i H=>∃xs x,SqL K H a xs/\xs[i]? = some x,λ i H x H'=>H'=H/\∀xs,SqL K H a xs->xs[i]? = some x,λ i H=>∃xs,SqL K H a xs/\xs.length<=i⟩
def Itt (K:C4) (a:Addr):It :=
 ⟨λ i H=>∃xs x,SqT K H a xs/\xs[i]? = some x,λ i H x H'=>H'=H/\∀xs,SqT K H a xs->xs[i]? = some x,λ i H=>∃xs,SqT K H a xs/\xs.length<=i⟩
def Itr (lo:Int) (n:Nat):It:=⟨λ i _=>i < n,λ i H x H'=>H'=H/\x=.int (lo + i),λ i _=>n<=i⟩
theorem lV {P:EQ} {w:ES} {K:C4} {tg:Expr} (a it:Addr):Turn P w K tg (Itl K a) [it] it (λ i h=>h.IsListIter it a i) where
 mem:=by simp
 obj:=λ i h st b hb=>by
  have e:b=it:=by simpa using hb
  subst e;obtain ⟨o,e,c,d⟩:=st;exact ⟨o,e,λ v z=>by rw [d] at z; cases z⟩
 keep:=λ i h h' st k=>st.at λ o e=>k it (by simp) o e
 item:=by intro X hP hw hK hc i pins s σ H E I hf st hg;subst hP hw hK;obtain ⟨xs,x,hq,hx⟩:=hg;obtain ⟨its,rv,p,hz⟩:=I.list hq;obtain ⟨u,hu,ru⟩:=rv.get hx;obtain ⟨f0,f1,f2,f3,f4,f5⟩:=hf it (by simp);refine wpAny_pyNext_list_item st p.isList (x:=u) (by simpa using hu) λ h' st' sb=>?_;have I1:Inv X pins σ H { s with heap:=h' }:=I.turned (t':=s.toks) (λ b o hb e=>(sb.2 b hb).trans e) f0 f1 f3 f4 f5;obtain ⟨o,e,c,d⟩:=id st';exact ⟨u,Y,nZ (s:={ s with heap:=h' }) e c d ∅ ⟨x,H,I1,ru,⟨Y,λ ys hy=>by rw [I.list_inj hy hq]; exact hx⟩,st',λ b hb=>(hf b hb).1⟩⟩
 done:=by intro X hP hw hK hc i pins s σ H E I hf st hg;subst hP hw hK;obtain ⟨xs,hq,hx⟩:=hg;obtain ⟨its,rv,p,hz⟩:=I.list hq;obtain ⟨f0,f1,f2,f3,f4,f5⟩:=hf it (by simp);have hl:=rv.length;exact wpAny_pyNext_list_end (I.ok.hd hc) st p.isList (by simp; omega) λ h' eb=>⟨Y,I.turned (t':=s.toks) (λ b o hb e=>eb b o hb e) f0 f1 f3 f4 f5⟩
 self:=λ _ _ _ _ _ st h=>wpAny_pyIter_listiter st h
theorem jF {P:EQ} {w:ES} {K:C4} {tg:Expr} (a it:Addr):Turn P w K tg (Itt K a) [it] it (λ i h=>h.IsTupleIter it a i) where
 mem:=by simp
 obj:=λ i h st b hb=>by
  have e:b=it:=by simpa using hb
  subst e;obtain ⟨o,e,c,d⟩:=st;exact ⟨o,e,λ v z=>by rw [d] at z; cases z⟩
 keep:=λ i h h' st k=>st.at λ o e=>k it (by simp) o e
 item:=by intro X hP hw hK hc i pins s σ H E I hf st hg;subst hP hw hK;obtain ⟨xs,x,hq,hx⟩:=hg;obtain ⟨its,rv,p,hz⟩:=I.tuple hq;obtain ⟨u,hu,ru⟩:=rv.get hx;obtain ⟨f0,f1,f2,f3,f4,f5⟩:=hf it (by simp);refine wpAny_pyNext_tuple_item st (show s.heap.IsTuple a its.toArray from p) (x:=u) (by simpa using hu) λ h' st' sb=>?_;have I1:Inv X pins σ H { s with heap:=h' }:=I.turned (t':=s.toks) (λ b o hb e=>(sb.2 b hb).trans e) f0 f1 f3 f4 f5;obtain ⟨o,e,c,d⟩:=id st';exact ⟨u,Y,nZ (s:={ s with heap:=h' }) e c d ∅ ⟨x,H,I1,ru,⟨Y,λ ys hy=>by rw [I.tuple_inj hy hq]; exact hx⟩,st',λ b hb=>(hf b hb).1⟩⟩
 done:=by intro X hP hw hK hc i pins s σ H E I hf st hg;subst hP hw hK;obtain ⟨xs,hq,hx⟩:=hg;obtain ⟨its,rv,p,hz⟩:=I.tuple hq;obtain ⟨f0,f1,f2,f3,f4,f5⟩:=hf it (by simp);have hl:=rv.length;exact wpAny_pyNext_tuple_end (I.ok.hd hc) st (show s.heap.IsTuple a its.toArray from p) (by simp; omega) λ h' eb=>⟨Y,I.turned (t':=s.toks) (λ b o hb e=>eb b o hb e) f0 f1 f3 f4 f5⟩
 self:=λ _ _ _ _ _ st h=>wpAny_pyIter_tupleiter st h
theorem jG {P:EQ} {w:ES} {K:C4} {tg:Expr} (it:Addr) (lo:Int) (n:Nat):Turn P w K tg (Itr lo n) [it] it (λ i h=>IsRangeIter h it (lo + (i:Nat) * 1) ((n:Int) - (i:Nat)) 1) where
 mem:=by simp
 obj:=λ i h st b hb=>by
  have e:b=it:=by simpa using hb
  subst e;exact ⟨_,st,λ v z=>by
   have z':Data.fields _=Data.cell v:=z;cases z'⟩
 keep:=λ i h h' st k=>k it (by simp) _ st
 item:=by intro X hP hw hK hc i pins s σ H E I hf st hg;subst hP hw hK;obtain ⟨f0,f1,f2,f3,f4,f5⟩:=hf it (by simp);have W:=Walks.range (prog:=X.prog) (w:=X.w) (I.ok.hd hc) it lo 1 n;refine W.item i s _ _ hg st λ v h' tk hv st' kk=>?_;obtain ⟨t,rfl⟩:=hv;have I1:Inv X pins σ H { s with heap:=h',toks:=tk }:=I.turned (λ b o hb e=>kk b o (by simpa using hb) e) f0 f1 f3 f4 f5;refine ⟨_, Y, nZ (s:={ s with heap:=h', toks:=tk }) (n := "range_iterator") st' rfl rfl ∅ ⟨.int (lo + i), H, I1, ⟨t, ?_⟩, ⟨Y, Y⟩, st', λ b hb=>(hf b hb).1⟩⟩;rw [Int.mul_one]
 done:=by intro X hP hw hK hc i pins s σ H E I hf st hg;subst hP hw hK;obtain ⟨f0,f1,f2,f3,f4,f5⟩:=hf it (by simp);exact wpAny_pyNext_range_end (I.ok.hd hc) st (by have:n<=i:=hg; omega) λ h' eb=>⟨Y,I.turned (t':=s.toks) (λ b o hb e=>eb b o hb e) f0 f1 f3 f4 f5⟩
 self:=λ _ _ _ _ _ st h=>wpAny_pyIter_rangeiter st h
section
variable {X:Cx} {tg:Expr}
inductive iListA (K:C4) (R:It->Hp->Prop) (x:V) (H1:Hp):Prop
 | mk (a:Addr) (e_0:x=.ref a) (e_1:(∃xs,SqL K H1 a xs)) (e_2:R (Itl K a) H1):iListA K R x H1
def rO (K:C4) (tl:TE):TI:=λ σ H R=>tl σ H λ x H1=>iListA K R x H1
inductive iTupA (K:C4) (R:It->Hp->Prop) (x:V) (H1:Hp):Prop
 | mk (a:Addr) (e_0:x=.ref a) (e_1:(∃xs,SqT K H1 a xs)) (e_2:R (Itt K a) H1):iTupA K R x H1
def vy (K:C4) (tl:TE):TI:=λ σ H R=>tl σ H λ x H1=>iTupA K R x H1
theorem bo {l:Expr} {tl:TE} (hl:PE X l tl):PI X tg l (rO X.K tl):=by
 intro pins s σ H R I h;refine thn (hl pins s σ H _ I h) λ v s1 ⟨x,H1,I1,r1,q1⟩=>?_;obtain ⟨a,e,⟨xs,hq⟩,q⟩:=q1;subst e;cases r1;obtain ⟨its,rv,p,hz⟩:=I1.list hq;refine wpAny_pyIter_list p.isList ?_;refine ⟨s1.heap.objs.size,[s1.heap.objs.size],_,_,H1,Y,I1.kept (t':=s1.toks) λ b o e=>A7 _ e,lV a _,⟨_,A8 _ rfl,Y,Y⟩,λ b hb=>?_,q⟩;have e:b=s1.heap.objs.size:=by simpa using hb
 subst e;exact I1.fpOk (B3 _) (I1.hok.fresh (B3 _))
theorem jH {l:Expr} {tl:TE} (hl:PE X l tl):PI X tg l (vy X.K tl):=by
 intro pins s σ H R I h;refine thn (hl pins s σ H _ I h) λ v s1 ⟨x,H1,I1,r1,q1⟩=>?_;obtain ⟨a,e,⟨xs,hq⟩,q⟩:=q1;subst e;cases r1;obtain ⟨its,rv,p,hz⟩:=I1.tuple hq;refine wpAny_pyIter_tuple (show s1.heap.IsTuple a its.toArray from p) ?_;refine ⟨s1.heap.objs.size,[s1.heap.objs.size],_,_,H1,Y,I1.kept (t':=s1.toks) λ b o e=>A7 _ e,jF a _,⟨_,A8 _ rfl,Y,Y⟩,λ b hb=>?_,q⟩;have e:b=s1.heap.objs.size:=by simpa using hb
 subst e;exact I1.fpOk (B3 _) (I1.hok.fresh (B3 _))
theorem iW {pins:List (Addr×Obj)} {σ:St} {H:Hp} {s:EO} {R:It->Hp->Prop} {E:ET->EO->Prop} {lo hi:Int} {t u v:Tok} {tk:Nat} (I:Inv X pins σ H s) (h1:-(2 ^ 62)<=lo) (h2:lo < 2 ^ 62) (h3:-(2 ^ 62)<=hi) (h4:hi < 2 ^ 62)
  (q:R (Itr lo (hi - lo).toNat) H):wpAny (model X.prog X.w) X.A (pyIter (.ref s.heap.objs.size)) (PIE X pins σ tg R) E { s with heap:=s.heap.push { cls:=.type "range",data:=.fields #[.int lo t,.int hi u,.int 1 v] },toks:=tk }:=by
 refine wpAny_pyIter_range (IsRange.new ..) (small_one h1 h2 h3 h4) ?_;have I1:Inv X pins σ H { s with heap:=s.heap.push { cls:=.type "range",data:=.fields #[.int lo t,.int hi u,.int 1 v] },toks:=tk }:=I.kept λ b o e=>A7 _ e;refine ⟨(s.heap.push { cls:=.type "range",data:=.fields #[.int lo t,.int hi u,.int 1 v] }).objs.size,[(s.heap.push { cls:=.type "range",data:=.fields #[.int lo t,.int hi u,.int 1 v] }).objs.size],_,_,H,Y,
  I1.kept (t':=tk) λ b o e=>A7 _ e,jG _ lo (hi - lo).toNat,?_,λ b hb=>?_,q⟩
 ·have e1:lo + ((0:Nat):Int) * 1=lo:=by simp
  have e2:(((hi - lo).toNat:Nat):Int) - ((0:Nat):Int)=Builtin.Range.rangeSize lo hi 1:=by rw [rangeSize_one]; split <;> omega
  show IsRangeIter _ _ (lo + ((0:Nat):Int) * 1) ((((hi - lo).toNat:Nat):Int) - ((0:Nat):Int)) 1;rw [e1,e2];exact A8 _ rfl
 ·have e:b=(s.heap.push { cls:=.type "range",data:=.fields #[.int lo t,.int hi u,.int 1 v] }).objs.size:=by simpa using hb
  subst e;exact I1.fpOk (B3 _) (I1.hok.fresh (B3 _))
def vz (ta:TA):TI:=λ σ H R=>ta σ H λ vs H1=>∃j:Int,vs=[.int j]/\-(2 ^ 62)<=j/\j < 2 ^ 62/\R (Itr 0 j.toNat) H1
def vA (ta:TA):TI:=λ σ H R=>ta σ H λ vs H1=>∃i j:Int,vs=[.int i,.int j]/\(-(2 ^ 62)<=i/\i < 2 ^ 62/\-(2 ^ 62)<=j/\j < 2 ^ 62)/\R (Itr i (j - i).toNat) H1
theorem dA {a:Expr} {ta:TA} {p pos:Pos} (hg:Gl X "range") (hm:X.mg "range" = none) (ha:PA X [a] ta) (hs:starEach [a] X.env=[(false,eval a X.env)]:=by rfl):PI X tg (.Call (.Name "range" p) [a] [] pos) (vz ta):=by
 intro pins s σ H R I h;refine Call_ (ee I hg hm boot_range (PyProof.Rows.callWith_type1 (thn (ha pos pins s σ H _ I h) λ us s1 ⟨vs,H1,I1,r1,q1⟩=>?_) hs rfl));obtain ⟨j,e,q1,q2,q⟩:=q1;subst e;cases r1 with
 | cons r rr =>
  cases rr;obtain ⟨t,rfl⟩:=r;exact call_range_1 (iW I1 ⋯ ⋯ q1 q2 (by simpa using q))
theorem lW {a b:Expr} {ta:TA} {p pos:Pos} (hg:Gl X "range") (hm:X.mg "range" = none) (ha:PA X [a,b] ta) (hs:starEach [a,b] X.env=[(false,eval a X.env),(false,eval b X.env)]:=by rfl) (hs2:starEach [b] X.env=[(false,eval b X.env)]:=by rfl) :
  PI X tg (.Call (.Name "range" p) [a,b] [] pos) (vA ta):=by
 intro pins s σ H R I h;refine Call_ (ee I hg hm boot_range (PyProof.Rows.callWith_type1 (thn (ha pos pins s σ H _ I h) λ us s1 ⟨vs,H1,I1,r1,q1⟩=>?_) (by rw [hs,hs2]) (by rw [hs2]; rfl)));obtain ⟨i,j,e,⟨q1,q2,q3,q4⟩,q⟩:=q1;subst e;cases r1 with
 | cons r rr =>
  cases rr with
  | cons r' rr =>
   cases rr;obtain ⟨t,rfl⟩:=r;obtain ⟨t',rfl⟩:=r';exact call_range_2 (iW I1 q1 q2 q3 q4 q)
def vB (wi:TI) (g:TG) (tb:TS):TS:=λ D σ H=>wi σ H λ J H1=>∃W:Nat->Nat->St->Hp->Prop,(∃m,W 0 m σ H1)/\∀i m σ H,W i m σ H ->
 (J.stop i H/\D.nx σ H)\/(J.go i H/\∃N:St->Hp->Prop,(∀σ' H',N σ' H'->∃m',m' < m/\W (i + 1) m' σ' H')/\∀x H',J.yld i H x H'->g x σ H' λ σ2 H2=>tb { D with nx:=N,ct:=N,bk:=D.nx } σ2 H2)
def iy (fp:List Addr) (h:Heap):List (Addr×Obj):=fp.filterMap λ b=>(h.get? b).map λ o=>(b,o)
theorem bQ {fp:List Addr} {h:Heap} {b:Addr} {o:Obj} (hb:b∈fp) (e:h.get? b=some o):(b,o)∈iy fp h:=List.mem_filterMap.mpr ⟨b,hb,by rw [e]; rfl⟩
theorem lX {fp:List Addr} {h:Heap} {p:Addr×Obj} (hp:p∈iy fp h):p.1∈fp/\h.get? p.1=some p.2:=by
 obtain ⟨b,hb,e⟩:=List.mem_filterMap.mp hp;cases q:h.get? b with
 | none=>rw [q] at e; cases e
 | some o =>
  rw [q] at e;have e':(b,o)=p:=B8 e;subst e';exact ⟨hb,q⟩
theorem Inv.pinned {pins:List (Addr×Obj)} {σ:St} {H:Hp} {s:EO} {fp:List Addr} (I:Inv X pins σ H s) (hf:∀b∈fp,eU X pins H b) (ho:∀b∈fp,∃o,s.heap.get? b=some o/\∀v,o.data≠.cell v):Inv X (pins ++ iy fp s.heap) σ H s :=
 I.pins_of λ p hp=>(C2.mp hp).elim (λ z=>I.pin p (A5 _ z)) λ z=>by obtain ⟨hb,e⟩:=lX z;obtain ⟨f0,f1,f2,_⟩:=hf p.1 hb;obtain ⟨o,e',d⟩:=ho p.1 hb;rw [e] at e'; cases e';exact ⟨e,f0,f1,f2,d⟩
theorem Inv.unpinned {pins pl:List (Addr×Obj)} {σ:St} {H:Hp} {s:EO} (I:Inv X (pins ++ pl) σ H s):Inv X pins σ H s:=I.pins_of λ p hp=>I.pin p (A5 _ (B6 _ hp))
theorem cy {iter:Expr} {body:List Stmt} {wi:TI} {g:TG} {tb:TS} {pos:Pos} (hp:PassesOwn (model X.prog X.w) X.A X.env X.xe) (hc:X.calm=true) (hi:PI X tg iter wi) (hg:PG X tg g) (hb:PSs X body tb)
  (hs:∀x,foldedSetIterable iter X.env x=pure x:=by intro _; rfl):PS X (.For tg iter body [] pos) (vB wi g tb):=by
 intro pins s σ H D I h;refine wpAny_For (thn (hi pins s σ H _ I h) λ v s1 h1=>thn h1 λ itv s2 h2=>?_) hs;obtain ⟨it,fp,tn,J,H2,e,I2,T,st2,f2,W,⟨m0,w0⟩,turn⟩:=h2;subst e;have stat:∀ {H':Hp},(∀b∈fp,H' b=none)->∀b∈fp,eU X pins H' b:=λ hn b hb=>⟨hn b hb,(f2 b hb).2⟩
 refine codeAny_forLoop_any (λ n s'=>∃i σ' H',Inv X pins σ' H' s'/\tn i s'.heap/\(∀b∈fp,H' b=none)/\W i n σ' H') ?_ m0 ⟨0,σ,H2,I2,st2,λ b hb=>(f2 b hb).1,w0⟩;rintro n s3 ⟨i,σ3,H3,I3,st3,fr3,w3⟩;rcases turn i n σ3 H3 w3 with ⟨stop,qn⟩ | ⟨go,N,hN,step⟩
 ·refine wpAny_passesOwn hp (thn (T.done X rfl rfl rfl hc i pins s3 σ3 H3 X.xe I3 (stat fr3) st3 stop) λ r s4 ⟨hr,I4⟩=>?_);subst hr;exact wpAny_execs_nil ⟨σ3,H3,I4,qn⟩
 ·refine wpAny_passesOwn hp (thn (T.item X rfl rfl rfl hc i pins s3 σ3 H3 X.xe I3 (stat fr3) st3 go) λ r s4 ⟨u,hr,h4⟩=>?_);subst hr;refine wpAny_passesOwn hp (thn h4 λ _ s5 ⟨x,H5,I5,r5,y5,st5,fr5⟩=>?_);have I5':=I5.pinned (stat fr5) (T.obj _ _ st5);refine wpAny_passesOwn hp (thn (hg _ s5 σ3 H5 x u _ I5' r5 (step x H5 y5)) λ _ s6 ⟨σ6,H6,I6,q6⟩=>?_);refine wpAny_passesOwn hp (thn (hb _ s6 σ6 H6 _ I6 q6) λ f s7 q7=>?_);have again:∀ {σ7:St} {H7:Hp},Inv X (pins ++ iy fp s5.heap) σ7 H7 s7->N σ7 H7->∃m,m < n/\∃i σ' H',Inv X pins σ' H' s7/\tn i s7.heap/\(∀b∈fp,H' b=none)/\W i m σ' H':=λ {σ7 H7} I7 n7=>by obtain ⟨m',hm,w7⟩:=hN σ7 H7 n7;refine ⟨m',hm,i + 1,σ7,H7,I7.unpinned,T.keep _ _ _ st5 λ b hb o e=>(I7.pin (b,o) (A5 _ (A5 _ (bQ hb e)))).1,λ b hb=>?_,w7⟩;obtain ⟨o,e,d⟩:=T.obj _ _ st5 b hb;exact (I7.pin (b,o) (A5 _ (A5 _ (bQ hb e)))).2.1
  cases f with
  | next=>obtain ⟨σ7,H7,I7,n7⟩:=q7; exact again I7 n7
  | cont=>obtain ⟨σ7,H7,I7,n7⟩:=q7; exact again I7 n7
  | brk=>obtain ⟨σ7,H7,I7,q7⟩:=q7; exact ⟨σ7,H7,I7.unpinned,q7⟩
  | ret v=>obtain ⟨x7,σ7,H7,I7,r7,q7⟩:=q7; exact ⟨x7,σ7,H7,I7.unpinned,r7,q7⟩
end
theorem eC {K:C4} {a:Addr} {xs:List V} {g:TG} {tb:TS} {D:Ends} {σ:St} {H:Hp} (Pv:Nat->St->Hp->Prop) (h0:Pv 0 σ H) (hl:∀i σ H,i<=xs.length->Pv i σ H->SqL K H a xs)
  (hs:∀i x σ H,xs[i]? = some x->Pv i σ H->g x σ H λ σ2 H2=>tb { D with nx:=Pv (i + 1),ct:=Pv (i + 1),bk:=D.nx } σ2 H2) (hd:∀σ H,Pv xs.length σ H->D.nx σ H) :
  ∃W:Nat->Nat->St->Hp->Prop,(∃m,W 0 m σ H)/\∀i m σ H,W i m σ H ->
   ((Itl K a).stop i H/\D.nx σ H)\/((Itl K a).go i H/\∃N:St->Hp->Prop,(∀σ' H',N σ' H'->∃m',m' < m/\W (i + 1) m' σ' H')/\∀x H',(Itl K a).yld i H x H'->g x σ H' λ σ2 H2=>tb { D with nx:=N,ct:=N,bk:=D.nx } σ2 H2):=by
 refine ⟨λ i m σ H=>m=xs.length - i/\i<=xs.length/\Pv i σ H,⟨xs.length,by simp,EH _,h0⟩,?_⟩;rintro i m σ H ⟨rfl,hi,p⟩;have q:=hl i σ H hi p
 by_cases hlt:i < xs.length
 ·refine .inr ⟨⟨xs,xs[i],q,by simp [hlt]⟩,Pv (i + 1),λ σ' H' p'=>⟨xs.length - (i + 1),⋯,Y,hlt,p'⟩,λ x H' y=>?_⟩;obtain ⟨e,y⟩:=y;subst e;exact hs i x σ _ (y xs q) p
 ·have e:i=xs.length:=⋯
  subst e;exact .inl ⟨⟨xs,q,B3 _⟩,hd σ H p⟩
theorem kX {K:C4} {a:Addr} {xs:List V} {g:TG} {tb:TS} {D:Ends} {σ:St} {H:Hp} (Pv:Nat->St->Hp->Prop) (h0:Pv 0 σ H) (hl:∀i σ H,i<=xs.length->Pv i σ H->SqT K H a xs)
  (hs:∀i x σ H,xs[i]? = some x->Pv i σ H->g x σ H λ σ2 H2=>tb { D with nx:=Pv (i + 1),ct:=Pv (i + 1),bk:=D.nx } σ2 H2) (hd:∀σ H,Pv xs.length σ H->D.nx σ H) :
  ∃W:Nat->Nat->St->Hp->Prop,(∃m,W 0 m σ H)/\∀i m σ H,W i m σ H ->
   ((Itt K a).stop i H/\D.nx σ H)\/((Itt K a).go i H/\∃N:St->Hp->Prop,(∀σ' H',N σ' H'->∃m',m' < m/\W (i + 1) m' σ' H')/\∀x H',(Itt K a).yld i H x H'->g x σ H' λ σ2 H2=>tb { D with nx:=N,ct:=N,bk:=D.nx } σ2 H2):=by
 refine ⟨λ i m σ H=>m=xs.length - i/\i<=xs.length/\Pv i σ H,⟨xs.length,by simp,EH _,h0⟩,?_⟩;rintro i m σ H ⟨rfl,hi,p⟩;have q:=hl i σ H hi p
 by_cases hlt:i < xs.length
 ·refine .inr ⟨⟨xs,xs[i],q,by simp [hlt]⟩,Pv (i + 1),λ σ' H' p'=>⟨xs.length - (i + 1),⋯,Y,hlt,p'⟩,λ x H' y=>?_⟩;obtain ⟨e,y⟩:=y;subst e;exact hs i x σ _ (y xs q) p
 ·have e:i=xs.length:=⋯
  subst e;exact .inl ⟨⟨xs,q,B3 _⟩,hd σ H p⟩
theorem dB {lo:Int} {n:Nat} {g:TG} {tb:TS} {D:Ends} {σ:St} {H:Hp} (Pv:Nat->St->Hp->Prop) (h0:Pv 0 σ H)
  (hs:∀i σ H,i < n->Pv i σ H->g (.int (lo + i)) σ H λ σ2 H2=>tb { D with nx:=Pv (i + 1),ct:=Pv (i + 1),bk:=D.nx } σ2 H2) (hd:∀σ H,Pv n σ H->D.nx σ H) :
  ∃W:Nat->Nat->St->Hp->Prop,(∃m,W 0 m σ H)/\∀i m σ H,W i m σ H ->
   ((Itr lo n).stop i H/\D.nx σ H)\/((Itr lo n).go i H/\∃N:St->Hp->Prop,(∀σ' H',N σ' H'->∃m',m' < m/\W (i + 1) m' σ' H')/\∀x H',(Itr lo n).yld i H x H'->g x σ H' λ σ2 H2=>tb { D with nx:=N,ct:=N,bk:=D.nx } σ2 H2):=by
 refine ⟨λ i m σ H=>m=n - i/\i<=n/\Pv i σ H,⟨n,by simp,EH _,h0⟩,?_⟩;rintro i m σ H ⟨rfl,hi,p⟩
 by_cases hlt:i < n
 ·refine .inr ⟨hlt,Pv (i + 1),λ σ' H' p'=>⟨n - (i + 1),⋯,Y,hlt,p'⟩,λ x H' y=>?_⟩;obtain ⟨e,y⟩:=y;subst e y;exact hs i σ _ hlt p
 ·have e:i=n:=⋯
  subst e;exact .inl ⟨B3 _,hd σ H p⟩
abbrev R2:=V->V->Hp->VK->Prop
def OpR (X:Cx) (f:ET->ET->Sem ET) (r:R2):Prop :=
 ∀ (pins:List (Addr×Obj)) (s:EO) (σ:St) (H:Hp) (x y:V) (v u:ET) (Q:VK),Inv X pins σ H s->RelV x v->RelV y u->r x y H Q ->
  wpAny (model X.prog X.w) X.A (f v u) (EP X pins σ Q) X.xe s
def cY (X:Cx) (f:ET) (r:List V->Hp->VK->Prop):Prop :=
 ∀ (pins:List (Addr×Obj)) (s:EO) (σ:St) (H:Hp) (xs:List V) (us:List ET) (Q:VK),Inv X pins σ H s->Vals xs us->r xs H Q ->
  wpAny (model X.prog X.w) X.A (call f us) (EP X pins σ Q) X.xe s
def BC (X:Cx) (r:V->Hp->(Bool->Hp->Prop)->Prop):Prop :=
 ∀ (pins:List (Addr×Obj)) (s:EO) (σ:St) (H:Hp) (x:V) (v:ET) (Q:Bool->Hp->Prop),Inv X pins σ H s->RelV x v->r x H Q ->
  wpAny (model X.prog X.w) X.A (truthy v) (TP X pins σ Q) X.xe s
def tOp (r:R2) (ta tb:TE):TE:=λ σ H Q=>ta σ H λ x H1=>tb σ H1 λ y H2=>r x y H2 Q
inductive rI (C:Int->Int->Prop) (g:Int->Int->V) (x:V) (y:V) (H:Hp) (Q:VK):Prop
 | mk (i:Int) (j:Int) (e_0:x=.int i) (e_1:y=.int j) (e_2:C i j) (e_3:Q (g i j) H):rI C g x y H Q
inductive rI0 (g:Int->Int->V) (x:V) (y:V) (H:Hp) (Q:VK):Prop
 | mk (i:Int) (j:Int) (e_0:x=.int i) (e_1:y=.int j) (e_2:Q (g i j) H):rI0 g x y H Q
section
variable {X:Cx} {a b c:Expr} {ta tb tc:TE} {pos:Pos}
theorem sv (ha:PE X a ta) (hb:PE X b tb) {pins:List (Addr×Obj)} {s:EO} {σ:St} {H:Hp} {R:V->V->Hp->Prop} (I:Inv X pins σ H s)
  (h:ta σ H λ x H1=>tb σ H1 λ y H2=>R x y H2) {Q:ET->EO->Prop} {f:ET->ET->Sem ET}
  (hf:∀v u s2 x y H2,Inv X pins σ H2 s2->RelV x v->RelV y u->R x y H2->wpAny (model X.prog X.w) X.A (f v u) Q X.xe s2) :
  wpAny (model X.prog X.w) X.A (eval a X.env) (λ v s₁=>wpAny (model X.prog X.w) X.A (eval b X.env) (λ u s₂=>wpAny (model X.prog X.w) X.A (f v u) Q X.xe s₂) X.xe s₁) X.xe s:=by
 refine thn (ha pins s σ H _ I h) λ v s1 ⟨x,H1,I1,r1,q1⟩=>?_;refine thn (hb pins s1 σ H1 _ I1 q1) λ u s2 ⟨y,H2,I2,r2,q2⟩=>?_;exact hf v u s2 x y H2 I2 r1 r2 q2
theorem ap {op:Operator} {r:R2} (ho:OpR X (binaryOp op) r) (ha:PE X a ta) (hb:PE X b tb):PE X (.BinOp a op b pos) (tOp r ta tb):=by intro pins s σ H Q I h;exact wpAny_BinOp (sv ha hb I h λ v u s2 x y H2 I2 rx ry q=>ho pins s2 σ H2 x y v u Q I2 rx ry q)
theorem opI {f:ET->ET->Sem ET} {C:Int->Int->Prop} {g:Int->Int->Int}
  (rule:∀ (i j:Int) (t u:Tok) (s:EO) (Q:ET->EO->Prop) (E:ET->EO->Prop),C i j->Q (.int (g i j) s.toks) { s with toks:=s.toks + 1 }->wpAny (model X.prog X.w) X.A (f (.int i t) (.int j u)) Q E s) :
  OpR X f (rI C λ i j=>.int (g i j)):=by
 intro pins s σ H x y v u Q I rx ry h;obtain ⟨i,j,rfl,rfl,hc,q⟩:=h;obtain ⟨t,rfl⟩:=rx;obtain ⟨t',rfl⟩:=ry;exact rule i j t t' s _ _ hc ⟨.int (g i j),H,I.tok _,⟨_,rfl⟩,q⟩
theorem vC {f:ET->ET->Sem ET} {g:Int->Int->Int}
  (rule:∀ (i j:Int) (t u:Tok) (s:EO) (Q:ET->EO->Prop) (E:ET->EO->Prop),Q (.int (g i j) s.toks) { s with toks:=s.toks + 1 }->wpAny (model X.prog X.w) X.A (f (.int i t) (.int j u)) Q E s) :
  OpR X f (rI0 λ i j=>.int (g i j)):=by
 intro pins s σ H x y v u Q I rx ry h;obtain ⟨i,j,rfl,rfl,q⟩:=h;obtain ⟨t,rfl⟩:=rx;obtain ⟨t',rfl⟩:=ry;exact rule i j t t' s _ _ ⟨.int (g i j),H,I.tok _,⟨_,rfl⟩,q⟩
theorem qB {f:ET->ET->Sem ET} {g:Int->Int->Bool}
  (rule:∀ (i j:Int) (t u:Tok) (s:EO) (Q:ET->EO->Prop) (E:ET->EO->Prop),Q (.bool (g i j)) s->wpAny (model X.prog X.w) X.A (f (.int i t) (.int j u)) Q E s) :
  OpR X f (rI0 λ i j=>.bl (g i j)):=by
 intro pins s σ H x y v u Q I rx ry h;obtain ⟨i,j,rfl,rfl,q⟩:=h;obtain ⟨t,rfl⟩:=rx;obtain ⟨t',rfl⟩:=ry;exact rule i j t t' s _ _ ⟨.bl (g i j),H,I,rfl,q⟩
def BD (i j:Int):Prop:=0 < j/\j < 1073741824
def vD (i j:Int):Prop:=0<=j/\j<=1000000/\i.natAbs < 2 ^ 64
def CMul (i j:Int):Prop:=(-(2 ^ 64) < i/\i < 2 ^ 64)\/(-(2 ^ 64) < j/\j < 2 ^ 64)
theorem CMul.ok {i j:Int} (h:CMul i j):IntMulOk i j:=by
 rcases h with ⟨h1,h2⟩ | ⟨h1,h2⟩
 ·exact .of_left (intBits_le_64 h1 h2)
 ·exact .of_right (intBits_le_64 h1 h2)
theorem aD:OpR X (binaryOp .Add) (rI0 λ i j=>.int (i + j)):=vC λ _ _ _ _ _ _ _ q=>add_int q
theorem aW:OpR X (binaryOp .Sub) (rI0 λ i j=>.int (i - j)):=vC λ _ _ _ _ _ _ _ q=>sub_int q
theorem cg:OpR X (binaryOp .Mult) (rI CMul λ i j=>.int (i * j)):=opI λ _ _ _ _ _ _ _ hc q=>mul_int q hc.ok
theorem qD:OpR X (binaryOp .FloorDiv) (rI BD λ i j=>.int (i / j)):=opI λ i j _ _ _ _ _ hc q=>by have h1:(0:Int) < j:=hc.1;have h2:j < 1073741824:=hc.2;exact floordiv_int ⋯ (by rw [Int.fdiv_eq_ediv_of_nonneg i ⋯]; exact q) (.inl (PyProof.noPylong_small ⋯))
theorem eV:OpR X (binaryOp .Mod) (rI (λ _ j=>0 < j) λ i j=>.int (i % j)):=opI λ i j _ _ _ _ _ hc q=>by have h1:(0:Int) < j:=hc;exact mod_int' ⋯ (by rw [Int.fmod_eq_emod_of_nonneg i ⋯]; exact q)
theorem eW:OpR X (binaryOp .Pow) (rI vD λ i j=>.int (i ^ j.toNat)):=opI λ _ _ _ _ _ _ _ hc q=>pow_int_small hc.1 hc.2.1 hc.2.2 q
end
def vE:V->V->Bool
 | .non,.non=>true | .non,.int _=>true | .int _,.non=>true | .non,.bl _=>true | .bl _,.non=>true | .non,.str _=>true | .str _,.non=>true
 | .int _,.int _=>true | .bl _,.bl _=>true | .str _,.str _=>true | .byt _,.byt _=>true
 | .int _,.str _=>true | .str _,.int _=>true | .bl _,.str _=>true | .str _,.bl _=>true
 | _,_=>false
def rEq:R2:=λ x y H Q=>vE x y=true/\Q (.bl (decide (x=y))) H
def rNe:R2:=λ x y H Q=>vE x y=true/\Q (.bl (!decide (x=y))) H
theorem iz {i j:Int}:decide (V.int i=V.int j)=(i == j):=by rw [Bool.eq_iff_iff];simp
theorem oa {i j:Bool}:decide (V.bl i=V.bl j)=(i == j):=by rw [Bool.eq_iff_iff];simp
theorem kY {i j:Str}:decide (V.str i=V.str j)=(i == j):=by rw [Bool.eq_iff_iff];simp
theorem kZ {i j:Array UInt8}:decide (V.byt i=V.byt j)=(i.toList == j.toList):=by rw [Bool.eq_iff_iff];cases i;cases j;simp
section
variable {X:Cx} {a b c:Expr} {ta tb tc:TE} {pos:Pos}
theorem aH {pins:List (Addr×Obj)} {σ:St} {H:Hp} {s:EO} {Q:VK} {k k':Bool} (I:Inv X pins σ H s) (q:Q (.bl k) H) (e:k=k'):EP X pins σ Q (.bool k') s:=by subst e;exact ⟨.bl k,H,I,Y,q⟩
theorem bA:OpR X (compareOp .Eq) rEq:=by
 intro pins s σ H x y v u Q I rx ry h;obtain ⟨hs,q⟩:=h;cases x with
 | non =>
  cases rx;cases y with
  | non=>cases ry; exact PySem.EqNone.eq_none_none (aH I q (by simp))
  | bl j=>cases ry; exact PySem.EqNone.eq_none_bool (aH I q (by simp))
  | int j=>obtain ⟨t',rfl⟩:=ry; exact PySem.EqNone.eq_none_int (aH I q (by simp))
  | str j=>obtain ⟨t',rfl⟩:=ry; exact PySem.EqNone.eq_none_str (aH I q (by simp))
  | _=>exact absurd (show false=true from hs) B2
 | bl i =>
  cases rx;cases y with
  | non=>cases ry; exact PySem.EqNone.eq_bool_none (aH I q (by simp))
  | bl j=>cases ry; exact eq_bool (aH I q oa)
  | str j=>obtain ⟨t',rfl⟩:=ry; exact PySem.EqMixed.eq_bool_str (aH I q (by simp))
  | _=>exact absurd (show false=true from hs) B2
 | int i =>
  obtain ⟨t,rfl⟩:=rx;cases y with
  | non=>cases ry; exact PySem.EqNone.eq_int_none (aH I q (by simp))
  | int j=>obtain ⟨t',rfl⟩:=ry; exact eq_int (aH I q iz)
  | str j=>obtain ⟨t',rfl⟩:=ry; exact PySem.EqMixed.eq_int_str (aH I q (by simp))
  | _=>exact absurd (show false=true from hs) B2
 | str i =>
  obtain ⟨t,rfl⟩:=rx;cases y with
  | non=>cases ry; exact PySem.EqNone.eq_str_none (aH I q (by simp))
  | bl j=>cases ry; exact PySem.EqMixed.eq_str_bool (aH I q (by simp))
  | int j=>obtain ⟨t',rfl⟩:=ry; exact PySem.EqMixed.eq_str_int (aH I q (by simp))
  | str j=>obtain ⟨t',rfl⟩:=ry; exact eq_str (aH I q kY)
  | _=>exact absurd (show false=true from hs) B2
 | byt i =>
  obtain ⟨t,rfl⟩:=rx;cases y with
  | byt j=>obtain ⟨t',rfl⟩:=ry; exact PySem.W.eq_bytes (aH I q kZ)
  | _=>exact absurd (show false=true from hs) B2
 | _=>cases y <;> exact absurd (show false=true from hs) B2
theorem gQ:OpR X (compareOp .NotEq) rNe:=by
 intro pins s σ H x y v u Q I rx ry h;obtain ⟨hs,q⟩:=h;cases x with
 | non =>
  cases rx;cases y with
  | non=>cases ry; exact PySem.EqNone.ne_none_none (aH I q (by simp))
  | bl j=>cases ry; exact PySem.EqNone.ne_none_bool (aH I q (by simp))
  | int j=>obtain ⟨t',rfl⟩:=ry; exact PySem.EqNone.ne_none_int (aH I q (by simp))
  | str j=>obtain ⟨t',rfl⟩:=ry; exact PySem.EqNone.ne_none_str (aH I q (by simp))
  | _=>exact absurd (show false=true from hs) B2
 | bl i =>
  cases rx;cases y with
  | non=>cases ry; exact PySem.EqNone.ne_bool_none (aH I q (by simp))
  | bl j=>cases ry; exact ne_bool (aH I q (congrArg not oa))
  | str j=>obtain ⟨t',rfl⟩:=ry; exact PySem.EqMixed.ne_bool_str (aH I q (by simp))
  | _=>exact absurd (show false=true from hs) B2
 | int i =>
  obtain ⟨t,rfl⟩:=rx;cases y with
  | non=>cases ry; exact PySem.EqNone.ne_int_none (aH I q (by simp))
  | int j=>obtain ⟨t',rfl⟩:=ry; exact ne_int (aH I q (congrArg not iz))
  | str j=>obtain ⟨t',rfl⟩:=ry; exact PySem.EqMixed.ne_int_str (aH I q (by simp))
  | _=>exact absurd (show false=true from hs) B2
 | str i =>
  obtain ⟨t,rfl⟩:=rx;cases y with
  | non=>cases ry; exact PySem.EqNone.ne_str_none (aH I q (by simp))
  | bl j=>cases ry; exact PySem.EqMixed.ne_str_bool (aH I q (by simp))
  | int j=>obtain ⟨t',rfl⟩:=ry; exact PySem.EqMixed.ne_str_int (aH I q (by simp))
  | str j=>obtain ⟨t',rfl⟩:=ry; exact ne_str (aH I q (congrArg not kY))
  | _=>exact absurd (show false=true from hs) B2
 | byt i =>
  obtain ⟨t,rfl⟩:=rx;cases y with
  | byt j=>obtain ⟨t',rfl⟩:=ry; exact PySem.W.ne_bytes (aH I q (congrArg not kZ))
  | _=>exact absurd (show false=true from hs) B2
 | _=>cases y <;> exact absurd (show false=true from hs) B2
theorem iX:OpR X (compareOp .Lt) (rI0 λ i j=>.bl (decide (i < j))):=qB λ _ _ _ _ _ _ _ q=>lt_int q
theorem gR:OpR X (compareOp .LtE) (rI0 λ i j=>.bl (decide (i<=j))):=qB λ _ _ _ _ _ _ _ q=>le_int q
theorem rP:OpR X (compareOp .Gt) (rI0 λ i j=>.bl (decide (j < i))):=qB λ _ _ _ _ _ _ _ q=>gt_int q
theorem oe:OpR X (compareOp .GtE) (rI0 λ i j=>.bl (decide (j<=i))):=qB λ _ _ _ _ _ _ _ q=>ge_int q
theorem az (b:Expr) {op:CmpOp} (h:op≠.In:=by decide) (h2:op≠.NotIn:=by decide):behindInMarks op b=false:=by
 have e1:(op == CmpOp.In)=false:=by cases op <;> first | rfl | exact absurd rfl h
 have e2:(op == CmpOp.NotIn)=false:=by cases op <;> first | rfl | exact absurd rfl h2
 cases b <;> simp [behindInMarks,e1,e2]
theorem bu {op:CmpOp} {r:R2} (ho:OpR X (compareOp op) r) (ha:PE X a ta) (hb:PE X b tb) (hm:behindInMarks op b=false):PE X (.Compare a [op] [b] pos) (tOp r ta tb):=by intro pins s σ H Q I h;exact wpAny_Compare1 (sv ha hb I h λ v u s2 x y H2 I2 rx ry q=>ho pins s2 σ H2 x y v u Q I2 rx ry q) hm
def rQ (t:TE):TT:=λ σ H Q=>t σ H λ x H'=>IsB x λ k=>Q k H'
theorem aB {op:CmpOp} {r:R2} (ho:OpR X (compareOp op) r) (ha:PE X a ta) (hb:PE X b tb) (hm:behindInMarks op b=false):PT X (.Compare a [op] [b] pos) (rQ (tOp r ta tb)):=by
 intro pins s σ H Q I h;refine wpAny_isTrue_Compare1 (thn (ha pins s σ H _ I h) λ v s1 ⟨x,H1,I1,r1,q1⟩=>thn (hb pins s1 σ H1 _ I1 q1) λ u s2 ⟨y,H2,I2,r2,q2⟩ =>
  thn (ho pins s2 σ H2 x y v u _ I2 r1 r2 q2) λ c s3 ⟨z,H3,I3,r3,k,e,q3⟩=>?_) hm
 subst e;cases r3;exact EK ⟨H3,I3,q3⟩
def sC (r r':R2) (ta tb tc:TE):TE:=λ σ H Q=>ta σ H λ x H1=>tb σ H1 λ y H2=>r x y H2 λ z H3=>∃k,z=.bl k /\
 (if k=true then tc σ H3 λ w' H4=>r' y w' H4 Q else Q (.bl false) H3)
theorem og {op op':CmpOp} {r r':R2} (ho:OpR X (compareOp op) r) (ho':OpR X (compareOp op') r') (ha:PE X a ta) (hb:PE X b tb) (hc:PE X c tc)
  (hm:lastMarks [op,op'] [b,c]=false:=by with_unfolding_all rfl):PT X (.Compare a [op,op'] [b,c] pos) (rQ (sC r r' ta tb tc)):=by
 intro pins s σ H Q I h;refine isTrue_chain (thn (ha pins s σ H _ I h) λ v s1 ⟨x,H1,I1,r1,q1⟩=>test_link (thn (hb pins s1 σ H1 _ I1 q1) λ u s2 ⟨y,H2,I2,r2,q2⟩ =>
  thn (ho pins s2 σ H2 x y v u _ I2 r1 r2 q2) λ d s3 ⟨z,H3,I3,r3,k,e,q3⟩=>?_)) hm
 subst e;cases r3;refine EK ?_;cases k with
 | false =>
  obtain ⟨k',e',q'⟩:=q3;cases e';exact ite_ff ⟨H3,I3,q'⟩
 | true =>
  refine ite_tt (test_last (thn (hc pins s3 σ H3 _ I3 q3) λ w' s4 ⟨z',H4,I4,r4,q4⟩=>thn (ho' pins s4 σ H4 y z' u w' _ I4 r2 r4 q4) λ d' s5 ⟨z2,H5,I5,r5,k2,e2,q5⟩=>?_));subst e2;cases r5;exact EK ⟨H5,I5,q5⟩
def vF (K:C4) (x:V) (H:Hp) (k:Bool):Prop :=
 match x with
 | .non=>k=false
 | .bl b=>k=b
 | .int i=>k=(i != 0)
 | .str y=>y.length<=sizeLine/\k=((y.length:Int) != 0)
 | .byt y=>y.size<=sizeLine/\k=((y.size:Int) != 0)
 | .ref p=>(∃xs,SqL K H p xs/\k=!xs.isEmpty)\/(∃xs,SqT K H p xs/\k=!xs.isEmpty)\/∃kvs,H p=some (.dK kvs)/\k=!kvs.isEmpty
 | _=>False
theorem jI {κ:Type} {kvs:List (κ×V)} {vs:List (κ×ET)} (r:KV kvs vs):(!vs.isEmpty)=!kvs.isEmpty:=by cases r <;> rfl
theorem fW {xs:List V} {its:List ET} (r:Vals xs its):(!its.toArray.isEmpty)=!xs.isEmpty:=by cases r <;> simp
theorem eg:(sizeLine:Nat) < 2 ^ 63:=by rw [sizeLine_eq]; decide
theorem sD:BC X (λ x H Q=>∃k,vF X.K x H k/\Q k H):=by
 intro pins s σ H x v Q I rx h;obtain ⟨k,e,q⟩:=h;have hl:=eg;have hs:sizeLine=16777216:=sizeLine_eq;cases x with
 | non =>
  cases rx;have e':k=false:=e;subst e';exact truthy_none ⟨H,I,q⟩
 | bl b =>
  cases rx;have e':k=b:=e;subst e';exact EK ⟨H,I,q⟩
 | int i =>
  obtain ⟨t,rfl⟩:=rx;have e':k=(i != 0):=e;subst e';exact PySem.P.truthy_int ⟨H,I,q⟩
 | str y =>
  obtain ⟨t,rfl⟩:=rx;obtain ⟨hy,e'⟩:y.length<=sizeLine/\k=((y.length:Int) != 0):=e;subst e';exact PySem.P.truthy_str ⋯ ⟨H,I.tok _,q⟩
 | byt y =>
  obtain ⟨t,rfl⟩:=rx;obtain ⟨hy,e'⟩:y.size<=sizeLine/\k=((y.size:Int) != 0):=e;subst e';exact PySem.W.truthy_bytes ⋯ ⟨H,I.tok _,q⟩
 | ref p =>
  cases rx;have e':(∃xs,SqL X.K H p xs/\k=!xs.isEmpty)\/(∃xs,SqT X.K H p xs/\k=!xs.isEmpty)\/∃kvs,H p=some (.dK kvs)/\k=!kvs.isEmpty:=e;rcases e' with ⟨xs,hx,e'⟩ | ⟨xs,hx,e'⟩ | ⟨kvs,hx,e'⟩
  ·subst e';obtain ⟨its,r,pl,hz⟩:=I.list hx;have hlen:=r.length;exact wpAny_truthy_list pl.isList (by simp only [List.size_toArray]; omega) ⟨H,I.tok _,by rw [fW r]; exact q⟩
  ·subst e';obtain ⟨its,r,pl,hz⟩:=I.tuple hx;have hlen:=r.length;exact truthy_tuple pl (by simp only [List.size_toArray]; omega) ⟨H,I.tok _,by rw [fW r]; exact q⟩
  ·subst e';obtain ⟨hz,hS,vs,r,m⟩:kvs.length<=sizeLine/\(p == sysModules)=false/\∃vs,KV kvs vs/\s.heap.DictOf (ir X.prog X.w) p vs:=I.hok p _ hx;have hlen:kvs.length=vs.length:=EC r;exact wpAny_truthy_dict hS m ⋯ ⟨H,I.tok _,by rw [jI r]; exact q⟩
 | _=>exact (show False from e).elim
theorem iY (ha:PE X a ta) (he:∀aM,isTrue a X.env aM=(do let v<-aM; standAt a.pos; holding [v] (truthy v))) :
  PT X a (λ σ H Q=>ta σ H λ x H'=>∃k,vF X.K x H' k/\Q k H'):=by
 intro pins s σ H Q I h;exact isTrue_plain (thn (ha pins s σ H _ I h) λ v s1 ⟨x,H1,I1,r1,q1⟩=>sD pins s1 σ H1 x v Q I1 r1 q1) (he _)
theorem fX {x:V} {us:List ET} (r:Vals [x] us):∃u,us=[u]/\RelV x u:=by
 cases r with
 | cons r1 r2=>cases r2; exact ⟨_,Y,r1⟩
theorem rR {x y:V} {us:List ET} (r:Vals [x,y] us):∃u w',us=[u,w']/\RelV x u/\RelV y w':=by
 cases r with
 | cons r1 r2 =>
  cases r2 with
  | cons r3 r4=>cases r4; exact ⟨_,_,Y,r1,r3⟩
theorem lY (hc:X.calm=true):cY X (.builtin "max") (λ xs H Q=>∃i j,xs=[.int i,.int j]/\Q (.int (if j > i then j else i)) H):=by
 intro pins s σ H xs us Q I r h;obtain ⟨i,j,rfl,q⟩:=h;obtain ⟨u,w',rfl,⟨t,rfl⟩,⟨t',rfl⟩⟩:=rR r;refine max_two_ints (I.ok.hd hc) λ h' tk k=>⟨_,H,I.kept k,?_,q⟩
 by_cases hj:j > i
 ·rw [if_pos hj,if_pos hj]; exact ⟨_,Y⟩
 ·rw [if_neg hj,if_neg hj]; exact ⟨_,Y⟩
theorem lZ (hc:X.calm=true):cY X (.builtin "min") (λ xs H Q=>∃i j,xs=[.int i,.int j]/\Q (.int (if j < i then j else i)) H):=by
 intro pins s σ H xs us Q I r h;obtain ⟨i,j,rfl,q⟩:=h;obtain ⟨u,w',rfl,⟨t,rfl⟩,⟨t',rfl⟩⟩:=rR r;refine min_two_ints (I.ok.hd hc) λ h' tk k=>⟨_,H,I.kept k,?_,q⟩
 by_cases hj:j < i
 ·rw [if_pos hj,if_pos hj]; exact ⟨_,Y⟩
 ·rw [if_neg hj,if_neg hj]; exact ⟨_,Y⟩
theorem cD:cY X (.type "int") (λ xs H Q=>(∃i,xs=[.int i]/\Q (.int i) H)\/∃k,xs=[.bl k]/\Q (.int (if k then 1 else 0)) H):=by
 intro pins s σ H xs us Q I r h;rcases h with ⟨i,rfl,q⟩ | ⟨k,rfl,q⟩
 ·obtain ⟨u,rfl,t,rfl⟩:=fX r;exact call_int_int ⟨.int i,H,I,⟨_,rfl⟩,q⟩
 ·obtain ⟨u,rfl,r1⟩:=fX r;cases r1;exact call_int_bool ⟨.int (if k then 1 else 0),H,I.tok _,⟨_,rfl⟩,q⟩
end
structure ObjM (h:Heap) (x dx C:Addr) (mA:Str->Option Value):Prop where
 obj:h.get? x=some (PySem.W.instObj C dx)
 ns:h.Ns1 dx mA
 ne:dx≠x
theorem ma {h:Heap} {dx:Addr} {mA:Str->Option ET} (n:h.Ns1 dx mA):∃od,h.get? dx=some od/\∀name,PySem.W.lookIn name od=some (mA name):=by
 obtain ⟨o,es,ep,ho,hd,hk,_,hm⟩:=n;refine ⟨o,ho,λ name=>?_⟩;have e:=hm name;unfold nsFind findBy at e;rw [<- Array.find?_toList] at e;unfold PySem.W.lookIn;rw [hd];dsimp only
 split
 ·rename_i y q
  rw [q] at e;exact congrArg some e
 ·rename_i q
  rw [q] at e;have a:es.toList.any (·.refKey)=false:=by rw [List.any_eq_false];intro y hy;obtain ⟨z,t,hkey⟩:=hk y (Array.mem_toList_iff.mp hy);simp [DictEntry.refKey,hkey]
  have a':¬ es.toList.any (·.refKey)=true:=by rw [a]; exact B2
  rw [if_neg a'];exact congrArg some e
theorem ObjM.look {h:Heap} {x dx C:Addr} {mA:Str->Option ET} (I:ObjM h x dx C mA):∃od,PySem.W.InstAt h x (PySem.W.instObj C dx) C (some od)/\∀name,PySem.W.lookIn name od=some (mA name) :=
 let ⟨od,ho,hl⟩:=ma I.ns
 ⟨od,⟨I.obj,rfl,rfl,ho⟩,hl⟩
section
variable {prog:EQ} {w:ES} {A:Around} {E:ET->EO->Prop} {s:EO} {K:C4} {x dx C f:Addr} {mA:Str->Option ET} {name:Str} {v:ET}
theorem qE {expr:Bool} {Q:ET->EO->Prop} (X:K.In s.heap) (I:ObjM s.heap x dx C mA) (hg:PySem.W.plainGet K C name=true) (hh:PySem.W.hasDictIn K C=true)
  (ha:PySem.W.findIn K (.ref C) name=some none) (hv:mA name=some v) (hv':PySem.W.handedIn v=true) (h:Q v { s with toks:=s.toks + 1 }) :
  wpAny (model prog w) A (getAttr (.ref x) name expr) Q E s:=by
 obtain ⟨od,J,hl⟩:=I.look;exact PySem.W.get_value X J (PySem.W.plainGet_of hg).1 (PySem.W.findObj_own hh ha rfl (by rw [hl,hv])) hv' h
theorem oh {pl:Sem Bool} {Q:ET×List ET->EO->Prop} (X:K.In s.heap) (I:ObjM s.heap x dx C mA) (hg:PySem.W.plainGet K C name=true)
  (hf:PySem.W.findIn K (.ref C) name=some (↑f)) (ht:PySem.W.isFn K (.ref f)=true) (hv:mA name=none) (h:Q (.ref f,[.ref x]) s) :
  wpAny (model prog w) A (getMethod (.ref x) name pl) Q E s:=by
 obtain ⟨od,J,hl⟩:=I.look;exact PySem.W.method_fn X J (PySem.W.plainGet_of hg).1 (PySem.W.plainGet_of hg).2 hf (C3.mp ht) (by show (PySem.W.lookIn name od).map (·.isSome)=some false; rw [hl,hv]; rfl) h
theorem qF {ns:List Str} {Q:Unit->EO->Prop} (X:K.In s.heap) (I:ObjM s.heap x dx C mA)
  (hs:PySem.W.findIn K (.ref C) "__setattr__" = some (some (.builtin "object.__setattr__"))) (hp:PySem.W.plainOver K C=true) (ht:PySem.W.takerIn K C name=some none) (hh:PySem.W.hasDictIn K C=true)
  (hw:PySem.Within mA ns) (hsz:ns.length<=sizeLine)
  (h:∀h',ObjM h' x dx C (λ y=>if y=name then some v else mA y)->Heap.SameBut dx s.heap h'->Q () { s with heap:=h',toks:=s.toks + 2 }) :
  wpAny (model prog w) A (setAttr (.ref x) name v) Q E s:=by
 obtain ⟨od,J,hl⟩:=I.look;refine PySem.W.set_plain X J hs (PySem.W.osa_open (s:={ s with toks:=s.toks + 1 }) (r:=none) X J hp ht λ b=>?_);obtain ⟨cd,hc,hd'⟩:=PySem.W.any_some hh;have hx:s.heap.get? x=some ⟨.ref C,some dx,.plain,#[]⟩:=I.obj;refine A0 (A1 (A0 (A0 (wpAny_loadPart hx (A0 (PySem.W.Looks.here (s:={ s with toks:=s.toks + 1 }) (PySem.W.looks_clsIn X hc) ?_))))));rw [hd'];refine A1 (a:=some dx) (A0 (A1 (A0 ?_)));refine wpAny_nsSet1 (s:={ s with toks:=s.toks + 1 }) I.ns λ h' hn2 hs2=>?_;obtain ⟨oD,esD,epD,hoD,hdD,hcD⟩:=hn2.count (PySem.Within.cons name v hw);refine A0 (wpAny_lookBehind hoD (by rw [hdD]; exact pastItsLine_dict (C5 hcD (by rw [List.length_cons]; omega))) ?_);exact A1 (h _ ⟨(hs2.2 _ (Ne.symm I.ne)).trans I.obj,hn2,I.ne⟩ hs2)
theorem oi {R:Result->EO->Prop} {vs:List ET} {kw:List (Str×ET)} (X:K.In s.heap) (hm:PySem.W.makesIn K C=true)
  (hi:PySem.W.findIn K (.ref C) "__init__" = some (↑f)) (hf:PySem.W.typeIn K (.ref f)=some (.type "function"))
  (h:codeAny (model prog w) (A.under (.builtin "type.__call__" ⟨.ref C :: vs,kw⟩)) (.call (.ref f) ⟨.ref (s.heap.objs.size + 1) :: vs,kw⟩) (PySem.W.InitBack (s.heap.objs.size + 1) R)
   { s with heap:=(s.heap.push PySem.W.emptyDict).push (PySem.W.instObj C s.heap.objs.size) }) :
  codeAny (model prog w) A (.call (.ref C) ⟨vs,kw⟩) R s:=by
 obtain ⟨hh,g,d,t,os⟩:=s;exact PySem.W.make_core (PySem.W.makes_of X hm) (PySem.W.looks_findIn X hi) (λ self=>PySem.W.bind_fn X self hf) (.inl rfl) h
end
def cq (f:Str) (v:V):List (Str×V)->List (Str×V)
 | []=>[(f,v)]
 | (g,x) :: r=>if g=f then (g,v) :: r else (g,x) :: cq f v r
theorem bh (f g:Str) (v:V):∀fs:List (Str×V),(cq f v fs).lookup g=if g=f then some v else fs.lookup g
 | []=>by
  show List.lookup g [(f,v)]=_
  by_cases h:g=f
  ·have hb:(g == f)=true:=C3.mpr h;simp only [List.lookup,hb,if_pos h]
  ·have hb:(g == f)=false:=beq_eq_false_iff_ne.mpr h;simp only [List.lookup,hb,if_neg h]
 | (k,x) :: r=>by
  have ih:=bh f g v r;rw [show cq f v ((k,x) :: r)=(if k=f then (k,v) :: r else (k,x) :: cq f v r) from rfl]
  by_cases hk:k=f
  ·rw [if_pos hk]
   by_cases h:g=k
   ·have hb:(g == k)=true:=C3.mpr h;simp only [List.lookup,hb,if_pos (h.trans hk)]
   ·have hb:(g == k)=false:=beq_eq_false_iff_ne.mpr h;simp only [List.lookup,hb,if_neg (λ e:g=f=>h (e.trans hk.symm))]
  ·rw [if_neg hk]
   by_cases h:g=k
   ·have hb:(g == k)=true:=C3.mpr h;simp only [List.lookup,hb,if_neg (λ e:g=f=>hk (h.symm.trans e))]
   ·have hb:(g == k)=false:=beq_eq_false_iff_ne.mpr h;simp only [List.lookup,hb];exact ih
theorem eX (f:Str) (v:V):∀fs:List (Str×V),f∈(cq f v fs).map (·.1)/\∀g,g∈fs.map (·.1)->g∈(cq f v fs).map (·.1)
 | []=>⟨by simp [cq],λ g h=>by simp at h⟩
 | (k,x) :: r=>by
  obtain ⟨i1,i2⟩:=eX f v r;rw [show cq f v ((k,x) :: r)=(if k=f then (k,v) :: r else (k,x) :: cq f v r) from rfl]
  by_cases hk:k=f
  ·rw [if_pos hk];subst hk;exact ⟨by simp,λ g h=>by simpa using h⟩
  ·rw [if_neg hk];refine ⟨?_,λ g h=>?_⟩
   ·rw [List.map_cons];exact B4 _ i1
   ·rw [List.map_cons] at h ⊢;rcases List.mem_cons.mp h with e | e
    ·exact List.mem_cons.mpr (.inl e)
    ·exact B4 _ (i2 g e)
theorem de (f:Str) (v:V):∀fs:List (Str×V),(cq f v fs).length<=fs.length + 1
 | []=>by simp [cq]
 | (k,x) :: r=>by
  have ih:=de f v r;rw [show cq f v ((k,x) :: r)=(if k=f then (k,v) :: r else (k,x) :: cq f v r) from rfl]
  by_cases hk:k=f
  ·rw [if_pos hk,List.length_cons,List.length_cons]; omega
  ·rw [if_neg hk,List.length_cons,List.length_cons]; omega
theorem RelO.some_of {v:V} {o:Option ET} (r:RelO (some v) o):∃u,o=some u/\RelV v u:=by
 cases o with
 | none=>exact (show False from r).elim
 | some u=>exact ⟨u,Y,r⟩
theorem RelO.none_of {o:Option ET} (r:RelO none o):o=none:=by
 cases o with
 | none=>rfl
 | some u=>exact (show False from r).elim
theorem md {v:V} {u:ET} (r:RelV v u):PySem.W.handedIn u=true:=by
 cases v with
 | non=>cases (show u=Value.none from r); rfl
 | bl b=>cases (show u=Value.bool b from r); rfl
 | int i=>obtain ⟨t,e⟩:=(show ∃t,u=Value.int i t from r); cases e; rfl
 | str x=>obtain ⟨t,e⟩:=(show ∃t,u=Value.str x t from r); cases e; rfl
 | byt b=>obtain ⟨t,e⟩:=(show ∃t,u=Value.bytes b t from r); cases e; rfl
 | flt b=>obtain ⟨t,e⟩:=(show ∃t,u=Value.float b t from r); cases e; rfl
 | ref a=>cases (show u=Value.ref a from r); rfl
 | ty n=>cases (show u=Value.type n from r); rfl
section
variable {P:EQ} {w:ES} {H H':Hp} {h h':Heap} {a C dx:Addr} {fs fs':List (Str×V)}
theorem eD (hok:HOk P w H h) (e:H a=some (.ins C dx fs)):∃mA,ObjM h a dx C mA/\(∀f,RelO (fs.lookup f) (mA f))/\PySem.Within mA (fs.map (·.1))/\fs.length<=1000/\H dx=some (.own a):=by
 obtain ⟨d,z,ne,ob,mA,n,r,q⟩:=(show ObjOk P w H h a (.ins C dx fs) from hok a _ e)
 exact ⟨mA,⟨ob,n,ne⟩,r,q,z,d⟩
end
structure Cls (K:C4) (C:Addr):Prop where
 pg:PySem.W.plainGet K C Str.empty=true
 hd:PySem.W.hasDictIn K C=true
 po:PySem.W.plainOver K C=true
 sa:PySem.W.findIn K (.ref C) "__setattr__" = some (some (.builtin "object.__setattr__"))
theorem Cls.get {K:C4} {C:Addr} (c:Cls K C) (f:Str):PySem.W.plainGet K C f=true:=c.pg
def NoAttr (K:C4) (C:Addr) (f:Str):Prop:=PySem.W.findIn K (.ref C) f=some none
theorem NoAttr.taker {K:C4} {C:Addr} {f:Str} (n:NoAttr K C f):PySem.W.takerIn K C f=some none:=by
 unfold PySem.W.takerIn;rw [show PySem.W.findIn K (.ref C) f=some none from n]
 rfl
structure Con (K:C4) (C:Addr) (f:Str) (v:V) (u:Value):Prop where
 at_:PySem.W.findIn K (.ref C) f=some (some u)
 rel:RelV v u
 get:PySem.W.specialIn K u "__get__" = some none
 cp:PySem.W.copiedNames.contains f=false
structure Meth (K:C4) (C:Addr) (m:Str) (f:Addr):Prop where
 at_:PySem.W.findIn K (.ref C) m=some (↑f)
 fn:PySem.W.isFn K (.ref f)=true
 kp:PySem.W.keepIn K (.ref f)=true
section
variable {X:Cx} {pins:List (Addr×Obj)} {σ:St} {H:Hp} {s:EO} {a C dx:Addr} {fs:List (Str×V)} {f:Str} {v:V} {A:Around} {E:ET->EO->Prop}
theorem jJ {b:Bool} {Q:ET->EO->Prop} (I:Inv X pins σ H s) (e:H a=some (.ins C dx fs)) (c:Cls X.K C) (n:NoAttr X.K C f) (l:fs.lookup f=some v)
  (h:∀u s',Inv X pins σ H s'->RelV v u->Q u s'):wpAny (model X.prog X.w) A (getAttr (.ref a) f b) Q E s:=by
 obtain ⟨mA,O,r,_,_,_⟩:=eD I.hok e;obtain ⟨u,hu,ru⟩:=RelO.some_of (v:=v) (o:=mA f) (by rw [<- l]; exact r f);exact qE I.kIn O (c.get f) c.hd n hu (md ru) (h u _ (I.tok _) ru)
theorem eh {m:Str} {g:Addr} {pl:Sem Bool} {Q:ET×List ET->EO->Prop} (I:Inv X pins σ H s) (e:H a=some (.ins C dx fs)) (c:Cls X.K C) (k:Meth X.K C m g) (l:fs.lookup m=none)
  (h:Q (.ref g,[.ref a]) s):wpAny (model X.prog X.w) A (getMethod (.ref a) m pl) Q E s:=by
 obtain ⟨mA,O,r,_,_,_⟩:=eD I.hok e;have hn:mA m=none:=RelO.none_of (by rw [<- l]; exact r m);exact oh I.kIn O (c.get m) k.at_ k.fn hn h
theorem jK {y:V} {u:ET} {Q:Unit->EO->Prop} (I:Inv X pins σ H s) (e:H a=some (.ins C dx fs)) (c:Cls X.K C) (n:NoAttr X.K C f) (hl:fs.length < 1000) (ry:RelV y u)
  (h:∀s',Inv X pins σ (upd H a (.ins C dx (cq f y fs))) s'->Q () s'):wpAny (model X.prog X.w) A (setAttr (.ref a) f u) Q E s:=by
 obtain ⟨mA,O,r,wi,_,ho⟩:=eD I.hok e;have hz:(fs.map (·.1)).length<=sizeLine:=by rw [List.length_map,sizeLine_eq]; omega
 refine qF I.kIn O c.sa c.po n.taker c.hd wi hz λ h' O' sb=>h _ ?_;have hd:∃o,h'.get? dx=some o:=let ⟨o,_,_,e',_⟩:=O'.ns; ⟨o,e'⟩
 refine I.write (x:=a) (e:=dx) (by rw [e]; exact True.intro) (.inr ho) (λ b q hb z=>(sb.2 b hb).trans z) hd ?_;refine ⟨by rw [aj O.ne]; exact ho,?_,O.ne,O'.obj,_,O'.ns,λ g=>?_,λ g hg=>?_⟩
 ·have:=de f y fs; omega
 ·show RelO ((cq f y fs).lookup g) (if g=f then some u else mA g);rw [bh]
  by_cases q:g=f
  ·rw [if_pos q,if_pos q]; exact ry
  ·rw [if_neg q,if_neg q]; exact r g
 ·by_cases q:g=f
  ·rw [q]; exact (eX f y fs).1
  ·refine (eX f y fs).2 g (wi g λ z=>hg ?_);show (if g=f then some u else mA g)=none;rw [if_neg q]; exact z
theorem Inv.made (I:Inv X pins σ H s):Inv X pins σ (upd (upd H s.heap.objs.size (.own (s.heap.objs.size + 1))) (s.heap.objs.size + 1) (.ins C s.heap.objs.size []))
  { s with heap:=(s.heap.push PySem.W.emptyDict).push (PySem.W.instObj C s.heap.objs.size) }:=by
 have e1:(s.heap.push PySem.W.emptyDict).get? s.heap.objs.size=some PySem.W.emptyDict:=A8 s.heap rfl;have e2:((s.heap.push PySem.W.emptyDict).push (PySem.W.instObj C s.heap.objs.size)).get? (s.heap.objs.size + 1)=some (PySem.W.instObj C s.heap.objs.size):=by have:=A8 (s.heap.push PySem.W.emptyDict) (o:=PySem.W.instObj C s.heap.objs.size) rfl;rwa [Heap.size_push] at this
 have e3:(s.heap.push PySem.W.emptyDict).Ns s.heap.objs.size (λ _=>none):=⟨PySem.W.emptyDict,#[],_,e1,Y,(λ e he=>absurd he (by simp)),λ _=>rfl⟩
 have I1:=I.laid (a:=s.heap.objs.size) (o:=.own (s.heap.objs.size + 1)) (h':=s.heap.push PySem.W.emptyDict) (t':=s.toks) (λ b u q=>A7 _ q) (B3 _) ⟨_,e1⟩;refine I1.laid (a:=s.heap.objs.size + 1) (o:=.ins C s.heap.objs.size []) (t':=s.toks) (λ b u q=>A7 _ q) (Nat.le_of_eq (Heap.size_push _ _)) ?_;have ne:s.heap.objs.size≠s.heap.objs.size + 1:=B9 (EI _);refine ⟨by rw [aj ne,af],EH _,ne,e2,λ _=>none,(Heap.Ns1.of_empty e3).at λ o q=>A7 _ q,λ _=>True.intro,λ y hy=>absurd rfl hy⟩
theorem qG {prog:EQ} {w:ES} {env:Env} {e:Expr} {f:Str} {pos:Pos} {s:EO} {Q:ET->EO->Prop} (hb:attributeBase e f env (eval e env)=eval e env)
  (h:wpAny (model prog w) A (eval e env) (λ o s₁=>wpAny (model prog w) A (getAttr o f true) Q E s₁) E s):wpAny (model prog w) A (eval (.Attribute e f pos) env) Q E s :=
 Attribute_any_ h (by rw [arm_eval_Attribute,hb])
end
def BE (K:C4) (ta:TE) (f:Str):TE:=λ σ H Q=>ta σ H λ x H1=>∃a C dx fs v,x=.ref a/\H1 a=some (.ins C dx fs)/\Cls K C/\NoAttr K C f/\fs.lookup f=some v/\Q v H1
def vG (K:C4) (ta tv:TE) (f:Str):TS:=λ D σ H=>tv σ H λ y H1=>ta σ H1 λ x H2=>∃a C dx fs,x=.ref a/\H2 a=some (.ins C dx fs)/\Cls K C/\NoAttr K C f/\fs.length < 1000 /\
 D.nx σ (upd H2 a (.ins C dx (cq f y fs)))
section
variable {X:Cx} {o e value:Expr} {f:Str} {pos pos' tpos:Pos} {ta tv:TE}
theorem fY (he:PE X e ta) (hb:attributeBase e f X.env (eval e X.env)=eval e X.env):PE X (.Attribute e f pos) (BE X.K ta f):=by intro pins s σ H Q I h;refine qG hb (thn (he pins s σ H _ I h) λ u s1 ⟨x,H1,I1,rx,a,C,dx,fs,v,ex,ea,c,n,l,q⟩=>?_);subst ex;obtain rfl:u=Value.ref a:=rx;exact jJ I1 ea c n l λ u' s2 I2 ru=>⟨v,H1,I2,ru,q⟩
theorem oj (ha:PE X o ta) (hv:PE X value tv) (hs:swapsWith value (some (.Attribute o f pos')) pos.line X.env=pure false):PS X (.Assign [.Attribute o f pos'] value pos) (vG X.K ta tv f):=by intro pins s σ H D I h;refine plainObj_wpAny_Assign_Attribute (thn (hv pins s σ H _ I h) λ u s1 ⟨y,H1,I1,ry,q⟩=>thn (ha pins s1 σ H1 _ I1 q) λ ov s2 ⟨x,H2,I2,rx,a,C,dx,fs,ex,ea,c,n,l,q2⟩=>?_) hs;subst ex;obtain rfl:ov=Value.ref a:=rx;exact jK I2 ea c n l ry λ s3 I3=>⟨σ,_,I3,q2⟩
theorem rS {pl:Sem Bool} {m:Str} {apos:Pos} {args:List Expr} {pins:List (Addr×Obj)} {s:EO} {σ:St} {H:Hp} {Q:ET->EO->Prop} {te:TE} (he:PE X e te) (I:Inv X pins σ H s)
  (h:te σ H λ x H1=>∃a C dx fs g,x=.ref a/\H1 a=some (.ins C dx fs)/\Cls X.K C/\Meth X.K C m g/\fs.lookup m=none /\
   ∀s1,Inv X pins σ H1 s1->wpAny (model X.prog X.w) X.A (callWith pos (.ref g) [.ref a] (backTo pos (starEach args X.env)) (backToKw pos (keywordEach [] X.env))) Q X.xe s1)
  (ht:eval (.Call (.Attribute e m apos) args [] pos) X.env=(do
   let ov<-eval e X.env
   standAt apos.atName
   let (f,first)<-holding [ov] (getMethod ov m pl)
   callWith pos f first (backTo pos (starEach args X.env)) (backToKw pos (keywordEach [] X.env)))) :
  wpAny (model X.prog X.w) X.A (eval (.Call (.Attribute e m apos) args [] pos) X.env) Q X.xe s:=by
 refine PySem.W.methodCall_KW (pl:=pl) (thn (he pins s σ H _ I h) λ u s1 ⟨x,H1,I1,rx,a,C,dx,fs,g,ex,ea,c,k,l,q⟩=>?_) ht;subst ex;obtain rfl:u=Value.ref a:=rx;exact eh I1 ea c k l (q s1 I1)
end
section
variable {X:Cx} {pins:List (Addr×Obj)} {σ:St} {H:Hp} {s:EO} {A:Around} {E:ET->EO->Prop} {Q:ET->EO->Prop} {c:ET} {b:Bool}
inductive TyOf (K:C4) (H:Hp):V->Value->Prop where
 | non:TyOf K H .non (.type "NoneType")
 | bl (x:Bool):TyOf K H (.bl x) (.type "bool")
 | int (i:Int):TyOf K H (.int i) (.type "int")
 | str (x:Str):TyOf K H (.str x) (.type "str")
 | flt (x:UInt64):TyOf K H (.flt x) (.type "float")
 | lst {a:Addr} {xs:List V} (e:H a=↥xs):TyOf K H (.ref a) (.type "list")
 | frz {a:Addr} {o:Obj} {xs:List V} (e:H a=some (.frz o (.lst xs))):TyOf K H (.ref a) (.type "list")
 | tup {a:Addr} {xs:List V} (e:H a= ~~~xs):TyOf K H (.ref a) (.type "tuple")
 | dK {a:Addr} {kvs:List (Key×V)} (e:H a=some (.dK kvs)):TyOf K H (.ref a) (.type "dict")
 | dT {a:Addr} {kvs:List (List Key×V)} (e:H a=some (.dT kvs)):TyOf K H (.ref a) (.type "dict")
 | ext {a:Addr} {φ:Heap->Prop} (e:H a=some (.ext φ)) (c:∀h,φ h->∃o,h.get? a=some o/\o.cls=.type "dict"):TyOf K H (.ref a) (.type "dict")
 | ins {a C dx:Addr} {fs:List (Str×V)} (e:H a=some (.ins C dx fs)) (cl:Cls K C) (ha:PySem.W.findIn K (.ref C) "__class__" = some (some (.builtin "object.__class__")))
   (hn:PySem.W.specialIn K (.builtin "object.__class__") "__get__" = some (some (.builtin "getset_descriptor.__get__"))) (htk:PySem.W.takesIn K (.builtin "object.__class__")=some true)
   (hm:PySem.W.mroIn K C (.type "object")=some true):TyOf K H (.ref a) (.ref C)
theorem me {x:V} {u t:ET} (I:Inv X pins σ H s) (rx:RelV x u) (ty:TyOf X.K H x t) (e:PySem.W.kitOne X.K t c=some b) (h:∀tk,Q (.bool b) { s with toks:=tk }) :
  wpAny (model X.prog X.w) A (call (.builtin "isinstance") [u,c]) Q E s:=by
 cases ty with
 | non=>cases (show u=Value.none from rx); exact PySem.W.kia_one PySem.W.kitx_none I.kIn True.intro e (λ z=>nomatch z) h
 | bl y=>cases (show u=Value.bool y from rx); exact PySem.W.kia_one PySem.W.kitx_bool I.kIn True.intro e (λ z=>nomatch z) h
 | int i=>obtain ⟨t,q⟩:=(show ∃t,u=Value.int i t from rx); cases q; exact PySem.W.kia_one PySem.W.kitx_int I.kIn True.intro e (λ z=>nomatch z) h
 | str y=>obtain ⟨t,q⟩:=(show ∃t,u=Value.str y t from rx); cases q; exact PySem.W.kia_one PySem.W.kitx_str I.kIn True.intro e (λ z=>nomatch z) h
 | flt y=>obtain ⟨t,q⟩:=(show ∃t,u=Value.float y t from rx); cases q; exact PySem.W.kia_one PySem.W.kitx_float I.kIn True.intro e (λ z=>nomatch z) h
 | @lst a xs ea =>
  cases (show u=Value.ref a from rx);obtain ⟨_,_,n,_,h1⟩:=(show ObjOk X.prog X.w H s.heap a (.lst xs) from I.hok a _ ea)
  exact PySem.W.kia_one PySem.W.kitx_list I.kIn ⟨_,h1,Y⟩ e (λ z=>nomatch z) h
 | @frz a ob xs ea =>
  cases (show u=Value.ref a from rx);obtain ⟨_,_,_,n,_,h1⟩:=(show ObjOk X.prog X.w H s.heap a (.frz ob (.lst xs)) from I.hok a _ ea)
  exact PySem.W.kia_one PySem.W.kitx_list I.kIn ⟨_,h1,Y⟩ e (λ z=>nomatch z) h
 | @tup a xs ea =>
  cases (show u=Value.ref a from rx);obtain ⟨_,_,_,p⟩:=(show ObjOk X.prog X.w H s.heap a (.tup xs) from I.hok a _ ea)
  obtain ⟨o,h1,h2,_⟩:=p;exact PySem.W.kia_one PySem.W.kitx_tuple I.kIn ⟨o,h1,h2⟩ e (λ z=>nomatch z) h
 | @dK a kvs ea =>
  cases (show u=Value.ref a from rx);obtain ⟨_,_,vs,_,p⟩:=(show ObjOk X.prog X.w H s.heap a (.dK kvs) from I.hok a _ ea)
  obtain ⟨o,es,ep,h1,h2,_⟩:=p;exact PySem.W.kia_one PySem.W.kitx_dict I.kIn ⟨o,h1,h2.1⟩ e (λ z=>nomatch z) h
 | @dT a kvs ea =>
  cases (show u=Value.ref a from rx);obtain ⟨_,_,xs,_,o,es,ep,h1,h2,_⟩:=(show ObjOk X.prog X.w H s.heap a (.dT kvs) from I.hok a _ ea)
  exact PySem.W.kia_one PySem.W.kitx_dict I.kIn ⟨o,h1,h2.1⟩ e (λ z=>nomatch z) h
 | @ext a φ ea c =>
  cases (show u=Value.ref a from rx);obtain ⟨p,_,_⟩:=(show ObjOk X.prog X.w H s.heap a (.ext φ) from I.hok a _ ea)
  obtain ⟨o,h1,h2⟩:=c _ p;exact PySem.W.kia_one PySem.W.kitx_dict I.kIn ⟨o,h1,h2⟩ e (λ z=>nomatch z) h
 | @ins a C dx fs ea cl ha hn htk hm =>
  cases (show u=Value.ref a from rx);obtain ⟨mA,O,_⟩:=eD I.hok ea;obtain ⟨od,J,_⟩:=O.look;exact PySem.W.kia_one (PySem.W.kitx_own (cl.get _) cl.hd ha hn htk hm) I.kIn J e (λ z=>nomatch z) h
end
structure Room (k:Nat) (A:Around):Prop where
 hd:A.handled=none
 dp:A.depth + 3 * k + 5 < recursionLimit
 un:A.units + 16 * k + 200 < cLine
 gd:A.guards=some []
theorem Room.mono {j k:Nat} {A:Around} (r:Room k A) (h:j<=k):Room j A:=⟨r.hd,by have:=r.dp; omega,by have:=r.un; omega,r.gd⟩
theorem Room.deeper {k:Nat} {A:Around} (r:Room (k + 1) A) (env:Env):Room k (A.deeper env) :=
 ⟨r.hd,by have:=r.dp; show A.depth + 1 + 3 * k + 5 < _; omega,by have:=r.un; show A.units + 3 + 16 * k + 200 < _; omega,r.gd⟩
theorem jL {A:Around} {C:Addr} {us:List ET} {kw:List (Str×ET)}:(A.under (.builtin "type.__call__" ⟨.ref C :: us,kw⟩)).depth=A.depth + 1:=by first | rfl | simp [Around.under,Code.weight,Code.isCreation,Code.isGuard,Code.isCaller,Code.frames,Code.isFrame,guardIds]
theorem jM {A:Around} {C:Addr} {us:List ET} {kw:List (Str×ET)}:(A.under (.builtin "type.__call__" ⟨.ref C :: us,kw⟩)).units=A.units + 1:=by first | rfl | simp [Around.under,Code.cUnits,Code.frames,Code.isFrame]
theorem iZ {A:Around} {C:Addr} {us:List ET} {kw:List (Str×ET)}:(A.under (.builtin "type.__call__" ⟨.ref C :: us,kw⟩)).guards=A.guards:=by
 have e:Code.guards (.builtin "type.__call__" ⟨.ref C :: us,kw⟩)=[]:=by
  have:(Code.builtin "type.__call__" ⟨.ref C :: us,kw⟩).isGuard=false:=by show guardIds.contains "type.__call__" = false; decide +kernel
  simp [Code.guards,this]
 unfold Around.under;dsimp only;rw [e]
 rfl
theorem Room.make {k:Nat} {A:Around} (r:Room (k + 1) A) (C:Addr) (us:List ET) (kw:List (Str×ET)):Room k (A.under (.builtin "type.__call__" ⟨.ref C :: us,kw⟩)) :=
 ⟨r.hd,by have:=r.dp; rw [jL]; omega,by have:=r.un; rw [jM]; omega,by rw [iZ]; exact r.gd⟩
theorem Room.depth {k:Nat} {A:Around} (r:Room k A):A.depth < recursionLimit:=by have:=r.dp; omega
theorem Room.units {k:Nat} {A:Around} (r:Room k A):A.units + 64 < cLine:=by have:=r.un; omega
def om:TA:=λ _ H Q=>Q [] H
def oq (ta:TE) (tr:TA):TA:=λ σ H Q=>ta σ H λ x H1=>tr σ H1 λ xs H2=>Q (x :: xs) H2
section
variable {X:Cx} {e:Expr} {es:List Expr} {te:TE} {t:TA} {pos:Pos}
theorem ab:PA X [] om:=λ _ _ _ _ H Q I h=>Calls.spliced_nil ⟨[],H,I,.nil,h⟩
theorem aa (ha:PE X e te) (hr:PA X es t) (hs:starEach (e :: es) X.env=(false,eval e X.env) :: starEach es X.env:=by rfl):PA X (e :: es) (oq te t):=by intro pos pins s σ H Q I h;rw [hs];show wpAny _ _ (spliced ((false,eval e X.env) :: backTo pos (starEach es X.env))) _ _ s;refine Calls.spliced_cons (thn (ha pins s σ H _ I h) λ u s1 ⟨x,H1,I1,r1,q1⟩=>?_);exact thn (hr pos pins s1 σ H1 _ I1 q1) λ us s2 ⟨xs,H2,I2,r2,q2⟩=>⟨x :: xs,H2,I2,.cons r1 r2,q2⟩
def vH (t:TA):TE:=λ σ H Q=>t σ H λ xs H1=>xs.length<=sizeLine/\∀p,H1 p=none->Q (.ref p) (upd H1 p (.tup xs))
def BF (t:TA):TE:=λ σ H Q=>t σ H λ xs H1=>xs.length<=sizeLine/\∀p,H1 p=none->Q (.ref p) (upd H1 p (.lst xs))
theorem ay {x1} (h:PA X es t):PE X (.Tuple es x1 pos) (vH t):=by intro pins s σ H Q I hq;refine wpAny_Tuple_spliced (thn (h pos pins s σ H _ I hq) λ us s1 ⟨xs,H1,I1,r,z,q⟩=>⟨by rw [<- r.length]; exact z,?_⟩);have hf:H1 s1.heap.objs.size=none:=I1.hok.fresh (B3 _);refine ⟨.ref s1.heap.objs.size,upd H1 s1.heap.objs.size (.tup xs),I1.laid (t':=s1.toks) (λ b u e=>A7 _ e) (B3 _) ?_,Y,q _ hf⟩;exact ⟨z,us,r,⟨_,A8 _ rfl,Y,_,Y⟩⟩
theorem br (h:PA X es t):PE X (.List es pos) (BF t):=by intro pins s σ H Q I hq;refine wpAny_List_spliced (thn (h pos pins s σ H _ I hq) λ us s1 ⟨xs,H1,I1,r,z,q⟩=>⟨by rw [<- r.length]; exact z,?_⟩);have hf:H1 s1.heap.objs.size=none:=I1.hok.fresh (B3 _);refine ⟨.ref s1.heap.objs.size,upd H1 s1.heap.objs.size (.lst xs),I1.laid (t':=s1.toks) (λ b u e=>A7 _ e) (B3 _) ?_,Y,q _ hf⟩;exact ⟨z,us,0,r,A8 _ rfl⟩
end
abbrev Sp:=List V->Hp->VK->XK->Prop
abbrev CXT:=List Env->Hp->EO->XK->ET->EO->Prop
structure Env0 (P:Program) (w:World) (K:C4) (mg:Str->Option Value) (base:Heap) (A:Around) (outer:List Env) (s:Shared) (H:Hp):Prop where
 frames:A.frames=some outer
 mod:Mod K mg base
 bs:∀b o,base.get? b=some o->s.heap.get? b=some o/\H b=none
 bsz:base.objs.size<=s.heap.objs.size
 funs:s.heap.FunFrames base outer
 frf:∀b∈frs outer,H b=none
 hok:HOk P w H s.heap
 bare:AllBare s.gens
def CE (outer:List Env) (P:EQ) (w:ES) (H:Hp) (s:EO) (Q:VK) (u:ET) (s':EO):Prop :=
 ∃v H',s'.os=s.os/\AllBare s'.gens/\Un (frs outer) [] H H' s.heap s'.heap/\HOk P w H' s'.heap/\RelV v u/\Q v H'
def CR (CX:CXT) (outer:List Env) (P:EQ) (w:ES) (H:Hp) (s:EO) (Q:VK) (E:XK) (r:Result) (s':EO):Prop :=
 match r with
 | .ok (.ret u)=>CE outer P w H s Q u s'
 | .ok _=>False
 | .error e=>CX outer H s E e s'
structure FnOk (P:Program) (w:World) (K:C4) (mg:Str->Option Value) (base:Heap) (CX:CXT) (k:Nat) (f:Addr) (fd:FuncData) (ps:List Str) (sp:Sp):Prop where
 len:∀vs H Q E,sp vs H Q E->vs.length=ps.length
 run:∀ (A:Around) (outer:List Env) (s:EO) (H:Hp) (args:Args) (us:List ET) (vs:List V) (Q:VK) (E:XK),Room k A->Env0 P w K mg base A outer s H->BindsTo s fd args (ps.zip us)->Vals vs us->sp vs H Q E ->
  codeAny (model P w) A (.call (.ref f) args) (CR CX outer P w H s Q E) s
theorem Env0.make {P:EQ} {w:ES} {K:C4} {mg:Str->Option ET} {base:Heap} {A:Around} {outer:List Env} {s:EO} {H:Hp} (e:Env0 P w K mg base A outer s H) (C:Addr) (us:List ET) (kw:List (Str×ET)) :
  Env0 P w K mg base (A.under (.builtin "type.__call__" ⟨.ref C :: us,kw⟩)) outer s H:=⟨by first | exact e.frames | (simpa [Around.under,Code.envs,Code.isFrame,pushEnvs] using e.frames),e.mod,e.bs,e.bsz,e.funs,e.frf,e.hok,e.bare⟩
section
variable {X:Cx} {pins:List (Addr×Obj)} {σ:St} {H:Hp} {s s':EO}
theorem Inv.env0 (I:Inv X pins σ H s):Env0 X.prog X.w X.K X.mg X.base X.A X.stack s H :=
 ⟨I.ok.frames,I.ok.mod,I.bs,C5 I.ok.bsz I.sz,I.stack,I.stkFree,I.hok,I.bare⟩
theorem Inv.after {Q:VK} {u:ET} (I:Inv X pins σ H s) (h:CE X.stack X.prog X.w H s Q u s'):EP X pins σ Q u s':=by obtain ⟨v,H',os,bare,un,hok,r,q⟩:=h;obtain ⟨hh,g,d,t,os'⟩:=s';obtain rfl:os'=s.os:=os;exact ⟨v,H',I.call (h':=hh) (g':=g) (d':=d) (t':=t) (ch:=[]) un hok bare (λ b z=>absurd z (by simp)),r,q⟩
end
def rT (sp:Sp) (dvs:List V) (E:XK) (t:TA):TE:=λ σ H Q=>t σ H λ vs H1=>sp (vs ++ dvs) H1 Q E
def lc (C:Addr) (m:Str) (sp:Sp) (dvs:List V) (E:XK) (ta:TE) (t:TA):TE:=λ σ H Q=>ta σ H λ x H1=>∃a dx fs,x=.ref a/\H1 a=some (.ins C dx fs)/\fs.lookup m=none /\
 t σ H1 λ vs H2=>sp (x :: (vs ++ dvs)) H2 Q E
def rU (C:Addr) (sp:Sp) (dvs:List V) (E:XK) (t:TA):TE:=λ σ H Q=>t σ H λ vs H1=>∀x dx,H1 x=none->H1 dx=none->dx≠x ->
 sp (.ref x :: (vs ++ dvs)) (upd (upd H1 dx (.own x)) x (.ins C dx [])) (λ v H2=>v=.non/\Q (.ref x) H2) E
def Binds (K:C4) (fd:ER) (ps:List Str) (ds:List ET):Prop :=
 ∀ (s:EO) (us:List ET),K.In s.heap->(us ++ ds).length=ps.length->BindsTo s fd ⟨us,[]⟩ (ps.zip (us ++ ds))
theorem Binds.all {K:C4} {fd:ER} {ps:List Str} (h:∀us:List ET,us.length=ps.length->bindArgs fd ⟨us,[]⟩=pure (ps.zip us)):Binds K fd ps []:=λ s us _ hl=>by rw [List.append_nil] at hl ⊢;exact .of_eq (h us hl)
def el (CX:CXT) (X:Cx) (E:XK):Prop:=∀ (pins:List (Addr×Obj)) (σ:St) (H:Hp) (s:EO) (e:ET) (s':EO),Inv X pins σ H s->CX X.stack H s E e s'->X.xe e s'
section
variable {X:Cx} {CX:CXT} {k:Nat} {f C:Addr} {fd:ER} {ps:List Str} {sp:Sp} {dvs:List V} {ds:List ET} {E:XK} {x m:Str} {p pos apos:Pos} {e o:Expr} {es:List Expr} {ta:TE} {t:TA}
theorem jN {pins:List (Addr×Obj)} {σ:St} {H:Hp} {s:EO} {Q:VK} {us:List ET} {vs:List V} (F:FnOk X.prog X.w X.K X.mg X.base CX k f fd ps sp) (hr:Room k X.A) (hb:Binds X.K fd ps ds) (hd:Vals dvs ds) (hx:el CX X E)
  (I:Inv X pins σ H s) (r:Vals vs us) (h:sp (vs ++ dvs) H Q E):wpAny (model X.prog X.w) X.A (call (.ref f) us) (EP X pins σ Q) X.xe s:=by
 have r2:Vals (vs ++ dvs) (us ++ ds):=r.append hd;have hl:(us ++ ds).length=ps.length:=by rw [<- r2.length]; exact F.len _ _ _ _ h
 refine wpAny_call (codeAny_mono (F.run X.A X.stack s H ⟨us,[]⟩ (us ++ ds) (vs ++ dvs) Q E hr I.env0 (hb s us I.kIn hl) r2 h) λ r s' hq=>?_);cases r with
 | error e=>exact hx pins σ H s e s' I hq
 | ok fl =>
  cases fl with
  | ret u=>exact I.after hq
  | next=>exact EG hq
  | brk=>exact EG hq
  | cont=>exact EG hq
theorem qH (F:FnOk X.prog X.w X.K X.mg X.base CX k f fd ps sp) (hr:Room k X.A) (hg:Gl X x) (hm:X.mg x=↑f) (hk:PySem.W.keepIn X.K (.ref f)=true) (hb:Binds X.K fd ps ds) (hd:Vals dvs ds) (hx:el CX X E)
  (ha:PA X (e :: es) t) (hdb:(x == ("__debug__" : Str))=false:=by decide) (he:starEach (e :: es) X.env=(false,eval e X.env) :: starEach es X.env:=by rfl) (hpl:(backTo pos (starEach es X.env)).any (·.1)=false:=by rfl) :
  PE X (.Call (.Name x p) (e :: es) [] pos) (rT sp dvs E t):=by
 intro pins s σ H Q I h;refine wpAny_Call_Name_kw (iw I hg hm ?_ hdb);refine PySem.W.callWith_K (h₀:=X.base) I.ok.mod.kin hk (thn (ha pos pins s σ H _ I h) λ us s1 ⟨vs,H1,I1,r,q⟩=>⟨I1.kIn,?_⟩) he hpl;exact jN F hr hb hd hx I1 r q
theorem qI {pl:Sem Bool} (he:PE X o ta) (c:Cls X.K C) (hm:Meth X.K C m f) (F:FnOk X.prog X.w X.K X.mg X.base CX k f fd ps sp) (hr:Room k X.A) (hb:Binds X.K fd ps ds) (hd:Vals dvs ds) (hx:el CX X E) (ha:PA X (e :: es) t)
  (hst:starEach (e :: es) X.env=(false,eval e X.env) :: starEach es X.env:=by rfl) (hpl:(backTo pos (starEach es X.env)).any (·.1)=false:=by rfl)
  (ht:eval (.Call (.Attribute o m apos) (e :: es) [] pos) X.env=(do
   let ov<-eval o X.env
   standAt apos.atName
   let (f,first)<-holding [ov] (getMethod ov m pl)
   callWith pos f first (backTo pos (starEach (e :: es) X.env)) (backToKw pos (keywordEach [] X.env))):=by rfl) :
  PE X (.Call (.Attribute o m apos) (e :: es) [] pos) (lc C m sp dvs E ta t):=by
 intro pins s σ H Q I h;refine PySem.W.methodCall_KW (pl:=pl) (thn (he pins s σ H _ I h) λ u s1 ⟨x,H1,I1,rx,a,dx,fs,ex,ea,l,q⟩=>?_) ht;subst ex;obtain rfl:u=Value.ref a:=rx;refine eh I1 ea c hm l ?_;refine PySem.W.callWith_K (first:=[.ref a]) (h₀:=X.base) I.ok.mod.kin hm.kp (thn (ha pos pins s1 σ H1 _ I1 q) λ us s2 ⟨vs,H2,I2,r,q2⟩=>⟨I2.kIn,?_⟩) hst hpl;exact jN (us:=.ref a :: us) (vs:=.ref a :: vs) F hr hb hd hx I2 (.cons rfl r) q2
theorem ot {pl:Sem Bool} (he:PE X o ta) (c:Cls X.K C) (hm:Meth X.K C m f) (F:FnOk X.prog X.w X.K X.mg X.base CX k f fd ps sp) (hr:Room k X.A) (hb:Binds X.K fd ps ds) (hd:Vals dvs ds) (hx:el CX X E)
  (ht:eval (.Call (.Attribute o m apos) [] [] pos) X.env=(do
   let ov<-eval o X.env
   standAt apos.atName
   let (f,first)<-holding [ov] (getMethod ov m pl)
   callWith pos f first (backTo pos (starEach [] X.env)) (backToKw pos (keywordEach [] X.env))):=by rfl) :
  PE X (.Call (.Attribute o m apos) [] [] pos) (lc C m sp dvs E ta om):=by
 intro pins s σ H Q I h;refine PySem.W.methodCall_KW (pl:=pl) (thn (he pins s σ H _ I h) λ u s1 ⟨x,H1,I1,rx,a,dx,fs,ex,ea,l,q⟩=>?_) ht;subst ex;obtain rfl:u=Value.ref a:=rx;refine eh I1 ea c hm l ?_;exact PySem.W.callWith_K0 (first:=[.ref a]) I1.kIn hm.kp (jN (us:=[.ref a]) (vs:=[.ref a]) F hr hb hd hx I1 (.cons rfl .nil) q)
structure Mk (K:C4) (C f:Addr):Prop where
 makes:PySem.W.makesIn K C=true
 init:PySem.W.findIn K (.ref C) "__init__" = some (↑f)
 fn:PySem.W.isFn K (.ref f)=true
 kp:PySem.W.keepIn K (.ref C)=true
theorem ou {pins:List (Addr×Obj)} {σ:St} {H:Hp} {s:EO} {Q:VK} {us:List ET} {vs:List V} (M:Mk X.K C f) (F:FnOk X.prog X.w X.K X.mg X.base CX k f fd ps sp) (hr:Room (k + 1) X.A) (hb:Binds X.K fd ps ds) (hd:Vals dvs ds)
  (hx:el CX X E) (I:Inv X pins σ H s) (r:Vals vs us)
  (h:∀x dx,H x=none->H dx=none->dx≠x->sp (.ref x :: (vs ++ dvs)) (upd (upd H dx (.own x)) x (.ins C dx [])) (λ v H2=>v=.non/\Q (.ref x) H2) E) :
  wpAny (model X.prog X.w) X.A (call (.ref C) us) (EP X pins σ Q) X.xe s:=by
 have hq:=h (s.heap.objs.size + 1) s.heap.objs.size (I.hok.fresh (Nat.le_succ _)) (I.hok.fresh (B3 _)) (B9 (EI _));have I2:=Inv.made (C:=C) I;have r2:Vals (V.ref (s.heap.objs.size + 1) :: (vs ++ dvs)) (Value.ref (s.heap.objs.size + 1) :: (us ++ ds)):=.cons rfl (r.append hd);have hl:(Value.ref (s.heap.objs.size + 1) :: us ++ ds).length=ps.length:=by have e:=r2.length;rw [F.len _ _ _ _ hq] at e;exact e.symm
 refine wpAny_call (oi (f:=f) I.kIn M.makes M.init (C3.mp M.fn) (codeAny_mono (F.run _ X.stack _ _ ⟨Value.ref (s.heap.objs.size + 1) :: us,[]⟩ (Value.ref (s.heap.objs.size + 1) :: (us ++ ds)) _ _ E (hr.make C us [])
  (I2.env0.make C us []) (hb _ (Value.ref (s.heap.objs.size + 1) :: us) I2.kIn hl) r2 hq) λ r s' hq'=>?_))
 cases r with
 | error e=>exact hx pins σ _ _ e s' I2 hq'
 | ok fl =>
  cases fl with
  | ret u =>
   obtain ⟨v,H',I3,rv,ev,q3⟩:=I2.after hq';subst ev;exact ⟨rv,⟨V.ref (s.heap.objs.size + 1),H',I3,Y,q3⟩⟩
  | next=>exact EG hq'
  | brk=>exact EG hq'
  | cont=>exact EG hq'
theorem qJ (M:Mk X.K C f) (F:FnOk X.prog X.w X.K X.mg X.base CX k f fd ps sp) (hr:Room (k + 1) X.A) (hg:Gl X x) (hm:X.mg x=↑C) (hb:Binds X.K fd ps ds) (hd:Vals dvs ds) (hx:el CX X E)
  (ha:PA X (e :: es) t) (hdb:(x == ("__debug__" : Str))=false:=by decide) (he:starEach (e :: es) X.env=(false,eval e X.env) :: starEach es X.env:=by rfl) (hpl:(backTo pos (starEach es X.env)).any (·.1)=false:=by rfl) :
  PE X (.Call (.Name x p) (e :: es) [] pos) (rU C sp dvs E t):=by
 intro pins s σ H Q I h;refine wpAny_Call_Name_kw (iw I hg hm ?_ hdb);refine PySem.W.callWith_K (h₀:=X.base) I.ok.mod.kin M.kp (thn (ha pos pins s σ H _ I h) λ us s1 ⟨vs,H1,I1,r,q⟩=>⟨I1.kIn,?_⟩) he hpl;exact ou M F hr hb hd hx I1 r q
end
section
variable {X:Cx} {CX:CXT} {k:Nat} {f C:Addr} {fd:ER} {ps ks:List Str} {sp:Sp} {E:XK} {x m:Str} {p pos apos kpos:Pos} {e o:Expr} {es:List Expr} {kws:List Keyword} {te ta:TE} {t tk:TA} {nm:Option Str}
structure KBinds (K:C4) (fd:FuncData) (ps ks:List Str) (g:List Value->List Value->List Value) (gV:List V->List V->List V):Prop where
 to:∀ (s:EO) (us ws:List ET),K.In s.heap->(g us ws).length=ps.length->BindsTo s fd ⟨us,ks.zip ws⟩ (ps.zip (g us ws))
 rel:∀ {vs:List V} {us:List ET} {zs:List V} {ws:List ET},Vals vs us->Vals zs ws->Vals (gV vs zs) (g us ws)
variable {g:List ET->List ET->List ET} {gV:List V->List V->List V}
end
structure FnScope (N P:List Str) (sc:Scope):Prop where
 kind:sc.kind=.function
 co:sc.isCoroutine=false
 gen:sc.isGenerator=false
 nd:N.Nodup
 pre:N.take P.length=P
 par:∀x∈P,sc.names.lookup x=some .local\/sc.names.lookup x=some .cell
 nofree:∀y∈sc.names,y.2≠.free
theorem gS {kindOf:Str->Option NameKind} {x:Str}:∀ {binds:List (Str×ET)} {m:Str->Option ET},(∀v,(x,v)∉binds)->bindL kindOf binds m x=m x
 | [],_,_=>rfl
 | (n,v) :: r,m,h=>by
  unfold bindL;rw [gS λ w hw=>h w (List.mem_cons_of_mem _ hw)]
  split
  ·have:x≠n:=by rintro rfl; exact h v B7
   simp [this]
  ·rfl
theorem gU {kindOf:Str->Option NameKind} {x:Str}:∀ {binds:List (Str×ET)} {m:Str->Option ET},(∀v,(x,v)∉binds)->bindC kindOf binds m x=m x
 | [],_,_=>rfl
 | (n,v) :: r,m,h=>by
  unfold bindC;rw [gU λ w hw=>h w (List.mem_cons_of_mem _ hw)]
  split
  ·rfl
  ·have:x≠n:=by rintro rfl; exact h v B7
   simp [this]
theorem gW {kindOf:Str->Option NameKind} {x:Str} {v:ET}:∀ {P:List Str} {vs:List ET} {i:Nat} {m:Str->Option ET},P.Nodup->P[i]? = some x->vs[i]? = some v->kindOf x=some .local ->
  bindL kindOf (P.zip vs) m x=some v
 | [],_,_,_,_,h,_,_=>by simp at h
 | _ :: _,[],_,_,_,_,h,_=>by simp at h
 | p :: P,w :: vs,0,m,nd,h1,h2,hk=>by simp at h1 h2; subst h1; subst h2;show bindL kindOf ((p,w) :: P.zip vs) m p=_;unfold bindL;rw [gS λ v hv=>(List.nodup_cons.mp nd).1 (List.of_mem_zip hv).1,if_pos hk];simp
 | p :: P,w :: vs,i + 1,m,nd,h1,h2,hk=>by show bindL kindOf ((p,w) :: P.zip vs) m x=_;unfold bindL;exact gW (i:=i) (List.nodup_cons.mp nd).2 (by simpa using h1) (by simpa using h2) hk
theorem gX {kindOf:Str->Option NameKind} {x:Str} {v:ET}:∀ {P:List Str} {vs:List ET} {i:Nat} {m:Str->Option ET},P.Nodup->P[i]? = some x->vs[i]? = some v->kindOf x≠some .local ->
  bindC kindOf (P.zip vs) m x=some v
 | [],_,_,_,_,h,_,_=>by simp at h
 | _ :: _,[],_,_,_,_,h,_=>by simp at h
 | p :: P,w :: vs,0,m,nd,h1,h2,hk=>by simp at h1 h2; subst h1; subst h2;show bindC kindOf ((p,w) :: P.zip vs) m p=_;unfold bindC;rw [gU λ v hv=>(List.nodup_cons.mp nd).1 (List.of_mem_zip hv).1,if_neg hk];simp
 | p :: P,w :: vs,i + 1,m,nd,h1,h2,hk=>by show bindC kindOf ((p,w) :: P.zip vs) m x=_;unfold bindC;exact gX (i:=i) (List.nodup_cons.mp nd).2 (by simpa using h1) (by simpa using h2) hk
def fi (N:List Str) (vs:List V):St:=vs.map some ++ List.replicate (N.length - vs.length) none
def mf (CX:CXT) (P:EQ) (w:ES) (K:C4) (mg:Str->Option ET) (base:Heap) (N:List Str) (qual:Str) (scope:Scope) (f:Addr) (cd:ET) (A:Around) (outer:List Env) (s:EO) (H:Hp) (E:XK):Cx where
 prog:=P
 w:=w
 K:=K
 mg:=mg
 base:=base
 A:=A.deeper (envOfC qual scope s.heap.objs.size f cd)
 N:=N
 s₀:=s
 H₀:=H
 env:=envOfC qual scope s.heap.objs.size f cd
 outer:=outer
 stack:=envOfC qual scope s.heap.objs.size f cd :: outer
 ex:=[]
 calm:=true
 fn:=λ _=>true
 pn:=[]
 xe:=λ e s'=>wpAny (model P w) (A.deeper (envOfC qual scope s.heap.objs.size f cd)) (leaving (envOfC qual scope s.heap.objs.size f cd) e) (λ _ s''=>CX outer H s E e s'') (λ e' s''=>CX outer H s E e' s'') s'
theorem ja {sc:Scope} {n:Nat} {x:Str} (h:sc.names.lookup x=some .cell):∃c,(cellsFrom n sc.names []).lookup x=some c:=by have q:=PySem.W.cellsFrom_some sc.names n [] (.inl h);exact Option.isSome_iff_exists.mp q
theorem mh {CX:CXT} {P:EQ} {w:ES} {K:C4} {mg:Str->Option ET} {base:Heap} {N ps:List Str} {qual:Str} {scope:Scope} {f:Addr} {cd:ET} {A:Around} {outer:List Env} {s s1:EO} {H:Hp} {E:XK} {us:List ET} {vs:List V}
  (S:FnScope N ps scope) (hd:A.handled=none) (e0:Env0 P w K mg base A outer s H) (hl:vs.length=ps.length) (r:Vals vs us)
  (x:InCallC s s.heap.objs.size (bindL (envOfC qual scope s.heap.objs.size f cd).kindOf (ps.zip us) λ _=>none) (cellsFrom (s.heap.objs.size + 1) scope.names []) (bindC (envOfC qual scope s.heap.objs.size f cd).kindOf (ps.zip us) λ _=>none) s1) :
  Inv (mf CX P w K mg base N qual scope f cd A outer s H E) [] (fi N vs) H s1:=by
 have hpl:ps.length<=N.length:=by have:=congrArg List.length S.pre; rw [List.length_take] at this; omega
 obtain ⟨h1,tk,rfl,hk⟩:=x.done;have noA:∀b:Addr,b∉(mf CX P w K mg base N qual scope f cd A outer s H E).ex:=λ b z=>absurd (show b∈([]:List Addr) from z) (by simp);refine ⟨⟨e0.mod,S.kind,Y,Y,B3 _,λ y z c h1 h2=>?_,λ y hy=>?_,λ y c _ h=>?_,λ _=>hd,Around.frames_deeper e0.frames,.inr ⟨Y,Y⟩,λ b z=>absurd z (noA b),e0.bs,e0.bsz,λ b _ _=>noA b,λ b z=>absurd z (noA b),e0.funs,e0.frf⟩,
  rfl,e0.bare,Un.kept hk,⟨_,x.toInCall.ns,λ i y v h1 h2 h3=>?_⟩,λ y c h=>⟨_,x.cell y c h⟩,e0.hok.fresh (B3 _),λ y c h=>?_,λ p hp=>absurd (show p∈([]:List (Addr×Obj)) from hp) (by simp),e0.hok.kept hk,?_⟩
 ·exact name_of_addr x.apart (PySem.mem_of_lookup h1) (PySem.mem_of_lookup h2)
 ·have hy:scope.names.lookup y=some .cell\/scope.names.lookup y=some .free:=hy;rcases hy with hy | hy
  ·exact ja hy
  ·exact absurd rfl (S.nofree _ (PySem.mem_of_lookup hy))
 ·exact Nat.le_of_lt (x.above y c (PySem.mem_of_lookup h))
 ·have hi:i < vs.length:=by
   unfold fi at h2
   by_cases hi:i < vs.length
   ·exact hi
   ·rw [List.getElem?_append_right (by simpa using hi)] at h2;rw [List.getElem?_replicate] at h2
    split at h2 <;> cases h2
  have ha:vs[i]? = some v:=by
   unfold fi at h2;rw [List.getElem?_append_left (by simpa using hi),List.getElem?_map] at h2;cases e:vs[i]? with
   | none=>rw [e] at h2; cases h2
   | some a=>rw [e] at h2; cases h2; rfl
  obtain ⟨u,hu,rv⟩:=r.get ha;have hp:ps[i]? = some y:=by rw [<- S.pre,List.getElem?_take_of_lt ⋯]; exact h1
  have ndP:ps.Nodup:=by rw [<- S.pre]; exact S.nd.sublist (List.take_sublist _ _)
  refine ⟨u,rv,?_⟩;rcases S.par y (B5 hp) with k | k
  ·exact .inl ⟨k,gW ndP hp hu k⟩
  ·obtain ⟨c,e⟩:=ja (n:=s.heap.objs.size + 1) k;refine .inr ⟨.inl k,c,e,?_⟩;have q:=x.cell y c e;rw [gX ndP hp hu (by show scope.names.lookup y≠_; rw [k]; decide)] at q;exact q
 ·exact e0.hok.fresh (Nat.le_of_lt (x.above y c (PySem.mem_of_lookup h)))
 ·unfold fi;show _=N.length;rw [List.length_append,List.length_map,List.length_replicate];omega
theorem vI {CX:CXT} {P:EQ} {w:ES} {K:C4} {mg:Str->Option ET} {base:Heap} {k:Nat} {f:Addr} {name qual:Str} {params:Arguments} {body:List Stmt} {scope:Scope} {dV kV doc pm cdv ct oc:ET} {an od:Option Addr}
  {osl:Array (Option ET)} {N ps:List Str} {sp:Sp} (lk:K.lookup f=some ⟨oc,od,.func (EF name qual params body scope dV kV doc pm an cdv ct),osl⟩) (hcd:PySem.W.codeIn K cdv qual=true) (S:FnScope N ps scope)
  (len:∀vs H Q E,sp vs H Q E->vs.length=ps.length)
  (hbody:∀ (A:Around) (outer:List Env) (s:EO) (H:Hp) (vs:List V) (Q:VK) (E:XK),Room k (A.deeper (envOfC qual scope s.heap.objs.size f cdv))->sp vs H Q E ->
   ∃t,PSs (mf CX P w K mg base N qual scope f cdv A outer s H E) body t/\t { nx:=λ _ H'=>Q .non H',rt:=Q } (fi N vs) H) :
  FnOk P w K mg base CX (k + 1) f (EF name qual params body scope dV kV doc pm an cdv ct) ps sp:=by
 refine ⟨len,λ A outer s H args us vs Q E hr e0 hb r hsp=>?_⟩;have hl:=len _ _ _ _ hsp;have KX:K.In s.heap:=e0.mod.kin.keeps λ b o e=>(e0.bs b o e).1;have lim:s.heap.NoLimit:=e0.mod.nolimit.keeps λ b o e=>(e0.bs b o e).1;have hkind:∀y∈ps.zip us,scope.names.lookup y.1=some .local\/(scope.names.lookup y.1=some .cell/\((cellsFrom (s.heap.objs.size + 1) scope.names []).lookup y.1).isSome=true):=λ ⟨n,v⟩ hy=>by
  rcases S.par n (List.of_mem_zip hy).1 with q | q
  ·exact .inl q
  ·exact .inr ⟨q,PySem.W.cellsFrom_some _ _ _ (.inl q)⟩
 refine codeAny_call_function hr.depth (KX _ _ lk) rfl S.co S.gen rfl (PySem.W.codeRec_of KX hcd) (hb _ _ _ _ ?_);refine wpAny_newFunctionEnv_cells S.kind hkind λ env he s1 x=>?_;subst he;refine ⟨lim.keeps x.toInCall.keep,codeAny_func ?_⟩;obtain ⟨t,ht,hq⟩:=hbody A outer s H vs Q E (hr.deeper _) hsp;have I:Inv (mf CX P w K mg base N qual scope f cdv A outer s H E) [] (fi N vs) H s1:=mh S hr.hd e0 hl r x;refine wpAny_mono (ht [] s1 (fi N vs) H _ I hq) (λ fl s' hs=>?_) λ e s' hs=>hs;have fin:∀ {σ':St} {H':Hp} {v:V} {u:ET},Inv (mf CX P w K mg base N qual scope f cdv A outer s H E) [] σ' H' s'->RelV v u->Q v H'->CE outer P w H s Q u s' :=
  λ {σ' H' v u} J rv q=>⟨v,H',J.os,J.bare,J.base,J.hok,rv,q⟩
 cases fl with
 | ret u =>
  obtain ⟨v,σ',H',J,rv,q⟩:=hs;exact fin J rv q
 | next =>
  obtain ⟨σ',H',J,q⟩:=hs;exact fin (v:=V.non) (u:=Value.none) J rfl q
 | brk =>
  obtain ⟨_,_,_,q⟩:=hs;exact EG q
 | cont =>
  obtain ⟨_,_,_,q⟩:=hs;exact EG q
section
variable {X:Cx} {x:Str} {p pos:Pos} {e:Expr} {es:List Expr} {t:TA} {id T:String} {r:List V->Hp->VK->Prop}
def tCB (r:List V->Hp->VK->Prop) (t:TA):TE:=λ σ H Q=>t σ H λ vs H1=>r vs H1 Q
theorem aF (hc:cY X (.builtin id) r) (hg:Gl X x) (hm:X.mg x=none) (hv:bootBuiltins x=some (.builtin id)) (ha:PA X (e :: es) t) (hn:x ≠ "__name__" := by decide) (hdb:(x == ("__debug__" : Str))=false:=by decide)
  (he:starEach (e :: es) X.env=(false,eval e X.env) :: starEach es X.env:=by rfl) (hpl:(backTo pos (starEach es X.env)).any (·.1)=false:=by rfl):PE X (.Call (.Name x p) (e :: es) [] pos) (tCB r t):=by
 intro pins s σ H Q I h;refine wpAny_Call_Name_kw (ee I hg hm hv ?_ hn hdb);exact PyProof.Rows.callWith_builtin1 (thn (ha pos pins s σ H _ I h) λ us s1 ⟨vs,H1,I1,r1,q1⟩=>hc pins s1 σ H1 vs us Q I1 r1 q1) he hpl
theorem bC (hc:cY X (.type T) r) (hg:Gl X x) (hm:X.mg x=none) (hv:bootBuiltins x=some (.type T)) (ha:PA X (e :: es) t) (hn:x ≠ "__name__" := by decide) (hdb:(x == ("__debug__" : Str))=false:=by decide)
  (he:starEach (e :: es) X.env=(false,eval e X.env) :: starEach es X.env:=by rfl) (hpl:(backTo pos (starEach es X.env)).any (·.1)=false:=by rfl):PE X (.Call (.Name x p) (e :: es) [] pos) (tCB r t):=by
 intro pins s σ H Q I h;refine wpAny_Call_Name_kw (ee I hg hm hv ?_ hn hdb);exact PyProof.Rows.callWith_type1 (thn (ha pos pins s σ H _ I h) λ us s1 ⟨vs,H1,I1,r1,q1⟩=>hc pins s1 σ H1 vs us Q I1 r1 q1) he hpl
end
end L2
namespace HT
open PySem PyProof.Rows
section
variable {prog:EQ} {w:ES} {A:Around} {E:ET->EO->Prop} {s:EO}
def sIx (n d:Nat):Option Int->Nat
 | none=>d
 | some v=>if v < 0 then (v + (n:Int)).toNat else min v.toNat n
theorem sE (n d:Nat) (hd:d<=n) (o:Option Int):sIx n d o<=n:=by
 cases o with
 | none=>exact hd
 | some v =>
  show (if v < 0 then (v + (n:Int)).toNat else min v.toNat n)<=n
  by_cases hv:v < 0
  ·rw [if_pos hv]; omega
  ·rw [if_neg hv]; exact Nat.min_le_right _ _
theorem ld (v:Int) (n d:Nat):(if v < 0 then max (v + (n:Int)) 0 else min v (n:Int))=((sIx n d (some v):Nat):Int):=by
 show (if v < 0 then max (v + (n:Int)) 0 else min v (n:Int))=(((if v < 0 then (v + (n:Int)).toNat else min v.toNat n):Nat):Int)
 by_cases hv:v < 0
 ·simp only [if_pos hv]; omega
 ·simp only [if_neg hv]; omega
theorem jO (lo hi:Option Int) (n:Nat):Builtin.Slice.sliceAdjust lo hi 1 (n:Int)=(((sIx n 0 lo:Nat):Int),((sIx n n hi:Nat):Int)):=by
 have h1:¬ ((1:Int) < 0):=⋯
 unfold Builtin.Slice.sliceAdjust;simp only [h1,if_false];refine Prod.ext ?_ ?_
 ·cases lo with
  | none=>rfl
  | some v=>exact ld v n 0
 ·cases hi with
  | none=>rfl
  | some v=>exact ld v n n
theorem jP (i j:Nat):Builtin.Slice.slicePlaces (i:Int) (j:Int) 1=j - i:=by
 unfold Builtin.Slice.slicePlaces;have h1:(1:Int) > 0:=⋯
 simp only [h1,if_true,Int.ediv_one]
 split <;> omega
theorem fZ {v:ET} {o:Option Int} {Q:Option Int->EO->Prop} (p:IsPart v o) (h:Q o s):wpAny (model prog w) A (Builtin.Slice.slicePartIndex v) Q E s:=by
 cases p with
 | none=>exact slicePart_none h
 | int i t=>exact slicePart_int h
theorem eY {sl:Addr} {vl vu:ET} {lo hi:Option Int} {n:Nat} {Q:Int×Int×Nat->EO->Prop} (hs:s.heap.IsSliceOf sl vl vu .none) (pl:IsPart vl lo) (pu:IsPart vu hi)
  (h:Q (((sIx n 0 lo:Nat):Int),1,sIx n n hi - sIx n 0 lo) s):wpAny (model prog w) A (Builtin.Slice.sliceApplied (.ref sl) (pure (n:Int))) Q E s:=by
 obtain ⟨os,hos,hcs,hds⟩:=id hs;unfold Builtin.Slice.sliceApplied Builtin.Slice.sliceFields;refine A0 (A0 (wpAny_field hos hds (x:=vl) rfl (A0 (wpAny_field hos hds (x:=vu) rfl (A0 (wpAny_field hos hds (x:=.none) rfl (A1 ?_)))))));refine A0 (slicePart_none ?_);show wpAny _ _ (if ((1:Int) == 0)=true then _ else _) _ _ s;rw [if_neg ∅];refine A0 (fZ pl (A0 (fZ pu (A0 (A1 ?_)))));show wpAny _ _ (match Builtin.Slice.sliceAdjust lo hi 1 (n:Int) with | (lo,hi)=>pure (lo,(1:Int),Builtin.Slice.slicePlaces lo hi 1)) _ _ s;rw [jO lo hi n];show wpAny _ _ (pure (((sIx n 0 lo:Nat):Int),(1:Int),Builtin.Slice.slicePlaces ((sIx n 0 lo:Nat):Int) ((sIx n n hi:Nat):Int) 1)) _ _ s;rw [jP];exact A1 h
theorem oz (xs:Array ET) (i k:Nat):((List.range k).filterMap λ (m:Nat)=>xs[((i:Int) + (m:Int) * 1).toNat]?).toArray=((xs.toList.drop i).take k).toArray:=by
 have e:(λ (m:Nat)=>xs[((i:Int) + (m:Int) * 1).toNat]?)=λ m=>xs[i + m]? := by
  funext m
  have:((i:Int) + (m:Int) * 1).toNat=i + m:=⋯
  rw [this]
 rw [e];have:=pick_run xs i k;rw [List.filterMap_map] at this;have e2:((λ x=>xs[x]?)∘λ x=>i + x)=λ m=>xs[i + m]? := rfl;rw [e2] at this;rw [this]
theorem getItem_tuple_cut {t sl:Addr} {items:Array ET} {vl vu:ET} {lo hi:Option Int} {Q:ET->EO->Prop} (ht:IsTup s.heap t items) (hs:s.heap.IsSliceOf sl vl vu .none) (pl:IsPart vl lo) (pu:IsPart vu hi)
  (hw:¬ (sIx items.size 0 lo=0/\sIx items.size items.size hi=items.size))
  (h:Q (.ref s.heap.objs.size) { s with heap:=s.heap.push { cls:=.type "tuple",data:=.seq ((items.toList.drop (sIx items.size 0 lo)).take (sIx items.size items.size hi - sIx items.size 0 lo)).toArray } })
  (hsz:items.size<=sizeLine):wpAny (model prog w) A (getItem (.ref t) (.ref sl)) Q E s:=by
 have htake:sizeOk (.seq ((items.toList.drop (sIx items.size 0 lo)).take (sIx items.size items.size hi - sIx items.size 0 lo)).toArray):=by show ((items.toList.drop (sIx items.size 0 lo)).take (sIx items.size items.size hi - sIx items.size 0 lo)).toArray.size<=sizeLine;rw [List.size_toArray,List.length_take,List.length_drop,Array.length_toList];omega
 have hj:sIx items.size items.size hi<=items.size:=sE _ _ (B3 _) hi;obtain ⟨os,hos,hcs,hds⟩:=id hs;have hTs:s.TypeIs (.ref sl) "slice" := ⟨os,hos,hcs⟩
 unfold getItem
 try with_reducible refine wpAny_holding ?_
 first | refine A0 (A1 ?_) | skip
 refine A0 (wpAny_sequenceKey ht.typeIs ∅ ?_);refine A0 (wpAny_callSpecial?_slot (name:=Str.ofString "__getitem__") ht.typeIs PyProof.Rows.slot_tuple_getitem
  (EL PyProof.Rows.slot_tuple_getitem ht.typeIs entry_tuple_getitem ?_ (args_tuple_getitem _ _)))
 show wpAny _ _ (Builtin.Tuple.tupleItemsOf (.ref t) >>= _) _ _ s;refine A0 (tupleItemsOf_ ht ?_);refine A0 (wpAny_typeOf hTs ?_);rw [if_pos ∅];refine A0 (eY hs pl pu ?_);have hno:¬ ((((sIx items.size 0 lo:Nat):Int) == 0 && (1:Int) == 1 && (sIx items.size items.size hi - sIx items.size 0 lo) == items.size)=true):=by intro q;rw [Bool.and_eq_true,Bool.and_eq_true] at q;have q1:((sIx items.size 0 lo:Nat):Int)=0:=eq_of_beq q.1.1;have q2:sIx items.size items.size hi - sIx items.size 0 lo=items.size:=eq_of_beq q.2;exact hw ⟨⋯,⋯⟩
 show wpAny _ _ (if (((sIx items.size 0 lo:Nat):Int) == 0 && (1:Int) == 1 && (sIx items.size items.size hi - sIx items.size 0 lo) == items.size)=true then _ else _) _ _ s;rw [if_neg hno,oz]
 first
  | exact A0 (m:=Builtin.Tuple.tupleExact _) (EM (A1 ⟨_,rfl,A1 h⟩) htake)
  | exact A0 (m:=Builtin.Tuple.tupleExact _) (EM (A0 (A1 (A1 ⟨_,rfl,A1 h⟩))) htake)
  | exact A0 (A0 (m:=Builtin.Tuple.tupleExact _) (EM (A1 (A1 ⟨_,rfl,A1 h⟩)) htake))
  | exact A0 (A0 (m:=Builtin.Tuple.tupleExact _) (EM (A1 ⟨_,rfl,A1 h⟩) htake))
end
end HT
namespace L2
open PySem PySem.Spec PyProof.Rows
abbrev TO:=St->Hp->(Option Int->Hp->Prop)->Prop
def PO (X:Cx) (e:Option Expr) (t:TO):Prop :=
 ∀ (pins:List (Addr×Obj)) (s:EO) (σ:St) (H:Hp) (Q:Option Int->Hp->Prop),Inv X pins σ H s->t σ H Q ->
  wpAny (model X.prog X.w) X.A (evalPart e X.env) (λ u s'=>∃o H',Inv X pins σ H' s'/\IsPart u o/\Q o H') X.xe s
def qK:TO:=λ _ H Q=>Q none H
def vJ (t:TE):TO:=λ σ H Q=>t σ H λ x H1=>∃i,x=.int i/\Q (some i) H1
section
variable {X:Cx} {e:Expr} {te:TE} {lo hi:Option Expr} {tl th:TO} {pos p2:Pos}
theorem qL:PO X none qK:=by intro pins s σ H Q I h;rw [evalPart_none];exact A1 ⟨none,H,I,.none,h⟩
theorem qM (h:PE X e te):PO X (some e) (vJ te):=by intro pins s σ H Q I hw;rw [evalPart_some];refine thn (h pins s σ H _ I hw) λ u s1 ⟨x,H1,I1,r1,q1⟩=>?_;obtain ⟨i,rfl,q⟩:=q1;obtain ⟨t,rfl⟩:=r1;exact ⟨some i,H1,I1,.int i t,q⟩
def SlR (X:Cx) (r:V->Option Int->Option Int->Hp->VK->Prop):Prop :=
 ∀ (pins:List (Addr×Obj)) (s:EO) (σ:St) (H:Hp) (x:V) (v vl vu:ET) (lo hi:Option Int) (sl:Addr) (Q:VK),Inv X pins σ H s->RelV x v->s.heap.IsSliceOf sl vl vu .none->IsPart vl lo->IsPart vu hi->r x lo hi H Q ->
  ∃T id,typeLookup (.type T) "__getitem__" = pure (some (.builtin id))/\s.TypeIs v T/\wpAny (model X.prog X.w) X.A (getItem v (.ref sl)) (EP X pins σ Q) X.xe s
def tSl (r:V->Option Int->Option Int->Hp->VK->Prop) (te:TE) (tl th:TO):TE:=λ σ H Q=>te σ H λ x H1=>tl σ H1 λ l H2=>th σ H2 λ u H3=>r x l u H3 Q
theorem oA {r:V->Option Int->Option Int->Hp->VK->Prop} (hr:SlR X r) (he:PE X e te) (hl:PO X lo tl) (hu:PO X hi th):PE X (.Subscript e (.Slice lo hi none p2) pos) (tSl r te tl th):=by intro pins s σ H Q I h;refine Subscript_ (thn (he pins s σ H _ I h) λ v s1 ⟨x,H1,I1,r1,q1⟩=>?_);refine wpAny_Slice (thn (hl pins s1 σ H1 _ I1 q1) λ vl s2 ⟨l,H2,I2,pl,q2⟩=>thn (hu pins s2 σ H2 _ I2 q2) λ vu s3 ⟨u,H3,I3,pu,q3⟩=>?_);rw [evalPart_none];refine A1 ?_;have I4:Inv X pins σ H3 { s3 with heap:=s3.heap.push { cls:=.type "slice", data:=.fields #[vl, vu, .none] } }:=I3.kept (t':=s3.toks) λ b ob q=>A7 _ q;obtain ⟨T,id,hT,ht,hg⟩:=hr pins { s3 with heap:=s3.heap.push { cls:=.type "slice",data:=.fields #[vl,vu,.none] } } σ H3 x v vl vu l u s3.heap.objs.size Q I4 r1 (Heap.IsSliceOf.new ..) pl pu q3;show wpAny (model X.prog X.w) X.A (subscriptTail e (.Slice lo hi none p2) v (.ref s3.heap.objs.size)) (EP X pins σ Q) X.xe { s3 with heap:=s3.heap.push { cls:=.type "slice",data:=.fields #[vl,vu,.none] } };exact tail_any (ops:=[.ref s3.heap.objs.size,v]) ht hT hg (by with_unfolding_all rfl)
def mj (xs:List V) (lo hi:Option Int):List V:=(xs.drop (HT.sIx xs.length 0 lo)).take (HT.sIx xs.length xs.length hi - HT.sIx xs.length 0 lo)
theorem fj (xs:List V) (lo hi:Option Int):(mj xs lo hi).length<=xs.length:=by unfold mj;rw [List.length_take,List.length_drop];omega
def vK (K:C4):V->Option Int->Option Int->Hp->VK->Prop:=λ x lo hi H Q=>∃a xs,x=.ref a/\SqT K H a xs /\
 ¬ (HT.sIx xs.length 0 lo=0/\HT.sIx xs.length xs.length hi=xs.length)/\∀p,H p=none->Q (.ref p) (upd H p (.tup (mj xs lo hi)))
theorem sG:SlR X (vK X.K):=by
 intro pins s σ H x v vl vu lo hi sl Q I rx hs pl pu h;obtain ⟨a,xs,rfl,hx,hw,q⟩:=h;cases rx;obtain ⟨its,r,ht,hz⟩:=I.tuple hx;have hlen:its.toArray.size=xs.length:=by rw [List.size_toArray]; exact r.length.symm
 refine ⟨"tuple",_,PyProof.Rows.slot_tuple_getitem.lookup,ht.typeIs,?_⟩;refine HT.getItem_tuple_cut ht hs pl pu (by rw [hlen]; exact hw) ?_ (by rw [hlen]; exact hz);rw [hlen];refine ⟨.ref s.heap.objs.size,_,I.laid (t':=s.toks) (o:=.tup (mj xs lo hi)) (λ b ob q=>A7 _ q) (B3 _) ?_,Y,q _ (I.hok.fresh (B3 _))⟩;exact ⟨C5 (fj xs lo hi) hz,_,(r.drop (HT.sIx xs.length 0 lo)).take (HT.sIx xs.length xs.length hi - HT.sIx xs.length 0 lo),IsTup.new _ _⟩
end
def ixN (n:Nat) (i:Int):Option Nat:=if 0<=i then (if i < n then some i.toNat else none) else if -(n:Int)<=i then some (i + n).toNat else none
def atI {α:Type} (xs:List α) (i:Int):Option α:=(ixN xs.length i).bind λ j=>xs[j]?
theorem lg {n:Nat} {i:Int} {j:Nat} (h:ixN n i=some j):seqIndex? i n=some j/\j < n/\-(n:Int)<=i/\i < n:=by
 unfold ixN at h
 by_cases h0:0<=i
 ·rw [if_pos h0] at h
  by_cases h1:i < n
  ·rw [if_pos h1] at h;have e:i.toNat=j:=B8 h;exact ⟨by rw [seqIndex_of h0 h1,e],⋯,⋯,h1⟩
  ·rw [if_neg h1] at h; cases h
 ·rw [if_neg h0] at h
  by_cases h1:-(n:Int)<=i
  ·rw [if_pos h1] at h;have e:(i + n).toNat=j:=B8 h;exact ⟨by rw [seqIndex_neg ⋯ h1,e],⋯,h1,⋯⟩
  ·rw [if_neg h1] at h; cases h
theorem fE {α:Type} {xs:List α} {i:Int} {v:α} (h:atI xs i=some v):∃j,seqIndex? i xs.length=some j/\xs[j]? = some v/\j < xs.length/\-(xs.length:Int)<=i/\i < xs.length:=by
 unfold atI at h;cases e:ixN xs.length i with
 | none=>rw [e] at h; cases h
 | some j =>
  rw [e] at h;obtain ⟨h1,h2,h3,h4⟩:=lg e;exact ⟨j,h1,h,h2,h3,h4⟩
theorem lh {α:Type} {xs:List α} {j:Nat} {v:α} (h:xs[j]? = some v):atI xs (j:Int)=some v:=by
 have hj:j < xs.length:=(A6.mp h).1;have e:ixN xs.length (j:Int)=some j:=by unfold ixN;rw [if_pos ⋯,if_pos ⋯]; simp
 unfold atI; rw [e]; exact h
def qN (b:Expr):Prop:=∀o i,subscripted b false o i=operate [o,i] (getItem o i)
def IxR (X:Cx) (r:R2):Prop :=
 ∀ (value slice:Expr) (pins:List (Addr×Obj)) (s:EO) (σ:St) (H:Hp) (x y:V) (v u:ET) (Q:VK),Inv X pins σ H s->RelV x v->RelV y u->r x y H Q ->
  subscripted slice false v u=operate [v,u] (getItem v u)->wpAny (model X.prog X.w) X.A (subscriptTail value slice v u) (EP X pins σ Q) X.xe s
def MtR (X:Cx) (id:String) (r:V->List V->Hp->VK->Prop):Prop :=
 ∀ (pins:List (Addr×Obj)) (s:EO) (σ:St) (H:Hp) (x:V) (xs:List V) (v:ET) (us:List ET) (Q:VK),Inv X pins σ H s->RelV x v->Vals xs us->r x xs H Q ->
  wpAny (model X.prog X.w) X.A (call (.builtin id) (v :: us)) (EP X pins σ Q) X.xe s
section
variable {X:Cx} {a b:Expr} {ta tb:TE} {pos:Pos}
theorem IxR.or {r r':R2} (h:IxR X r) (h':IxR X r'):IxR X (λ x y H Q=>r x y H Q\/r' x y H Q):=by
 intro value slice pins s σ H x y v u Q I rx ry q hs;rcases q with q | q
 ·exact h value slice pins s σ H x y v u Q I rx ry q hs
 ·exact h' value slice pins s σ H x y v u Q I rx ry q hs
theorem am {r:R2} (hr:IxR X r) (ha:PE X a ta) (hb:PE X b tb) (hs:qN b):PE X (.Subscript a b pos) (tOp r ta tb):=by intro pins s σ H Q I h;exact Subscript_ (sv ha hb I h λ v u s2 x y H2 I2 rx ry q=>hr a b pins s2 σ H2 x y v u Q I2 rx ry q (hs _ _))
inductive rIxL (K:C4) (x:V) (y:V) (H:Hp) (Q:VK):Prop
 | mk (p:Addr) (xs:List V) (i:Int) (v:V) (e_0:x=.ref p) (e_1:y=.int i) (e_2:SqL K H p xs) (e_3:atI xs i=some v) (e_4:Q v H):rIxL K x y H Q
inductive rIxT (K:C4) (x:V) (y:V) (H:Hp) (Q:VK):Prop
 | mk (p:Addr) (xs:List V) (i:Int) (v:V) (e_0:x=.ref p) (e_1:y=.int i) (e_2:SqT K H p xs) (e_3:atI xs i=some v) (e_4:Q v H):rIxT K x y H Q
def vL:R2:=λ x y H Q=>∃z i c,x=.str z/\y=.int i/\z.length<=sizeLine/\atI z.cps.toList i=some c/\Q (.str ⟨#[c]⟩) H
theorem ix_list:IxR X (rIxL X.K):=by
 intro value slice pins s σ H x y v u Q I rx ry h hs;obtain ⟨p,xs,i,z,rfl,rfl,hq,he,q⟩:=h;cases rx;obtain ⟨t,rfl⟩:=ry;obtain ⟨its,r,pl,hz⟩:=I.list hq;obtain ⟨j,h1,h2,h3,h4,h5⟩:=fE he;obtain ⟨w,ew,rw'⟩:=r.get h2;have hl:=r.length;have hn:=eg;have fin:EP X pins σ Q w s:=⟨z,H,I,rw',q⟩
 by_cases h0:0<=i
 ·have hj:i.toNat=j:=by rw [seqIndex_of h0 h5] at h1;exact B8 h1
  exact item_listR pl.isList h0 ⋯ (by rw [hj]; simpa using ew) fin hs
 ·have hj:(i + (its.toArray.size:Int)).toNat=j:=by rw [seqIndex_neg ⋯ h4] at h1;rw [List.size_toArray,<- hl];exact B8 h1
  exact subscriptTail_builtinR (x:=w) pl.isList.typeIs slot_list_getitem.lookup
   (wpAny_getItem_list_neg (Q:=λ r s'=>r=w/\EP X pins σ Q r s') pl.isList ⋯ (by rw [List.size_toArray] <;> omega) ⋯ (by rw [hj]; simpa using ew) ⟨rfl,fin⟩) hs
theorem ix_tup:IxR X (rIxT X.K):=by
 intro value slice pins s σ H x y v u Q I rx ry h hs;obtain ⟨p,xs,i,z,rfl,rfl,hq,he,q⟩:=h;cases rx;obtain ⟨t,rfl⟩:=ry;obtain ⟨its,r,pl,hz⟩:=I.tuple hq;obtain ⟨j,h1,h2,h3,h4,h5⟩:=fE he;obtain ⟨w,ew,rw'⟩:=r.get h2;have hl:=r.length;have hn:=eg;have fin:EP X pins σ Q w s:=⟨z,H,I,rw',q⟩
 exact subscriptTail_builtinR (x:=w) pl.typeIs slot_tuple_getitem.lookup
  (getItem_tuple (j:=j) (Q:=λ r s'=>r=w/\EP X pins σ Q r s') pl ⋯ ⋯ (by rw [List.size_toArray,<- hl]; exact h1) (by simpa using ew) ⟨rfl,fin⟩) hs
theorem sH:IxR X vL:=by
 intro value slice pins s σ H x y v u Q I rx ry h hs;obtain ⟨z,i,c,rfl,rfl,hz,he,q⟩:=h;obtain ⟨t,rfl⟩:=rx;obtain ⟨t',rfl⟩:=ry;obtain ⟨j,h1,h2,h3,h4,h5⟩:=fE he;have hl:z.cps.toList.length=z.length:=by simp [Str.length]
 rw [hl] at h1 h4 h5;have hn:=eg;exact tail_any (typeIs_str s z t) slot_str_getitem.lookup (getItem_str (c:=c) (by
  have e1:decide (i < -(2 ^ 63:Int))=false:=B1 ⋯;have e2:decide (i≥2 ^ 63)=false:=B1 ⋯;rw [e1,e2,Bool.or_false]) (by rw [h1]; simpa using h2) ⟨.str ⟨#[c]⟩,H,I.tok _,⟨_,rfl⟩,q⟩) hs
def rIx (K:C4):R2:=λ x y H Q=>rIxL K x y H Q\/rIxT K x y H Q\/vL x y H Q
theorem bH:IxR X (rIx X.K):=ix_list.or (ix_tup.or sH)
theorem jQ (its:List ET) (n j:Nat) (u:ET):Obj.mapSeq (·.setIfInBounds j u) { cls:=.type "list",data:=.seq its.toArray n }={ cls:=.type "list",data:=.seq (its.set j u).toArray n }:=by simp [Obj.mapSeq]
theorem Inv.lst {pins:List (Addr×Obj)} {σ:St} {H:Hp} {s:EO} {p:Addr} {xs:List V} (I:Inv X pins σ H s) (h:H p=↥xs) :
  ∃ (its:List ET) (n:Nat),Vals xs its/\s.heap.get? p=some { cls:=.type "list",data:=.seq its.toArray n }/\xs.length<=sizeLine:=by
 obtain ⟨z,its,n,r,e⟩:=I.hok p _ h;exact ⟨its,n,r,e,z⟩
theorem Inv.lstUpd {pins:List (Addr×Obj)} {σ:St} {H:Hp} {s:EO} {p:Addr} {xs ys:List V} {its its':List ET} {n n':Nat} {f:Obj->Obj} (I:Inv X pins σ H s) (h:H p=↥xs)
  (ho:s.heap.get? p=some { cls:=.type "list", data:=.seq its.toArray n }) (hf:f { cls:=.type "list", data:=.seq its.toArray n }={ cls:=.type "list", data:=.seq its'.toArray n' }) (r:Vals ys its') (hz:ys.length<=sizeLine) (t:Nat) :
  Inv X pins σ (upd H p (.lst ys)) { s with heap:=s.heap.update p f,toks:=t }:=by
 have e:(s.heap.update p f).get? p=some { cls:=.type "list", data:=.seq its'.toArray n' }:=by rw [Heap.get?_update_self f ho (by rw [hf] <;> rfl),hf]
 refine I.write (x:=p) (e:=p) (by rw [h]; trivial) (.inl rfl) (λ b u hb q=>(Heap.get?_update_other _ _ (Ne.symm hb)).trans q) ⟨_,e⟩ ?_;exact ⟨hz,its',n',r,e⟩
inductive rSetL (o:V) (i:V) (v:V) (H:Hp) (Q:Hp->Prop):Prop
 | mk (p:Addr) (xs:List V) (k:Int) (j:Nat) (e_0:o=.ref p) (e_1:i=.int k) (e_2:H p=↥xs) (e_3:ixN xs.length k=some j) (e_4:Q (upd H p (.lst (xs.set j v)))):rSetL o i v H Q
theorem eE:sr X rSetL:=by
 intro pins s σ H o i v ov iv u Q I ro ri rv h;obtain ⟨p,xs,k,j,rfl,rfl,hp,hj,q⟩:=h;cases ro;obtain ⟨t,rfl⟩:=ri;obtain ⟨its,n,r,ho,hz⟩:=I.lst hp;obtain ⟨h1,h2,h3,h4⟩:=lg hj;have hl:=r.length;have hn:=eg;have I':Inv X pins σ (upd H p (.lst (xs.set j v))) { s with heap:=s.heap.update p (Obj.mapSeq (·.setIfInBounds j u)) } :=
  I.lstUpd hp ho (jQ its n j u) (r.set rv j) (by rw [List.length_set]; exact hz) s.toks
 by_cases h0:0<=k
 ·have hk:k.toNat=j:=by rw [seqIndex_of h0 h4] at h1;exact B8 h1
  exact PySem.W.ki_setAt ho h0 ⋯ (by rw [List.size_toArray,<- hl]; exact h4) (by rw [hk]; exact ⟨_,I',q⟩)
 ·have hk:(k + (its.toArray.size:Int)).toNat=j:=by rw [seqIndex_neg ⋯ h3] at h1;rw [List.size_toArray,<- hl];exact B8 h1
  exact PySem.W.ki_setBack ho ⋯ (by rw [List.size_toArray,<- hl]; exact h3) ⋯ (by rw [hk]; exact ⟨_,I',q⟩)
theorem iA (lo hi:Option Int) (n:Nat):(sliceBounds lo hi none n).1=((HT.sIx n 0 lo:Nat):Int)/\(sliceBounds lo hi none n).2.1=((HT.sIx n n hi:Nat):Int)/\(sliceBounds lo hi none n).2.2=1:=by
 refine ⟨?_,?_,Y⟩
 ·cases lo with
  | none=>simp [sliceBounds,HT.sIx]
  | some i =>
   simp only [sliceBounds,HT.sIx,Option.getD_none,show (1:Int) > 0 by decide,if_true]
   by_cases h:i < 0
   ·simp only [h,if_true] <;> omega
   ·simp only [h,if_false] <;> omega
 ·cases hi with
  | none=>simp [sliceBounds,HT.sIx]
  | some i =>
   simp only [sliceBounds,HT.sIx,Option.getD_none,show (1:Int) > 0 by decide,if_true]
   by_cases h:i < 0
   ·simp only [h,if_true] <;> omega
   ·simp only [h,if_false] <;> omega
theorem gH (its:List ET) (lo hi:Option Int):slicePick its.toArray lo hi none=((its.drop (HT.sIx its.length 0 lo)).take (HT.sIx its.length its.length hi - HT.sIx its.length 0 lo)).toArray:=by obtain ⟨h1,h2,h3⟩:=iA lo hi its.toArray.size;unfold slicePick;rw [h1,h2,h3];simp only [sliceRange_one,pick_run,List.size_toArray] <;> rfl
inductive rSlL (K:C4) (x:V) (lo:Option Int) (hi:Option Int) (H:Hp) (Q:VK):Prop
 | mk (a:Addr) (xs:List V) (e_0:x=.ref a) (e_1:SqL K H a xs) (e_2:∀p,H p=none->Q (.ref p) (upd H p (.lst (mj xs lo hi)))):rSlL K x lo hi H Q
theorem Br:SlR X (rSlL X.K):=by intro pins s σ H x v vl vu lo hi sl Q I rx hs pl pu h;obtain ⟨a,xs,rfl,hx,q⟩:=h;cases rx;obtain ⟨its,r,ht,hz⟩:=I.list hx;have hlen:=r.length;refine ⟨"list",_,slot_list_getitem.lookup,ht.isList.typeIs,?_⟩;refine wpAny_getItem_list_slice ht.isList hs pl pu .none (by simp) ?_ (by rw [List.size_toArray] <;> omega);rw [gH,<- hlen];refine ⟨.ref s.heap.objs.size,_,I.laid (t':=s.toks) (o:=.lst (mj xs lo hi)) (λ b ob q=>A7 _ q) (B3 _) ?_,Y,q _ (I.hok.fresh (B3 _))⟩;exact ⟨C5 (fj xs lo hi) hz,_,0,(r.drop (HT.sIx xs.length 0 lo)).take (HT.sIx xs.length xs.length hi - HT.sIx xs.length 0 lo),A8 _ rfl⟩
def fk:V->Bool
 | .non=>true
 | .bl _=>true
 | .int _=>true
 | .str _=>true
 | _=>false
def eqV:V->V->Bool
 | .non,.non=>true
 | .bl a,.bl b=>a == b
 | .bl a,.int b=>(if a then 1 else 0) == b
 | .int a,.bl b=>a == (if b then 1 else 0)
 | .int a,.int b=>a == b
 | .str a,.str b=>a == b
 | _,_=>false
theorem sI {A:Around} {s:EO} {y x:V} {u v:ET} (ry:RelV y u) (rx:RelV x v) (fy:fk y=true) (fx:fk x=true):SeqAt.EqAt A s u v (eqV y x):=by
 cases y with
 | non =>
  cases ry;cases x with
  | non=>cases rx; exact SeqAt.EqAt.same _
  | bl b=>cases rx; exact SeqAt.EqAt.none_bool b
  | int b=>obtain ⟨t,rfl⟩:=rx; exact SeqAt.EqAt.none_int b t
  | str b=>obtain ⟨t,rfl⟩:=rx; exact SeqAt.EqAt.none_str b t
  | _=>exact absurd (show false=true from fx) B2
 | bl a =>
  cases ry;cases x with
  | non=>cases rx; exact SeqAt.EqAt.bool_none a
  | bl b=>cases rx; exact SeqAt.EqAt.bool_bool a b
  | int b=>obtain ⟨t,rfl⟩:=rx; exact SeqAt.EqAt.bool_int a b t
  | str b=>obtain ⟨t,rfl⟩:=rx; exact SeqAt.EqAt.bool_str a b t
  | _=>exact absurd (show false=true from fx) B2
 | int a =>
  obtain ⟨t',rfl⟩:=ry;cases x with
  | non=>cases rx; exact SeqAt.EqAt.int_none a t'
  | bl b=>cases rx; exact SeqAt.EqAt.int_bool a t' b
  | int b=>obtain ⟨t,rfl⟩:=rx; exact SeqAt.EqAt.int_int a t' b t
  | str b=>obtain ⟨t,rfl⟩:=rx; exact SeqAt.EqAt.int_str a t' b t
  | _=>exact absurd (show false=true from fx) B2
 | str a =>
  obtain ⟨t',rfl⟩:=ry;cases x with
  | non=>cases rx; exact SeqAt.EqAt.str_none a t'
  | bl b=>cases rx; exact SeqAt.EqAt.str_bool a t' b
  | int b=>obtain ⟨t,rfl⟩:=rx; exact SeqAt.EqAt.str_int a t' b t
  | str b=>obtain ⟨t,rfl⟩:=rx; exact SeqAt.EqAt.str_str a t' b t
  | _=>exact absurd (show false=true from fx) B2
 | _=>exact absurd (show false=true from fy) B2
def eqU (x:V) (u:ET):Bool:=match u with
 | .none=>eqV .non x
 | .bool b=>eqV (.bl b) x
 | .int i _=>eqV (.int i) x
 | .str z _=>eqV (.str z) x
 | _=>false
theorem oB {x y:V} {u:ET} (r:RelV y u) (f:fk y=true):eqU x u=eqV y x:=by
 cases y with
 | non=>cases r; rfl
 | bl b=>cases r; rfl
 | int i=>obtain ⟨t,rfl⟩:=r; rfl
 | str z=>obtain ⟨t,rfl⟩:=r; rfl
 | _=>exact absurd (show false=true from f) B2
theorem iB {x:V}:∀ {xs:List V} {us:List ET},Vals xs us->xs.all fk=true->us.any (eqU x)=xs.any λ y=>eqV y x
 | _,_,.nil,_=>rfl
 | y :: xs,u :: us,.cons r t,f=>by rw [List.all_cons,Bool.and_eq_true] at f;rw [List.any_cons,List.any_cons,oB r f.1,iB t f.2]
theorem gc {A:Around} {s:EO} {x:V} {v:ET} (rx:RelV x v) (fx:fk x=true):∀ {xs:List V} {us:List ET},Vals xs us->xs.all fk=true->∀u∈us,SeqAt.EqAt A s u v (eqU x u)
 | _,_,.nil,_=>λ u hu=>by cases hu
 | y :: xs,u :: us,.cons r t,f=>λ u' hu=>by
  rw [List.all_cons,Bool.and_eq_true] at f;rcases List.mem_cons.mp hu with rfl | hu
  ·rw [oB r f.1]; exact sI r rx f.1 fx
  ·exact gc rx fx t f.2 u' hu
def inV (x:V) (xs:List V):Bool:=xs.any λ y=>eqV y x
def rIn (K:C4) (neg:Bool):R2:=λ x y H Q=>∃p xs,y=.ref p/\(SqL K H p xs\/SqT K H p xs)/\fk x=true/\xs.all fk=true/\Q (.bl (if neg then !inV x xs else inV x xs)) H
theorem gY:OpR X (compareOp .In) (rIn X.K false):=by
 intro pins s σ H x y v u Q I rx ry h;obtain ⟨p,xs,rfl,hq,fx,fs,q⟩:=h;cases ry;rcases hq with hq | hq
 ·obtain ⟨its,r,pl,hz⟩:=I.list hq;refine SeqAt.in_listAt (eqU x) pl.isList (λ w hw=>gc rx fx r fs w (by simpa using hw)) ⟨.bl _,H,I,rfl,?_⟩;rw [show its.toArray.any (eqU x)=its.any (eqU x) by simp,iB r fs];exact q
 ·obtain ⟨its,r,pl,hz⟩:=I.tuple hq;refine SeqAt.in_tupleAt (eqU x) pl (λ w hw=>gc rx fx r fs w (by simpa using hw)) ⟨.bl _,H,I,rfl,?_⟩;rw [show its.toArray.any (eqU x)=its.any (eqU x) by simp,iB r fs];exact q
theorem aU:cY X (.builtin "len") (λ xs H Q=>∃p ys,xs=[.ref p]/\(SqL X.K H p ys\/SqT X.K H p ys)/\Q (.int ys.length) H):=by
 intro pins s σ H xs us Q I r h;obtain ⟨p,ys,rfl,hq,q⟩:=h;obtain ⟨u,rfl,rx⟩:=fX r;cases rx;have hn:=eg;rcases hq with hq | hq
 ·obtain ⟨its,r',pl,hz⟩:=I.list hq;have hlen:=r'.length;exact Calls.call_len_list pl.isList (by simp only [List.size_toArray] <;> omega) ⟨.int ys.length,H,I.tok _,⟨s.toks + 1,by rw [List.size_toArray,hlen]⟩,q⟩
 ·obtain ⟨its,r',pl,hz⟩:=I.tuple hq;have hlen:=r'.length;exact len_tuple pl (by simp only [List.size_toArray] <;> omega) ⟨.int ys.length,H,I.tok _,⟨s.toks + 1,by rw [List.size_toArray,hlen]⟩,q⟩
theorem iC:cY X (.type "list") (λ xs H Q=>∃p ys,xs=[.ref p]/\(SqL X.K H p ys\/SqT X.K H p ys)/\∀l,H l=none->Q (.ref l) (upd H l (.lst ys))):=by
 intro pins s σ H xs us Q I r h;obtain ⟨p,ys,rfl,hq,q⟩:=h;obtain ⟨u,rfl,rx⟩:=fX r;cases rx;have fin:∀ (its:List ET),Vals ys its->ys.length<=sizeLine->∀ (h':Heap) (c':Nat),(∀b o',s.heap.get? b=some o'->h'.get? b=some o') ->
   h'.get? s.heap.objs.size=some { cls:=.type "list", dict:=none, data:=.seq its.toArray c', slots:=#[] }->EP X pins σ Q (.ref s.heap.objs.size) { s with heap:=h' }:=λ its r' hz h' c' kp e =>
  ⟨.ref s.heap.objs.size,_,I.laid (t':=s.toks) kp (B3 _) (show ObjOk X.prog X.w _ h' _ (.lst ys) from ⟨hz,its,c',r',e⟩),rfl,q _ (I.hok.fresh (B3 _))⟩
 rcases hq with hq | hq
 ·obtain ⟨its,r',pl,hz⟩:=I.list hq;have hlen:=r'.length;obtain ⟨o,ho,hc,n,hd⟩:=pl.isList;exact call_list_seq p (.inl rfl) ho hc hd (λ h' c' kp e=>fin its r' hz h' c' kp e) (by simp only [List.size_toArray] <;> omega)
 ·obtain ⟨its,r',pl,hz⟩:=I.tuple hq;have hlen:=r'.length;obtain ⟨o,ho,hc,n,hd⟩:=pl;exact call_list_seq p (.inr rfl) ho hc hd (λ h' c' kp e=>fin its r' hz h' c' kp e) (by simp only [List.size_toArray] <;> omega)
theorem dZ:cY X (.type "tuple") (λ xs H Q=>∃p ys,xs=[.ref p]/\((SqL X.K H p ys/\∀l,H l=none->Q (.ref l) (upd H l (.tup ys)))\/(SqT X.K H p ys/\Q (.ref p) H))):=by
 intro pins s σ H xs us Q I r h;obtain ⟨p,ys,rfl,h⟩:=h;obtain ⟨u,rfl,rx⟩:=fX r;cases rx;rcases h with ⟨hq,q⟩ | ⟨hq,q⟩
 ·obtain ⟨its,r',pl,hz⟩:=I.list hq;have hlen:=r'.length;refine call_tuple_list pl.isList (λ h' kp=>?_) (by simp only [List.size_toArray] <;> omega);have I1:Inv X pins σ H { s with heap:=h' }:=I.kept (t':=s.toks) kp;have I2:Inv X pins σ (upd H h'.objs.size (.tup ys)) { s with heap:=h'.push { cls:=.type "tuple", data:=.seq its.toArray } } :=
   I1.laid (t':=s.toks) (λ b o e=>A7 _ e) (B3 _) (show ObjOk X.prog X.w _ _ _ (.tup ys) from ⟨hz,its,r',IsTup.new _ _⟩)
  exact ⟨.ref h'.objs.size,_,I2,Y,q _ (I1.hok.fresh (B3 _))⟩
 ·obtain ⟨its,r',pl,hz⟩:=I.tuple hq;exact call_tuple_same pl ⟨.ref p,H,I,rfl,q⟩
def tyV (K:C4) (T:String) (x:V) (H:Hp):Prop:=match x with
 | .str _=>T = "str"
 | .int _=>T = "int"
 | .ref p=>(T = "list" /\ ∃xs,SqL K H p xs)\/(T = "tuple" /\ ∃o,K.lookup p=some o/\o.cls=.type "tuple" /\ o.dict=none) \/
   (T = "dict" /\ ((∃kvs,H p=some (.dK kvs))\/∃kvs,H p=some (.dT kvs)))\/(T = "set" /\ ∃S n,H p=some (.set S n))
 | _=>False
theorem oC {pins:List (Addr×Obj)} {σ:St} {H:Hp} {s:EO} {T:String} {x:V} {v:ET} (I:Inv X pins σ H s) (r:RelV x v) (ty:tyV X.K T x H) :
  s.TypeIs v T/\∀a,v=.ref a->∃ob,s.heap.get? a=some ob/\ob.dict=none:=by
 cases x with
 | str z =>
  obtain ⟨t,rfl⟩:=r;cases (show T = "str" from ty);exact ⟨typeIs_str s z t,λ _ e=>nomatch e⟩
 | int i =>
  obtain ⟨t,rfl⟩:=r;cases (show T = "int" from ty);exact ⟨typeIs_int s i t,λ _ e=>nomatch e⟩
 | ref p =>
  cases r;rcases ty with ⟨rfl,xs,hq⟩ | ⟨rfl,o,hk,hc,hd⟩ | ⟨rfl,hk⟩ | ⟨rfl,S,n,hk⟩
  ·obtain ⟨its,_,pl,_⟩:=I.list hq;refine ⟨pl.isList.typeIs,λ a e=>?_⟩;cases e;obtain ⟨o,n,e,c,hd,_⟩:=pl;exact ⟨o,e,hd⟩
  ·refine ⟨⟨o,I.kIn p o hk,hc⟩,λ a e=>?_⟩;cases e;exact ⟨o,I.kIn _ o hk,hd⟩
  ·have z:∃o,s.heap.get? p=some o/\o.ExactDict:=by
    rcases hk with ⟨kvs,hk⟩ | ⟨kvs,hk⟩
    ·obtain ⟨_,_,_,_,o,_,_,e,ex,_⟩:=I.hok p _ hk;exact ⟨o,e,ex⟩
    ·obtain ⟨_,_,_,_,o,_,_,e,ex,_⟩:=I.hok p _ hk;exact ⟨o,e,ex⟩
   obtain ⟨o,e,ex⟩:=z;refine ⟨⟨o,e,ex.1⟩,λ a e2=>?_⟩;cases e2;exact ⟨o,e,ex.2.1⟩
  ·obtain ⟨o,_,_,_,e,ex,_⟩:=I.hok p _ hk;refine ⟨⟨o,e,ex.1⟩,λ a e2=>?_⟩;cases e2;exact ⟨o,e,ex.2.1⟩
 | _=>exact EG ty
def BG (K:C4) (T:String) (r:V->List V->Hp->VK->Prop) (to:TE):TE:=λ σ H Q=>to σ H λ x H1=>tyV K T x H1/\r x [] H1 Q
def tBM (K:C4) (T:String) (r:V->List V->Hp->VK->Prop) (to:TE) (t:TA):TE:=λ σ H Q=>to σ H λ x H1=>tyV K T x H1/\t σ H1 λ xs H2=>r x xs H2 Q
variable {o e:Expr} {es:List Expr} {to:TE} {t:TA} {name:Str} {apos cpos:Pos} {T id:String} {r:V->List V->Hp->VK->Prop}
theorem oE (pa:PlainAttrs T) (slot:Slot T name id) (hty:typeOf (.builtin id)=pure (.type "method_descriptor")) (hm:MtR X id r) (ho:PE X o to)
  (hbase:attributeBase o name X.env (eval o X.env)=eval o X.env:=by rfl) (hline:(apos.endLine == cpos.line)=true:=by rfl):PE X (.Call (.Attribute o name apos) [] [] cpos) (BG X.K T r to):=by
 intro pins s σ H Q I h;refine wpAny_Call_method0_late hbase hline (thn (ho pins s σ H _ I h) λ v s1 ⟨x,H1,I1,r1,ty,q1⟩=>?_);obtain ⟨h1,h2⟩:=oC I1 r1 ty;exact ⟨T,id,pa,slot,hty,h1,h2,Calls.callWith_builtin rfl (PySem.evalArgs_none (hm pins s1 σ H1 x [] v [] Q I1 r1 .nil q1))⟩
theorem fm (pa:PlainAttrs T) (slot:Slot T name id) (hty:typeOf (.builtin id)=pure (.type "method_descriptor")) (hm:MtR X id r) (ho:PE X o to) (ha:PA X (e :: es) t)
  (hbase:attributeBase o name X.env (eval o X.env)=eval o X.env:=by rfl)
  (hfew:((backTo cpos (starEach (e :: es) X.env)).all (λ x=>!x.1) && (backToKw cpos (keywordEach [] X.env)).all (λ x=>x.1.isSome)
   && decide ((e :: es).length + ([]:List Keyword).length + (if ([]:List Keyword).isEmpty then 0 else 1) < 30))=true:=by rfl)
  (hline:(apos.endLine == cpos.line)=true:=by rfl) (hs:starEach (e :: es) X.env=(false,eval e X.env) :: starEach es X.env:=by rfl) (hplain:(backTo cpos (starEach es X.env)).any (·.1)=false:=by rfl) :
  PE X (.Call (.Attribute o name apos) (e :: es) [] cpos) (tBM X.K T r to t):=by
 intro pins s σ H Q I h;refine wpAny_Call_method_late hbase hfew hline rfl (thn (ho pins s σ H _ I h) λ v s1 ⟨x,H1,I1,r1,ty,q1⟩=>?_);obtain ⟨h1,h2⟩:=oC I1 r1 ty;refine ⟨T,id,pa,slot,hty,h1,h2,?_⟩;have hA:=ha cpos pins s1 σ H1 _ I1 q1;rw [hs] at hA ⊢;refine Calls.callWith_builtin (by show (false || (backTo cpos (starEach es X.env)).any (·.1))=false; rw [hplain] <;> rfl) (Calls.evalArgs_plain ?_);exact thn hA λ us s2 ⟨vs,H2,I2,r2,q2⟩=>hm pins s2 σ H2 x vs v us Q I2 r1 r2 q2
/- xs.append(e),list.index on a module's tuple .. are MtR facts of 06m -/
end
def MtM (X:Cx) (id:String) (r:V->List V->Hp->VK->Prop):Prop :=
 ∀ (pins:List (Addr×Obj)) (s:EO) (σ:St) (H:Hp) (x:V) (xs:List V) (v:ET) (us:List ET) (Q:VK),Inv X pins σ H s->RelV x v->Vals xs us->r x xs H Q ->
  wpAny (model X.prog X.w) X.A (call (.builtin id) (v :: us)) (EP X pins σ Q) X.xe s
theorem Vals.one:∀ {x:V} {us:List ET},Vals [x] us->∃u,us=[u]/\RelV x u
 | _,_,.cons r .nil=>⟨_,Y,r⟩
theorem Vals.zero:∀ {us:List ET},Vals [] us->us=[]
 | _,.nil=>rfl
theorem Vals.dropLast {xs:List V} {us:List ET} (h:Vals xs us):Vals xs.dropLast us.dropLast:=by
 induction h with
 | nil=>exact .nil
 | cons r t ih =>
  cases t with
  | nil=>exact .nil
  | cons q t'=>exact .cons r ih
theorem jR {α:Type} (l:List α):l.eraseIdx (l.length - 1)=l.dropLast:=by
 induction l with
 | nil=>rfl
 | cons a r ih =>
  cases r with
  | nil=>rfl
  | cons b r =>
   have e:(a :: b :: r).length - 1=((b :: r).length - 1) + 1:=by have h1:(a :: b :: r).length=r.length + 2:=rfl;have h2:(b :: r).length=r.length + 1:=rfl;omega
   rw [e,List.eraseIdx_cons_succ,ih]
   all_goals rfl
section
variable {X:Cx} {pins:List (Addr×Obj)} {σ:St} {H:Hp} {s:EO} {l b:Addr} {xs ys zs:List V}
theorem Inv.lset {its its':List ET} {n:Nat} {f:Array ET->Array ET} {t':Nat} (I:Inv X pins σ H s) (hH:H l=↥xs)
  (e:s.heap.get? l=some { cls:=.type "list", data:=.seq its.toArray n }) (hf:f its.toArray=its'.toArray) (hv:Vals ys its') (hz:ys.length<=sizeLine) :
  Inv X pins σ (upd H l (.lst ys)) { s with heap:=s.heap.update l (Obj.mapSeq f),toks:=t' }:=by
 have q:=PySem.IsL.update e f;rw [hf] at q;refine I.write (x:=l) (e:=l) (by rw [hH]; exact trivial) (.inl rfl) (λ b' u hb hu=>(Heap.get?_update_other s.heap (Obj.mapSeq f) (Ne.symm hb)).trans hu) ⟨_,q⟩ ?_;exact ⟨hz,its',_,hv,q⟩
theorem Inv.lnew {its:List ET} {t':Nat} (I:Inv X pins σ H s) (hv:Vals ys its) (hz:ys.length<=sizeLine) :
  Inv X pins σ (upd H s.heap.objs.size (.lst ys)) { s with heap:=s.heap.push { cls:=.type "list", data:=.seq its.toArray }, toks:=t' } :=
 I.laid (λ _ _ q=>A7 _ q) (B3 _) ⟨hz,its,0,hv,A8 _ rfl⟩
theorem Inv.fresh (I:Inv X pins σ H s):H s.heap.objs.size=none:=I.hok.fresh (B3 _)
theorem Inv.lstM (I:Inv X pins σ H s) (hH:H l=↥xs):xs.length<=sizeLine/\∃ (its:List ET) (n:Nat),Vals xs its/\xs.length=its.length/\s.heap.get? l=some { cls:=.type "list",data:=.seq its.toArray n }:=by obtain ⟨z,its,n,r,e⟩:=I.hok l _ hH;exact ⟨z,its,n,r,r.length,e⟩
theorem oF {n:Nat} (h:n<=sizeLine):Builtin.List.listTooLong n=false:=by unfold Builtin.List.listTooLong;exact B1 ⋯
end
section
variable {X:Cx}
inductive rAppend (x:V) (vs:List V) (H:Hp) (Q:VK):Prop
 | mk (l:Addr) (xs:List V) (y:V) (e_0:x=.ref l) (e_1:vs=[y]) (e_2:H l=↥xs) (e_3:xs.length < sizeLine) (e_4:Q .non (upd H l (.lst (xs ++ [y])))):rAppend x vs H Q
theorem dC:MtM X "list.append" rAppend:=by intro pins s σ H x vs v us Q I rx rv h;obtain ⟨l,xs,y,rfl,rfl,hH,hz,q⟩:=h;cases rx;obtain ⟨u,rfl,ru⟩:=rv.one;obtain ⟨z,its,n,r,hl,e⟩:=I.lstM hH;refine call_meets F.slot_list_append ⟨_,e,Y⟩ F.entry_list_append (F.args_list_append_2 _ _) (PySem.list_append l its.toArray n u (by rw [List.size_toArray]; omega)) ⟨e,?_⟩;refine ⟨.non,_,I.lset (its':=its ++ [u]) hH e (by simp) (r.append (.cons ru .nil)) ?_,Y,q⟩;rw [List.length_append,List.length_singleton];omega
def qO:V->List V->Hp->VK->Prop:=λ x vs H Q=>∃l b xs zs,x=.ref l/\vs=[.ref b]/\H l=↥xs/\H b=↥zs/\xs.length + zs.length<=sizeLine/\Q .non (upd H l (.lst (xs ++ zs)))
theorem eZ:MtM X "list.extend" qO:=by
 intro pins s σ H x vs v us Q I rx rv h;obtain ⟨l,b,xs,zs,rfl,rfl,hH,hB,hz,q⟩:=h;cases rx;obtain ⟨u,rfl,ru⟩:=rv.one;cases ru;obtain ⟨z,its,n,r,hl,e⟩:=I.lstM hH;obtain ⟨z2,its2,n2,r2,hl2,e2⟩:=I.lstM hB;have hsz:its.toArray.size + its2.toArray.size<=sizeLine:=by rw [List.size_toArray,List.size_toArray]; omega
 have hlong:¬ (!its.toArray.isEmpty && Builtin.List.listTooLong (its.toArray.size + its2.toArray.size))=true:=by rw [oF hsz,Bool.and_false];exact B2
 refine call_meets F.slot_list_extend ⟨_,e,Y⟩ F.entry_list_extend (F.args_list_extend_2 _ _)
  (AutoSeq1.list_extend_list_list_0 l its.toArray n b its2.toArray n2 hlong (by rw [List.size_toArray]; omega) ⋯) ⟨e,e2,?_⟩
 refine ⟨.non,_,I.lset (its':=its ++ its2) hH e (by simp) (r.append r2) ?_,Y,q⟩;rw [List.length_append];omega
def BH:V->List V->Hp->VK->Prop:=λ x vs H Q=>∃l xs y,x=.ref l/\vs=[]/\H l=↥xs/\xs[xs.length - 1]? = some y/\Q y (upd H l (.lst xs.dropLast))
theorem oG:MtM X "list.pop" BH:=by
 intro pins s σ H x vs v us Q I rx rv h;obtain ⟨l,xs,y,rfl,rfl,hH,hy,q⟩:=h;cases rx;have hus:=rv.zero;subst hus;obtain ⟨z,its,n,r,hl,e⟩:=I.lstM hH;obtain ⟨u,hu,ru⟩:=r.get hy;have hy':its.toArray[its.toArray.size - 1]? = some u:=by show its.toArray[its.length - 1]? = some u;rw [<- Array.getElem?_toList,<- hl];exact hu
 refine call_meets F.slot_list_pop ⟨_,e,Y⟩ F.entry_list_pop (F.args_list_pop_1 _) (MeetsSeq.list_pop_last l its.toArray n u hy' (by rw [List.size_toArray]; omega)) ⟨e,?_⟩;refine ⟨y,_,I.lset (its':=its.dropLast) hH e ?_ r.dropLast ?_,ru,q⟩
 ·show its.toArray.eraseIdxIfInBounds (its.toArray.size - 1)=its.dropLast.toArray;rw [List.size_toArray,List.eraseIdxIfInBounds_toArray,jR]
 ·rw [List.length_dropLast];omega
inductive rCat (x:V) (y:V) (H:Hp) (Q:VK):Prop
 | mk (l:Addr) (b:Addr) (xs:List V) (zs:List V) (e_0:x=.ref l) (e_1:y=.ref b) (e_2:H l=↥xs) (e_3:H b=↥zs) (e_4:xs.length + zs.length<=sizeLine) (e_5:∀p,H p=none->Q (.ref p) (upd H p (.lst (xs ++ zs)))):rCat x y H Q
theorem sJ:OpR X (binaryOp .Add) rCat:=by
 intro pins s σ H x y v u Q I rx ry h;obtain ⟨l,b,xs,zs,rfl,rfl,hH,hB,hz,q⟩:=h;cases rx;cases ry;obtain ⟨z,its,n,r,hl,e⟩:=I.lstM hH;obtain ⟨z2,its2,n2,r2,hl2,e2⟩:=I.lstM hB;refine PySem.P.add_list e e2 ?_ (by rw [List.size_toArray,List.size_toArray]; omega);have ea:its.toArray ++ its2.toArray=(its ++ its2).toArray:=by simp
 rw [ea];exact ⟨.ref _,_,I.lnew (t':=s.toks) (r.append r2) (by rw [List.length_append]; omega),Y,q _ I.fresh⟩
end
end L2
namespace Att
open PySem PySem.W PySem.Calls PyProof.Rows
theorem fz {P:Params} {h:Heap}:∀ (ns:List Int) (vs:List ET),WellAll P h vs (ns.map WData.int)->IntsAre vs ns:=by
 intro ns
 induction ns with
 | nil =>
  intro vs w;rw [List.map_nil] at w;cases w;exact .nil
 | cons n ns ih =>
  intro vs w;rw [List.map_cons] at w;cases w with
  | cons a b =>
   cases a;exact .cons _ _ (ih _ b)
theorem mo {l:OpenLaw} {n:Nat} (hn:l.most=some n) {P:Params} {h:Heap} {args:List WData} {vals:List ET}
  (hpre:l.row.toRowW.claim.pre args=true) (hwl:WellAll P h vals args) :
  ∃a vs ns,vals=[Value.ref a]/\args=[WData.list (ns.map WData.int)]/\h.get? a=some { cls:=.type "list",data:=.seq vs.toArray }/\IntsAre vs ns/\ns.length<=n:=by
 have hsh:WShape.hasAll [] args [.list .int]=true:=(pre_splitW hpre).1;have hc:l.pre.holds [] { args:=args }=true:=(pre_splitW hpre).2;obtain ⟨d,r,rfl,h1,h2⟩:=hasAllW_cons hsh;obtain rfl:=hasAllW_nil h2;obtain ⟨xs,rfl,h3⟩:=hasW_list h1;obtain ⟨ns,rfl⟩:=items_int h3;have hlen:ns.length<=n:=by
  unfold OpenLaw.pre at hc;have h4:(WTm.not (.lt (.lit (.int (n:Int))) (.len (.arg 0)))).holds [] { args:=[.list (ns.map .int)] }=true:=by have h4:=(holds_andW hc).1;rw [hn] at h4;exact h4
  have h5:=condW_of h4 (w_not (w_lt w_lit (w_len_list (w_arg rfl))));rw [List.length_map] at h5;refine Nat.le_of_not_lt λ q=>?_;have q':(n:Int) < ((ns.length:Nat):Int):=⋯
  first
   | (rw [decide_eq_true q'] at h5; exact absurd h5 ∅)
   | (simp at h5; omega)
 cases hwl with
 | cons w1 w2 =>
  cases w2;cases w1 with
  | list ho hall=>exact ⟨_,_,ns,Y,Y,ho,fz ns _ hall,hlen⟩
theorem mq (l:OpenLaw) (args:List WData):l.row.toRowW.claim.post args (.bool true) args=true :=
 postW_of (r:=l.row.toRowW) (X:=(true == true))
  (show WShape.has [] (.bool true) .bool=true by first | rfl | decide | simp [WShape.has,WShape.arms,WShape.armsAll])
  (show (WTm.eq .res (.lit (.bool true))).value [] { args:=args,res:=some (.bool true),after:=args }=some (.bool (true == true)) from w_eq_bool (w_res rfl) w_lit) rfl
theorem attach_call {l:OpenLaw} {n:Nat} {q:EQ} {loose:List Str} {XP:(Str->Option ET)->Heap->Prop} {YP:ES->Heap->Prop} {d:DefRec}
  (hn:l.most=some n) (hdf:d.params.defaults=[])
  (call:∀ (w:ES) (s₀ s₁:EO) (mg mb:Str->Option ET) (fa:Addr) (o:Obj) (pm cd doc:ET) (a:Addr) (vs:List ET) (ns:List Int),
   Ground q loose [] XP w s₀ mg mb s₁.heap->YP w s₁.heap ->
   s₁.heap.get? fa=some o->o.data=.func (docDef d.name d.params d.body d.scope pm cd doc)->s₁.heap.CodeRec cd d.name->mg d.name=↑fa ->
   s₁.heap.get? a=some { cls:=.type "list",data:=.seq vs.toArray }->IntsAre vs ns->ns.length<=n->s₁.gens=#[] ->
   codeAny (model l.prog w) callerA (.call (.ref fa) ⟨[.ref a],[]⟩) (λ r s'=>r=.ok (.ret (.bool true))/\OldK s₁.heap s'.heap/\s'.os=s₁.os/\AllBare s'.gens) s₁) :
  WalkO q loose XP YP l.row.toRowW d [] (λ f vs=>PySem.call f vs):=by
 intro w s₀ s₁ mg mb G YY0 fa o pm cd doc dV kV ho hd hcd hD hmg hg args vals as hpre hlay hrd hwl hlo;obtain rfl:dV=.none:=Dflts.none hD hdf;obtain rfl:kV=.none:=Dflts.noKw hD;obtain ⟨a,vs,ns,rfl,rfl,hobj,hints,hlen⟩:=mo hn hpre hwl;refine enter_call (codeAny_mono (call w s₀ s₁ mg mb fa o pm cd doc a vs ns G YY0 ho (fd_plain hd) hcd hmg hobj hints hlen hg) λ r s' hq=>?_);obtain ⟨rfl,h2,h3,h4⟩:=hq;exact ⟨.inl ⟨.bool true,.bool true,[],Y,λ _=>rfl,.bool true,mq l _,λ _=>⟨List.Pairwise.nil,λ _ hm=>(nomatch hm)⟩⟩,h2,h3,h4⟩
section
variable {prog:EQ} {w:ES} {A:Around} {E:ET->EO->Prop} {s:EO} {K:Frag}
def BI (h:Heap) (L d:Addr):List (Addr×Obj):=(List.range h.objs.size).filterMap λ a=>if a=L\/a=d then none else (h.get? a).map λ o=>(a,o)
end
end Att
namespace L2
open PySem PySem.Spec PyProof.Rows
theorem gZ:∀ {vs:List ET} {ns:List Int},IntsAre vs ns->Vals (ns.map V.int) vs
 | _,_,.nil=>.nil
 | _,_,.cons n t h=>.cons ⟨t,Y⟩ (gZ h)
def sK (H:Hp):Prop:=∀b,H b=none\/∃o xs,H b=some (.frz o (.lst xs))
theorem oH {P:EQ} {w:ES} {K:C4} {mg mb:Str->Option ET} {CX:CXT} {k:Nat} {fa a:Addr} {fd:ER} {x:Str} {sp:Sp} {s₁:EO} {vs:List ET} {ns:List Int}
  (KX:K.In s₁.heap) (hns:s₁.heap.Ns mainGlobals mg) (hb:s₁.heap.Ns builtinsNs mb) (hbb:∀x:Str,x ≠ "__name__" -> mb x=bootBuiltins x) (hlim:s₁.heap.NoLimit) (hg:s₁.gens=#[])
  (ha:s₁.heap.get? a=some { cls:=.type "list",data:=.seq vs.toArray }) (hi:IntsAre vs ns) (hl:ns.length<=sizeLine) (hr:Room k callerA)
  (F:∀base:Heap,K.In base->base.Ns mainGlobals mg->FnOk P w K mg base CX k fa fd [x] sp) (hbind:∀ (s:EO) (u:ET),BindsTo s fd ⟨[u],[]⟩ [(x,u)])
  (hsp:∀H:Hp,sK H->SqL K H a (ns.map V.int)->sp [.ref a] H (λ v _=>v=.bl true) λ _ _ _=>False)
  (hCX:∀H e s',CX [] H s₁ (λ _ _ _=>False) e s'->False) :
  codeAny (model P w) callerA (.call (.ref fa) ⟨[.ref a],[]⟩) (λ r s'=>r=.ok (.ret (.bool true))/\OldK s₁.heap s'.heap/\s'.os=s₁.os/\AllBare s'.gens) s₁:=by
 have rv:=gZ hi;have lenV:=hi.length;have core:∀H:Hp,sK H->SqL K H a (ns.map V.int)->HOk P w H s₁.heap->(∀b,H b≠none->b=a)->(H a≠none->K.lookup a=none) ->
   codeAny (model P w) callerA (.call (.ref fa) ⟨[.ref a],[]⟩) (λ r s'=>r=.ok (.ret (.bool true))/\OldK s₁.heap s'.heap/\s'.os=s₁.os/\AllBare s'.gens) s₁:=by
  intro H hO hS hok hA hK;have base_of:∀ {b:Addr} {o:Obj},s₁.heap.get? b=some o->H b=none->(iu s₁.heap H).get? b=some o:=λ e n=>nU e n;have noA:∀ {b:Addr} {o:Obj} {es:Array DictEntry} {ep:Nat},s₁.heap.get? b=some o->o.data=.dict es ep->H b=none:=λ {b o es ep} e d=>by
   cases q:H b with
   | none=>rfl
   | some u =>
    have e':b=a:=hA b (by rw [q]; simp);subst e';rw [ha] at e; cases e;have d':Data.seq vs.toArray _=Data.dict es ep:=d;cases d'
  have nsK:∀ {b:Addr} {m:Str->Option ET},s₁.heap.Ns b m->(iu s₁.heap H).Ns b m:=λ {b m} ⟨o,es,ep,e,d,r⟩=>⟨o,es,ep,base_of e (noA e d),d,r⟩
  have hKb:K.In (iu s₁.heap H):=λ b o e=>base_of (KX b o e) (by
   cases q:H b with
   | none=>rfl
   | some u =>
    have e':b=a:=hA b (by rw [q]; simp);subst e';rw [hK (by rw [q]; simp)] at e; cases e)
  have hM:Mod K mg (iu s₁.heap H):=⟨hKb,nsK hns,⟨mb,nsK hb,hbb⟩,let ⟨mc,h1,h2⟩:=hlim; ⟨mc,nsK h1,h2⟩⟩
  have e0:Env0 P w K mg (iu s₁.heap H) callerA [] s₁ H:=⟨Y,hM,λ b o e=>qx e,Nat.le_of_eq (lU _ _),trivial,λ b hb=>absurd (show b∈([]:List Addr) from hb) (by simp),hok,.of_eq hg⟩
  refine codeAny_mono ((F _ hKb (nsK hns)).run callerA [] s₁ H ⟨[.ref a],[]⟩ [.ref a] [.ref a] _ _ hr e0 (hbind s₁ (.ref a)) (.cons rfl .nil) (hsp H hO hS)) λ r s' h=>?_;cases r with
  | error e=>exact (hCX H e s' h).elim
  | ok fl =>
   cases fl with
   | next=>exact EG h
   | brk=>exact EG h
   | cont=>exact EG h
   | ret u =>
    obtain ⟨v,H',os,bare,un,hok',r',q⟩:=h;have q':v=.bl true:=q;subst q';obtain rfl:u=Value.bool true:=r';refine ⟨Y,OldK.of_keep λ b o e=>?_,os,bare⟩;cases q:H b with
    | none=>exact un.keep b o e q (by intro z; exact absurd (show b∈([]:List Addr) from z) (by simp)) (by simp)
    | some u =>
     rcases hO b with z | ⟨ob,xs,z⟩
     ·rw [q] at z; cases z
     ·have z2:=un.frzs b ob _ z;obtain ⟨e1,_⟩:=hok b _ z;obtain ⟨e2,_⟩:=hok' b _ z2;rw [e] at e1; cases e1;exact e2
 cases hk:K.lookup a with
 | some o =>
  have e:=KX a o hk;rw [ha] at e;cases e;refine core (λ _=>none) (λ _=>.inl rfl) (.inr ⟨_,vs.toArray,_,hk,Y,Y,Y,by rw [List.size_toArray,lenV]; exact hl,by simpa using rv⟩) (λ b u z=>by have z':(none:Option HO)=some u:=z; cases z') (λ b z=>absurd rfl z) λ z=>absurd rfl z
 | none =>
  refine core (λ b=>if b=a then some (.frz { cls:=.type "list",data:=.seq vs.toArray } (.lst (ns.map V.int))) else none) (λ b=>?_) (.inl (.inr ⟨{ cls:=.type "list",data:=.seq vs.toArray },if_pos rfl⟩)) (λ b u z=>?_) (λ b z=>?_) λ _=>hk
  ·by_cases hb:b=a
   ·exact .inr ⟨_,_,if_pos hb⟩
   ·exact .inl (if_neg hb)
  ·by_cases hb:b=a
   ·have z':=(if_pos hb).symm.trans z;cases z';subst hb;exact ⟨ha,by rw [List.length_map]; exact hl,vs,_,rv,ha⟩
   ·have z':=(if_neg hb).symm.trans z;cases z'
  ·by_cases hb:b=a
   ·exact hb
   ·exact absurd (if_neg hb) z
theorem walk_of {l:PySem.W.OpenLaw} {n k:Nat} {q:EQ} {loose:List Str} {XP:(Str->Option ET)->Heap->Prop} {YP:ES->Heap->Prop} {d:DefRec} {K:Params->C4} {CX:ES->CXT} {sp:ES->Sp} {x:Str}
  (hn:l.most=some n) (hn2:n<=sizeLine) (hdf:d.params.defaults=[]) (hr:Room k callerA)
  (hY:∀ (w:ES) (h:Heap),YP w h->(K w.params).In h)
  (F:∀ (w:ES) (mg:Str->Option ET) (fa:Addr) (h:Heap),(K w.params).In h->h.Ns mainGlobals mg->mg d.name=↑fa ->
   ∃fd:ER,(∀ (s:EO) (u:ET),BindsTo s fd ⟨[u],[]⟩ [(x,u)]) /\
    ∀base:Heap,(K w.params).In base->base.Ns mainGlobals mg->FnOk l.prog w (K w.params) mg base (CX w) k fa fd [x] (sp w))
  (hsp:∀ (w:ES) (H:Hp) (a:Addr) (ns:List Int),ns.length<=n->sK H->SqL (K w.params) H a (ns.map V.int)->sp w [.ref a] H (λ v _=>v=.bl true) λ _ _ _=>False)
  (hCX:∀ (w:ES) (H:Hp) (s:EO) (e:ET) (s':EO),CX w [] H s (λ _ _ _=>False) e s'->False) :
  PySem.W.WalkO q loose XP YP l.row.toRowW d [] (λ f vs=>PySem.call f vs):=by
 refine Att.attach_call hn hdf λ w s₀ s₁ mg mb fa o pm cd doc a vs ns G YY0 ho hd hcd hmg hobj hints hlen hg=>?_;have KX:=hY w _ YY0;obtain ⟨fd,hb,hF⟩:=F w mg fa _ KX G.T.g hmg;exact oH KX G.T.g G.T.b G.T.builtins G.T.nolimit hg hobj hints (C5 hlen hn2) hr hF hb (λ H hO hS=>hsp w H a ns hlen hO hS) λ H e s'=>hCX w H s₁ e s'
def inClass (s:Stmt) (j:Nat):Stmt:=match s with
 | .ClassDef _ _ _ body _ _ _ _ _ _ _=>body.getD j (.Pass ⟨0,0,0,0⟩)
 | _=>.Pass ⟨0,0,0,0⟩
def defArgs (s:Stmt):Arguments:=match s with
 | .FunctionDef _ a _ _ _ _ _ _ _ _=>a
 | _=>{ posonlyargs:=[],args:=[],vararg:=none,kwonlyargs:=[],kw_defaults:=[],kwarg:=none,defaults:=[] }
def defBody (s:Stmt):List Stmt:=match s with
 | .FunctionDef _ _ b _ _ _ _ _ _ _=>b
 | _=>[]
def defScope (s:Stmt):Scope:=match s with
 | .FunctionDef _ _ _ _ _ _ sc _ _ _=>sc
 | _=>{ kind:=.function,names:=[],isGenerator:=false,isCoroutine:=false }
abbrev CX0:CXT:=λ _ _ _ _ _ _=>False
abbrev E0:XK:=λ _ _ _=>False
theorem li {X:Cx}:el CX0 X E0:=λ _ _ _ _ _ _ _ h=>h.elim
structure Fun (K:C4) (x qual:Str) (st:Stmt) (f:Addr) (fd:FuncData):Prop where
 ex:∃ (oc:ET) (od:Option Addr) (kV doc pm:ET) (an:Option Addr) (cdv ct:ET) (osl:Array (Option ET)),
  fd=EF x qual (defArgs st) (defBody st) (defScope st) .none kV doc pm an cdv ct/\K.lookup f=some ⟨oc,od,.func fd,osl⟩/\PySem.W.codeIn K cdv qual=true
 kp:PySem.W.keepIn K (.ref f)=true
section
variable {P:EQ} {w:ES} {K:C4} {mg:Str->Option ET} {base:Heap}
theorem Fun.ok {x qual:Str} {st:Stmt} {f:Addr} {fd:ER} {N ps:List Str} {k:Nat} {sp:Sp} (F:Fun K x qual st f fd) (S:FnScope N ps (defScope st)) (len:∀vs H Q E,sp vs H Q E->vs.length=ps.length)
  (hbody:∀ (cdv:ET) (A:Around) (outer:List Env) (s:EO) (H:Hp) (vs:List V) (Q:VK) (E:XK),Room k (A.deeper (envOfC qual (defScope st) s.heap.objs.size f cdv))->sp vs H Q E ->
   ∃t,PSs (mf CX0 P w K mg base N qual (defScope st) f cdv A outer s H E).nox (defBody st) t/\t { nx:=λ _ H'=>Q .non H',rt:=Q } (fi N vs) H):FnOk P w K mg base CX0 (k + 1) f fd ps sp:=by
 obtain ⟨oc,od,kV,doc,pm,an,cdv,ct,osl,rfl,lk,hcd⟩:=F.ex;refine vI lk hcd S len λ A outer s H vs Q E hr hsp=>?_;obtain ⟨t,h,q⟩:=hbody cdv A outer s H vs Q E hr hsp;exact ⟨t,h.nox,q⟩
theorem Fun.binds {x qual:Str} {st:Stmt} {f:Addr} {fd:ER} {ps:List Str} (F:Fun K x qual st f fd)
  (h:∀ (kV doc pm:ET) (an:Option Addr) (cdv ct:ET) (us:List ET),us.length=ps.length->bindArgs (EF x qual (defArgs st) (defBody st) (defScope st) .none kV doc pm an cdv ct) ⟨us,[]⟩=pure (ps.zip us)):Binds K fd ps []:=by
 obtain ⟨oc,od,kV,doc,pm,an,cdv,ct,osl,rfl,lk,hcd⟩:=F.ex;exact .all (h kV doc pm an cdv ct)
theorem jS {x qual:Str} {st:Stmt} {f:Addr} {oc:ET} {od an:Option Addr} {osl:Array (Option ET)} {kV doc pm cdv ct:ET} (l:K.lookup f=some ⟨oc,od,.func (EF x qual (defArgs st) (defBody st) (defScope st) .none kV doc pm an cdv ct),osl⟩)
  (c:PySem.W.codeIn K cdv qual=true) (k:PySem.W.keepIn K (.ref f)=true):Fun K x qual st f (EF x qual (defArgs st) (defBody st) (defScope st) .none kV doc pm an cdv ct):=⟨⟨oc,od,kV,doc,pm,an,cdv,ct,osl,Y,l,c⟩,k⟩
end
section
variable {X:Cx}
theorem pv (i:Nat) {x:Str} {pos:Pos} (hN:X.N[i]? = some x:=by rfl) (hv:Vis X.env.scope x:=by first | exact Or.inl rfl | exact Or.inr (Or.inl rfl) | exact Or.inr (Or.inr rfl)) (hd:(x == ("__debug__" : Str))=false:=by decide)
  (hcd:(x == ("__classdict__" : Str))=false:=by decide):PE X (.Name x pos) (tVar i):=sn hN hv hd hcd
end
theorem aJ {A B:Prop} (h:B):if false=true then A else B:=by rw [if_neg Bool.false_ne_true];exact h
theorem aS {A B:Prop} (h:A):if true=true then A else B:=by rw [if_pos rfl];exact h
theorem bU {c A B:Prop} [Decidable c] (h1:c->A) (h2:¬ c->B):if c then A else B:=by
 by_cases h:c
 ·rw [if_pos h];exact h1 h
 ·rw [if_neg h];exact h2 h
def Same (H H':Hp):Prop:=∀b o,H b=some o->H' b=some o
theorem Same.refl (H:Hp):Same H H:=λ _ _ h=>h
theorem Same.trans {H H1 H2:Hp} (a:Same H H1) (b:Same H1 H2):Same H H2:=λ c o h=>b c o (a c o h)
theorem Same.free {H H':Hp} (e:Same H H') {l:Addr} (h:H' l=Option.none):H l=Option.none:=by
 cases q:H l with
 | none=>rfl
 | some o =>
  rw [e l o q] at h;cases h
theorem Same.seq {K:C4} {H H':Hp} {a:Addr} {xs:List V} (e:Same H H') (h:SqL K H a xs):SqL K H' a xs:=by
 rcases h with (h | ⟨o,h⟩) | h
 ·exact .inl (.inl (e _ _ h))
 ·exact .inl (.inr ⟨o,e _ _ h⟩)
 ·exact .inr h
def bD (env:Env):List (Str×NameKind)->List (Str×Addr)->List (Str×Addr)
 | [],acc=>acc
 | (n,k) :: r,acc=>bD env r (if (k == NameKind.free)=true then (n,(env.cells.lookup n).getD 0) :: acc else acc)
theorem cO (env:Env):∀ (names:List (Str×NameKind)) (acc:List (Str×Addr)) (x:Str) (c:Addr),(∀y∈names,y.2=.free->∃c,env.cells.lookup y.1=some c) ->
  (∀x c,acc.lookup x=some c->env.cells.lookup x=some c)->(bD env names acc).lookup x=some c->env.cells.lookup x=some c
 | [],acc,x,c,_,h,e=>h x c e
 | (n,k) :: r,acc,x,c,hf,h,e=>by
  refine cO env r _ x c (λ y hy=>hf y (B4 _ hy)) (λ x c e'=>?_) e
  by_cases hk:(k == NameKind.free)=true
  ·rw [if_pos hk] at e';obtain ⟨c0,hc0⟩:=hf (n,k) B7 (by simpa using hk);have hc0':env.cells.lookup n=some c0:=hc0;rw [List.lookup_cons] at e';cases hx:x == n with
   | true =>
    rw [hx] at e';have:x=n:=by simpa using hx
    subst this;rw [hc0'] at e' ⊢;simpa using e'
   | false=>rw [hx] at e'; exact h x c e'
  ·rw [if_neg hk] at e'; exact h x c e'
theorem ge (env:Env):∀ (names:List (Str×NameKind)) (acc:List (Str×Addr)) (x:Str),(∃c,acc.lookup x=some c)->∃c,(bD env names acc).lookup x=some c
 | [],acc,x,h=>h
 | (n,k) :: r,acc,x,h=>by
  refine ge env r _ x ?_
  by_cases hk:(k == NameKind.free)=true
  ·rw [if_pos hk,List.lookup_cons];cases hx:x == n with
   | true=>exact ⟨_,Y⟩
   | false=>exact h
  ·rw [if_neg hk]; exact h
theorem fb (env:Env):∀ (names:List (Str×NameKind)) (acc:List (Str×Addr)) (x:Str),(x,NameKind.free)∈names->∃c,(bD env names acc).lookup x=some c
 | [],acc,x,h=>by simp at h
 | (n,k) :: r,acc,x,h=>by
  rcases List.mem_cons.mp h with e | e
  ·have e1:x=n:=congrArg Prod.fst e;have e2:NameKind.free=k:=congrArg Prod.snd e;subst e1;subst e2;refine ge env r _ x ?_;rw [if_pos (by simp),List.lookup_cons];simp
  ·exact fb env r _ x e
theorem gf {env:Env} {scope:Scope} (hf:∀y∈scope.names,y.2=.free->∃c,env.cells.lookup y.1=some c):closureFor scope env=pure (bD env scope.names []):=by
 have key:∀ (names:List (Str×NameKind)) (acc:List (Str×Addr)),(∀y∈names,y.2=.free->∃c,env.cells.lookup y.1=some c) ->
   (forIn names acc (λ (x:Str×NameKind) (r:List (Str×Addr))=>(if (x.2 == NameKind.free)=true then do
    let a<-cellOf env x.1
    pure (ForInStep.yield ((x.1,a) :: r)) else pure (ForInStep.yield r)) ):Sem (List (Str×Addr)))=pure (bD env names acc):=by
  intro names
  induction names with
  | nil=>intro acc _; rfl
  | cons y r ih =>
   intro acc h;obtain ⟨n,k⟩:=y;have ih':=λ acc=>ih acc λ z hz=>h z (B4 _ hz);rw [List.forIn_cons]
   by_cases hk:(k == NameKind.free)=true
   ·obtain ⟨c,hc⟩:=h (n,k) B7 (by simpa using hk);have hc':env.cells.lookup n=some c:=hc;have e1:cellOf env n=pure c:=by unfold cellOf; rw [hc']
    have e2:bD env ((n,k) :: r) acc=bD env r ((n,c) :: acc):=by show bD env r _=_;rw [if_pos hk,hc']; rfl
    rw [if_pos hk,e2,<- ih'];show ((cellOf env n >>= λ a=>pure (ForInStep.yield ((n,a) :: acc))) >>= _)=_;rw [e1]
    rfl
   ·have e2:bD env ((n,k) :: r) acc=bD env r acc:=by show bD env r _=_;rw [if_neg hk]
    rw [if_neg hk,e2,<- ih']
    rfl
 have:=key scope.names [] hf;simp only [closureFor];exact (congrArg (λ m=>m >>= λ r=>(pure r:Sem _)) this).trans rfl
theorem iD {env:Env} {scope:Scope} (hcell:∀y∈scope.names,y.2≠.cell) {x:Str}:((relabel scope env).names.lookup x=some .cell\/(relabel scope env).names.lookup x=some .free)->(x,NameKind.free)∈scope.names:=by
  have key:∀names:List (Str×NameKind),(∀y∈names,y.2≠.cell)->∀k,(names.map λ (n,k)=>if (k == NameKind.free && env.scope.kind == .function && env.kindOf n == some .cell) then (n,NameKind.cell) else (n,k)).lookup x=some k ->
      (k=.cell\/k=.free)->(x,NameKind.free)∈names:=by
    intro names
    induction names with
    | nil=>intro _ k h _; simp at h
    | cons y r ih =>
      obtain ⟨n,k'⟩:=y;intro hc k h hk;have nc:k'≠.cell:=hc (n,k') B7;rw [List.map_cons] at h
      by_cases hb:(k' == NameKind.free && env.scope.kind == .function && env.kindOf n == some .cell)=true
      . have hb':k'=.free:=by simp at hb; exact hb.1.1
        dsimp only at h;rw [if_pos hb,List.lookup_cons] at h;cases hx:x == n with
        | true => have : x = n := by simpa using hx
                  subst this; subst hb'; exact B7
        | false=>rw [hx] at h; exact B4 _ (ih (λ y hy=>hc y (B4 _ hy)) k h hk)
      . dsimp only at h
        rw [if_neg hb,List.lookup_cons] at h;cases hx:x == n with
        | true =>
          rw [hx] at h;have:x=n:=by simpa using hx
          subst this;have e:k'=k:=by simpa using h
          rcases hk with q | q
          . exact absurd (e.trans q) nc
          . rw [e,q]; exact B7
        | false=>rw [hx] at h; exact B4 _ (ih (λ y hy=>hc y (B4 _ hy)) k h hk)
  rintro (h | h)
  . exact key _ hcell _ h (.inl rfl)
  . exact key _ hcell _ h (.inr rfl)
def bP (X:Cx) (pins:List (Addr×Obj)) (s2:EO) (H2:Hp) (scope:Scope) (C:Addr) (N':List Str) (fp:List Addr):Cx where
 prog:=X.prog
 w:=X.w
 K:=X.K
 mg:=X.mg
 base:=X.base
 A:=X.A
 N:=N'
 s₀:=s2
 H₀:=H2
 env:=compEnvC scope (bD X.env scope.names []) C X.env
 outer:=X.stack
 stack:=X.stack
 ex:=fp
 fn:=λ _=>false
 calm:=X.calm
 pn:=X.pn ++ pins
 xe:=λ _ _=>False
def bI (σ:St) (cap:List Nat) (k:Nat):St:=List.replicate k none ++ cap.map λ j=>(σ[j]?).join
def leS (σ σ':St):Prop:=σ'.length=σ.length/\∀ (i:Nat) v,σ[i]? = some (some v)->σ'[i]? = some (some v)
theorem leS.set {σ:St} {i:Nat} {v:V} (h:σ[i]? = some none):leS σ (σ.set i (some v)):=by
 refine ⟨by simp,λ j w e=>?_⟩
 by_cases hj:j=i
 ·subst hj; rw [h] at e; cases e
 ·rw [List.getElem?_set_ne (Ne.symm hj)]; exact e
structure CompOk (X:Cx) (scope:Scope) (own:List Str) (cs:List Str) (cap:List Nat):Prop where
 kind:scope.kind=.function
 cell:∀y∈scope.names,y.2≠.cell
 names:∀y∈scope.names,y.2=.local->scope.names.lookup y.1=some .local
 free:∀y∈scope.names,y.2=.free->X.env.kindOf y.1=some .cell\/X.env.kindOf y.1=some .free
 caps:∀ (i:Nat) y,cs[i]? = some y->∃j,cap[i]? = some j/\X.N[j]? = some y/\(y,NameKind.free)∈scope.names
 ownl:∀y∈own,scope.names.lookup y=some .local
 len:cs.length=cap.length
 free2:∀y,(y,NameKind.free)∈scope.names->scope.names.lookup y=some .local->False
def oI (X:Cx) (ifs:List Expr) (tt:TT):Prop :=
 ∀ (pins:List (Addr×Obj)) (s:EO) (σ:St) (H:Hp) (Q:Bool->Hp->Prop),Inv X pins σ H s->tt σ H Q ->
  wpAny (model X.prog X.w) X.A (forIn ifs true λ c r=>if r=true then do let ok<-isTrue c X.env (eval c X.env); pure (ForInStep.yield ok) else pure (ForInStep.yield r)) (TP X pins σ Q) X.xe s
def vM:TT:=λ _ H Q=>Q true H
theorem bJ {X:Cx}:oI X [] vM:=λ _ _ _ H _ I h=>wpAny_tests_nil ⟨H,I,h⟩
theorem eF {X:Cx} {c:Expr} {tt:TT} (h:PT X c tt):oI X [c] tt:=λ pins s σ H Q I q=>wpAny_tests_one (h pins s σ H Q I q)
def hG (σ:St) (cap:List Nat) (k:Nat) (J:It) (g:TG) (tt:TT) (te:TE) (Q:List V->Hp->Prop) (W:Nat->Nat->List V->Hp->Prop):Prop :=
 ∀i m ys H,W i m ys H->(J.stop i H/\ys.length<=sizeLine/\Q ys H) \/
  (J.go i H/\ys.length < sizeLine/\∀x H',J.yld i H x H'->g x (bI σ cap k) H' λ σ2 H2=>leS (bI σ cap k) σ2/\tt σ2 H2 λ ok H3 =>
   if ok=true then te σ2 H3 (λ v H4=>∃m',m' < m/\W (i + 1) m' (ys ++ [v]) H4) else ∃m',m' < m/\W (i + 1) m' ys H3)
theorem HOk.add {P:EQ} {w:ES} {H:Hp} {h:Heap} {a:Addr} {o:HO} (x:HOk P w H h) (n:H a=none) (new:ObjOk P w (upd H a o) h a o):HOk P w (upd H a o) h:=λ b u e=>by
 by_cases hb:b=a
 ·subst hb; rw [af] at e; cases e; exact new
 ·rw [aj hb] at e;exact (x b u e).stay (λ c v _ q=>q) (λ c q=>by rw [aj (aq q n)]; exact q) λ c xs q=>by rw [aj (aq q n)]; exact q
section
variable {X:Cx} {pins:List (Addr×Obj)} {σ:St} {H2:Hp} {s2:EO} {scope:Scope} {own cs:List Str} {cap:List Nat} {fp:List Addr}
theorem mr {h1:Heap} {C:Addr} {tk:Nat} (I:Inv X pins σ H2 s2) (ok:CompOk X scope own cs cap) (hf:∀b∈fp,eU X pins H2 b) (hfl:∀b∈fp,b < s2.heap.objs.size)
  (hC:s2.heap.objs.size<=C) (hns:h1.Ns C (λ _=>none)) (old:∀b o,s2.heap.get? b=some o->h1.get? b=some o) :
  Inv (bP X pins s2 H2 scope C (own ++ cs) fp) [] (bI σ cap own.length) H2 { s2 with heap:=h1,toks:=tk }:=by
 have hfr:∀y∈scope.names,y.2=.free->∃c,X.env.cells.lookup y.1=some c:=λ y hy e=>I.ok.has y.1 (ok.free y hy e);have sub:∀x c,(bD X.env scope.names []).lookup x=some c->X.env.cells.lookup x=some c:=λ x c e=>cO X.env scope.names [] x c hfr (λ _ _ z=>by simp at z) e;have clt:∀x c,(bD X.env scope.names []).lookup x=some c->c < s2.heap.objs.size:=λ x c e=>by obtain ⟨v,o,ho,_⟩:=I.cell x c (sub x c e);exact A9 ho
 refine ⟨⟨I.ok.mod,ok.kind,I.ok.glob,I.ok.blt,hC,λ y z c h1 h2=>I.ok.inj y z c (sub y c h1) (sub z c h2),λ y hy=>?_,λ y c z=>?_,I.ok.hd,I.ok.frames,.inl rfl,λ b hb=>?_,I.bs,C5 I.ok.bsz I.sz,λ b o e hb=>?_,λ b hb z=>?_,I.stack,I.stkFree⟩,
  rfl,I.bare,Un.kept old,⟨_,hns,λ i y v e1 e2 e3=>?_⟩,λ y c e=>?_,I.hok.fresh hC,λ y c e=>I.freeC y c (sub y c e),λ p hp=>?_,I.hok.kept old,?_⟩
 ·have hm:=iD ok.cell hy;exact fb X.env scope.names [] y hm
 ·exact absurd (show false=true from z) B2
 ·exact ⟨B9 (C1 (hfl b hb) hC),λ x c e=>(hf b hb).2.2.2.2.1 x c (sub x c e)⟩
 ·rcases (hf b hb).2.2.2.1 with z | z
  ·exact I.ok.noex b o e z
  ·exact absurd (C1 (A9 (I.ok.bs b o e).1) z) (C8 _)
 ·rcases List.mem_cons.mp (I.stkSub b z) with q | q
  ·exact (hf b hb).2.1 q
  ·exact (hf b hb).2.2.1 q
 ·have hi:own.length<=i:=by
   refine Nat.le_of_not_lt λ q=>?_;unfold bI at e2;rw [List.getElem?_append_left (by simpa using q),List.getElem?_replicate] at e2
   split at e2 <;> cases e2
  have e1':cs[i - own.length]? = some y:=by have e1:(own ++ cs)[i]? = some y:=e1;rwa [List.getElem?_append_right hi] at e1
  obtain ⟨j,hj,hN,hm⟩:=ok.caps _ y e1';have hk:=ok.free _ hm rfl;have e2':σ[j]? = some (some v):=by
   unfold bI at e2;rw [List.getElem?_append_right (by simpa using hi),List.length_replicate,List.getElem?_map,hj] at e2;have e2:(σ[j]?).join=some v:=by simpa using e2
   cases q:σ[j]? with
   | none=>rw [q] at e2; cases e2
   | some w=>rw [q] at e2; have:w=some v:=e2; rw [this]
  obtain ⟨m,hn,hl⟩:=I.loc;obtain ⟨u,ru,l⟩:=hl j y v hN e2' (by rcases hk with q | q; exact .inr (.inl q); exact .inr (.inr q));refine ⟨u,ru,.inr ?_⟩;obtain ⟨c,hc⟩:=fb X.env scope.names [] y hm;have hc':=sub y c hc;have cellu:h1.IsCell c (some u):=by
   rcases l with ⟨k,_⟩ | ⟨k,c',e,o,ho,hd⟩
   ·rcases hk with q | q <;> (have z:X.env.kindOf y=_:=q; rw [k] at z; cases z)
   ·rw [hc'] at e; cases e;exact ⟨o,old _ _ ho,hd⟩
  refine ⟨?_,c,hc,cellu⟩;rcases e3 with z | z | z
  ·exfalso;have key:∀names:List (Str×NameKind),True:=λ _=>trivial;have z:(relabel scope X.env).names.lookup y=some .local:=z;have zz:scope.names.lookup y=some .local:=by
    unfold relabel at z;dsimp only at z;revert z;generalize scope.names=names
    induction names with
    | nil=>intro z; simp at z
    | cons q r ih =>
     obtain ⟨n,k⟩:=q;intro z;rw [List.map_cons] at z
     by_cases hb:(k == NameKind.free && X.env.scope.kind == .function && X.env.kindOf n == some .cell)=true
     ·dsimp only at z;rw [if_pos hb,List.lookup_cons] at z;rw [List.lookup_cons];cases hx:y == n with
      | true=>rw [hx] at z; cases z
      | false=>rw [hx] at z; exact ih z
     ·dsimp only at z;rw [if_neg hb,List.lookup_cons] at z;rw [List.lookup_cons];cases hx:y == n with
      | true=>rw [hx] at z; exact z
      | false=>rw [hx] at z; exact ih z
   have:=ok.free2 y hm zz;exact this
  ·exact .inl z
  ·exact .inr z
 ·obtain ⟨v,o,ho,hd⟩:=I.cell y c (sub y c e);exact ⟨v,o,old _ _ ho,hd⟩
 ·have hp':p∈X.pn ++ pins:=by have:p∈(X.pn ++ pins) ++ []:=hp;simpa using this
  obtain ⟨e,n,ne,nf,d⟩:=I.pin p hp';refine ⟨old _ _ e,n,B9 (C1 (A9 e) hC),λ z=>?_,d⟩;rcases List.mem_cons.mp (I.stkSub p.1 z) with q | q
  ·exact ne q
  ·exact nf q
 ·show (bI σ cap own.length).length=(own ++ cs).length;unfold bI;rw [List.length_append,List.length_replicate,List.length_map,List.length_append,ok.len]
end
section
variable {X:Cx} {pins:List (Addr×Obj)} {σ:St} {H2:Hp} {s2:EO} {scope:Scope} {own cs:List Str} {cap:List Nat} {fp:List Addr} {it:Addr} {tn:Nat->Heap->Prop}
 {elt tg iter:Expr} {ifs:List Expr} {pos:Pos} {J:It} {g:TG} {tt:TT} {te:TE} {E:ET->EO->Prop} {W:Nat->Nat->List V->Hp->Prop} {Qf:List V->Hp->Prop}
structure BlkEnd (X:Cx) (pins:List (Addr×Obj)) (σ:St) (Qf:List V->Hp->Prop) (D C:Addr) (s':Shared):Prop where
 ex:∃ (ys:List V) (H':Hp),H' D=none/\Qf ys H'/\Inv X pins σ (upd H' D (.lst ys)) s'/\eU X pins (upd H' D (.lst ys)) C
 ns:∃m,s'.heap.Ns C m
theorem Inv.bareP {pins':List (Addr×Obj)} {H:Hp} {s:EO} (I:Inv X pins' σ H s):Inv X [] σ H s:=I.pins_of λ p hp=>absurd hp (by simp)
theorem jb {RR:ET->Addr->Result->EO->Prop} (I:Inv X pins σ H2 s2) (ok:CompOk X scope own cs cap) (hc:X.calm=true) (T:Turn X.prog X.w X.K tg J fp it tn) (st:tn 0 s2.heap) (hf:∀b∈fp,eU X pins H2 b)
  (hg:∀C,PG (bP X pins s2 H2 scope C (own ++ cs) fp) tg g) (hi:∀C,oI (bP X pins s2 H2 scope C (own ++ cs) fp) ifs tt) (he:∀C,PE (bP X pins s2 H2 scope C (own ++ cs) fp) elt te)
  (w0:∃m,W 0 m [] H2) (turn:hG σ cap own.length J g tt te Qf W)
  (hRR:∀D C s',BlkEnd X pins σ Qf D C s'->RR (.ref D) C (.ok .next) s') :
  wpAny (model X.prog X.w) X.A (newList []) (λ acc s₃=>wpAny (model X.prog X.w) X.A (newFunctionEnv scope X.env.globals (bD X.env scope.names []) [] X.env.qual none .none (some X.env)) (λ cenv s₄ =>
   codeAny (model X.prog X.w) X.A (.compStart (.ListComp elt [⟨tg,iter,ifs,0⟩] scope pos) 0 (.ref it) acc { cenv with scope:=relabel scope X.env }) (RR acc cenv.locals) s₄) E s₃) E s2:=by
 refine EM (wpAny_newFunctionEnv ok.cell (by intro y hy; simp at hy) (λ h₁ hns₁ hsb₁=>?_) ok.kind);dsimp only at hns₁ hsb₁ ⊢;generalize hHH:s2.heap.push { cls:=.type "list",dict:=none,data:=.seq ([]:List ET).toArray }=HH at hns₁ hsb₁ ⊢;have hCs:HH.objs.size=s2.heap.objs.size + 1:=by rw [<- hHH,Heap.size_push]
 have hDC:s2.heap.objs.size≠HH.objs.size:=by rw [hCs]; exact B9 (EI _)
 have hCle:s2.heap.objs.size<=HH.objs.size:=by rw [hCs]; exact Nat.le_succ _
 have hfl:∀b∈fp,b < s2.heap.objs.size:=λ b hb=>by obtain ⟨o,e,_⟩:=T.obj 0 _ st b hb;exact A9 e
 have old:∀b o,s2.heap.get? b=some o->h₁.get? b=some o:=λ b o e=>hsb₁.extBut b o (by rw [hCs]; exact B9 (Nat.lt_succ_of_lt (A9 e))) (A7 _ (hHH ▸ A7 _ e));have hacc:h₁.PlainList s2.heap.objs.size #[]:=⟨_,hsb₁.extBut _ _ hDC (A7 _ (hHH ▸ A8 _ rfl))⟩
 generalize hD:s2.heap.objs.size=D at *;generalize hCC:HH.objs.size=C at *;have hns₁':h₁.Ns C (λ _=>none):=hns₁;have I0:Inv (bP X pins s2 H2 scope C (own ++ cs) fp) [] (bI σ cap own.length) H2 { s2 with heap:=h₁,toks:=s2.toks + ([]:List (Str×ET)).length } :=
  mr I ok hf (λ b hb=>by rw [hD]; exact hfl b hb) (by rw [hD]; exact hCle) hns₁' old
 have Dfs:D∉frs X.stack:=λ hb=>by obtain ⟨_,o,ho,_⟩:=I.stack.mem hb;exact absurd (A9 ho) (by rw [hD]; exact C8 _)
 have Dfp:∀b∈fp,D≠b:=λ b hb z=>absurd (hfl b hb) (by rw [<- z]; exact C8 _);have clt:∀x c,(bD X.env scope.names []).lookup x=some c->c < D:=λ x c e=>by have e':=cO X.env scope.names [] x c (λ y hy e=>I.ok.has y.1 (ok.free y hy e)) (λ _ _ z=>by simp at z) e;obtain ⟨v,o,ho,_⟩:=I.cell x c e';have:=A9 ho;rw [hD] at this; exact this
 have plt:∀p∈X.pn ++ pins,p.1 < D:=λ p hp=>by have:=A9 (I.pin p hp).1;rw [hD] at this; exact this
 have stat:∀ {H':Hp} {ob:Obj},(∀b∈fp,H' b=none)->∀b∈fp,eU (bP X pins s2 H2 scope C (own ++ cs) fp) [(D,ob)] H' b:=λ {H' ob} hn b hb=>by
  have q:=I0.ok.exf b hb;refine ⟨hn b hb,q.1,I0.ok.exfs b hb,.inl hb,q.2,λ p hp=>?_⟩;rcases C2.mp hp with z | z
  ·exact (hf b hb).2.2.2.2.2 p z
  ·have:p=(D,ob):=by simpa using z
   subst this;exact Dfp b hb
 have loop:codeAny (model X.prog X.w) X.A (.compLoop (.ListComp elt [⟨tg,iter,ifs,0⟩] scope pos) 0 (.ref it) (.ref D) (compEnvC scope (bD X.env scope.names []) C X.env)) (RR (.ref D) C)
   { s2 with heap:=h₁,toks:=s2.toks + ([]:List (Str×ET)).length }:=by
  obtain ⟨m0,w0⟩:=w0;refine codeAny_loop rfl (λ n s'=>∃i H' its ys,Inv (bP X pins s2 H2 scope C (own ++ cs) fp) [] (bI σ cap own.length) H' s'/\tn i s'.heap/\(∀b∈fp,H' b=none)/\s'.heap.PlainList D its.toArray/\Vals ys its/\H' D=none/\W i n ys H') ?_ m0
   ⟨0,H2,[],[],I0,T.keep 0 _ _ st λ b _ o e=>old b o e,λ b hb=>(hf b hb).1,hacc,.nil,I.hok.fresh (by rw [hD]; exact B3 _),w0⟩
  rintro n s3 ⟨i,H3,its,ys,I3,st3,fr3,⟨nn,pl3⟩,rv3,hD3,w3⟩;show wpAny _ X.A ((compTurn (.ListComp elt [⟨tg,iter,ifs,0⟩] scope pos) 0 (.ref it) (.ref D) (compEnvC scope (bD X.env scope.names []) C X.env)).onRaise (λ x=>do noteFrame x (compEnvC scope (bD X.env scope.names []) C X.env); theTreesLotGoes x)) _ _ s3;refine wpAny_noted ?_;rw [compTurn_list];refine A0 (wpAny_standAt (A0 ?_));have I3':Inv (bP X pins s2 H2 scope C (own ++ cs) fp) [(D, { cls:=.type "list", data:=.seq its.toArray nn })] (bI σ cap own.length) H3 s3 :=
   I3.pins_of λ p hp=>by
    have:p=(D,{ cls:=.type "list",data:=.seq its.toArray nn }):=by simpa using hp
    subst this;exact ⟨pl3,hD3,hDC,Dfs,λ v z=>by cases z⟩
  rcases turn i n ys H3 w3 with ⟨stop,hz,qf⟩ | ⟨go,hz,step⟩
  ·refine thn (T.done (bP X pins s2 H2 scope C (own ++ cs) fp) rfl rfl rfl hc i _ s3 _ H3 _ I3' (stat fr3) st3 stop) λ r s4 ⟨hr,I4⟩=>?_;subst hr;refine A1 (hRR D C s4 ⟨⟨ys,H3,hD3,qf,?_,?_⟩,?_⟩)
   ·have pl4:=(I4.pin (D,_) (A5 _ (EB.mpr rfl))).1;have u4:=I4.base;have Ds2:s2.heap.get? D=none:=Heap.get?_none_of_le (by rw [hD]; exact B3 _);refine I.call' (s':=s4) (ch:=fp) I4.os ⟨u4.keep,u4.slot,λ b o e n hx=>?_,u4.there,λ b xs e=>?_,λ b o u e=>?_,λ b ps e=>?_⟩ ?_ I4.bare λ b hb=>⟨(hf b hb).2.2.2.1,(hf b hb).2.1,(hf b hb).2.2.2.2.1,(hf b hb).2.2.2.2.2⟩
    ·rw [aj (λ z=>by rw [z,Ds2] at e; cases e)];exact u4.free b o e n hx
    ·have:=u4.tups b xs e;rw [aj (aq this hD3)]; exact this
    ·have:=u4.frzs b o u e;rw [aj (aq this hD3)]; exact this
    ·obtain ⟨more,e'⟩:=u4.tbls b ps e;exact ⟨more,by rw [aj (aq e' hD3)]; exact e'⟩
    ·exact I4.hok.add hD3 ⟨hz,its,nn,rv3,pl4⟩
   ·have CH:(upd H3 D (.lst ys)) C=none:=by rw [aj (Ne.symm hDC)]; exact I4.free
    exact I.fpOk (H':=upd H3 D (.lst ys)) (by rw [hD]; exact hCle) CH
   ·obtain ⟨m,hn,_⟩:=I4.loc;exact ⟨m,hn⟩
  ·refine thn (T.item (bP X pins s2 H2 scope C (own ++ cs) fp) rfl rfl rfl hc i _ s3 _ H3 _ I3' (stat fr3) st3 go) λ r s4 ⟨u,hr,h4⟩=>?_;subst hr;refine A0 (thn h4 λ _ s5 ⟨x,H5,I5,r5,y5,st5,fr5⟩=>?_);have I5':=I5.pinned (stat fr5) (T.obj _ _ st5);refine A0 (wpAny_mono (hg C _ s5 _ H5 x u _ I5' r5 (step x H5 y5)) (λ _ s6 ⟨σ6,H6,I6,le6,q6⟩=>?_) λ _ _ z=>EG z);refine A0 (wpAny_mono (hi C _ s6 σ6 H6 _ I6 q6) (λ b s7 ⟨H7,I7,q7⟩=>?_) λ _ _ z=>EG z);have back:∀ {pins':List (Addr×Obj)} {H8:Hp} {s8:EO},Inv (bP X pins s2 H2 scope C (own ++ cs) fp) pins' σ6 H8 s8->Inv (bP X pins s2 H2 scope C (own ++ cs) fp) [] (bI σ cap own.length) H8 s8:=λ I8 =>
    I8.bareP.weak le6.1.symm λ i v e=>le6.2 i v e
   cases b with
   | false =>
    rw [if_neg Bool.false_ne_true] at q7;obtain ⟨m',hm,w7⟩:=q7;refine A1 ⟨rfl,m',hm,i + 1,H7,its,ys,back I7,T.keep _ _ _ st5 λ b hb o e=>?_,λ b hb=>?_,⟨nn,?_⟩,rv3,?_,w7⟩
    ·exact (I7.pin (b,o) (A5 _ (A5 _ (bQ hb e)))).1
    ·obtain ⟨o,e,d⟩:=T.obj _ _ st5 b hb;exact (I7.pin (b,o) (A5 _ (A5 _ (bQ hb e)))).2.1
    ·exact (I7.pin (D,_) (A5 _ (B6 _ (EB.mpr rfl)))).1
    ·exact (I7.pin (D,_) (A5 _ (B6 _ (EB.mpr rfl)))).2.1
   | true =>
    rw [if_pos rfl] at q7;refine A0 (A0 (wpAny_mono (he C _ s7 σ6 H7 _ I7 q7) (λ y s8 ⟨v,H8,I8,r8,m',hm,w8⟩=>?_) λ _ _ z=>EG z));have pD:=I8.pin (D,{ cls:=.type "list",data:=.seq its.toArray nn }) (A5 _ (B6 _ (EB.mpr rfl)));have hlen:=rv3.length;refine A0 (wpAny_list_append_plain (hsz:=by rw [List.size_toArray]; omega) ⟨nn,pD.1⟩ λ h9 pl9 sb9=>A1 (A1 ?_));have I8':=back I8;refine ⟨Y,m',hm,i + 1,H8,its ++ [y],ys ++ [v],?_,T.keep _ _ _ st5 λ b hb o e=>?_,λ b hb=>?_,?_,rv3.append (.cons r8 .nil),pD.2.1,w8⟩
    ·exact I8'.turned (t':=s8.toks) (λ b o hb e=>sb9.extBut b o hb e) pD.2.1 hDC (.inr (by show s2.heap.objs.size<=D; rw [hD]; exact B3 _)) (λ x c e=>B9 (clt x c e)) λ p hp=>by
      have hp':p∈X.pn ++ pins:=by have:p∈(X.pn ++ pins) ++ []:=hp;simpa using this
      exact B9 (plt p hp')
    ·exact sb9.extBut b o (Ne.symm (Dfp b hb)) (I8.pin (b,o) (A5 _ (A5 _ (bQ hb e)))).1
    ·obtain ⟨o,e,d⟩:=T.obj _ _ st5 b hb;exact (I8.pin (b,o) (A5 _ (A5 _ (bQ hb e)))).2.1
    ·have e:its.toArray.push y=(its ++ [y]).toArray:=by simp
     rw [<- e]; exact pl9
 exact codeAny_compStart_list loop (T.self _ 0 _ _ _ (T.keep 0 _ _ st λ b _ o e=>old b o e) loop)
def oJ (wi:TI) (cap:List Nat) (k:Nat) (g:TG) (tt:TT) (te:TE):TE:=λ σ H Q=>wi σ H λ J H1 =>
 ∃W:Nat->Nat->List V->Hp->Prop,(∃m,W 0 m [] H1)/\hG σ cap k J g tt te (λ ys H'=>∀p,H' p=none->Q (.ref p) (upd H' p (.lst ys))) W
theorem bv {wi:TI} (hc:X.calm=true) (hit:PI X tg iter wi) (ok:CompOk X scope own cs cap)
  (hg:∀pins s2 H2 C fp,PG (bP X pins s2 H2 scope C (own ++ cs) fp) tg g) (hi:∀pins s2 H2 C fp,oI (bP X pins s2 H2 scope C (own ++ cs) fp) ifs tt) (he:∀pins s2 H2 C fp,PE (bP X pins s2 H2 scope C (own ++ cs) fp) elt te)
  (hs:∀x,foldedSetIterable iter X.env x=pure x:=by intro _; rfl):PE X (.ListComp elt [⟨tg,iter,ifs,0⟩] scope pos) (oJ wi cap own.length g tt te):=by
 intro pins s σ H Q I h;rw [eval_ListComp];refine wpAny_comprehension_free (use:=none) rfl hs (gf λ y hy e=>I.ok.has y.1 (ok.free y hy e)) ok.kind ok.names (thn (hit pins s σ H _ I h) λ v s1 h1=>thn h1 λ itv s2 h2=>?_);obtain ⟨it,fp,tn,J,H2,e,I2,T,st2,f2,W,w0,turn⟩:=h2;subst e;refine jb (RR:=λ acc C=>compPost (model X.prog X.w) X.A X.xe none (EP X pins σ Q) acc C) I2 ok hc T st2 f2 (λ C=>hg _ _ _ _ _) (λ C=>hi _ _ _ _ _) (λ C=>he _ _ _ _ _) w0 turn λ D C s' B=>?_;obtain ⟨⟨ys,H',hD,q,I',fp'⟩,m,hn⟩:=B;obtain ⟨f0,f1,f2',f3,f4,f5⟩:=fp';exact ⟨m,hn,λ h' sb=>⟨.ref D,_,I'.turned (t':=s'.toks) (λ b o hb e=>sb.extBut b o hb e) f0 f1 f3 f4 f5,Y,q D hD⟩⟩
theorem qQ {wi:TI} {i:Nat} {y:Str} {py spos:Pos} (hc:X.calm=true) (hN:X.N.Nodup) (hiy:X.N[i]? = some y) (hy:X.env.scope.names.lookup y=some .local)
  (hsw:swapsWith (.ListComp elt [⟨tg,iter,ifs,0⟩] scope pos) (some (.Name y py)) spos.line X.env=pure true) (hit:PI X tg iter wi) (ok:CompOk X scope own cs cap)
  (hg:∀pins s2 H2 C fp,PG (bP X pins s2 H2 scope C (own ++ cs) fp) tg g) (hi:∀pins s2 H2 C fp,oI (bP X pins s2 H2 scope C (own ++ cs) fp) ifs tt) (he:∀pins s2 H2 C fp,PE (bP X pins s2 H2 scope C (own ++ cs) fp) elt te)
  (hs:∀x,foldedSetIterable iter X.env x=pure x:=by intro _; rfl):PS X (.Assign [.Name y py] (.ListComp elt [⟨tg,iter,ifs,0⟩] scope pos) spos) (ss (oJ wi cap own.length g tt te) (cC i)):=by
 intro pins s σ H D0 I h;rw [exec_Assign_Name_used _ _ _ _ hsw];refine A0 (wpAny_standAt (A0 ?_));show wpAny _ X.A (do let _<-comprehension (.ListComp elt [⟨tg,iter,ifs,0⟩] scope pos) scope X.env _ (newList []) false (eval iter X.env) (some (assign (.Name y py) X.env))) _ _ s;refine A0 (wpAny_mono (wpAny_comprehension_free (use:=some (assign (.Name y py) X.env)) (Q:=λ _ s'=>SP X pins D0 .next s') rfl hs (gf λ y hy e=>I.ok.has y.1 (ok.free y hy e)) ok.kind ok.names
  (thn (hit pins s σ H _ I h) λ v s1 h1=>thn h1 λ itv s2 h2=>?_)) (λ _ s' hq=>A1 (A1 hq)) λ _ _ e=>e)
 obtain ⟨it,fp,tn,J,H2,e,I2,T,st2,f2,W,w0,turn⟩:=h2;subst e;refine jb (RR:=λ acc C=>compPost (model X.prog X.w) X.A X.xe (some (assign (.Name y py) X.env)) (λ _ s'=>SP X pins D0 .next s') acc C) I2 ok hc T st2 f2 (λ C=>hg _ _ _ _ _) (λ C=>hi _ _ _ _ _) (λ C=>he _ _ _ _ _) w0 turn λ D C s' B=>?_;obtain ⟨⟨ys,H',hD,q,I',fp'⟩,m,hn⟩:=B;obtain ⟨f0,f1,f2',f3,f4,f5⟩:=fp';show wpAny _ X.A (assign (.Name y py) X.env (.ref D)) _ _ _;refine wpAny_assign_Name (gP I' hN hiy (.inl hy) (v:=.ref D) rfl (λ s3 I3 ⟨a,sb,ha⟩=>?_) (.inr hy));have hCa:C≠a:=by
  rcases ha with z | z
  ·rw [z]; exact f1
  ·exact λ q=>f4 y a z q.symm
 refine ⟨m,hn.sameBut sb hCa,λ h' sb'=>⟨_,_,I3.turned (t':=s3.toks) (λ b o hb e=>sb'.extBut b o hb e) f0 f1 f3 f4 f5,q D hD⟩⟩
end
def CDivB (i j:Int):Prop:=0 < j/\j<=10 ^ 60
theorem CDivB.np {i j:Int} (h:CDivB i j):Builtin.divisionGoesByPylong i j=false:=by
 refine PyProof.noPylong_of_log2 ?_;have h1:j.natAbs < 2 ^ 200:=by obtain ⟨a,b⟩:=h;omega
 have h2:j.natAbs.log2 < 200:=(Nat.log2_lt (by have:=h.1; omega)).mpr h1;omega
section
variable {X:Cx}
theorem oK:OpR X (binaryOp .FloorDiv) (rI CDivB λ i j=>.int (i / j)):=opI λ i j _ _ _ _ _ hc q=>by refine floordiv_int (by have:=hc.1; omega) ?_ (.inl hc.np);rw [Int.fdiv_eq_ediv_of_nonneg _ (by have:=hc.1; omega)];exact q
theorem Inv.kitx {pins:List (Addr×Obj)} {σ:St} {H:Hp} {s:EO} {x:V} {u t:ET} (I:Inv X pins σ H s) (rx:RelV x u) (ty:TyOf X.K H x t) :
  ∃P:Heap->Prop,PySem.W.KitX X.K u t P/\P s.heap/\u≠.builtin "__main__.__loader__#opaque" := by
 cases ty with
 | non=>cases (show u=Value.none from rx); exact ⟨_,PySem.W.kitx_none,True.intro,λ z=>nomatch z⟩
 | bl y=>cases (show u=Value.bool y from rx); exact ⟨_,PySem.W.kitx_bool,True.intro,λ z=>nomatch z⟩
 | int i=>obtain ⟨t,q⟩:=(show ∃t,u=Value.int i t from rx); cases q; exact ⟨_,PySem.W.kitx_int,True.intro,λ z=>nomatch z⟩
 | str y=>obtain ⟨t,q⟩:=(show ∃t,u=Value.str y t from rx); cases q; exact ⟨_,PySem.W.kitx_str,True.intro,λ z=>nomatch z⟩
 | flt y=>obtain ⟨t,q⟩:=(show ∃t,u=Value.float y t from rx); cases q; exact ⟨_,PySem.W.kitx_float,True.intro,λ z=>nomatch z⟩
 | @lst a xs ea =>
  cases (show u=Value.ref a from rx);obtain ⟨_,_,n,_,h1⟩:=(show ObjOk X.prog X.w H s.heap a (.lst xs) from I.hok a _ ea)
  exact ⟨_,PySem.W.kitx_list,⟨_,h1,Y⟩,λ z=>nomatch z⟩
 | @frz a ob xs ea =>
  cases (show u=Value.ref a from rx);obtain ⟨_,_,_,n,_,h1⟩:=(show ObjOk X.prog X.w H s.heap a (.frz ob (.lst xs)) from I.hok a _ ea)
  exact ⟨_,PySem.W.kitx_list,⟨_,h1,Y⟩,λ z=>nomatch z⟩
 | @tup a xs ea =>
  cases (show u=Value.ref a from rx);obtain ⟨_,_,_,p⟩:=(show ObjOk X.prog X.w H s.heap a (.tup xs) from I.hok a _ ea)
  obtain ⟨o,h1,h2,_⟩:=p;exact ⟨_,PySem.W.kitx_tuple,⟨o,h1,h2⟩,λ z=>nomatch z⟩
 | @dK a kvs ea =>
  cases (show u=Value.ref a from rx);obtain ⟨_,_,vs,_,p⟩:=(show ObjOk X.prog X.w H s.heap a (.dK kvs) from I.hok a _ ea)
  obtain ⟨o,es,ep,h1,h2,_⟩:=p;exact ⟨_,PySem.W.kitx_dict,⟨o,h1,h2.1⟩,λ z=>nomatch z⟩
 | @dT a kvs ea =>
  cases (show u=Value.ref a from rx);obtain ⟨_,_,xs,_,o,es,ep,h1,h2,_⟩:=(show ObjOk X.prog X.w H s.heap a (.dT kvs) from I.hok a _ ea)
  exact ⟨_,PySem.W.kitx_dict,⟨o,h1,h2.1⟩,λ z=>nomatch z⟩
 | @ext a φ ea c =>
  cases (show u=Value.ref a from rx);obtain ⟨p,_,_⟩:=(show ObjOk X.prog X.w H s.heap a (.ext φ) from I.hok a _ ea)
  obtain ⟨o,h1,h2⟩:=c _ p;exact ⟨_,PySem.W.kitx_dict,⟨o,h1,h2⟩,λ z=>nomatch z⟩
 | @ins a C dx fs ea cl ha hn htk hm =>
  cases (show u=Value.ref a from rx);obtain ⟨mA,O,_⟩:=eD I.hok ea;obtain ⟨od,J,_⟩:=O.look;exact ⟨_,PySem.W.kitx_own (cl.get _) cl.hd ha hn htk hm,J,λ z=>nomatch z⟩
def clV:V->Option Value
 | .ty T=>some (.type T)
 | .ref C=>↑C
 | _=>none
theorem clV.rel {v:V} {u c:ET} (e:clV v=some c) (r:RelV v u):u=c:=by
 cases v with
 | ty T=>have e':Value.type T=c:=B8 e; rw [<- e']; exact r
 | ref C=>have e':Value.ref C=c:=B8 e; rw [<- e']; exact r
 | _=>cases e
def clVs:List V->Option (List ET)
 | []=>some []
 | v :: r=>match clV v,clVs r with
  | some c,some cs=>some (c :: cs)
  | _,_=>none
theorem clVs.rel:∀ {vs:List V} {us cs:List ET},clVs vs=some cs->Vals vs us->us=cs
 | [],_,_,e,.nil=>B8 e
 | v :: r,_,_,e,.cons r1 r2=>by
  unfold clVs at e
  split at e
  ·rename_i c cs' e1 e2
   cases e;rw [clV.rel e1 r1,clVs.rel e2 r2]
  ·cases e
theorem bR:cY X (.builtin "isinstance") (λ xs H Q=>∃x cv t c b,xs=[x,cv]/\TyOf X.K H x t/\clV cv=some c/\PySem.W.kitOne X.K t c=some b/\Q (.bl b) H):=by
 intro pins s σ H xs us Q I rv h;obtain ⟨x,cv,t,c,b,rfl,ty,e1,e2,q⟩:=h;cases rv with
 | cons r1 rr =>
  cases rr with
  | cons r2 rr =>
   cases rr;rw [clV.rel e1 r2];exact me I r1 ty e2 λ tk=>⟨.bl b,H,I.tok tk,Y,q⟩
theorem iE:cY X (.builtin "isinstance") (λ xs H Q=>∃x p t cvs cs b,xs=[x,.ref p]/\TyOf X.K H x t/\H p= ~~~cvs/\clVs cvs=some cs/\PySem.W.kitAny X.K t cs=some b/\Q (.bl b) H):=by
 intro pins s σ H xs us Q I rv h;obtain ⟨x,p,t,cvs,cs,b,rfl,ty,hp,e1,e2,q⟩:=h;cases rv with
 | cons r1 rr =>
  cases rr with
  | cons r2 rr =>
   cases rr;cases r2;obtain ⟨_,its,rits,o,ho,hc,n,hd⟩:=I.hok p _ hp;obtain ⟨P,Z,p1,p2⟩:=I.kitx r1 ty;obtain ⟨oc,od,dt,osl⟩:=o
   replace hc:oc=.type "tuple" := hc
   replace hd:dt=.seq its.toArray n:=hd
   subst hc hd;have e3:=clVs.rel e1 rits;subst e3;exact PySem.W.kia_tup Z I.kIn p1 ho e2 p2 λ tk=>⟨.bl b,H,I.tok tk,Y,q⟩
end
mutual
inductive DatV (K:C4) (H:Hp):V->PyData->Prop
 | non:DatV K H .non .none
 | bl (b:Bool):DatV K H (.bl b) (.bool b)
 | int (i:Int):DatV K H (.int i) (.int i)
 | str (x:Str):DatV K H (.str x) (.str x)
 | lst {a:Addr} {xs:List V} {ds:List PyData}:SqL K H a xs->DatVs K H xs ds->DatV K H (.ref a) (.list ds)
 | tup {a:Addr} {xs:List V} {ds:List PyData}:SqT K H a xs->DatVs K H xs ds->DatV K H (.ref a) (.tuple ds)
inductive DatVs (K:C4) (H:Hp):List V->List PyData->Prop
 | nil:DatVs K H [] []
 | cons {x:V} {d:PyData} {xs:List V} {ds:List PyData}:DatV K H x d->DatVs K H xs ds->DatVs K H (x :: xs) (d :: ds)
end
section
variable {X:Cx} {pins:List (Addr×Obj)} {σ:St} {H:Hp} {s:EO}
mutual
theorem Inv.reads (I:Inv X pins σ H s):∀ {v:V} {d:PyData},DatV X.K H v d->∀ {u:ET},RelV v u->∃as,Reads s.heap u d as
 | _,_,.non,u,r=>by cases (show u=Value.none from r); exact ⟨_,.none⟩
 | _,_,.bl b,u,r=>by cases (show u=Value.bool b from r); exact ⟨_,.bool b⟩
 | _,_,.int i,u,r=>by obtain ⟨t,e⟩:=(show ∃t,u=Value.int i t from r); subst e; exact ⟨_,.int i t⟩
 | _,_,.str x,u,r=>by obtain ⟨t,e⟩:=(show ∃t,u=Value.str x t from r); subst e; exact ⟨_,.str x t⟩
 | _,_,.lst (a:=a) h hs,u,r=>by cases (show u=Value.ref a from r);obtain ⟨its,rv,⟨o,n,e,c,_,d⟩,_⟩:=I.list h;obtain ⟨as,ra⟩:=I.readsAll hs rv;exact ⟨_,.list e c d (by simpa using ra)⟩
 | _,_,.tup (a:=a) h hs,u,r=>by cases (show u=Value.ref a from r);obtain ⟨its,rv,⟨o,e,c,n,d⟩,_⟩:=I.tuple h;obtain ⟨as,ra⟩:=I.readsAll hs rv;exact ⟨_,.tuple e c d (by simpa using ra)⟩
theorem Inv.readsAll (I:Inv X pins σ H s):∀ {vs:List V} {ds:List PyData},DatVs X.K H vs ds->∀ {us:List ET},Vals vs us->∃as,ReadsAll s.heap us ds as
 | _,_,.nil,_,.nil=>⟨_,.nil⟩
 | _,_,.cons h hs,_,.cons r rs=>by obtain ⟨as,ra⟩:=I.reads h r;obtain ⟨bs,rb⟩:=I.readsAll hs rs;exact ⟨_,.cons ra rb⟩
end
end
section
variable {X:Cx}
theorem jT (hu:X.A.units + 64 < cLine):OpR X (compareOp .NotEq) (λ x y H Q=>∃da db,DatV X.K H x da/\DatV X.K H y db/\SeqAt.shaped da=true/\SeqAt.shaped db=true/\Q (.bl (!PyData.eqv da db)) H):=by intro pins s σ H x y v u Q I rx ry h;obtain ⟨da,db,hx,hy,s1,s2,q⟩:=h;obtain ⟨as,ra⟩:=I.reads hx rx;obtain ⟨bs,rb⟩:=I.reads hy ry;exact ne_dataH ra rb s1 s2 hu ⟨.bl _,H,I,rfl,q⟩
theorem oM (hu:X.A.units + 64 < cLine):OpR X (compareOp .Eq) (λ x y H Q=>∃da db,DatV X.K H x da/\DatV X.K H y db/\SeqAt.shaped da=true/\SeqAt.shaped db=true/\Q (.bl (PyData.eqv da db)) H):=by intro pins s σ H x y v u Q I rx ry h;obtain ⟨da,db,hx,hy,s1,s2,q⟩:=h;obtain ⟨as,ra⟩:=I.reads hx rx;obtain ⟨bs,rb⟩:=I.reads hy ry;exact eq_dataH ra rb s1 s2 hu ⟨.bl _,H,I,rfl,q⟩
end
section
variable {prog:EQ} {w:ES} {A:Around} {E:ET->EO->Prop}
theorem gg {it l:Addr} {items:Array ET} (hne:l≠it):∀ (n i:Nat) (s:EO) (Q:List ET->EO->Prop),s.heap.IsListIter it l i->s.heap.IsList l items->i + n<=items.size ->
  (∀h',h'.IsListIter it l (i + n)->Heap.SameBut it s.heap h'->Q ((items.toList.drop i).take n) { s with heap:=h' })->wpAny (model prog w) A (draw (.ref it) n) Q E s
 | 0,i,s,Q,hit,_,_,hQ=>by show wpAny _ _ (pure []) Q E s;exact A1 (by simpa using hQ s.heap hit (Heap.SameBut.refl ..))
 | n + 1,i,s,Q,hit,ht,hle,hQ=>by
  have hlt:i < items.size:=⋯
  show wpAny _ _ (pyNext (.ref it) >>= _) Q E s;refine A0 (wpAny_pyNext_list_item hit ht (x:=items[i]) (by simp [hlt]) λ h₁ hit₁ hs₁=>?_);refine A0 (wpAny_holding (gg hne n (i + 1) _ _ hit₁ (ht.extBut hs₁.extBut hne) ⋯ λ h₂ hit₂ hs₂=>A1 ?_));have hd:items.toList.drop i=items[i] :: items.toList.drop (i + 1):=by simp [List.drop_eq_getElem_cons,hlt]
  have q:=hQ h₂ (by rw [show i + (n + 1)=i + 1 + n by omega]; exact hit₂) (hs₁.trans hs₂);rw [hd,List.take_succ_cons] at q;exact q
theorem eG {s:EO} {l:Addr} {items:Array ET} {Q:List ET->EO->Prop} (hh:A.handled=none) (ht:s.heap.IsList l items)
  (hQ:∀h',Heap.ExtBut s.heap.objs.size s.heap h'->Q items.toList { s with heap:=h' }):wpAny (model prog w) A (unpackItems (.ref l) items.size none) Q E s:=by
 have hlt:l≠s.heap.objs.size:=by obtain ⟨o,ho,_⟩:=ht; exact B9 (A9 ho)
 have hp:(s.heap.push { cls:=.type "list_iterator",data:=.fields #[.ref l,.int 0 0] }).IsList l items:=by obtain ⟨o,ho,r⟩:=ht; exact ⟨o,A7 _ ho,r⟩
 unfold unpackItems;refine A0 ?_
 ·unfold notIterableAtAll;refine A0 (wpAny_specialOf ht.typeIs PySem.slot_list_iter.lookup ?_);refine A1 ?_;simp only [Bool.false_eq_true,if_false];refine A0 (wpAny_holding (wpAny_pyIter_list ht ?_));refine A0 (wpAny_holding (gg hlt items.size 0 _ _ ⟨_,A8 _ rfl,rfl,rfl⟩ hp ⋯ λ h₁ hit₁ hs₁=>?_));have hall:List.take items.size (List.drop 0 items.toList)=items.toList:=by rw [List.drop_zero]; exact List.take_of_length_le (by simp)
  rw [hall];rw [if_neg (by simp)];have ht₁:h₁.IsList l items:=hp.extBut hs₁.extBut hlt;refine A0 (wpAny_holding (wpAny_pyNext_list_end hh hit₁ ht₁ (by simp) λ h₂ he₂=>?_));simp only [Option.isSome_none,Bool.false_eq_true,if_false];refine A1 (hQ h₂ λ b o hb e=>he₂ b o hb (hs₁.extBut b o hb (A7 _ e)))
theorem eA {s:EO} {env:Env} {elts:List Expr} {x1} {pos:Pos} {l:Addr} {items:Array ET} {Q:Unit->EO->Prop} (hh:A.handled=none) (ht:s.heap.IsList l items)
  (hn:(assignEach elts env).length=items.size) (hstar:(assignEach elts env).findIdx? (·.1)=none)
  (h:∀h',Heap.ExtBut s.heap.objs.size s.heap h'->wpAny (model prog w) A (assignInOrder ((assignEach elts env).map (·.2)) items.toList) Q E { s with heap:=h' }) :
  wpAny (model prog w) A (assign (.Tuple elts x1 pos) env (.ref l)) Q E s:=by
 rw [assign_Tuple];refine A0 (wpAny_standAt ?_);unfold unpack;rw [hn,hstar];exact A0 (wpAny_holding (eG hh ht h))
end
section
variable {X:Cx} {pos:Pos}
def BJ (K:C4) (n:Nat) (t:TGs):TG:=λ v σ H Q=>∃a xs,v=.ref a/\(SqL K H a xs\/SqT K H a xs)/\xs.length=n/\t xs σ H Q
theorem jU {es:List Expr} {k:Nat} {t:TGs} {n:Nat} (hc:X.calm=true) (h:PGs X es t)
  (hn:(assignEach es X.env).length=n:=by rfl) (hst:(assignEach es X.env).findIdx? (·.1)=none:=by rfl):PG X (.Tuple es k pos) (BJ X.K n t):=by
 intro pins s σ H v u Q I r hw;obtain ⟨a,xs,e1,hq,hl,hw⟩:=hw;rcases hq with hq | hq
 ·subst e1;cases r;obtain ⟨its,rv,ht,hz⟩:=I.list hq;refine eA (I.ok.hd hc) ht.isList (by simp [hn,<- hl,rv.length]) hst λ h' hx=>?_;have I1:Inv X pins σ H { s with heap:=h' }:=I.kept (t':=s.toks) λ b o e=>hx b o (B9 (A9 e)) e;exact h pins _ σ H xs _ Q I1 (by simpa using rv) hw
 ·exact aR hc h hn hst pins s σ H v u Q I r ⟨a,xs,e1,hq,hl,hw⟩
end
def Itz (l1 l2:Addr):It :=
  ⟨λ i H=>∃xs ys x y,H l1=↥xs/\H l2=↥ys/\xs[i]? = some x/\ys[i]? = some y,
   λ i H v H'=>∃p xs ys x y,H p=none/\v=.ref p/\H'=upd H p (.tup [x,y])/\H l1=↥xs/\H l2=↥ys/\xs[i]? = some x/\ys[i]? = some y,
   λ i H=>∃xs ys,H l1=↥xs/\H l2=↥ys/\(xs.length<=i\/ys.length<=i)⟩
section
variable {X:Cx}
theorem Inv.turnedN {pins:List (Addr×Obj)} {σ:St} {H:Hp} {s:EO} {h':Heap} {t':Nat} {ch:List Addr} (I:Inv X pins σ H s) (hf:∀b∈ch,eU X pins H b) (k:∀b o,b∉ch->s.heap.get? b=some o->h'.get? b=some o):Inv X pins σ H { s with heap:=h',toks:=t' }:=by
 have hLc:X.env.locals∉ch:=λ z=>(hf _ z).2.1 rfl;have nt:∀b u,H b=some u->b∉ch:=λ b u e z=>by rw [(hf b z).1] at e; cases e
 refine I.step (g':=s.gens) (d':=s.drawn) (ch:=ch) (λ b hb=>⟨(hf b hb).2.2.2.1,(hf b hb).2.1,(hf b hb).2.2.2.2.1,(hf b hb).2.2.2.2.2⟩) (λ b o _ _ hc e _=>k b o hc e) (λ b o _ _ hc e _=>⟨o.slots,k b o hc e⟩) (λ _ _ _ _ n=>n)
  (λ b o hc e=>⟨o,k b o hc e⟩) (λ _ _ e=>e) (λ _ _ _ e=>e) (λ b ps e=>⟨#[],by rw [e]; simp⟩) (λ m hm=>?_) (λ b u e=>?_) I.bare
 ·obtain ⟨o,es,ep,ho,r⟩:=hm;exact ⟨o,es,ep,k _ o hLc ho,r⟩
 ·refine (I.hok b u e).stay (λ c v hc q=>k c v ?_ q) (λ _ q=>q) λ _ _ q=>q;rcases hc with z | z
  ·rw [z]; exact nt b u e
  ·exact nt c _ z
theorem Inv.track {pins:List (Addr×Obj)} {σ:St} {H:Hp} {s:EO} {a:Addr} {o:HO} (I:Inv X pins σ H s) (hf:eU X pins H a) (fa:X.s₀.heap.objs.size<=a) (new:ObjOk X.prog X.w (upd H a o) s.heap a o):Inv X pins σ (upd H a o) s:=by
 obtain ⟨f0,f1,f2,f3,f4,f5⟩:=hf;have s0:∀b o,X.s₀.heap.get? b=some o->b≠a:=λ b o e=>B9 (C1 (A9 e) fa);refine ⟨I.ok,I.os,I.bare,⟨I.base.keep,I.base.slot,λ b o e n hx=>?_,I.base.there,λ b xs e=>?_,λ b o u e=>?_,λ b ps e=>?_⟩,I.loc,I.cell,?_,λ x c e=>?_,λ p hp=>?_,I.hok.add f0 new,I.len⟩
 ·rw [aj (s0 b o e)]; exact I.base.free b o e n hx
 ·have q:=I.base.tups b xs e;rw [aj (aq q f0)]; exact q
 ·have q:=I.base.frzs b o u e;rw [aj (aq q f0)]; exact q
 ·obtain ⟨more,q⟩:=I.base.tbls b ps e;exact ⟨more,by rw [aj (aq q f0)]; exact q⟩
 ·rw [aj (Ne.symm f1)]; exact I.free
 ·rw [aj (f4 x c e)]; exact I.freeC x c e
 ·obtain ⟨e,n,r⟩:=I.pin p hp;exact ⟨e,by rw [aj (f5 p hp)]; exact n,r⟩
end
structure ZipAp (z TI TO i1 i2:Addr):Prop where
 nd:[z,TI,TO,i1,i2].Nodup
theorem oN {P:EQ} {w:ES} {K:C4} {es:List Expr} {kk:Nat} {tp:Pos} (l1 l2 z TI TO i1 i2:Addr) (D:ZipAp z TI TO i1 i2) :
  Turn P w K (.Tuple es kk tp) (Itz l1 l2) [z,TI,TO,i1,i2] z (λ i h=>IsZip h z TI TO .none/\IsPair h TI (.ref i1) (.ref i2)/\(∃a b,IsPair h TO a b)/\h.IsListIter i1 l1 i/\h.IsListIter i2 l2 i) where
 mem:=by simp
 obj:=λ i h st b hb=>by
  obtain ⟨a1,a2,⟨x,y,a3⟩,⟨o4,a4,_,d4⟩,⟨o5,a5,_,d5⟩⟩:=st;simp only [List.mem_cons,List.not_mem_nil,or_false] at hb;rcases hb with rfl | rfl | rfl | rfl | rfl
  ·exact ⟨_,a1,λ v q=>by cases q⟩
  ·exact ⟨_,a2,λ v q=>by cases q⟩
  ·exact ⟨_,a3,λ v q=>by cases q⟩
  ·exact ⟨_,a4,λ v q=>by rw [d4] at q; cases q⟩
  ·exact ⟨_,a5,λ v q=>by rw [d5] at q; cases q⟩
 keep:=λ i h h' st k=>by obtain ⟨a1,a2,⟨x,y,a3⟩,a4,a5⟩:=st;exact ⟨k z (by simp) _ a1,k TI (by simp) _ a2,⟨x,y,k TO (by simp) _ a3⟩,a4.at λ o e=>k i1 (by simp) o e,a5.at λ o e=>k i2 (by simp) o e⟩
 item:=by
  intro X hP hw hK hc i pins s σ H E I hf st hg;subst hP hw hK;obtain ⟨a1,a2,⟨x0,y0,a3⟩,a4,a5⟩:=st;obtain ⟨xs,ys,x,y,e1,e2,ex,ey⟩:=hg;have tr:∀ {l:Addr} {zs:List V},H l=↥zs->∀b∈[z,TI,TO,i1,i2],l≠b:=λ e b hb q=>by rw [q,(hf b hb).1] at e; cases e
  have nd:=D.nd;simp only [List.nodup_cons,List.mem_cons,List.not_mem_nil,or_false,not_or,List.nodup_nil,and_true,not_false_eq_true] at nd;obtain ⟨⟨n1,n2,n3,n4⟩,⟨n5,n6,n7⟩,⟨n8,n9⟩,n10⟩:=nd;have A':ZipApart z TI TO i1 i2 l1 l2:=⟨Ne.symm n1,Ne.symm n2,Ne.symm n3,Ne.symm n4,n5,n6,n7,n8,n9,n10,tr e1 z (by simp),tr e1 TO (by simp),tr e1 i1 (by simp),tr e1 i2 (by simp),tr e2 z (by simp),tr e2 TO (by simp),tr e2 i1 (by simp),tr e2 i2 (by simp)⟩
  obtain ⟨its1,rv1,p1,_⟩:=I.list (EW e1);obtain ⟨its2,rv2,p2,_⟩:=I.list (EW e2);obtain ⟨u1,hu1,r1⟩:=rv1.get ex;obtain ⟨u2,hu2,r2⟩:=rv2.get ey;refine wpAny_pyNext_zip_item A' a1 a2 a3 a4 a5 p1.isList p2.isList (x:=u1) (y:=u2) (by simpa using hu1) (by simpa using hu2) λ h' b1 b2 b3 b4 b5 b6 bk=>⟨_,Y,?_⟩
  refine wpAny_letOwnedTupleGo_zip b1 λ h'' c1 cs=>?_;have zs:z < s.heap.objs.size:=A9 a1;have k2:∀b o,b∉[z,TI,TO,i1,i2]->s.heap.get? b=some o->h''.get? b=some o:=λ b o hb e=>by simp only [List.mem_cons,List.not_mem_nil,or_false,not_or] at hb;exact cs.extBut b o hb.1 (bk b o hb.1 hb.2.2.1 hb.2.2.2.1 hb.2.2.2.2 e)
  have I1:Inv X pins σ H { s with heap:=h'' }:=I.turnedN (t':=s.toks) hf k2;have hp:h''.get? s.heap.objs.size=some { cls:=.type "tuple", data:=.seq #[u1, u2] }:=cs.extBut _ _ (Nat.ne_of_gt zs) b5;have hn:H s.heap.objs.size=none:=I.hok.fresh (B3 _);have fpk:=I.fpOk (H':=H) (B3 _) hn;have I2:Inv X pins σ (upd H s.heap.objs.size (.tup [x,y])) { s with heap:=h'' }:=I1.track fpk I.sz ⟨by show 2<=sizeLine; decide,[u1,u2],.cons r1 (.cons r2 .nil),_,hp,Y,_,Y⟩;refine ⟨.ref s.heap.objs.size,_,I2,Y,⟨_,xs,ys,x,y,hn,Y,Y,e1,e2,ex,ey⟩,⟨c1,?_,⟨u1,u2,cs.extBut _ _ (Ne.symm n2) b2⟩,b3.extBut cs.extBut (Ne.symm n3),b4.extBut cs.extBut (Ne.symm n4)⟩,λ b hb=>?_⟩
  ·exact cs.extBut _ _ (Ne.symm n1) (bk _ _ (Ne.symm n1) n5 n6 n7 a2)
  ·have hbl:b < s.heap.objs.size:=by
    simp only [List.mem_cons,List.not_mem_nil,or_false] at hb;obtain ⟨o4,a4',_⟩:=a4;obtain ⟨o5,a5',_⟩:=a5;rcases hb with rfl | rfl | rfl | rfl | rfl
    ·exact zs
    ·exact A9 a2
    ·exact A9 a3
    ·exact A9 a4'
    ·exact A9 a5'
   rw [aj (Nat.ne_of_lt hbl)];exact (hf b hb).1
 done:=by
  intro X hP hw hK hc i pins s σ H E I hf st hg;subst hP hw hK;obtain ⟨a1,a2,⟨x0,y0,a3⟩,a4,a5⟩:=st;obtain ⟨xs,ys,e1,e2,ex⟩:=hg;have tr:∀ {l:Addr} {zs:List V},H l=↥zs->∀b∈[z,TI,TO,i1,i2],l≠b:=λ e b hb q=>by rw [q,(hf b hb).1] at e; cases e
  have nd:=D.nd;simp only [List.nodup_cons,List.mem_cons,List.not_mem_nil,or_false,not_or,List.nodup_nil,and_true,not_false_eq_true] at nd;obtain ⟨⟨n1,n2,n3,n4⟩,⟨n5,n6,n7⟩,⟨n8,n9⟩,n10⟩:=nd;have A':ZipApart z TI TO i1 i2 l1 l2:=⟨Ne.symm n1,Ne.symm n2,Ne.symm n3,Ne.symm n4,n5,n6,n7,n8,n9,n10,tr e1 z (by simp),tr e1 TO (by simp),tr e1 i1 (by simp),tr e1 i2 (by simp),tr e2 z (by simp),tr e2 TO (by simp),tr e2 i1 (by simp),tr e2 i2 (by simp)⟩
  obtain ⟨its1,rv1,p1,_⟩:=I.list (EW e1);obtain ⟨its2,rv2,p2,_⟩:=I.list (EW e2);have l1':=rv1.length;have l2':=rv2.length;refine wpAny_pyNext_zip_end (I.ok.hd hc) A' a1 a2 a3 a4 a5 p1.isList p2.isList (by rcases ex with q | q; exact .inl (by simp; omega); exact .inr (by simp; omega)) λ h' bk=>⟨Y,?_⟩
  exact I.turnedN (t':=s.toks) hf λ b o hb e=>by simp only [List.mem_cons,List.not_mem_nil,or_false,not_or] at hb;exact bk b o hb.1 hb.2.2.1 hb.2.2.2.1 hb.2.2.2.2 e
 self:=λ _ _ _ _ _ st h=>wpAny_pyIter_zip st.1 h
def BK (ta:TA):TI:=λ σ H R=>ta σ H λ vs H1=>∃l1 l2 xs ys,vs=[.ref l1,.ref l2]/\H1 l1=↥xs/\H1 l2=↥ys/\R (Itz l1 l2) H1
theorem sL {X:Cx} {a b:Expr} {ta:TA} {p pos tp:Pos} {es:List Expr} {kk:Nat} (hg:Gl X "zip") (hm:X.mg "zip" = none) (ha:PA X [a,b] ta)
  (hs:starEach [a,b] X.env=[(false,eval a X.env),(false,eval b X.env)]:=by rfl) (hs2:starEach [b] X.env=[(false,eval b X.env)]:=by rfl) :
  PI X (.Tuple es kk tp) (.Call (.Name "zip" p) [a,b] [] pos) (BK ta):=by
 intro pins s σ H R I h;refine Call_ (ee I hg hm PyProof.Rows.boot_zip (PyProof.Rows.callWith_type1 (thn (ha pos pins s σ H _ I h) λ us s1 ⟨vs,H1,I1,r1,q1⟩=>?_) (by rw [hs,hs2]) (by rw [hs2]; rfl)));obtain ⟨l1,l2,xs,ys,rfl,e1,e2,q⟩:=q1;cases r1 with
 | cons r rr =>
  cases rr with
  | cons r' rr =>
   cases rr;cases r;cases r';obtain ⟨its1,rv1,p1,_⟩:=I1.list (EW e1);obtain ⟨its2,rv2,p2,_⟩:=I1.list (EW e2);refine call_zip_2 p1.isList p2.isList λ h' z1 z2 z3 z4 z5 sz keep=>?_;have I2:Inv X pins σ H1 { s1 with heap:=h' }:=I1.kept (t':=s1.toks) keep;refine wpAny_pyIter_zip z1 ⟨s1.heap.objs.size + 4,[s1.heap.objs.size + 4,s1.heap.objs.size + 2,s1.heap.objs.size + 3,s1.heap.objs.size,s1.heap.objs.size + 1],_,_,H1,rfl,I2,oN l1 l2 _ _ _ _ _ ⟨by simp⟩,⟨z1,z2,⟨_,_,z3⟩,z4,z5⟩,λ b hb=>?_,q⟩;have hb':s1.heap.objs.size<=b:=by simp only [List.mem_cons,List.not_mem_nil,or_false] at hb;rcases hb with rfl | rfl | rfl | rfl | rfl <;> omega
   exact I1.fpOk hb' (I1.hok.fresh hb')
end L2
namespace L2
open PySem PySem.Spec PyProof.Rows
def Dn (P:EQ) (w:ES) (K:C4) (mg:Str->Option ET) (base:Heap) (x:Str) (ps:List Str) (k:Nat) (sp:Sp):Prop :=
 ∃ (f:Addr) (fd:ER),FnOk P w K mg base CX0 k f fd ps sp/\Binds K fd ps []/\PySem.W.keepIn K (.ref f)=true/\mg x=↑f
theorem ao {X:Cx} {k:Nat} {ps:List Str} {sp:Sp} {x:Str} {p pos:Pos} {e:Expr} {es:List Expr} {t:TA} (D:Dn X.prog X.w X.K X.mg X.base x ps k sp) (hr:Room k X.A) (hg:Gl X x) (ha:PA X (e :: es) t)
  (hdb:(x == ("__debug__" : Str))=false:=by decide) (he:starEach (e :: es) X.env=(false,eval e X.env) :: starEach es X.env:=by rfl) (hpl:(backTo pos (starEach es X.env)).any (·.1)=false:=by rfl) :
  PE X (.Call (.Name x p) (e :: es) [] pos) (rT sp [] E0 t):=by
 obtain ⟨f,fd,F,hb,hk,hm⟩:=D;exact qH F hr hg hm hk hb .nil li ha hdb he hpl
def lj (sc:Scope) (N:List Str) (scope:Scope) (own cs:List Str) (cap:List Nat):Bool :=
 decide (scope.kind=.function) && scope.names.all (λ y=>decide (y.2≠.cell)) && scope.names.all (λ y=>decide (y.2=.local->scope.names.lookup y.1=some .local)) &&
 scope.names.all (λ y=>decide (y.2=.free->sc.names.lookup y.1=some .cell\/sc.names.lookup y.1=some .free)) && own.all (λ y=>decide (scope.names.lookup y=some .local)) &&
 decide (cs.length=cap.length) && (cs.zip cap).all (λ y=>decide (N[y.2]? = some y.1) && decide ((y.1,NameKind.free)∈scope.names)) && scope.names.all (λ y=>decide (y.2=.free->scope.names.lookup y.1≠some .local))
theorem aP {X:Cx} {sc:Scope} {N:List Str} {scope:Scope} {own cs:List Str} {cap:List Nat} (h1:X.env.scope=sc) (h2:X.N=N) (h:lj sc N scope own cs cap=true):CompOk X scope own cs cap:=by
 subst h1 h2;unfold lj at h;simp only [Bool.and_eq_true,List.all_eq_true,decide_eq_true_eq] at h;obtain ⟨⟨⟨⟨⟨⟨⟨a1,a2⟩,a3⟩,a4⟩,a5⟩,a6⟩,a7⟩,a8⟩:=h;refine ⟨a1,a2,a3,a4,λ i y e=>?_,a5,a6,λ y hy e=>a8 _ hy rfl e⟩;have hi:i < cs.length:=(A6.mp e).1;have hj:i < cap.length:=by rw [<- a6]; exact hi
 refine ⟨cap[i],EJ hj,?_⟩;have hm:(y,cap[i])∈cs.zip cap:=by
  have:(cs.zip cap)[i]? = some (y,cap[i]):=by rw [List.getElem?_zip_eq_some];exact ⟨e,EJ hj⟩
  exact B5 this
 exact a7 _ hm
theorem bS {σ:St} {H:Hp} {A B:Hp->Prop} (h:A H):vM σ H (λ ok H3=>if ok=true then A H3 else B H3):=by show (if (true:Bool)=true then A H else B H);rw [if_pos rfl];exact h
section
variable {X:Cx} {tg:Expr}
def sM (K:C4) (tl:TE):TI:=λ σ H R=>rO K tl σ H R\/vy K tl σ H R
theorem oO {l:Expr} {tl:TE} (hl:PE X l tl):PI X tg l (sM X.K tl):=by
 intro pins s σ H R I h;rcases h with h | h
 ·exact bo hl pins s σ H R I h
 ·exact jH hl pins s σ H R I h
end
def aE:List String:=["NoneType","bool","int","str","list","tuple","dict"]
theorem qR {K:C4}:∀T∈aE,PySem.W.kitOne K (.type T) (.type "int")=some (T == "int" || T == "bool"):=by intro T h;simp only [aE,List.mem_cons,List.not_mem_nil,or_false] at h;rcases h with rfl | rfl | rfl | rfl | rfl | rfl | rfl <;> kernel_rfl
theorem jc {K:C4}:∀T∈aE,PySem.W.kitOne K (.type T) (.type "bool")=some (T == "bool"):=by intro T h;simp only [aE,List.mem_cons,List.not_mem_nil,or_false] at h;rcases h with rfl | rfl | rfl | rfl | rfl | rfl | rfl <;> kernel_rfl
theorem oP {K:C4}:∀T∈aE,PySem.W.kitOne K (.type T) (.type "list")=some (T == "list"):=by intro T h;simp only [aE,List.mem_cons,List.not_mem_nil,or_false] at h;rcases h with rfl | rfl | rfl | rfl | rfl | rfl | rfl <;> kernel_rfl
theorem bE {K:C4}:∀T∈aE,PySem.W.kitOne K (.type T) (.type "tuple")=some (T == "tuple"):=by intro T h;simp only [aE,List.mem_cons,List.not_mem_nil,or_false] at h;rcases h with rfl | rfl | rfl | rfl | rfl | rfl | rfl <;> kernel_rfl
theorem cP {K:C4}:∀T∈aE,PySem.W.kitOne K (.type T) (.type "str")=some (T == "str"):=by intro T h;simp only [aE,List.mem_cons,List.not_mem_nil,or_false] at h;rcases h with rfl | rfl | rfl | rfl | rfl | rfl | rfl <;> kernel_rfl
theorem qS {K:C4}:∀T∈aE,PySem.W.kitAny K (.type T) [.type "list",.type "tuple"]=some (T == "list" || T == "tuple"):=by
 intro T h;have h1:=oP (K:=K) T h;have h2:=bE (K:=K) T h;unfold PySem.W.kitAny;rw [h1];cases e:(T == "list") with
 | true=>rfl
 | false =>
  show PySem.W.kitAny K (.type T) [.type "tuple"]=_;unfold PySem.W.kitAny;rw [h2];cases e2:(T == "tuple") <;> rfl
def Ty (K:C4) (H:Hp) (x:V) (T:String):Prop:=T∈aE/\TyOf K H x (.type T)
theorem Ty.int {K:C4} {H:Hp} {i:Int}:Ty K H (.int i) "int" := ⟨by simp [aE],.int i⟩
theorem Ty.bl {K:C4} {H:Hp} {b:Bool}:Ty K H (.bl b) "bool" := ⟨by simp [aE],.bl b⟩
theorem Ty.non {K:C4} {H:Hp}:Ty K H .non "NoneType" := ⟨by simp [aE],.non⟩
theorem Ty.str {K:C4} {H:Hp} {x:Str}:Ty K H (.str x) "str" := ⟨by simp [aE],.str x⟩
theorem Ty.lst {K:C4} {H:Hp} {a:Addr} {xs:List V} (e:H a=↥xs):Ty K H (.ref a) "list" := ⟨by simp [aE],.lst e⟩
theorem Ty.tup {K:C4} {H:Hp} {a:Addr} {xs:List V} (e:H a= ~~~xs):Ty K H (.ref a) "tuple" := ⟨by simp [aE],.tup e⟩
theorem Ty.dK {K:C4} {H:Hp} {a:Addr} {xs:List (Key×V)} (e:H a=some (.dK xs)):Ty K H (.ref a) "dict" := ⟨by simp [aE],.dK e⟩
def aM:V->Int->Bool
 | .int i,l=>decide (l<=i)
 | _,_=>false
def ms:V->Bool
 | .bl _=>true
 | _=>false
theorem sN {K:C4} {H:Hp} {x:V} {T:String} (t:TyOf K H x (.type T)) (h:T∈aE):(T == "int")=true->∃i,x=.int i:=by
 intro e;have e':T = "int" := by simpa using e
 subst e';generalize hv:Value.type "int" = tv at t;cases t with
 | int i=>exact ⟨i,Y⟩
 | _=>exact absurd hv (by simp)
theorem lm {K:C4} {H:Hp} {x:V} {T:String} (t:TyOf K H x (.type T)):(T == "bool")=ms x:=by
 generalize hv:Value.type T=tv at t;cases t with
 | bl b=>cases hv; rfl
 | non=>cases hv; rfl
 | int i=>cases hv; rfl
 | str i=>cases hv; rfl
 | flt i=>cases hv; rfl
 | lst i=>cases hv; rfl
 | frz i=>cases hv; rfl
 | tup i=>cases hv; rfl
 | dK i=>cases hv; rfl
 | dT i=>cases hv; rfl
 | ext i _=>cases hv; rfl
 | ins=>cases hv
end L2
local macro_rules|`($a ^^^ $b)=>`(@L2.aa _ _ _ _ _ $a $b rfl)
local macro_rules|`($a<<<$b)=>`(@L2.ae _ _ _ _ _ $a $b)
local macro_rules|`($a>>>$b)=>`(@L2.ae _ _ _ _ _ $a (@L2.ag _ _ _ $b))
local macro_rules|`($a⁻¹)=>`(@L2.ag _ _ _ (@L2.au _ _ _ _ $a))
local macro_rules|`($a∩$b)=>`(@L2.ao _ _ _ _ _ _ _ _ _ _ $a (($(Lean.mkIdent `hr)).mono ∅) rfl $b ∅ rfl rfl)
local macro_rules|`($a∪$b)=>`(@L2.ao _ _ _ _ _ _ _ _ _ _ $a $(Lean.mkIdent `hr) rfl $b ∅ rfl rfl)
local macro_rules|`($a∣$b)=>`(@L2.av _ _ $a _ _ _ _ $(Lean.mkIdent `nd) rfl (Or.inl rfl) $b rfl (Or.inl rfl))
local macro_rules|`($a&&&$o&&&$b)=>`(@L2.am _ _ _ _ _ _ _ $o $a $b (fun _ _=>rfl))
local macro_rules|`($a|||$o|||$b)=>`(@L2.ap _ _ _ _ _ _ _ _ $o $a $b)
local macro_rules|`($a•$b)=>`(L2.ah (L2.ai (i:=$a) $(Lean.mkIdent `nd) rfl (Or.inl rfl)) $b)
local macro_rules|`($a<*>$o<*>$b)=>`(@L2.aB _ _ _ _ _ _ _ _ $o $a $b (L2.az _))
local macro_rules|`($a<|>$b<|>$c)=>`(@L2.aK _ _ _ _ _ _ _ _ $a $b $c)
namespace Pc
open PySem L2
structure Pot (a b:Int):Prop where
 a0:0<=a
 b0:0<=b
 b1:b < 2147483629
def PotAt (H:Hp) (p:Addr):Prop:=∃a b,Pot a b/\H p=↥[.int a,.int b]
def But (p:Addr) (H H':Hp):Prop:=∀b o,b≠p->H b=some o->H' b=some o
theorem But.refl {p:Addr} {H:Hp}:But p H H:=λ _ _ _ e=>e
theorem But.trans {p:Addr} {H H1 H2:Hp} (a:But p H H1) (b:But p H1 H2):But p H H2:=λ c o n e=>b c o n (a c o n e)
theorem But.upd {p:Addr} {H:Hp} {o:HO}:But p H (upd H p o):=λ b u n e=>by rw [aj n]; exact e
theorem But.new {p q:Addr} {H:Hp} {o:HO} (h:H q=none):But p H (L2.upd H q o):=λ b u n e=>by rw [aj (aq e h)]; exact e
theorem PotAt.new {p q:Addr} {H:Hp} {o:HO} (x:PotAt H p) (h:H q=none):PotAt (L2.upd H q o) p:=by obtain ⟨a,b,h1,h2⟩:=x;exact ⟨a,b,h1,by rw [aj (aq h2 h)]; exact h2⟩
theorem PotAt.some {p:Addr} {H:Hp} (x:PotAt H p):H p≠none:=by obtain ⟨a,b,_,h⟩:=x;rw [h]; exact λ z=>nomatch z
theorem But.free {p q:Addr} {H H':Hp} (b:But p H H') (x:PotAt H' p) (h:H' q=none):H q=none:=by
 cases e:H q with
 | none=>rfl
 | some o =>
  by_cases hq:q=p
  ·subst hq; exact absurd h x.some
  ·rw [b q o hq e] at h; cases h
theorem But.same {p:Addr} {H H':Hp} (b:But p H H') (h:H p=none):Same H H':=λ c o e=>b c o (aq e h) e
structure Kd where
 w:Int
 h:Int
 wo:Int
 wa:Int
 tu:Bool
def kdV (k:Kd):List V:=[.int k.w,.int k.h,.int k.wo,.int k.wa,.bl k.tu]
structure Good (k:Kd):Prop where
 w:1<=k.w
 h:1<=k.h
 wo:0<=k.wo
 wa:0<=k.wa
 w':k.w < 10 ^ 60
 h':k.h < 10 ^ 60
 wo':k.wo < 10 ^ 60
 wa':k.wa < 10 ^ 60
def rV (H:Hp) (v:V) (k:Kd):Prop:=∃a,v=.ref a/\H a= ~~~(kdV k)
def vN (H:Hp) (v:V) (k:Kd):Prop:=∃a,v=.ref a/\H a=↥(kdV k)
def RowAt (H:Hp) (v:V) (k:Kd):Prop:=rV H v k\/vN H v k
abbrev Tups (H:Hp):List V->List Kd->Prop:=Paired (rV H)
theorem Tups.keep {H H':Hp} (k:∀b xs,H b= ~~~xs->H' b= ~~~xs):∀ {xs:List V} {ks:List Kd},Tups H xs ks->Tups H' xs ks:=λ r =>
 EX r λ v kd ⟨a,e,h⟩=>⟨a,e,k a _ h⟩
def oQ (K:C4):Sp:=λ vs H Q _=>∃ (a:Addr) (ns:List Int) (n:Int),vs=[.ref a,.int n]/\SqL K H a (ns.map V.int)/\0<=n/\n<=1000/\ns.length<=63 /\
 ∀ (p:Addr) (H':Hp),H p=none->PotAt H' p->Same H H'->Q (.ref p) H'
def cz:Sp:=λ vs H Q _=>∃ (p:Addr) (m:Int),vs=[.ref p,.int m]/\PotAt H p/\0 < m/\m<=10 ^ 60/\∀ (r:Int) (H':Hp),0<=r->r < m->PotAt H' p->But p H H'->Q (.int r) H'
def eH:Sp:=λ vs H Q _=>∃ (p:Addr) (l:Int),vs=[.ref p,.int l]/\PotAt H p/\0<=l/\l<=1/\∀ (n:Int) (H':Hp),l<=n->n < 10 ^ 60->PotAt H' p->But p H H'->Q (.int n) H'
def jV:Sp:=λ vs H Q _=>∃ (p:Addr),vs=[.ref p]/\PotAt H p/\∀ (t:Addr) (k:Kd) (H':Hp),H t=none->Good k->H' t= ~~~(kdV k)->PotAt H' p->But p H H'->Q (.ref t) H'
structure ToldAt (H:Hp) (t l:Addr) (bl:Int) (xs:List V) (ks:List Kd):Prop where
 t:H t= ~~~[.int bl,.ref l]
 l:H l=↥xs
 r:Tups H xs ks
 b0:0<=bl
 b1:bl < 10 ^ 60
 g:∀k∈ks,Good k
 n0:1<=xs.length
 n1:xs.length<=8
def cr (K:C4):Sp:=λ vs H Q _=>∃ (x:V) (T:String) (l:Int),vs=[x,.int l]/\Ty K H x T/\Q (.bl (aM x l)) H
def fF (K:C4):Sp:=λ vs H Q _=>∃ (x:V) (T:String),vs=[x]/\Ty K H x T/\Q (.bl (ms x)) H
def jd (K:C4):Sp:=λ vs H Q _=>∃ (x:V) (T:String), vs=[x]/\Ty K H x T/\∀H', Same H H'->Q (.bl (T == "list" || T == "tuple")) H'
def hI:List V->Bool
 | [w,h,wo,wa,tu]=>aM w 1 && aM h 1 && aM wo 0 && aM wa 0 && ms tu
 | _=>false
def eI (K:C4):Sp:=λ vs H Q _=>∃ (x:V) (T:String),vs=[x]/\Ty K H x T /\ 
 ((T ≠ "list" /\ T ≠ "tuple" /\ ∀H', Same H H'->Q (.bl false) H')\/∃ (a:Addr) (xs:List V), x=.ref a/\(H a=↥xs\/H a= ~~~xs)/\(∀y∈xs, ∃U, Ty K H y U)/\∀H', Same H H'->Q (.bl (hI xs)) H')
theorem gh {k:Kd} (g:Good k):hI (kdV k)=true:=by
 show (decide (1<=k.w) && decide (1<=k.h) && decide (0<=k.wo) && decide (0<=k.wa) && true)=true;rw [decide_eq_true g.w,decide_eq_true g.h,decide_eq_true g.wo,decide_eq_true g.wa]
 rfl
theorem Ty.same {K:C4} {H H':Hp} {x:V} {T:String} (s:Same H H') (t:Ty K H x T):Ty K H' x T:=by
 refine ⟨t.1,?_⟩;have t2:=t.2;generalize hv:Value.type T=tv at t2 ⊢;cases t2 with
 | non=>exact .non
 | bl b=>exact .bl b
 | int b=>exact .int b
 | str b=>exact .str b
 | flt b=>exact .flt b
 | lst e=>exact .lst (s _ _ e)
 | frz e=>exact .frz (s _ _ e)
 | tup e=>exact .tup (s _ _ e)
 | dK e=>exact .dK (s _ _ e)
 | dT e=>exact .dT (s _ _ e)
 | ext e c=>exact .ext (s _ _ e) c
 | ins=>cases hv
end Pc
namespace L2
open PySem PySem.Spec PyProof.Rows
def oR (K:C4):List V->Hp->VK->Prop:=λ xs H Q=>∃p ys,xs=[V.ref p]/\((SqL K H p ys/\∀l,H l=none->Q (.ref l) (upd H l (.tup ys)))\/(SqT K H p ys/\Q (.ref p) H))
theorem oS {K:C4} {j:Nat} {a:Addr} {xs:List V} {g:TG} {tb:TS} {D:Ends} {σ:St} {H:Hp} (hσ:σ[j]? = some (↑a)) (hs:H a=↥xs\/H a= ~~~xs) (Pv:Nat->St->Hp->Prop) (h0:Pv 0 σ H)
  (hk:∀i σ H',i<=xs.length->Pv i σ H'->∀o,H a=some o->H' a=some o)
  (ht:∀i x σ H,xs[i]? = some x->Pv i σ H->g x σ H λ σ2 H2=>tb { D with nx:=Pv (i + 1),ct:=Pv (i + 1),bk:=D.nx } σ2 H2) (hd:∀σ H,Pv xs.length σ H->D.nx σ H):vB (sM K (tVar j)) g tb D σ H:=by
 rcases hs with z | z
 ·exact .inl ⟨_,hσ,a,Y,⟨xs,EW z⟩,eC (xs:=xs) Pv h0 (λ i σ H' hi p=>EW (hk i σ H' hi p _ z)) ht hd⟩
 ·exact .inr ⟨_,hσ,a,Y,⟨xs,EV z⟩,kX (xs:=xs) Pv h0 (λ i σ H' hi p=>EV (hk i σ H' hi p _ z)) ht hd⟩
def Nx (n:Nat) (Pv:Nat->List V->Hp->Prop) (i:Nat) (ys:List V) (H:Hp):Prop:=∃m',m' < n - i/\m'=n - (i + 1)/\i + 1<=n/\Pv (i + 1) ys H
theorem Nx.of {n:Nat} {Pv:Nat->List V->Hp->Prop} {i:Nat} {ys:List V} {H:Hp} (h:i < n) (p:Pv (i + 1) ys H):Nx n Pv i ys H:=⟨n - (i + 1),⋯,Y,h,p⟩
theorem bi {K:C4} {a:Addr} {xs:List V} {σ:St} {cap:List Nat} {k:Nat} {g:TG} {tt:TT} {te:TE} {Q:List V->Hp->Prop} {H:Hp} (hs:H a=↥xs\/H a= ~~~xs) (Pv:Nat->List V->Hp->Prop)
  (hk:∀i ys H',i<=xs.length->Pv i ys H'->∀o,H a=some o->H' a=some o) (h0:Pv 0 [] H)
  (ht:∀i x ys H',xs[i]? = some x->Pv i ys H'->ys.length < sizeLine/\g x (bI σ cap k) H' λ σ2 H2=>leS (bI σ cap k) σ2/\tt σ2 H2 λ ok H3=>if ok=true then te σ2 H3 (λ v H4=>Nx xs.length Pv i (ys ++ [v]) H4) else Nx xs.length Pv i ys H3)
  (hd:∀ys H',Pv xs.length ys H'->ys.length<=sizeLine/\Q ys H') :
  (H a=↥xs->∃W,(∃m,W 0 m [] H)/\hG σ cap k (Itl K a) g tt te Q W)/\(H a= ~~~xs->∃W,(∃m,W 0 m [] H)/\hG σ cap k (Itt K a) g tt te Q W):=by
 refine ⟨λ z=>⟨λ i m ys H'=>m=xs.length - i/\i<=xs.length/\Pv i ys H',⟨_,Y,EH _,h0⟩,?_⟩,λ z=>⟨λ i m ys H'=>m=xs.length - i/\i<=xs.length/\Pv i ys H',⟨_,Y,EH _,h0⟩,?_⟩⟩
 ·rintro i m ys H' ⟨rfl,hi,p⟩;have z':=hk i ys H' hi p _ z
  by_cases hin:i < xs.length
  ·obtain ⟨e,hg⟩:=ht i xs[i] ys H' (by simp [hin]) p;refine .inr ⟨⟨xs,xs[i],EW z',by simp [hin]⟩,e,λ x H2 yl=>?_⟩;obtain ⟨e1,e2⟩:=yl;have e3:=e2 xs (EW z');have e4:x=xs[i]:=by simpa [hin] using e3.symm
   subst e1 e4;exact hg
  ·have e:i=xs.length:=⋯
   subst e;obtain ⟨a1,a2⟩:=hd ys H' p;exact .inl ⟨⟨xs,EW z',B3 _⟩,a1,a2⟩
 ·rintro i m ys H' ⟨rfl,hi,p⟩;have z':=hk i ys H' hi p _ z
  by_cases hin:i < xs.length
  ·obtain ⟨e,hg⟩:=ht i xs[i] ys H' (by simp [hin]) p;refine .inr ⟨⟨xs,xs[i],EV z',by simp [hin]⟩,e,λ x H2 yl=>?_⟩;obtain ⟨e1,e2⟩:=yl;have e3:=e2 xs (EV z');have e4:x=xs[i]:=by simpa [hin] using e3.symm
   subst e1 e4;exact hg
  ·have e:i=xs.length:=⋯
   subst e;obtain ⟨a1,a2⟩:=hd ys H' p;exact .inl ⟨⟨xs,EV z',B3 _⟩,a1,a2⟩
theorem mt {K:C4} {j:Nat} {a:Addr} {xs:List V} {σ:St} {cap:List Nat} {k:Nat} {g:TG} {tt:TT} {te:TE} {Q:VK} {H:Hp} (hσ:σ[j]? = some (↑a)) (hs:H a=↥xs\/H a= ~~~xs) (Pv:Nat->List V->Hp->Prop)
  (hk:∀i ys H',i<=xs.length->Pv i ys H'->∀o,H a=some o->H' a=some o) (h0:Pv 0 [] H)
  (ht:∀i x ys H',xs[i]? = some x->Pv i ys H'->ys.length < sizeLine/\g x (bI σ cap k) H' λ σ2 H2=>leS (bI σ cap k) σ2/\tt σ2 H2 λ ok H3=>if ok=true then te σ2 H3 (λ v H4=>Nx xs.length Pv i (ys ++ [v]) H4) else Nx xs.length Pv i ys H3)
  (hd:∀ys H',Pv xs.length ys H'->ys.length<=sizeLine/\∀p,H' p=none->Q (.ref p) (upd H' p (.lst ys))):oJ (sM K (tVar j)) cap k g tt te σ H Q:=by
 obtain ⟨c1,c2⟩:=bi (K:=K) (σ:=σ) (cap:=cap) (k:=k) (g:=g) (tt:=tt) (te:=te) hs Pv hk h0 ht hd;rcases hs with z | z
 ·exact .inl ⟨_,hσ,a,Y,⟨xs,EW z⟩,c1 z⟩
 ·exact .inr ⟨_,hσ,a,Y,⟨xs,EV z⟩,c2 z⟩
end L2
namespace Pc
open PySem L2
def jW (b:Int) (r:Addr):List (Str×V):=cq "kind_rows" (.ref r) (cq "blade_width" (.int b) [])
theorem kbw:¬ (("blade_width" : Str) = "kind_rows"):=∅
theorem jX (b:Int) (r:Addr):(jW b r).lookup ("blade_width" : Str)=⇑b:=by unfold jW;rw [bh,if_neg kbw,bh,if_pos rfl]
theorem dD (b:Int) (r:Addr):(jW b r).lookup ("kind_rows" : Str)=↑r:=by unfold jW;rw [bh,if_pos rfl]
theorem cu (b:Int) (r:Addr) {m:Str} (h1:¬ m = "kind_rows") (h2:¬ m = "blade_width"):(jW b r).lookup m=none:=by
 unfold jW;rw [bh,if_neg h1,bh,if_neg h2]
 all_goals rfl
def ShopAt (C:Addr) (H:Hp) (x:Addr) (b:Int) (ks:List Kd):Prop:=∃dx r rs,H x=some (.ins C dx (jW b r))/\H r= ~~~rs/\Tups H rs ks
theorem ShopAt.keep {C:Addr} {H H':Hp} {x:Addr} {b:Int} {ks:List Kd} (s:ShopAt C H x b ks) (k1:∀b xs,H b= ~~~xs->H' b= ~~~xs) (k2:∀b C dx fs,H b=some (.ins C dx fs)->H' b=some (.ins C dx fs)):ShopAt C H' x b ks:=by obtain ⟨dx,r,rs,h1,h2,h3⟩:=s;exact ⟨dx,r,rs,k2 _ _ _ _ h1,k1 _ _ h2,Tups.keep k1 h3⟩
def jY (C:Addr):Sp:=λ vs H Q _=>∃ (x dx ks:Addr) (b:Int) (rs:List V) (kds:List Kd),vs=[.ref x,.int b,.ref ks]/\H x=some (.ins C dx [])/\0<=b/\(H ks=↥rs\/H ks= ~~~rs)/\Paired (RowAt H) rs kds/\(∀k∈kds,Good k)/\1<=rs.length/\rs.length<=8 /\
 ∀H':Hp,ShopAt C H' x b kds->(∀c o,c≠x->H c=some o->H' c=some o)->Q .non H'
def fG (C:Addr):Sp:=λ vs H Q _=>∃ (x:Addr) (b:Int) (ks:List Kd),vs=[.ref x]/\ShopAt C H x b ks/\Q (.int b) H
def fH (C:Addr):Sp:=λ vs H Q _=>∃ (x:Addr) (b:Int) (ks:List Kd),vs=[.ref x]/\ShopAt C H x b ks/\∀ (l:Addr) (rs:List V),H l=none->Tups H rs ks->Q (.ref l) (upd H l (.lst rs))
theorem lp {K:C4} {H:Hp} {k:Kd}:∀y∈kdV k,∃U,Ty K H y U:=by
 intro y hy;simp only [kdV,List.mem_cons,List.not_mem_nil,or_false] at hy;rcases hy with rfl | rfl | rfl | rfl | rfl
 ·exact ⟨_,.int⟩
 ·exact ⟨_,.int⟩
 ·exact ⟨_,.int⟩
 ·exact ⟨_,.int⟩
 ·exact ⟨_,.bl⟩
theorem Paired.getR {α β:Type} {F:α->β->Prop}:∀ {l₁:List α} {l₂:List β} {i:Nat} {x:α},Paired F l₁ l₂->l₁[i]? = some x->∃y,l₂[i]? = some y/\F x y
 | _,_,_,_,.nil,e=>by simp at e
 | _,_,0,_,.cons h _,e=>by simp at e; subst e; exact ⟨_,Y,h⟩
 | _,_,i + 1,x,.cons _ t,e=>by obtain ⟨y,h1,h2⟩:=Paired.getR (i:=i) (x:=x) t (by simpa using e);exact ⟨y,by simpa using h1,h2⟩
abbrev EY:=@Paired.getR
theorem RowAt.same {H H':Hp} {v:V} {k:Kd} (s:Same H H') (r:RowAt H v k):RowAt H' v k:=by
 rcases r with ⟨a,e,h⟩ | ⟨a,e,h⟩
 ·exact .inl ⟨a,e,s _ _ h⟩
 ·exact .inr ⟨a,e,s _ _ h⟩
theorem mv {K:C4} {H:Hp} {v:V} {k:Kd} {Q:VK} {E:XK} (r:RowAt H v k) (g:Good k) (q:∀H',Same H H'->Q (.bl true) H'):eI K [v] H Q E:=by
 rcases r with ⟨a,rfl,h⟩ | ⟨a,rfl,h⟩
 ·exact ⟨_,_,Y,.tup h,.inr ⟨a,_,Y,.inr h,lp,λ H' s=>by rw [gh g]; exact q H' s⟩⟩
 ·exact ⟨_,_,Y,.lst h,.inr ⟨a,_,Y,.inl h,lp,λ H' s=>by rw [gh g]; exact q H' s⟩⟩
structure ShopTxt (K:C4) (C:Addr):Prop where
 cl:Cls K C
 nB:NoAttr K C "blade_width"
 nK:NoAttr K C "kind_rows"
end Pc
namespace L2
open PySem PySem.Spec PyProof.Rows
def Mn (P:EQ) (w:ES) (K:C4) (mg:Str->Option ET) (base:Heap) (C:Addr) (m:Str) (ps:List Str) (k:Nat) (sp:Sp):Prop :=
 ∃ (f:Addr) (fd:ER),FnOk P w K mg base CX0 k f fd ps sp/\Binds K fd ps []/\Meth K C m f
theorem iF {X:Cx} {k:Nat} {C:Addr} {ps:List Str} {sp:Sp} {m:Str} {o:Expr} {ta:TE} {apos pos:Pos} {pl:Sem Bool} (he:PE X o ta) (c:Cls X.K C) (D:Mn X.prog X.w X.K X.mg X.base C m ps k sp) (hr:Room k X.A)
  (ht:eval (.Call (.Attribute o m apos) [] [] pos) X.env=(do
   let ov<-eval o X.env
   standAt apos.atName
   let (f,first)<-holding [ov] (getMethod ov m pl)
   callWith pos f first (backTo pos (starEach [] X.env)) (backToKw pos (keywordEach [] X.env))):=by rfl):PE X (.Call (.Attribute o m apos) [] [] pos) (lc C m sp [] E0 ta om):=by
 obtain ⟨f,fd,F,hb,hm⟩:=D;exact ot he c hm F hr hb .nil li ht
def Kn (P:EQ) (w:ES) (K:C4) (mg:Str->Option ET) (base:Heap) (x:Str) (C:Addr) (ps:List Str) (k:Nat) (sp:Sp):Prop :=
 ∃ (f:Addr) (fd:ER),Mk K C f/\FnOk P w K mg base CX0 k f fd ps sp/\Binds K fd ps []/\mg x=↑C
theorem vO {X:Cx} {k:Nat} {C:Addr} {ps:List Str} {sp:Sp} {x:Str} {p pos:Pos} {e:Expr} {es:List Expr} {t:TA} (D:Kn X.prog X.w X.K X.mg X.base x C ps k sp) (hr:Room (k + 1) X.A) (hg:Gl X x) (ha:PA X (e :: es) t)
  (hdb:(x == ("__debug__" : Str))=false:=by decide) (he:starEach (e :: es) X.env=(false,eval e X.env) :: starEach es X.env:=by rfl) (hpl:(backTo pos (starEach es X.env)).any (·.1)=false:=by rfl) :
  PE X (.Call (.Name x p) (e :: es) [] pos) (rU C sp [] E0 t):=by
 obtain ⟨f,fd,M,F,hb,hm⟩:=D;exact qJ M F hr hg hm hb .nil li ha hdb he hpl
end L2
namespace Pc
open PySem L2
theorem Same.but {p:Addr} {H H':Hp} (s:Same H H'):But p H H':=λ b o _ e=>s b o e
theorem Same.new {q:Addr} {H:Hp} {o:HO} (h:H q=none):Same H (upd H q o):=λ b u e=>by rw [aj (aq e h)]; exact e
abbrev EU:=@Same.new
end Pc
namespace PySem
open Sem (wp)
open AutoSeq1 (wpAny_loadPart')
section
variable {prog:EQ} {w:ES} {A:Around} {E:ET->EO->Prop} {s:EO}
theorem fA {it t:Addr} {i:Nat} {items} {x:ET} {Q:ET->EO->Prop} (hit:s.heap.IsTupleIter it t i)
  (ht:s.heap.IsTuple t items) (hx:items[i]? = some x)
  (hQ:∀h',h'.IsTupleIter it t (i + 1)->Heap.SameBut it s.heap h'->Q x { s with heap:=h' }) :
  wpAny (model prog w) A (Builtin.SmallTypes.nextOf (.ref it)) Q E s:=by
 obtain ⟨o,ho,hc,hd⟩:=id hit;obtain ⟨ol,hol,_,nl,hdl⟩:=ht;unfold Builtin.SmallTypes.nextOf;refine A0 (wpAny_callSpecial?_slot (name:=Str.ofString "__next__") hit.typeIs F.slot_tuple_iterator_next
  (EL F.slot_tuple_iterator_next hit.typeIs F.entry_tuple_iterator_next ?_ (F.args_tuple_iterator_next_1 _)))
 show wpAny _ _ (field (.ref it) 0 >>= _) _ _ s;refine A0 (wpAny_field ho hd (x:=.ref t) rfl ?_);show wpAny _ _ (if (Value.ref t == Value.none)=true then _ else _) _ _ s;rw [if_neg (show ¬ ((Value.ref t == Value.none)=true) from Bool.false_ne_true)];show wpAny _ _ (field (.ref it) 1 >>= _) _ _ s;refine A0 (wpAny_field ho hd (x:=.int i 0) rfl ?_);show wpAny _ _ (seqItems? (.ref t) >>= _) _ _ s;refine A0 (wpAny_seqItems hol hdl ?_);simp only [Int.toNat_natCast,hx];refine A0 (wpAny_setField ho hd (by simp) (A1 ⟨x,rfl,A1 (hQ _ ?_ (Heap.SameBut.update ..))⟩));exact ⟨_,Heap.get?_update_self _ ho (Obj.isFreed_of_fields (Obj.data_mapFields hd _)),(Obj.cls_mapFields ..).trans hc,by
  rw [Obj.data_mapFields hd]; simp [rawInt]⟩
theorem df {it t:Addr} {i:Nat} {items} {Q:ET->EO->Prop} (hh:A.handled=none)
  (hit:s.heap.IsTupleIter it t i) (ht:s.heap.IsTuple t items) (hx:items[i]? = none)
  (hE:∀h' e, Heap.ExtBut it s.heap h'->(∃o, h'.get? e=some o/\o.cls=.type "StopIteration")->E (.ref e) { s with heap:=h' }) :
  wpAny (model prog w) A (Builtin.SmallTypes.nextOf (.ref it)) Q E s:=by
 obtain ⟨o,ho,hc,hd⟩:=id hit;obtain ⟨ol,hol,_,nl,hdl⟩:=ht;unfold Builtin.SmallTypes.nextOf;refine A0 (wpAny_callSpecial?_slot (name:=Str.ofString "__next__") hit.typeIs F.slot_tuple_iterator_next
  (EL F.slot_tuple_iterator_next hit.typeIs F.entry_tuple_iterator_next ?_ (F.args_tuple_iterator_next_1 _)))
 show wpAny _ _ (field (.ref it) 0 >>= _) _ _ s;refine A0 (wpAny_field ho hd (x:=.ref t) rfl ?_);show wpAny _ _ (if (Value.ref t == Value.none)=true then _ else _) _ _ s;rw [if_neg (show ¬ ((Value.ref t == Value.none)=true) from Bool.false_ne_true)];show wpAny _ _ (field (.ref it) 1 >>= _) _ _ s;refine A0 (wpAny_field ho hd (x:=.int i 0) rfl ?_);show wpAny _ _ (seqItems? (.ref t) >>= _) _ _ s;refine A0 (wpAny_seqItems hol hdl ?_);simp only [Int.toNat_natCast,hx];refine A0 (wpAny_rule (A0 (wpAny_setField ho hd (by simp) ?_)));show wpAny _ _ (newExc (.type "StopIteration") [] >>= _) _ _ _;refine A0 ?_;simp only [newExc,newTuple];refine A0 (EM ?_ (by size_fits));refine A0 (m:=firstArgMember _ _) (wpAny_of_eq (a:=Value.none) (by first | rfl | (simp only [firstArgMember]; rfl)) ?_);refine EM ?_ (by size_fits);simp only [raiseNew];refine A0 (wpAny_handled ?_)
 first | rw [show A.in1.handled=none from hh] | rw [hh]
 refine A0 (A1 (wpAny_throw ?_));exact hE _ _ (((Heap.SameBut.update ..).extBut.push _).push _) ⟨_,A8 _ rfl,rfl⟩
end
theorem oT {prog:EQ} {w:ES} {A:Around} (hh:A.handled=none) (it l:Addr) (hne:l≠it) (items:Array ET) :
  Draws prog w A it [it,l] items.size (λ i v=>items[i]? = some v) (λ i h=>h.IsTupleIter it l i/\h.IsTuple l items) where
 live:=λ _ _ st=>let ⟨o,ho,_⟩:=st.1; ⟨o,ho⟩
 frame:=λ _ _ _ st hk=>⟨st.1.at λ o e=>hk it (by simp) o e,let ⟨o,ho,r⟩:=st.2; ⟨o,hk l (by simp) o ho,r⟩⟩
 item:=λ i s Q E hi st hQ=>by refine fA st.1 st.2 (x:=items[i]) (by simp [hi]) λ h' hit' hs'=>?_;exact hQ _ h' s.toks (by simp [hi]) ⟨hit',st.2.extBut hs'.extBut hne⟩ hs'
 done:=λ s Q E st hE=>df hh st.1 st.2 (by simp) hE
theorem gi (l:Addr) (items:Array ET) (n:Nat) (dct:Option Addr) (sl:Array (Option ET)) :
  Meets (Builtin.«enumerate.__new__» ⟨[.type "enumerate",.ref l],[]⟩) (λ _ R s=>s.heap.get? l=some { cls:=.type "tuple",dict:=dct,data:=.seq items n,slots:=sl } /\
   R (.ok (.ret (.ref (s.heap.push { cls:=.type "tuple_iterator",data:=.fields #[.ref l,.int 0 0] }).objs.size)))
    { s with heap:=(s.heap.push { cls:=.type "tuple_iterator",data:=.fields #[.ref l,.int 0 0] }).push { cls:=.type "enumerate",data:=.fields #[.none,.bool false,.ref s.heap.objs.size,rawInt 0,.none,.none] } }) :=
 .of_wp λ prog w A R s h=>by
  obtain ⟨hp,g,d,tk,os⟩:=s; obtain ⟨hl,h⟩:=h;have hsub:=sub_enumerate;have hL:Heap.IsTuple (Shared.heap ⟨hp,g,d,tk,os⟩) l items:=⟨_,hl,Y,n,Y⟩
  wp_walk using wpAny_loadPart' hl
  refine wpAny_stack_any λ st=>A1 ?_
  split
  ·rename_i c _ _ _ _ _
   cases (c == Value.type "enumerate")
   ·wp_walk using wpAny_loadPart' hl,wpAny_pyIter_tuple hL
    exact ⟨_,Y,h⟩
   ·wp_walk using wpAny_loadPart' hl,wpAny_pyIter_tuple hL
    exact ⟨_,Y,h⟩
  ·wp_walk using wpAny_loadPart' hl,wpAny_pyIter_tuple hL
   exact ⟨_,Y,h⟩
section
variable {prog:EQ} {w:ES} {A:Around} {E:ET->EO->Prop} {s:EO}
theorem eB {l:Addr} {items:Array ET} {Q:ET->EO->Prop} (hL:s.heap.IsTuple l items)
  (h:∀h',IsEnum h' (s.heap.objs.size + 1) s.heap.objs.size 0 .none->h'.IsTupleIter s.heap.objs.size l 0->h'.objs.size=s.heap.objs.size + 2 ->
   (∀b o,s.heap.get? b=some o->h'.get? b=some o)->Q (.ref (s.heap.objs.size + 1)) { s with heap:=h' }) :
  wpAny (model prog w) A (call (.type "enumerate") [.ref l]) Q E s:=by
 obtain ⟨⟨c,dct,dt,sl⟩,hl,hc,n,hd⟩:=hL
 replace hc:c=.type "tuple" := hc
 replace hd:dt=.seq items n:=hd
 subst hc hd;refine callType_new F.called_enumerate ∅ (F.typeCall_enumerate_1 _) (F.newCall_enumerate_1 _) (λ obj=>F.args_object_init_2 obj _) F.entry_enumerate_new
  (gi l items n dct sl) ⟨hl,?_⟩
 have hz:(s.heap.push { cls:=.type "tuple_iterator",data:=.fields #[.ref l,.int 0 0] }).objs.size=s.heap.objs.size + 1:=Heap.size_push ..;show _/\_;rw [hz];have he:IsEnum ((s.heap.push { cls:=.type "tuple_iterator",data:=.fields #[.ref l,.int 0 0] }).push
   { cls:=.type "enumerate",data:=.fields #[.none,.bool false,.ref s.heap.objs.size,rawInt 0,.none,.none] }) (s.heap.objs.size + 1) s.heap.objs.size 0 .none:=by
  have:=A8 (s.heap.push { cls:=.type "tuple_iterator",data:=.fields #[.ref l,.int 0 0] })
   (o:={ cls:=.type "enumerate",data:=.fields #[.none,.bool false,.ref s.heap.objs.size,rawInt 0,.none,.none] }) rfl
  rw [hz] at this; exact this
 refine ⟨⟨_,he,Y⟩,h _ he ⟨_,A7 _ (A8 _ rfl),Y,Y⟩ (by rw [Heap.size_push,hz]) λ b o x=>A7 _ (A7 _ x)⟩
end
end PySem
namespace L2
open PySem PySem.Spec PyProof.Rows
def Ite (f:List V->HO) (l:Addr):It :=
  ⟨λ i H=>∃xs x,H l=some (f xs)/\xs[i]? = some x,
   λ i H v H'=>∃p xs x,H p=none/\v=.ref p/\H'=upd H p (.tup [.int i,x])/\H l=some (f xs)/\xs[i]? = some x,
   λ i H=>∃xs,H l=some (f xs)/\xs.length<=i⟩
section
variable {X:Cx} {pins:List (Addr×Obj)} {σ:St} {H:Hp} {s:EO}
theorem hJ {f:List V->HO} {tn:Nat->Heap->Prop} {es:List Expr} {kk:Nat} {tp:Pos} {e it l:Addr} {i:Nat} {xs:List V} {x:V} {u:ET} {tk:Nat} {h':Heap} {E:ET->EO->Prop} (hne:e≠it) (I:Inv X pins σ H s) (hf:∀b∈[e,it],eU X pins H b) (hl:H l=some (f xs)) (hx:xs[i]? = some x)
  (ho:∀b∈[e, it], b < s.heap.objs.size) (r:RelV x u) (b1:IsEnumOut h' e it ((i:Int) + 1) u s.heap.objs.size) (b3:h'.get? s.heap.objs.size=some { cls:=.type "tuple", data:=.seq #[.int i tk, u] })
  (bk:∀b o,b≠e->b≠it->s.heap.get? b=some o->h'.get? b=some o) (hn:∀h'',IsEnum h'' e it ((i + 1:Nat):Int) u->Heap.SameBut e h' h''->tn (i + 1) h'') :
  wpAny (model X.prog X.w) X.A (letOwnedTupleGo (.Tuple es kk tp) (.ref e) (.ref s.heap.objs.size)) (λ _ s2=>∃x H',Inv X pins σ H' s2/\RelV x (.ref s.heap.objs.size)/\(Ite f l).yld i H x H'/\tn (i + 1) s2.heap/\∀b∈[e,it],H' b=none) E { s with heap:=h',toks:=tk + 1 }:=by
 refine wpAny_letOwnedTupleGo_enum b1 λ h'' c1 cs=>?_;have es':e < s.heap.objs.size:=ho e (by simp);have k2:∀b o,b∉[e,it]->s.heap.get? b=some o->h''.get? b=some o:=λ b o hb q=>by simp only [List.mem_cons,List.not_mem_nil,or_false,not_or] at hb;exact cs.extBut b o hb.1 (bk b o hb.1 hb.2 q)
 have I1:Inv X pins σ H { s with heap:=h'',toks:=tk + 1 }:=I.turnedN (t':=tk + 1) hf k2;have hp:h''.get? s.heap.objs.size=some { cls:=.type "tuple", data:=.seq #[.int i tk, u] }:=cs.extBut _ _ (Nat.ne_of_gt es') b3;have hn0:H s.heap.objs.size=none:=I.hok.fresh (B3 _);have fpk:=I.fpOk (H':=H) (B3 _) hn0;have I2:Inv X pins σ (upd H s.heap.objs.size (.tup [.int i,x])) { s with heap:=h'',toks:=tk + 1 }:=I1.track fpk I.sz ⟨by show 2<=sizeLine; decide,[.int i tk,u],.cons ⟨tk,Y⟩ (.cons r .nil),_,hp,Y,_,Y⟩;refine ⟨.ref s.heap.objs.size,_,I2,Y,⟨_,xs,x,hn0,Y,Y,hl,hx⟩,hn h'' c1 cs,λ b hb=>?_⟩;rw [aj (Nat.ne_of_lt (ho b hb))];exact (hf b hb).1
end
theorem jZ {P:EQ} {w:ES} {K:C4} {es:List Expr} {kk:Nat} {tp:Pos} (l e it:Addr) (hne:e≠it) :
  Turn P w K (.Tuple es kk tp) (Ite .lst l) [e,it] e (λ i h=>(∃old,IsEnum h e it i old)/\h.IsListIter it l i) where
 mem:=by simp
 obj:=λ i h st b hb=>by
  obtain ⟨⟨old,a1⟩,⟨o2,a2,_,d2⟩⟩:=st;simp only [List.mem_cons,List.not_mem_nil,or_false] at hb;rcases hb with rfl | rfl
  ·exact ⟨_,a1,λ v q=>by cases q⟩
  ·exact ⟨_,a2,λ v q=>by rw [d2] at q; cases q⟩
 keep:=λ i h h' st k=>by obtain ⟨⟨old,a1⟩,a2⟩:=st;exact ⟨⟨old,k e (by simp) _ a1⟩,a2.at λ o q=>k it (by simp) o q⟩
 item:=by
  intro X hP hw hK hc i pins s σ H E I hf st hg;subst hP hw hK;obtain ⟨⟨old,a1⟩,a2⟩:=st;obtain ⟨xs,x,e1,ex⟩:=hg;obtain ⟨its,rv,p1,_⟩:=I.list (EW e1);obtain ⟨u,hu,r⟩:=rv.get ex;have ho:∀b∈[e,it],b < s.heap.objs.size:=λ b hb=>by
   obtain ⟨o2,a2',_⟩:=a2;simp only [List.mem_cons,List.not_mem_nil,or_false] at hb;rcases hb with rfl | rfl
   ·exact A9 a1
   ·exact A9 a2'
  refine wpAny_pyNext_enum_item a1 a2 p1.isList (x:=u) (by simpa using hu) hne λ h' b1 b2 b3 b4 bk=>⟨_,Y,?_⟩
  exact hJ (tn:=λ i h=>(∃old,IsEnum h e it i old)/\h.IsListIter it l i) hne I hf e1 ex ho r b1 b3 bk λ h'' c1 cs=>⟨⟨u,c1⟩,b2.extBut cs.extBut (Ne.symm hne)⟩
 done:=by
  intro X hP hw hK hc i pins s σ H E I hf st hg;subst hP hw hK;obtain ⟨⟨old,a1⟩,a2⟩:=st;obtain ⟨xs,e1,ex⟩:=hg;obtain ⟨its,rv,p1,_⟩:=I.list (EW e1);have lv:=rv.length;refine wpAny_pyNext_enum_end (I.ok.hd hc) a1 a2 p1.isList (by simp; omega) λ h' bk=>⟨Y,?_⟩
  exact I.turnedN (t':=s.toks) hf λ b o hb q=>by simp only [List.mem_cons,List.not_mem_nil,or_false,not_or] at hb;exact bk b o hb.2 q
 self:=λ _ _ _ _ _ st h=>by obtain ⟨⟨old,a1⟩,_⟩:=st; exact wpAny_pyIter_enum a1 h
theorem kh {P:EQ} {w:ES} {K:C4} {es:List Expr} {kk:Nat} {tp:Pos} (l e it:Addr) (hne:e≠it) :
  Turn P w K (.Tuple es kk tp) (Ite .tup l) [e,it] e (λ i h=>(∃old,IsEnum h e it i old)/\h.IsTupleIter it l i) where
 mem:=by simp
 obj:=λ i h st b hb=>by
  obtain ⟨⟨old,a1⟩,⟨o2,a2,_,d2⟩⟩:=st;simp only [List.mem_cons,List.not_mem_nil,or_false] at hb;rcases hb with rfl | rfl
  ·exact ⟨_,a1,λ v q=>by cases q⟩
  ·exact ⟨_,a2,λ v q=>by rw [d2] at q; cases q⟩
 keep:=λ i h h' st k=>by obtain ⟨⟨old,a1⟩,a2⟩:=st;exact ⟨⟨old,k e (by simp) _ a1⟩,a2.at λ o q=>k it (by simp) o q⟩
 item:=by
  intro X hP hw hK hc i pins s σ H E I hf st hg;subst hP hw hK;obtain ⟨⟨old,a1⟩,a2⟩:=st;obtain ⟨xs,x,e1,ex⟩:=hg;obtain ⟨its,rv,p1,_⟩:=I.tuple (EV e1);obtain ⟨u,hu,r⟩:=rv.get ex;have lt:i < its.toArray.size:=by simp; exact (A6.mp hu).1
  have ho:∀b∈[e,it],b < s.heap.objs.size:=λ b hb=>by
   obtain ⟨o2,a2',_⟩:=a2;simp only [List.mem_cons,List.not_mem_nil,or_false] at hb;rcases hb with rfl | rfl
   ·exact A9 a1
   ·exact A9 a2'
  have nl:∀b∈[e,it],l≠b:=λ b hb q=>by rw [q,(hf b hb).1] at e1; cases e1
  have p1':s.heap.IsTuple l its.toArray:=p1;have DD:Draws X.prog X.w X.A.in1 it [it,l] its.toArray.size (λ i v=>its.toArray[i]? = some v) (λ i h=>h.IsTupleIter it l i/\h.IsTuple l its.toArray):=oT (show X.A.in1.handled=none from I.ok.hd hc) it l (nl it (by simp)) its.toArray;refine wpAny_pyNext_enum_itemD DD a1 ⟨a2,p1'⟩ lt hne (by simp only [List.mem_cons,List.not_mem_nil,or_false,not_or]; exact ⟨hne,Ne.symm (nl e (by simp))⟩) λ x' h' tk px b1 b2 b3 b4 bk=>⟨_,Y,?_⟩
  have hu':its.toArray[i]? = some u:=by simpa using hu
  have eu:u=x':=B8 (hu'.symm.trans px);subst eu;exact hJ (tn:=λ i h=>(∃old,IsEnum h e it i old)/\h.IsTupleIter it l i) hne I hf e1 ex ho r b1 b3 bk λ h'' c1 cs=>⟨⟨u,c1⟩,b2.1.extBut cs.extBut (Ne.symm hne)⟩
 done:=by
  intro X hP hw hK hc i pins s σ H E I hf st hg;subst hP hw hK;obtain ⟨⟨old,a1⟩,a2⟩:=st;obtain ⟨xs,e1,ex⟩:=hg;obtain ⟨its,rv,p1,_⟩:=I.tuple (EV e1);have lv:=rv.length;have p1':s.heap.IsTuple l its.toArray:=p1;have hT:s.TypeIs (.ref e) "enumerate" := ⟨_,a1,Y⟩
  unfold pyNext;refine A0 (wpAny_attempt (wpAny_callSpecial?_slot (name:=Str.ofString "__next__") hT F.slot_enumerate_next
   (EL F.slot_enumerate_next hT F.entry_enumerate_next ?_ (F.args_enumerate_next_1 _))))
  show wpAny _ _ (field (.ref e) 2 >>= _) _ _ _;refine A0 (wpAny_field a1 rfl (x:=.ref it) rfl ?_);refine A0 (df (I.ok.hd hc) a2 p1' (by simp; omega) λ h' x he' hx'=>?_);obtain ⟨o,ho,hc⟩:=hx';refine A0 (wpAny_isInstance (T := "StopIteration") (b:=true) ⟨o,ho,hc⟩ isSubtype_stop ?_);refine A1 ⟨rfl,?_⟩;exact I.turnedN (t':=s.toks) hf λ b o hb q=>by simp only [List.mem_cons,List.not_mem_nil,or_false,not_or] at hb;exact he' b o hb.2 q
 self:=λ _ _ _ _ _ st h=>by obtain ⟨⟨old,a1⟩,_⟩:=st; exact wpAny_pyIter_enum a1 h
def vP (ta:TA):TI:=λ σ H R=>ta σ H λ vs H1=>∃l xs,vs=[.ref l]/\((H1 l=↥xs/\R (Ite .lst l) H1)\/(H1 l= ~~~xs/\R (Ite .tup l) H1))
theorem qT {X:Cx} {a:Expr} {ta:TA} {p pos tp:Pos} {es:List Expr} {kk:Nat} (hg:Gl X "enumerate") (hm:X.mg "enumerate" = none) (ha:PA X [a] ta)
  (hs:starEach [a] X.env=[(false,eval a X.env)]:=by rfl) :
  PI X (.Tuple es kk tp) (.Call (.Name "enumerate" p) [a] [] pos) (vP ta):=by
 intro pins s σ H R I h;refine Call_ (ee I hg hm PyProof.Rows.boot_enumerate (PyProof.Rows.callWith_type1 (thn (ha pos pins s σ H _ I h) λ us s1 ⟨vs,H1,I1,r1,q1⟩=>?_) (by rw [hs]; rfl) (by rfl)));obtain ⟨l,xs,rfl,q⟩:=q1;cases r1 with
 | cons r rr =>
  cases rr;cases r;rcases q with ⟨e1,q⟩ | ⟨e1,q⟩
  ·obtain ⟨its1,rv1,p1,_⟩:=I1.list (EW e1);refine call_enumerate_list p1.isList λ h' z1 z2 sz keep=>?_;have I2:Inv X pins σ H1 { s1 with heap:=h' }:=I1.kept (t':=s1.toks) keep;refine wpAny_pyIter_enum z1 ⟨s1.heap.objs.size + 1,[s1.heap.objs.size + 1,s1.heap.objs.size],_,_,H1,rfl,I2,jZ l _ _ (Nat.succ_ne_self _),⟨⟨_,z1⟩,z2⟩,λ b hb=>?_,q⟩;have hb':s1.heap.objs.size<=b:=by simp only [List.mem_cons,List.not_mem_nil,or_false] at hb;rcases hb with rfl | rfl <;> omega
   exact I1.fpOk hb' (I1.hok.fresh hb')
  ·obtain ⟨its1,rv1,p1,_⟩:=I1.tuple (EV e1);have p1':s1.heap.IsTuple l its1.toArray:=p1;refine eB p1' λ h' z1 z2 sz keep=>?_;have I2:Inv X pins σ H1 { s1 with heap:=h' }:=I1.kept (t':=s1.toks) keep;refine wpAny_pyIter_enum z1 ⟨s1.heap.objs.size + 1,[s1.heap.objs.size + 1,s1.heap.objs.size],_,_,H1,rfl,I2,kh l _ _ (Nat.succ_ne_self _),⟨⟨_,z1⟩,z2⟩,λ b hb=>?_,q⟩;have hb':s1.heap.objs.size<=b:=by simp only [List.mem_cons,List.not_mem_nil,or_false] at hb;rcases hb with rfl | rfl <;> omega
   exact I1.fpOk hb' (I1.hok.fresh hb')
theorem oU {f:List V->HO} (hf:∀xs ys,f xs=f ys->xs=ys) {l:Addr} {xs:List V} {g:TG} {tb:TS} {D:Ends} {σ:St} {H:Hp} (Pv:Nat->St->Hp->Prop) (h0:Pv 0 σ H) (hk:∀i σ H',Pv i σ H'->H' l=some (f xs))
  (ht:∀i x p σ H,xs[i]? = some x->H p=none->Pv i σ H->g (.ref p) σ (upd H p (.tup [.int i,x])) λ σ2 H2=>tb { D with nx:=Pv (i + 1),ct:=Pv (i + 1),bk:=D.nx } σ2 H2) (hd:∀σ H,Pv xs.length σ H->D.nx σ H) :
  ∃W:Nat->Nat->St->Hp->Prop,(∃m,W 0 m σ H)/\∀i m σ H,W i m σ H ->
   ((Ite f l).stop i H/\D.nx σ H)\/((Ite f l).go i H/\∃N:St->Hp->Prop,(∀σ' H',N σ' H'->∃m',m' < m/\W (i + 1) m' σ' H')/\∀x H',(Ite f l).yld i H x H'->g x σ H' λ σ2 H2=>tb { D with nx:=N,ct:=N,bk:=D.nx } σ2 H2):=by
 refine ⟨λ i m σ H=>m=xs.length - i/\i<=xs.length/\Pv i σ H,⟨xs.length,by simp,EH _,h0⟩,?_⟩;rintro i m σ H ⟨rfl,hi,p⟩;have e1:=hk i σ H p
 by_cases hlt:i < xs.length
 ·refine .inr ⟨⟨xs,xs[i],e1,by simp [hlt]⟩,Pv (i + 1),λ σ' H' p'=>⟨xs.length - (i + 1),⋯,Y,hlt,p'⟩,λ v H' y=>?_⟩;obtain ⟨q,xs',x,hq,rfl,rfl,e1',ex⟩:=y;rw [e1] at e1';cases hf _ _ (B8 e1');exact ht i x q σ H ex hq p
 ·have e:i=xs.length:=⋯
  subst e;exact .inl ⟨⟨xs,e1,B3 _⟩,hd σ H p⟩
end L2
namespace Pc
open PySem L2
def bf (k:Kd):Bool:=k.tu && !decide (k.w=k.h)
def gj (K:C4):Sp:=λ vs H Q _=>∃ (a:Addr) (k:Kd),vs=[.ref a]/\H a= ~~~(kdV k)/\Q (.bl (bf k)) H
def dU (ks:List Kd) (x t:V):Bool:=match x,t with
 | .int i,.bl b=>decide (0<=i) && match ks[i.toNat]? with
  | some k=>!b || bf k
  | none=>false
 | _,_=>false
def dE (K:C4) (C:Addr):Sp:=λ vs H Q _=>∃ (s:Addr) (b:Int) (ks:List Kd) (x t:V) (T U:String),vs=[.ref s,x,t]/\ShopAt C H s b ks/\Ty K H x T/\Ty K H t U/\Q (.bl (dU ks x t)) H
end Pc
namespace L2
open PySem PySem.Spec PyProof.Rows
section
variable {X:Cx}
theorem lq {k:Nat} {C:Addr} {ps:List Str} {sp:Sp} {m:Str} {o:Expr} {e:Expr} {es:List Expr} {ta:TE} {t:TA} {apos pos:Pos} {pl:Sem Bool} (he:PE X o ta) (c:Cls X.K C) (D:Mn X.prog X.w X.K X.mg X.base C m ps k sp) (hr:Room k X.A) (ha:PA X (e :: es) t)
  (hst:starEach (e :: es) X.env=(false,eval e X.env) :: starEach es X.env:=by rfl) (hpl:(backTo pos (starEach es X.env)).any (·.1)=false:=by rfl)
  (ht:eval (.Call (.Attribute o m apos) (e :: es) [] pos) X.env=(do
   let ov<-eval o X.env
   standAt apos.atName
   let (f,first)<-holding [ov] (getMethod ov m pl)
   callWith pos f first (backTo pos (starEach (e :: es) X.env)) (backToKw pos (keywordEach [] X.env))):=by rfl):PE X (.Call (.Attribute o m apos) (e :: es) [] pos) (lc C m sp [] E0 ta t):=by
 obtain ⟨f,fd,F,hb,hm⟩:=D;exact qI he c hm F hr hb .nil li ha hst hpl ht
end
theorem iG:∀ {ns:List Int} {its:List ET},Vals (ns.map V.int) its->IntsAre its ns
 | [],_,r=>by cases r; exact .nil
 | n :: ns,_,r=>by
  cases r with
  | cons r1 r2 =>
   obtain ⟨t,e⟩:=r1;subst e;exact .cons n t (iG r2)
section
variable {X:Cx}
theorem dF (hc:X.calm=true):cY X (.builtin "sum") (λ xs H Q=>∃ (p:Addr) (ns:List Int),xs=[.ref p]/\SqL X.K H p (ns.map V.int)/\Q (.int ns.sum) H):=by
 intro pins s σ H xs us Q I r h;obtain ⟨p,ns,rfl,hs,q⟩:=h;obtain ⟨u,rfl,rfl⟩:=fX r;obtain ⟨its,rv,pl,_⟩:=I.list hs;have hi:=iG rv;obtain ⟨xs,e⟩:=hi.allInts.items;have pl':=pl.isList;rw [e] at pl';refine sum_intListG (I.ok.hd hc) pl' λ h' tk t' hk=>?_;have e2:preSum (numAt xs) xs.size=ns.sum:=by rw [preSum_eq,List.take_of_length_le (by simp),<- nums_intItems,<- e,show its.toArray.toList=its from rfl,hi.numsOf]
 rw [e2];exact ⟨.int ns.sum,H,I.kept hk,⟨_,Y⟩,q⟩
end
end L2
namespace Pc
open PySem L2
def m0 (x:Int):Int:=if x > 0 then x else 0
theorem gl {l l':List Int} (h:l.Perm l'):l.sum=l'.sum:=by
 induction h with
 | nil=>rfl
 | cons x _ ih=>rw [List.sum_cons,List.sum_cons,ih]
 | swap x y l=>simp only [List.sum_cons]; omega
 | trans _ _ a b=>exact a.trans b
end Pc
namespace L2
open PySem PySem.Spec PyProof.Rows
section
variable {X:Cx}
def CMulB (i j:Int):Prop:=i.natAbs < 2 ^ 4096/\j.natAbs < 2 ^ 4096
theorem lr {k:Int} (h:k.natAbs < 2 ^ 4096):Builtin.Int.intBits k<=2 ^ 20:=by
 have e:(2:Nat) ^ 20=1048576:=∅
 unfold Builtin.Int.intBits
 split
 ·exact EH _
 ·have:k.natAbs.log2 < 4096:=by
   rcases Nat.eq_zero_or_pos k.natAbs with h0 | hp
   ·rw [h0]; decide
   ·exact (Nat.log2_lt (Nat.ne_of_gt hp)).mpr h
  omega
theorem CMulB.ok {i j:Int} (h:CMulB i j):IntMulOk i j:=.of_bits (lr h.1) (lr h.2)
theorem cQ:OpR X (binaryOp .Mult) (rI CMulB λ i j=>.int (i * j)):=opI λ _ _ _ _ _ _ _ hc q=>mul_int q hc.ok
end
theorem aG {α:Type} {xs:List α} {i:Int} {v:α} (h0:0<=i) (h:xs[i.toNat]? = some v):atI xs i=some v:=by
 have e:i=((i.toNat:Nat):Int):=⋯
 have z:atI xs ((i.toNat:Nat):Int)=some v:=lh h;rw [<- e] at z; exact z
end L2
namespace Pc
open PySem L2
theorem sO {K:C4} {H:Hp}:∀ns:List Int,DatVs K H (ns.map V.int) (ns.map PyData.int)
 | []=>.nil
 | n :: r=>.cons (.int n) (sO r)
end Pc
namespace L2
open PySem PySem.Spec PyProof.Rows
theorem sP {X:Cx} (K:C4) {x y:Str} {px py pos:Pos} {k:Nat} (hK:X.K=K) (hc:X.calm=true) (hN:X.N.Nodup) (h0:X.N[0]? = some x) (h1:X.N[1]? = some y) (l0:X.env.scope.names.lookup x=some .local) (l1:X.env.scope.names.lookup y=some .local) :
  PG X (.Tuple [.Name x px,.Name y py] k pos) (gTup K 2 (gCons (cC 0) (gCons (cC 1) qz))) :=
 hK ▸ aR hc (ah (ai hN h0 (.inl l0) (.inr l0)) (ah (ai hN h1 (.inl l1) (.inr l1)) aI))
theorem oV {X:Cx} (K:C4) {x y z:Str} {px py pz pos:Pos} {k:Nat} (hK:X.K=K) (hc:X.calm=true) (hN:X.N.Nodup) (h0:X.N[0]? = some x) (h1:X.N[1]? = some y) (h2:X.N[2]? = some z) (l0:X.env.scope.names.lookup x=some .local) (l1:X.env.scope.names.lookup y=some .local) (l2:X.env.scope.names.lookup z=some .local) :
  PG X (.Tuple [.Name x px,.Name y py,.Name z pz] k pos) (gTup K 3 (gCons (cC 0) (gCons (cC 1) (gCons (cC 2) qz)))) :=
 hK ▸ aR hc (ah (ai hN h0 (.inl l0) (.inr l0)) (ah (ai hN h1 (.inl l1) (.inr l1)) (ah (ai hN h2 (.inl l2) (.inr l2)) aI)))
theorem oW {l1 l2:Addr} {xs ys:List V} {σ:St} {cap:List Nat} {k:Nat} {g:TG} {tt:TT} {te:TE} {Q:List V->Hp->Prop} {H:Hp} (Pv:Nat->List V->Hp->Prop) (hn:xs.length=ys.length)
  (hk:∀i zs H',Pv i zs H'->H' l1=↥xs/\H' l2=↥ys) (h0:Pv 0 [] H)
  (hz:∀i zs H',i < xs.length->Pv i zs H'->zs.length < sizeLine)
  (ht:∀i x y p zs H',xs[i]? = some x->ys[i]? = some y->H' p=none->Pv i zs H'->g (.ref p) (bI σ cap k) (upd H' p (.tup [x,y])) λ σ2 H2=>leS (bI σ cap k) σ2/\tt σ2 H2 λ ok H3=>if ok=true then te σ2 H3 (λ v H4=>Nx xs.length Pv i (zs ++ [v]) H4) else Nx xs.length Pv i zs H3)
  (hd:∀zs H',Pv xs.length zs H'->zs.length<=sizeLine/\Q zs H'):∃W,(∃m,W 0 m [] H)/\hG σ cap k (Itz l1 l2) g tt te Q W:=by
 refine ⟨λ i m zs H'=>m=xs.length - i/\i<=xs.length/\Pv i zs H',⟨_,Y,EH _,h0⟩,?_⟩;rintro i m zs H' ⟨rfl,hi,p⟩;obtain ⟨e1,e2⟩:=hk i zs H' p
 by_cases hlt:i < xs.length
 ·have hx:xs[i]? = some xs[i]:=by simp [hlt]
  have hy:ys[i]? = some (ys[i]'⋯):=by simp [show i < ys.length by omega]
  refine .inr ⟨⟨xs,ys,_,_,e1,e2,hx,hy⟩,hz i zs H' hlt p,λ v H2 yl=>?_⟩
  ·obtain ⟨q,xs',ys',x,y,hq,rfl,rfl,e1',e2',ex,ey⟩:=yl;rw [e1] at e1'; cases e1';rw [e2] at e2'; cases e2';exact ht i x y q zs H' ex ey hq p
 ·have e:i=xs.length:=⋯
  subst e;obtain ⟨a1,a2⟩:=hd zs H' p;exact .inl ⟨⟨xs,ys,e1,e2,.inl (B3 _)⟩,a1,a2⟩
end L2
namespace PyProof.Rows
set_option autoImplicit false
open PySem
structure SBaseT (κ0:SortKind) (a₀:Array Keyed) (st:SortSt):Prop where
 perm:(arrOf st).Perm a₀
 kind:kindOf st=κ0
 failed:failedOf st=none
 pend:pendingOf st=#[]
def bj (prog:EQ) (w:ES) (A:Around) (s:EO) (κ0:SortKind) (κ:KeyKind):Prop :=
 ∀ (E:ET->EO->Prop) (x y:ET) (a b:κ.α) (Q:Bool->EO->Prop),κ.keyOf x=some a->κ.keyOf y=some b->Q (κ.blt a b) s->wpAny (model prog w) A (keyLt' κ0 x y) Q E s
section
variable {prog:EQ} {w:ES} {A:Around} {E:ET->EO->Prop} {s:EO} {a₀:Array Keyed} {κ:KeyKind} {κ0:SortKind}
theorem kj (hO:bj prog w A s κ0 κ) {st:SortSt} {i j:Nat} {x y:ET} {a b:κ.α} {p q:ET} {Q:Option Bool->SortSt->Prop} (hk:kindOf st=κ0)
  (hi:(arrOf st)[i]? = some (x,p)) (hj:(arrOf st)[j]? = some (y,q)) (ha:κ.keyOf x=some a) (hb:κ.keyOf y=some b) (h:Q (some (κ.blt a b)) st) :
  wpS (model prog w) A E s (ltAt' i j) Q st:=by
 rw [ltAt'_eq];refine A3 (wpS_get ?_);show wpS _ _ _ _ (do let x<-elem' (arrOf st) i; let y<-elem' (arrOf st) j; lt' x y) Q st;rw [elem'_eq,elem'_eq,hi,hj];refine A3 (A4 (A3 (A4 ?_)));rw [lt'_eq];refine A3 (wpS_get ?_);rw [hk];refine A3 (wpS_lift (wpAny_attempt (hO _ x y a b _ ha hb ⟨rfl,?_⟩)));exact A4 h
end
end PyProof.Rows
namespace L2
open PySem PySem.Spec PyProof.Rows
def bK:List Bool->List ET->Option (List Int)
 | [],[]=>some []
 | false :: r,.int i _ :: vs=>(bK r vs).map (i :: ·)
 | true :: r,.bool b :: vs=>(bK r vs).map ((if b=true then 1 else 0) :: ·)
 | _,_=>none
def je:List Bool->List V->Option (List Int)
 | [],[]=>some []
 | false :: r,.int i :: vs=>(je r vs).map (i :: ·)
 | true :: r,.bl b :: vs=>(je r vs).map ((if b=true then 1 else 0) :: ·)
 | _,_=>none
theorem km:∀ {sh:List Bool} {vs:List V} {us:List ET} {k:List Int},Vals vs us->je sh vs=some k->bK sh us=some k
 | [],[],_,_,r,h=>by cases r; exact h
 | [],_ :: _,_,_,_,h=>by cases h
 | false :: r,v :: vs,us,k,rv,h=>by
  cases rv with
  | cons r1 r2 =>
   cases v with
   | int i =>
    obtain ⟨t,rfl⟩:=r1;have h:(je r vs).map (i :: ·)=some k:=h;show (bK r _).map (i :: ·)=some k;cases e:je r vs with
    | none=>rw [e] at h; cases h
    | some k'=>rw [e] at h; rw [km r2 e]; exact h
   | _=>cases h
 | true :: r,v :: vs,us,k,rv,h=>by
  cases rv with
  | cons r1 r2 =>
   cases v with
   | bl b =>
    cases (show _=Value.bool b from r1);have h:(je r vs).map ((if b=true then 1 else 0) :: ·)=some k:=h;show (bK r _).map ((if b=true then 1 else 0) :: ·)=some k;cases e:je r vs with
    | none=>rw [e] at h; cases h
    | some k'=>rw [e] at h; rw [km r2 e]; exact h
   | _=>cases h
 | false :: _,[],_,_,_,h=>by cases h
 | true :: _,[],_,_,_,h=>by cases h
def bz:List Int->List Int->Bool
 | [],[]=>false
 | [],_ :: _=>true
 | _ :: _,[]=>false
 | a :: r,b :: t=>if a=b then bz r t else decide (a < b)
theorem gm:∀a,bz a a=false
 | []=>rfl
 | a :: r=>by rw [bz,if_pos rfl]; exact gm r
theorem hU:∀a b c,bz a b=true->bz b c=true->bz a c=true
 | [],[],_,h,_=>by cases h
 | [],_ :: _,[],_,h=>by cases h
 | [],_ :: _,_ :: _,_,_=>rfl
 | _ :: _,[],_,h,_=>by cases h
 | _ :: _,_ :: _,[],_,h=>by cases h
 | a :: r,b :: t,c :: u,h1,h2=>by
  rw [bz] at h1 h2 ⊢
  by_cases e1:a=b
  ·rw [if_pos e1] at h1
   by_cases e2:b=c
   ·rw [if_pos e2] at h2;rw [if_pos (e1.trans e2)];exact hU r t u h1 h2
   ·rw [if_neg e2] at h2;rw [if_neg (by rw [e1]; exact e2),e1]; exact h2
  ·rw [if_neg e1] at h1;have h1:=C0 h1
   by_cases e2:b=c
   ·rw [if_neg ⋯]; exact B0 ⋯
   ·rw [if_neg e2] at h2;have h2:=C0 h2;rw [if_neg ⋯]; exact B0 ⋯
theorem lw:∀a b c,bz a c=true->bz a b=true\/bz b c=true
 | [],[],_,h=>.inr h
 | [],_ :: _,_,_=>.inl rfl
 | _ :: _,_,[],h=>by cases h
 | _ :: _,[],_ :: _,_=>.inr rfl
 | a :: r,b :: t,c :: u,h=>by
  rw [bz] at h;rw [bz,bz]
  by_cases e1:a=b
  ·rw [if_pos e1]
   by_cases e2:b=c
   ·rw [if_pos (e1.trans e2)] at h;rw [if_pos e2];exact lw r t u h
   ·rw [if_neg (by rw [e1]; exact e2)] at h;rw [if_neg e2];exact .inr (by rw [<- e1]; exact h)
  ·rw [if_neg e1]
   by_cases e3:a=c
   ·rw [if_neg ⋯]
    by_cases z:a < b
    ·exact .inl (B0 z)
    ·exact .inr (B0 ⋯)
   ·rw [if_neg e3] at h;have h:=C0 h
    by_cases z:a < b
    ·exact .inl (B0 z)
    ·rw [if_neg ⋯]; exact .inr (B0 ⋯)
theorem dG:∀a b,bz a b=false->bz b a=false->a=b
 | [],[],_,_=>rfl
 | [],_ :: _,h,_=>by cases h
 | _ :: _,[],_,h=>by cases h
 | a :: r,b :: t,h1,h2=>by
  rw [bz] at h1 h2
  by_cases e:a=b
  ·rw [if_pos e] at h1;rw [if_pos e.symm] at h2;rw [e,dG r t h1 h2]
  ·rw [if_neg e] at h1;rw [if_neg (Ne.symm e)] at h2;have:=of_decide_eq_false h1;have:=of_decide_eq_false h2;exact absurd (show a=b by omega) e
def mw (h:Heap) (sh:List Bool):KeyKind where
 α:=List Int
 blt:=bz
 irrefl:=gm
 trans:=hU
 negTrans:=lw
 total:=dG
 keyOf:=λ v=>match v with
  | .ref a=>match h.get? a with
   | some o=>match o.data with
    | .seq xs _=>bK sh xs.toList
    | _=>none
   | none=>none
  | _=>none
 dflt:=[]
theorem lA {h:Heap} {sh:List Bool} {v:ET} {k:List Int} (e:(mw h sh).keyOf v=some k):∃a o xs n,v=.ref a/\h.get? a=some o/\o.data=.seq xs n/\bK sh xs.toList=some k:=by
 cases v with
 | ref a =>
  have e:(match h.get? a with
   | some o=>match o.data with
    | .seq xs _=>bK sh xs.toList
    | _=>none
   | none=>none)=some k:=e
  cases h1:h.get? a with
  | none=>rw [h1] at e; cases e
  | some o =>
   rw [h1] at e;cases h2:o.data with
   | seq xs n =>
    have e:(match o.data with
     | .seq xs _=>bK sh xs.toList
     | _=>none)=some k:=e
    rw [h2] at e;exact ⟨a,o,xs,n,Y,h1,h2,e⟩
   | _ =>
    have e:(match o.data with
     | .seq xs _=>bK sh xs.toList
     | _=>none)=some k:=e
    rw [h2] at e; cases e
 | _=>cases e
theorem eJ:∀ {sh:List Bool} {us:List ET} {k:List Int},bK sh us=some k->us.length=sh.length
 | [],[],_,_=>rfl
 | [],_ :: _,_,h=>by cases h
 | false :: r,[],_,h=>by cases h
 | true :: r,[],_,h=>by cases h
 | false :: r,v :: vs,k,h=>by
  cases v with
  | int i t =>
   have h:(bK r vs).map (i :: ·)=some k:=h;cases e:bK r vs with
   | none=>rw [e] at h; cases h
   | some k'=>rw [List.length_cons,List.length_cons,eJ e]
  | _=>cases h
 | true :: r,v :: vs,k,h=>by
  cases v with
  | bool b =>
   have h:(bK r vs).map ((if b=true then 1 else 0) :: ·)=some k:=h;cases e:bK r vs with
   | none=>rw [e] at h; cases h
   | some k'=>rw [List.length_cons,List.length_cons,eJ e]
  | _=>cases h
section
variable {prog:EQ} {w:ES} {A:Around} {E:ET->EO->Prop} {s:EO}
theorem jf {a b:Bool} {Q:Bool->EO->Prop} (h:Q (a == b) s):wpAny (model prog w) A (eqBool (.bool a) (.bool b)) Q E s:=by
 unfold eqBool;show wpAny _ _ (if (Value.bool a == Value.bool b)=true then _ else _) Q E s
 by_cases hab:(Value.bool a == Value.bool b)=true
 ·rw [if_pos hab];have e:a=b:=by have:=eq_of_beq hab; injection this
  subst e;exact A0 (wpAny_rule (A1 (by simpa using h)))
 ·rw [if_neg hab];exact A0 (eq_bool (EK h))
theorem iH {bb:Bool} {Q:Bool->EO->Prop}:∀ (sh:List Bool) (xs ys:List ET) (a c:List Int) (i:Nat),bK sh xs=some a->bK sh ys=some c->((bb && i == 0)=true->sh.head? = some false\/sh=[])->Q (bz a c) s->PySem.W.KatLex prog w A bb false Q (xs.zip ys) i s
 | [],[],[],a,c,i,h1,h2,_,q=>by cases h1; cases h2; exact PySem.W.kat_nil q
 | [],_ :: _,_,_,_,_,h,_,_,_=>by cases h
 | [],[],_ :: _,_,_,_,_,h,_,_=>by cases h
 | false :: r,[],_,_,_,_,h,_,_,_=>by cases h
 | true :: r,[],_,_,_,_,h,_,_,_=>by cases h
 | false :: r,_ :: _,[],_,_,_,_,h,_,_=>by cases h
 | true :: r,_ :: _,[],_,_,_,_,h,_,_=>by cases h
 | false :: r,v :: vs,u :: us,a,c,i,h1,h2,hb,q=>by
  cases v with
  | int p t=>cases u with
   | int p' t' =>
    have h1:(bK r vs).map (p :: ·)=some a:=h1;have h2:(bK r us).map (p' :: ·)=some c:=h2;cases e1:bK r vs with
    | none=>rw [e1] at h1; cases h1
    | some a' =>
     cases e2:bK r us with
     | none=>rw [e2] at h2; cases h2
     | some c' =>
      rw [e1] at h1; rw [e2] at h2;cases h1; cases h2;rw [bz] at q;refine PySem.W.kat_cons (wpAny_eqBool_int (PySem.W.kat_go (λ e=>PySem.W.kat_yes ?_) (λ e=>PySem.W.kat_no ?_)))
      ·rw [if_pos (by simpa using e)] at q;exact iH r vs us a' c' (i + 1) e1 e2 (λ z=>by simp at z) q
      ·rw [if_neg (by simpa using e)] at q;cases z:(bb && i == 0) with
       | true=>exact oneLt_int q
       | false=>exact PySem.W.kat_one _ _ (PyProof.Rows.lt_int q)
   | _=>cases h2
  | _=>cases h1
 | true :: r,v :: vs,u :: us,a,c,i,h1,h2,hb,q=>by
  cases v with
  | bool p=>cases u with
   | bool p' =>
    have h1:(bK r vs).map ((if p=true then 1 else 0) :: ·)=some a:=h1;have h2:(bK r us).map ((if p'=true then 1 else 0) :: ·)=some c:=h2;cases e1:bK r vs with
    | none=>rw [e1] at h1; cases h1
    | some a' =>
     cases e2:bK r us with
     | none=>rw [e2] at h2; cases h2
     | some c' =>
      rw [e1] at h1; rw [e2] at h2;cases h1; cases h2;rw [bz] at q;refine PySem.W.kat_cons (jf (PySem.W.kat_go (λ e=>PySem.W.kat_yes ?_) (λ e=>PySem.W.kat_no ?_)))
      ·have e:p=p':=by simpa using e
       rw [if_pos (by rw [e])] at q;exact iH r vs us a' c' (i + 1) e1 e2 (λ z=>by simp at z) q
      ·have e:p≠p':=by simpa using e
       rw [if_neg (by cases p <;> cases p' <;> simp_all)] at q;cases z:(bb && i == 0) with
       | true=>rcases hb z with z | z <;> cases z
       | false =>
        refine PySem.W.kat_one _ _ (PyProof.Rows.lt_bool ?_);show Q (decide (b2i p < b2i p')) s;rw [show decide (b2i p < b2i p')=decide ((if p=true then (1:Int) else 0) < (if p'=true then 1 else 0)) by cases p <;> cases p' <;> rfl];exact q
   | _=>cases h2
  | _=>cases h1
theorem mx {h:Heap} {sh:List Bool} (h0:sh.head? = some false) (k:∀b o,h.get? b=some o->s.heap.get? b=some o):bj prog w A s (tuples' true) (mw h sh):=by intro E x y a b Q ha hb q;obtain ⟨x',ox,xs,n,rfl,hx,dx,fx⟩:=lA ha;obtain ⟨y',oy,ys,m,rfl,hy,dy,fy⟩:=lA hb;have l1:=eJ fx;have l2:=eJ fy;refine PySem.W.kat_lt (k _ _ hx) dx (k _ _ hy) dy ?_;rw [show decide (xs.size < ys.size)=false from decide_eq_false (by rw [<- Array.length_toList,<- Array.length_toList]; omega)];exact iH sh _ _ a b 0 fx fy (λ _=>.inl h0) q
end
theorem hV:∀ {as:List Addr} {its:List ET},Vals (as.map V.ref) its->its=as.map Value.ref
 | [],_,r=>by cases r; rfl
 | a :: as,_,r=>by
  cases r with
  | cons r1 r2 =>
   have e:_=Value.ref a:=r1;subst e;rw [List.map_cons,hV r2]
theorem hX:∀as:List Addr,Vals (as.map V.ref) (as.map Value.ref)
 | []=>.nil
 | a :: as=>.cons rfl (hX as)
theorem oX {α β:Type} {f:α->β} (g:β->Option α) (hg:∀a,g (f a)=some a) {l:List β} {as:List α} (h:l.Perm (as.map f)):∃as':List α,l=as'.map f/\as'.Perm as:=by
 refine ⟨l.filterMap g,?_,?_⟩
 ·have all:∀x∈l,∃a,f a=x:=λ x hx=>by obtain ⟨a,_,e⟩:=List.mem_map.mp (h.mem_iff.mp hx);exact ⟨a,e⟩
  clear h
  induction l with
  | nil=>rfl
  | cons x r ih =>
   obtain ⟨a,rfl⟩:=all x B7;rw [List.filterMap_cons,hg a,List.map_cons,<- ih λ y hy=>all y (List.mem_cons_of_mem _ hy)]
 ·have:=h.filterMap g;rw [List.filterMap_map,show (g∘f)=some from funext hg,List.filterMap_some] at this;exact this
theorem fo {h:Heap} {sh:List Bool} {key:Addr->List Int} (h0:sh.head? = some false):∀ (as:List Addr),(∀a∈as,∃o us n,h.get? a=some o/\o.cls=.type "tuple" /\ o.data=.seq (List.toArray us) n/\bK sh us=some (key a))->∃fs,PySem.W.KatTups h (as.map Value.ref) fs/\fs.length=as.length/\∀v∈fs,∃i t,v=Value.int i t
 | [],_=>⟨[],trivial,Y,λ v hv=>by cases hv⟩
 | a :: as,H=>by
  obtain ⟨fs,h1,h2,h3⟩:=fo h0 as λ b hb=>H b (B4 _ hb);obtain ⟨o,us,n,e,c,d,f⟩:=H a B7;obtain ⟨r,hr⟩:∃r,sh=false :: r:=by
   cases sh with
   | nil=>cases h0
   | cons x r=>cases h0; exact ⟨r,Y⟩
  subst hr;cases us with
  | nil=>cases f
  | cons u us =>
   cases u with
   | int i t=>exact ⟨.int i t :: fs,PySem.W.KatTups.cons e c d (by simp) h1,by rw [List.length_cons,List.length_cons,h2],λ v hv=>(List.mem_cons.mp hv).elim (λ z=>⟨i,t,z⟩) (h3 v)⟩
   | _=>cases f
theorem qU {X:Cx} {i j k:Nat} {x y z:Str} {e:Expr} {te:TE} {p1 p2 p3 pos:Pos} (hN:X.N.Nodup) (hi:X.N[i]? = some x) (hj:X.N[j]? = some y) (hk:X.N[k]? = some z) (lx:X.env.scope.names.lookup x=some .local) (ly:X.env.scope.names.lookup y=some .local) (lz:X.env.scope.names.lookup z=some .local) (he:PE X e te)
  (hs:swapsWithSole [.Name x p1,.Name y p2,.Name z p3] e pos.line X.env=pure false:=by rfl) (hw:swappedStores [.Name x p1,.Name y p2,.Name z p3] e X.env=pure none:=by rfl) :
  PS X (.Assign [.Name x p1,.Name y p2,.Name z p3] e pos) (λ D σ H=>te σ H λ v H1=>D.nx (((σ.set i (some v)).set j (some v)).set k (some v)) H1):=by
 intro pins s σ H D I h;refine wpAny_Assign_stores (thn (he pins s σ H _ I h) λ v s1 ⟨u,H1,I1,r1,q1⟩=>?_) hs hw;show wpAny _ _ (do holding [v] (assign (.Name x p1) X.env v); holding [v] (assign (.Name y p2) X.env v); assign (.Name z p3) X.env v) _ _ _;refine A0 (wpAny_holding (wpAny_assign_Name (cA I1 hN hi (.inl lx) r1 (λ s2 I2=>?_) (.inr lx))));refine A0 (wpAny_holding (wpAny_assign_Name (cA I2 hN hj (.inl ly) r1 (λ s3 I3=>?_) (.inr ly))));exact wpAny_assign_Name (cA I3 hN hk (.inl lz) r1 (λ s4 I4=>⟨_,H1,I4,q1⟩) (.inr lz))
theorem b60 {a:Int} (h0:0<=a) (h:a<=10 ^ 60):a.natAbs < 2 ^ 4096:=by
 have e:(10:Int) ^ 60 < 2 ^ 200:=∅
 have e2:(2:Nat) ^ 200<=2 ^ 4096:=Nat.pow_le_pow_right ∅ ∅;have e3:((2:Nat) ^ 200:Int)=2 ^ 200:=∅
 refine C1 ?_ e2;have:(a.natAbs:Int) < ((2 ^ 200:Nat):Int):=by rw [Int.natAbs_of_nonneg h0]; omega
 exact Int.ofNat_lt.mp this
section
variable {X:Cx}
theorem oY {lo:Int} {n:Nat} {σ:St} {cap:List Nat} {k:Nat} {g:TG} {tt:TT} {te:TE} {Q:List V->Hp->Prop} {H:Hp} (Pv:Nat->List V->Hp->Prop) (h0:Pv 0 [] H)
  (ht:∀i ys H',i < n->Pv i ys H'->ys.length < sizeLine/\g (.int (lo + i)) (bI σ cap k) H' λ σ2 H2=>leS (bI σ cap k) σ2/\tt σ2 H2 λ ok H3=>if ok=true then te σ2 H3 (λ v H4=>Nx n Pv i (ys ++ [v]) H4) else Nx n Pv i ys H3)
  (hd:∀ys H',Pv n ys H'->ys.length<=sizeLine/\Q ys H'):∃W,(∃m,W 0 m [] H)/\hG σ cap k (Itr lo n) g tt te Q W:=by
 refine ⟨λ i m ys H'=>m=n - i/\i<=n/\Pv i ys H',⟨_,Y,EH _,h0⟩,?_⟩;rintro i m ys H' ⟨rfl,hi,p⟩
 by_cases hin:i < n
 ·obtain ⟨e,hg⟩:=ht i ys H' hin p;refine .inr ⟨hin,e,λ x H2 yl=>?_⟩;obtain ⟨e1,e2⟩:=yl;subst e1 e2;exact hg
 ·have e:i=n:=⋯
  subst e;obtain ⟨a1,a2⟩:=hd ys H' p;exact .inl ⟨B3 _,a1,a2⟩
end
end L2
namespace PySem
theorem Paired.getL {α β:Type} {F:α->β->Prop}:∀ {l₁:List α} {l₂:List β} {i:Nat} {y:β},Paired F l₁ l₂->l₂[i]? = some y->∃x,l₁[i]? = some x/\F x y
 | _,_,_,_,.nil,e=>by simp at e
 | _,_,0,_,.cons h _,e=>by simp at e; subst e; exact ⟨_,Y,h⟩
 | _,_,i + 1,y,.cons _ t,e=>by obtain ⟨x,h1,h2⟩:=Paired.getL (i:=i) t (by simpa using e);exact ⟨x,by simpa using h1,h2⟩
end PySem
namespace PyProof.Rows
set_option autoImplicit false
open PySem
def qV:Bool->Keyed->Array Keyed->Nat->Nat->Nat->StateT SortSt Sem (Option Nat):=sortPriv% PySem.Builtin.gallop
def oZ:Array Keyed->Array Keyed->StateT SortSt Sem (Array Keyed):=sortPriv% PySem.Builtin.mergeLo
def pd:Array Keyed->Array Keyed->StateT SortSt Sem (Array Keyed):=sortPriv% PySem.Builtin.mergeHi
def KdA (κ:KeyKind) (a:Array Keyed):Prop:=∀ (i:Nat) (p:Keyed),a[i]? = some p->∃k,κ.keyOf p.1=some k
section
variable {prog:EQ} {w:ES} {A:Around} {E:ET->EO->Prop} {s:EO} {κ:KeyKind} {κ0:SortKind}
theorem aV {st:SortSt} {arr:Array Keyed} {i:Nat} {Q:Keyed->SortSt->Prop} (hi:i < arr.size) (h:∀p,arr[i]? = some p->Q p st):wpS (model prog w) A E s (elem' arr i) Q st:=by rw [elem'_eq,getElem?_pos arr i hi];exact A4 (h _ (getElem?_pos arr i hi))
theorem ax {α:Type} {c:Prop} [Decidable c] {x y:StateT SortSt Sem α} {Q:α->SortSt->Prop} {st:SortSt} (h1:c->wpS (model prog w) A E s x Q st) (h2:¬ c->wpS (model prog w) A E s y Q st):wpS (model prog w) A E s (if c then x else y) Q st:=by
 split
 ·exact h1 ‹_›
 ·exact h2 ‹_›
def SameG (st st':SortSt):Prop:=kindOf st'=kindOf st/\arrOf st'=arrOf st/\pendingOf st'=pendingOf st/\failedOf st'=failedOf st
theorem SameG.rfl' {st:SortSt}:SameG st st:=⟨Y,Y,Y,Y⟩
theorem cF (a:Array Keyed) (i:Nat):(a.extract i a.size).toList=a.toList.drop i:=by rw [Array.toList_extract,List.extract_eq_take_drop];exact List.take_of_length_le (by simp)
theorem fI (a:Array Keyed) (i k:Nat):(a.extract i (i + k)).toList ++ a.toList.drop (i + k)=a.toList.drop i:=by rw [Array.toList_extract,List.extract_eq_take_drop,show i + k - i=k by omega,<- List.drop_drop];exact List.take_append_drop k _
theorem dH {a:Array Keyed} {i:Nat} {p:Keyed} (e:a[i]? = some p):a.toList.drop i=p :: a.toList.drop (i + 1):=by rw [<- Array.getElem?_toList] at e;obtain ⟨h,rfl⟩:=A6.mp e;exact List.drop_eq_getElem_cons h
def MLo (a b out:Array Keyed) (ia ib:Nat):Prop:=(out.toList ++ a.toList.drop ia ++ b.toList.drop ib).Perm (a.toList ++ b.toList)
theorem MLo.done {a b out:Array Keyed} {ia ib:Nat} (h:MLo a b out ia ib):(out ++ a.extract ia a.size ++ b.extract ib b.size).Perm (a ++ b):=by rw [Array.perm_iff_toList_perm];simp only [Array.toList_append,cF];exact h
theorem MLo.last {a b out:Array Keyed} {ia ib:Nat} (h:MLo a b out ia ib):(out ++ b.extract ib b.size ++ a.extract ia a.size).Perm (a ++ b):=by rw [Array.perm_iff_toList_perm];simp only [Array.toList_append,cF];refine C9 ?_ h;rw [List.append_assoc,List.append_assoc];exact List.Perm.append_left _ List.perm_append_comm
theorem MLo.pb {a b out:Array Keyed} {ia ib:Nat} {p:Keyed} (h:MLo a b out ia ib) (e:b[ib]? = some p):MLo a b (out.push p) ia (ib + 1):=by unfold MLo at h ⊢;rw [dH e] at h;refine C9 ?_ h;rw [Array.toList_push];simp only [List.append_assoc];exact List.Perm.append_left _ (List.perm_middle (a:=p) (l₁:=a.toList.drop ia) (l₂:=b.toList.drop (ib + 1))).symm
theorem MLo.pa {a b out:Array Keyed} {ia ib:Nat} {p:Keyed} (h:MLo a b out ia ib) (e:a[ia]? = some p):MLo a b (out.push p) (ia + 1) ib:=by unfold MLo at h ⊢;rw [dH e] at h;rw [Array.toList_push];simpa only [List.append_assoc,List.cons_append,List.nil_append] using h
theorem MLo.ca {a b out:Array Keyed} {ia ib:Nat} (h:MLo a b out ia ib) (k:Nat):MLo a b (out ++ a.extract ia (ia + k)) (ia + k) ib:=by unfold MLo at h ⊢;rw [<- fI a ia k] at h;rw [Array.toList_append];simpa only [List.append_assoc] using h
theorem MLo.cb {a b out:Array Keyed} {ia ib:Nat} (h:MLo a b out ia ib) (k:Nat):MLo a b (out ++ b.extract ib (ib + k)) ia (ib + k):=by unfold MLo at h ⊢;rw [<- fI b ib k] at h;refine C9 ?_ h;rw [Array.toList_append];simp only [List.append_assoc];refine List.Perm.append_left _ ?_;rw [<- List.append_assoc,<- List.append_assoc];exact List.Perm.append_right _ List.perm_append_comm
theorem lB {α:Type} {m:StateT SortSt Sem α} {Q:α->SortSt->Prop} {st:SortSt} (h:∀Q':α->SortSt->Prop,(∀a st',Q a st'->Q' a st')->wpS (model prog w) A E s m Q' st):wpS (model prog w) A E s m Q st:=h Q λ _ _ z=>z
theorem lC {α:Type} {c:Prop} [Decidable c] {jp:Unit->Nat->StateT SortSt Sem α} {x y:Nat} {Q:α->SortSt->Prop} {st:SortSt} (h:∀g,wpS (model prog w) A E s (jp () g) Q st):wpS (model prog w) A E s (if c then jp () x else jp () y) Q st:=ax (λ _=>h _) (λ _=>h _)
def sQ:Nat->StateT SortSt Sem Unit:=sortPriv% PySem.Builtin.setMinGallop
theorem jg {g:Nat} {Q:Unit->SortSt->Prop} {st:SortSt} (h:∀st',SameG st st'->Q () st'):wpS (model prog w) A E s (sQ g) Q st:=wpS_modify (h _ ⟨rfl,rfl,rfl,rfl⟩)
theorem SameG.trans {st st' st'':SortSt} (a:SameG st st') (b:SameG st' st''):SameG st st'':=⟨b.1.trans a.1,b.2.1.trans a.2.1,b.2.2.1.trans a.2.2.1,b.2.2.2.trans a.2.2.2⟩
theorem fJ {a:Array Keyed} {i:Nat} {p:Keyed} (e:a[i]? = some p):a.toList.take (i + 1)=a.toList.take i ++ [p]:=by rw [<- Array.getElem?_toList] at e;obtain ⟨h,rfl⟩:=A6.mp e;rw [List.take_succ,List.getElem?_eq_getElem h]; rfl
theorem cG (a:Array Keyed) (i:Nat):(a.extract 0 i).toList=a.toList.take i:=by rw [Array.toList_extract,List.extract_eq_take_drop]; simp
theorem cH (a:Array Keyed) {i n:Nat} (h:i<=n):a.toList.take i ++ (a.extract i n).toList=a.toList.take n:=by
 obtain ⟨k,rfl⟩:∃k,n=i + k:=⟨n - i,⋯⟩
 rw [Array.toList_extract,List.extract_eq_take_drop,show i + k - i=k by omega];exact List.take_add.symm
def MHi (a b out:Array Keyed) (na nb:Nat):Prop:=(a.toList.take na ++ b.toList.take nb ++ out.toList.reverse).Perm (a.toList ++ b.toList)
theorem MHi.done {a b out:Array Keyed} {na nb:Nat} (h:MHi a b out na nb):(a.extract 0 na ++ b.extract 0 nb ++ out.reverse).Perm (a ++ b):=by rw [Array.perm_iff_toList_perm];simp only [Array.toList_append,cG,Array.toList_reverse];exact h
theorem MHi.first {a b out:Array Keyed} {na nb:Nat} (h:MHi a b out na nb):(b.extract 0 nb ++ a.extract 0 na ++ out.reverse).Perm (a ++ b):=by rw [Array.perm_iff_toList_perm];simp only [Array.toList_append,cG,Array.toList_reverse];exact C9 (List.Perm.append_right _ List.perm_append_comm) h
theorem MHi.cb {a b out:Array Keyed} {na nb i:Nat} (h:MHi a b out na nb) (hi:i<=nb):MHi a b (out ++ (b.extract i nb).reverse) na i:=by unfold MHi at h ⊢;rw [<- cH b hi] at h;rw [Array.toList_append,Array.toList_reverse,List.reverse_append,List.reverse_reverse];simpa only [List.append_assoc] using h
theorem MHi.ca {a b out:Array Keyed} {na nb i:Nat} (h:MHi a b out na nb) (hi:i<=na):MHi a b (out ++ (a.extract i na).reverse) i nb:=by unfold MHi at h ⊢;rw [<- cH a hi] at h;refine C9 ?_ h;rw [Array.toList_append,Array.toList_reverse,List.reverse_append,List.reverse_reverse];simp only [List.append_assoc];refine List.Perm.append_left _ ?_;rw [<- List.append_assoc,<- List.append_assoc];exact List.Perm.append_right _ List.perm_append_comm
theorem MHi.pb {a b out:Array Keyed} {na nb:Nat} {p:Keyed} (h:MHi a b out na nb) (h1:1<=nb) (e:b[nb - 1]? = some p):MHi a b (out.push p) na (nb - 1):=by unfold MHi at h ⊢;rw [<- show nb - 1 + 1=nb by omega,fJ e] at h;rw [Array.toList_push,List.reverse_append];simpa only [List.append_assoc,List.reverse_cons,List.reverse_nil,List.nil_append] using h
theorem MHi.pa {a b out:Array Keyed} {na nb:Nat} {p:Keyed} (h:MHi a b out na nb) (h1:1<=na) (e:a[na - 1]? = some p):MHi a b (out.push p) (na - 1) nb:=by unfold MHi at h ⊢;rw [<- show na - 1 + 1=na by omega,fJ e] at h;refine C9 ?_ h;rw [Array.toList_push,List.reverse_append];simp only [List.append_assoc,List.reverse_cons,List.reverse_nil,List.nil_append];refine List.Perm.append_left _ ?_;rw [<- List.append_assoc,<- List.append_assoc];exact List.Perm.append_right _ List.perm_append_comm
end
end PyProof.Rows
namespace PyProof.Rows
set_option autoImplicit false
open PySem
def Tile:List (Nat×Nat×Nat)->Nat->Nat->Prop
 | [],lo,hi=>lo=hi
 | x :: l,lo,hi=>x.1=lo/\1<=x.2.1/\Tile l (lo + x.2.1) hi
theorem Tile.le:∀ {l:List (Nat×Nat×Nat)} {lo hi:Nat},Tile l lo hi->lo<=hi
 | [],_,_,h=>Nat.le_of_eq h
 | x :: l,lo,hi,h=>C5 (Nat.le_add_right _ _) (Tile.le h.2.2)
theorem Tile.two:∀ {l:List (Nat×Nat×Nat)} {i lo hi:Nat} {x y:Nat×Nat×Nat},Tile l lo hi->l[i]? = some x->l[i + 1]? = some y->∀q:Nat,
  y.1=x.1 + x.2.1/\1<=x.2.1/\1<=y.2.1/\y.1 + y.2.1<=hi/\Tile ((l.set i (x.1,x.2.1 + y.2.1,q)).eraseIdx (i + 1)) lo hi
 | x' :: y' :: l,0,lo,hi,x,y,h,e1,e2,q=>by cases e1; cases e2;obtain ⟨h1,h2,h3,h4,h5⟩:=h;refine ⟨⋯,h2,h4,by have:=h5.le; omega,h1,by show 1<=x'.2.1 + y'.2.1; omega,?_⟩;show Tile l (lo + (x'.2.1 + y'.2.1)) hi;rw [<- Nat.add_assoc]; exact h5
 | [x'],0,_,_,_,_,_,_,e2,_=>by cases e2
 | [],_,_,_,_,_,_,e1,_,_=>by simp at e1
 | z :: l,i + 1,lo,hi,x,y,h,e1,e2,q=>by obtain ⟨h1,h2,h3⟩:=h;obtain ⟨a1,a2,a3,a4,a5⟩:=Tile.two h3 (i:=i) (x:=x) (y:=y) (by simpa using e1) (by simpa using e2) q;exact ⟨a1,a2,a3,a4,h1,h2,a5⟩
theorem Tile.push:∀ {l:List (Nat×Nat×Nat)} {lo hi n q:Nat},Tile l lo hi->1<=n->Tile (l ++ [(hi,n,q)]) lo (hi + n)
 | [],_,_,_,_,h,hn=>by cases h; exact ⟨Y,hn,Y⟩
 | x :: l,_,_,_,_,h,hn=>⟨h.1,h.2.1,Tile.push h.2.2 hn⟩
theorem Tile.upd {f:Nat×Nat×Nat->Nat×Nat×Nat} (hf:∀x,(f x).1=x.1/\(f x).2.1=x.2.1):∀ {l:List (Nat×Nat×Nat)} {lo hi:Nat} (i:Nat),Tile l lo hi->Tile (l.modify i f) lo hi
 | [],_,_,i,h=>by simpa using h
 | x :: l,_,_,0,h=>by show Tile (f x :: l) _ _;exact ⟨(hf x).1.trans h.1,by rw [(hf x).2]; exact h.2.1,by rw [(hf x).2]; exact h.2.2⟩
 | x :: l,_,_,i + 1,h=>by show Tile (x :: l.modify i f) _ _;exact ⟨h.1,h.2.1,Tile.upd hf i h.2.2⟩
theorem hZ (sa:Nat):∀ (m:List Keyed) (j:Nat) (a:Array Keyed),sa + j + m.length<=a.size ->
  ((m.zipIdx j).foldl (λ a (x:Keyed×Nat)=>match x with | (p,j)=>a.setIfInBounds (sa + j) p) a).toList=a.toList.take (sa + j) ++ m ++ a.toList.drop (sa + j + m.length)
 | [],j,a,h=>by simp
 | p :: m,j,a,h=>by
  rw [List.zipIdx_cons,List.foldl_cons];have hl:(p :: m).length=m.length + 1:=rfl;rw [hl] at h ⊢;rw [hZ sa m (j + 1) _ (by rw [Array.size_setIfInBounds]; omega)];rw [Array.toList_setIfInBounds];have hj:sa + j < a.toList.length:=by simp; omega
  rw [show sa + (j + 1)=sa + j + 1 by omega,List.take_succ,List.getElem?_set_self hj,List.take_set_of_le (Nat.le_refl _),List.drop_set_of_lt ⋯,show sa + j + 1 + m.length=sa + j + (m.length + 1) by omega];simp
theorem qW {M:Model} {A:Around} {E:ET->EO->Prop} {s:EO} {σ:Type} {st st2:σ} {Q:PUnit->σ->Prop} (h:Q ⟨⟩ st2):wpS M A E s (set st2:StateT σ Sem PUnit) Q st:=by unfold wpS; rw [StateT.run_set]; exact wpAny_pure ⟨rfl,h⟩
structure SP (κ0:SortKind) (a₀:Array Keyed) (st:SortSt):Prop where
 perm:(arrOf st).Perm a₀
 kind:kindOf st=κ0
 failed:failedOf st=none
theorem SP.size {κ0:SortKind} {a₀:Array Keyed} {st:SortSt} (h:SP κ0 a₀ st):(arrOf st).size=a₀.size:=h.perm.size_eq
theorem SP.kd {κ0:SortKind} {κ:KeyKind} {a₀:Array Keyed} {st:SortSt} (h:SP κ0 a₀ st) (h0:KeysOf κ a₀):KdA κ (arrOf st):=λ i p e=>by
 have:p∈(arrOf st).toList:=by rw [<- Array.getElem?_toList] at e; exact B5 e
 exact h0 _ ((Array.perm_iff_toList_perm.mp h.perm).mem_iff.mp this)
theorem KdA.ext {κ:KeyKind} {a:Array Keyed} (h:KdA κ a) (i j:Nat):KdA κ (a.extract i j):=λ k p e=>by
 rw [Array.getElem?_extract] at e
 split at e
 ·exact h _ _ e
 ·cases e
section
variable {prog:EQ} {w:ES} {A:Around} {E:ET->EO->Prop} {s:EO} {κ:KeyKind} {κ0:SortKind} {a₀:Array Keyed}
def SPp (κ0:SortKind) (a₀:Array Keyed) (p:Array (Nat×Nat×Nat)) (st:SortSt):Prop:=SP κ0 a₀ st/\pendingOf st=p
end
end PyProof.Rows
namespace L2
open PySem PySem.Spec PyProof.Rows
theorem jh {X:Cx}:OpR X (compareOp .IsNot) (λ x y H Q=>y=.bl true/\∃b,x=.bl b/\Q (.bl (!b)) H):=by
 intro pins s σ H x y v u Q I rx ry h;obtain ⟨rfl,b,rfl,q⟩:=h;cases ry;cases rx;unfold compareOp isSame;cases b
 ·exact A0 (A1 (A1 (aH I q rfl)))
 ·exact A0 (A1 (A1 (aH I q rfl)))
end L2
namespace PyProof.Rows
set_option autoImplicit false
open PySem
def ky (κ:KeyKind) (p:Keyed):κ.α:=(κ.keyOf p.1).getD κ.dflt
def kl (κ:KeyKind) (x y:Keyed):Prop:=κ.kle (ky κ x) (ky κ y)
def Srt (κ:KeyKind) (l:List Keyed):Prop:=l.Pairwise (kl κ)
theorem kl.trans {κ:KeyKind} {x y z:Keyed} (a:kl κ x y) (b:kl κ y z):kl κ x z:=KeyOrd.kle_trans a b
theorem kl.rfl' {κ:KeyKind} {x:Keyed}:kl κ x x:=KeyOrd.kle_refl _
def bey (κ:KeyKind) (left:Bool) (key x:Keyed):Bool:=if left=true then κ.blt (ky κ x) (ky κ key) else !(κ.blt (ky κ key) (ky κ x))
theorem Srt.drop {κ:KeyKind} {a:Array Keyed} (h:Srt κ a.toList) {i:Nat} {x y:Keyed} (hx:a[i]? = some x) (hy:y∈a.toList.drop i):kl κ x y:=by
 have e:=dH hx;have hs:Srt κ (a.toList.drop i):=h.sublist (List.drop_sublist _ _);rw [e] at hs hy;rcases List.mem_cons.mp hy with rfl | hy
 ·exact kl.rfl'
 ·exact (List.pairwise_cons.mp hs).1 y hy
theorem Srt.at {κ:KeyKind} {a:Array Keyed} (h:Srt κ a.toList) {i j:Nat} {x y:Keyed} (ij:i<=j) (hx:a[i]? = some x) (hy:a[j]? = some y):kl κ x y:=by
 refine h.drop hx ?_;rw [<- Array.getElem?_toList] at hy;have:(a.toList.drop i)[j - i]? = some y:=by rw [List.getElem?_drop,show i + (j - i)=j by omega]; exact hy
 exact B5 this
structure MS (κ:KeyKind) (a b out:Array Keyed) (ia ib:Nat):Prop where
 pm:MLo a b out ia ib
 sa:Srt κ (out.toList ++ a.toList.drop ia)
 sb:Srt κ (out.toList ++ b.toList.drop ib)
section
variable {κ:KeyKind} {a b out:Array Keyed} {ia ib:Nat}
theorem MS.pb {p:Keyed} (h:MS κ a b out ia ib) (e:b[ib]? = some p) (c:∀y∈a.toList.drop ia,kl κ p y):MS κ a b (out.push p) ia (ib + 1):=by
 have d:=dH e;have sb:=h.sb;rw [d] at sb;obtain ⟨p1,p2,p3⟩:=List.pairwise_append.mp h.sa;refine ⟨h.pm.pb e,?_,?_⟩
 ·rw [Array.toList_push,List.append_assoc];refine List.pairwise_append.mpr ⟨p1,List.pairwise_cons.mpr ⟨c,p2⟩,λ x hx y hy=>?_⟩;rcases List.mem_cons.mp hy with rfl | hy
  ·exact (List.pairwise_append.mp sb).2.2 x hx _ B7
  ·exact p3 x hx y hy
 ·rw [Array.toList_push,List.append_assoc]; exact sb
theorem MS.pa {p:Keyed} (h:MS κ a b out ia ib) (e:a[ia]? = some p) (c:∀y∈b.toList.drop ib,kl κ p y):MS κ a b (out.push p) (ia + 1) ib:=by
 have d:=dH e;have sa:=h.sa;rw [d] at sa;obtain ⟨p1,p2,p3⟩:=List.pairwise_append.mp h.sb;refine ⟨h.pm.pa e,?_,?_⟩
 ·rw [Array.toList_push,List.append_assoc]; exact sa
 ·rw [Array.toList_push,List.append_assoc];refine List.pairwise_append.mpr ⟨p1,List.pairwise_cons.mpr ⟨c,p2⟩,λ x hx y hy=>?_⟩;rcases List.mem_cons.mp hy with rfl | hy
  ·exact (List.pairwise_append.mp sa).2.2 x hx _ B7
  ·exact p3 x hx y hy
theorem MS.ca (h:MS κ a b out ia ib) (k:Nat) (c:∀x∈(a.extract ia (ia + k)).toList,∀y∈b.toList.drop ib,kl κ x y):MS κ a b (out ++ a.extract ia (ia + k)) (ia + k) ib:=by
 have sa:=h.sa;rw [<- fI a ia k,<- List.append_assoc] at sa;obtain ⟨p1,p2,p3⟩:=List.pairwise_append.mp h.sb;refine ⟨h.pm.ca k,by rw [Array.toList_append]; exact sa,?_⟩;rw [Array.toList_append];refine List.pairwise_append.mpr ⟨(List.pairwise_append.mp sa).1,p2,λ x hx y hy=>?_⟩;rcases C2.mp hx with hx | hx
 ·exact p3 x hx y hy
 ·exact c x hx y hy
theorem MS.cb (h:MS κ a b out ia ib) (k:Nat) (c:∀x∈(b.extract ib (ib + k)).toList,∀y∈a.toList.drop ia,kl κ x y):MS κ a b (out ++ b.extract ib (ib + k)) ia (ib + k):=by
 have sb:=h.sb;rw [<- fI b ib k,<- List.append_assoc] at sb;obtain ⟨p1,p2,p3⟩:=List.pairwise_append.mp h.sa;refine ⟨h.pm.cb k,?_,by rw [Array.toList_append]; exact sb⟩;rw [Array.toList_append];refine List.pairwise_append.mpr ⟨(List.pairwise_append.mp sb).1,p2,λ x hx y hy=>?_⟩;rcases C2.mp hx with hx | hx
 ·exact p3 x hx y hy
 ·exact c x hx y hy
theorem MS.done (h:MS κ a b out ia ib) (e:b.size<=ib\/a.size<=ia):(out ++ a.extract ia a.size ++ b.extract ib b.size).Perm (a ++ b)/\Srt κ (out ++ a.extract ia a.size ++ b.extract ib b.size).toList:=by
 refine ⟨h.pm.done,?_⟩;rw [Array.toList_append,Array.toList_append,cF,cF];rcases e with e | e
 ·rw [List.drop_of_length_le (l:=b.toList) (by simpa using e),List.append_nil]; exact h.sa
 ·rw [List.drop_of_length_le (l:=a.toList) (by simpa using e),List.append_nil]; exact h.sb
theorem MS.last (h:MS κ a b out ia ib) (e:ia + 1=a.size) (hL:∀p,ia + 1=a.size->a[ia]? = some p->∀y∈b.toList,kl κ y p):(out ++ b.extract ib b.size ++ a.extract ia a.size).Perm (a ++ b)/\Srt κ (out ++ b.extract ib b.size ++ a.extract ia a.size).toList:=by
 refine ⟨h.pm.last,?_⟩;rw [Array.toList_append,Array.toList_append,cF,cF];have hx:a[ia]? = some a[ia]:=getElem?_pos _ _ ⋯;have d:=dH hx;rw [List.drop_of_length_le (l:=a.toList) (i:=ia + 1) (by simp; omega)] at d;have sa:=h.sa;rw [d] at sa ⊢;refine List.pairwise_append.mpr ⟨h.sb,by simp,λ x hx' y hy=>?_⟩;rw [List.mem_singleton.mp hy];rcases C2.mp hx' with hx' | hx'
 ·exact (List.pairwise_append.mp sa).2.2 x hx' _ B7
 ·exact hL _ e hx x (List.mem_of_mem_drop hx')
def bdv (κ:KeyKind) (left:Bool) (key:Keyed) (arr:Array Keyed) (base i:Nat):Bool:=match arr[base + i]? with
 | some p=>bey κ left key p
 | none=>false
theorem ic {left:Bool} {key:Keyed} {arr:Array Keyed} {base n:Nat} (hn:base + n<=arr.size):∀i p,i < n->arr[base + i]? = some p->bey κ left key p=bdv κ left key arr base i:=λ i p _ hp=>by unfold bdv; rw [hp]
theorem dI {left:Bool} {key:Keyed} {arr:Array Keyed} {base n:Nat} (hn:base + n<=arr.size) (h:∀i j x y,base<=i->i<=j->j < base + n->arr[i]? = some x->arr[j]? = some y->kl κ x y):∀i j,i<=j->j < n->bdv κ left key arr base j=true->bdv κ left key arr base i=true:=by
 intro i j ij jn e;have hx:arr[base + i]? = some arr[base + i]:=getElem?_pos _ _ ⋯;have hy:arr[base + j]? = some arr[base + j]:=getElem?_pos _ _ ⋯;have le:=h _ _ _ _ ⋯ ⋯ ⋯ hx hy;unfold bdv at e ⊢;rw [hx];rw [hy] at e;dsimp only at e ⊢;unfold bey at e ⊢;cases left with
 | true=>exact KeyOrd.klt_of_kle_of_klt le e
 | false =>
  have e:κ.kle (ky κ arr[base + j]) (ky κ key):=by simpa [KeyOrd.kle] using e
  have:=KeyOrd.kle_trans le e;simpa [KeyOrd.kle] using this
theorem rW {x:Keyed} {arr:Array Keyed} {base k:Nat} (hn:base + k<=arr.size) (hx:x∈(arr.extract base (base + k)).toList):∃i,i < k/\arr[base + i]? = some x:=by
 obtain ⟨i,hi⟩:=List.getElem?_of_mem hx;rw [Array.getElem?_toList,Array.getElem?_extract] at hi
 split at hi
 ·rename_i c
  exact ⟨i,⋯,hi⟩
 ·cases hi
theorem dJ {left:Bool} {key x:Keyed} {arr:Array Keyed} {base i:Nat} (h:bdv κ left key arr base i=true) (e:arr[base + i]? = some x):kl κ x key:=by
 unfold bdv at h;rw [e] at h;dsimp only [bey] at h;cases left with
 | true=>exact KeyOrd.kle_of_klt h
 | false=>simpa [kl,KeyOrd.kle] using h
theorem cI {left:Bool} {key x:Keyed} {arr:Array Keyed} {base i:Nat} (h:bdv κ left key arr base i=false) (e:arr[base + i]? = some x):kl κ key x:=by
 unfold bdv at h;rw [e] at h;dsimp only [bey] at h;cases left with
 | true=>exact h
 | false=>exact KeyOrd.kle_of_klt (by simpa [KeyOrd.klt] using h)
theorem rX {x:Keyed} {arr:Array Keyed} {m:Nat} (hx:x∈arr.toList.drop m):∃i,m<=i/\i < arr.size/\arr[i]? = some x:=by obtain ⟨i,hi⟩:=List.getElem?_of_mem hx;rw [List.getElem?_drop,Array.getElem?_toList] at hi;exact ⟨m + i,⋯,(Array.getElem?_eq_some_iff.mp hi).1,hi⟩
end
theorem Srt.take {κ:KeyKind} {a:Array Keyed} (h:Srt κ a.toList) {i:Nat} {x y:Keyed} (h1:1<=i) (hy:a[i - 1]? = some y) (hx:x∈a.toList.take i):kl κ x y:=by
 obtain ⟨j,hj⟩:=List.getElem?_of_mem hx;rw [List.getElem?_take] at hj
 split at hj
 ·rename_i c
  rw [Array.getElem?_toList] at hj;exact h.at ⋯ hj hy
 ·cases hj
theorem pf {x:Keyed} {arr:Array Keyed} {m:Nat} (hx:x∈arr.toList.take m):∃i,i < m/\arr[i]? = some x:=by
 obtain ⟨j,hj⟩:=List.getElem?_of_mem hx;rw [List.getElem?_take] at hj
 split at hj
 ·rename_i c
  rw [Array.getElem?_toList] at hj;exact ⟨j,c,hj⟩
 ·cases hj
theorem ig {x:Keyed} {arr:Array Keyed} {m n:Nat} (hx:x∈(arr.extract m n).toList):∃i,m<=i/\i < n/\arr[i]? = some x:=by
 obtain ⟨i,hi⟩:=List.getElem?_of_mem hx;rw [Array.getElem?_toList,Array.getElem?_extract] at hi
 split at hi
 ·rename_i c
  exact ⟨m + i,⋯,⋯,hi⟩
 ·cases hi
structure MH (κ:KeyKind) (a b out:Array Keyed) (na nb:Nat):Prop where
 pm:MHi a b out na nb
 sa:Srt κ (a.toList.take na ++ out.toList.reverse)
 sb:Srt κ (b.toList.take nb ++ out.toList.reverse)
section
variable {κ:KeyKind} {a b out:Array Keyed} {na nb:Nat}
theorem MH.pb {p:Keyed} (h:MH κ a b out na nb) (h1:1<=nb) (e:b[nb - 1]? = some p) (c:∀y∈a.toList.take na,kl κ y p):MH κ a b (out.push p) na (nb - 1):=by
 have d:=fJ e;rw [show nb - 1 + 1=nb by omega] at d;have sb:=h.sb;rw [d,List.append_assoc] at sb;obtain ⟨p1,p2,p3⟩:=List.pairwise_append.mp h.sa;have r:(out.push p).toList.reverse=[p] ++ out.toList.reverse:=by simp
 refine ⟨h.pm.pb h1 e,?_,by rw [r]; exact sb⟩;rw [r];refine List.pairwise_append.mpr ⟨p1,(List.pairwise_append.mp sb).2.1,λ x hx y hy=>?_⟩;rcases C2.mp hy with hy | hy
 ·rw [List.mem_singleton.mp hy]; exact c x hx
 ·exact p3 x hx y hy
theorem MH.pa {p:Keyed} (h:MH κ a b out na nb) (h1:1<=na) (e:a[na - 1]? = some p) (c:∀y∈b.toList.take nb,kl κ y p):MH κ a b (out.push p) (na - 1) nb:=by
 have d:=fJ e;rw [show na - 1 + 1=na by omega] at d;have sa:=h.sa;rw [d,List.append_assoc] at sa;obtain ⟨p1,p2,p3⟩:=List.pairwise_append.mp h.sb;have r:(out.push p).toList.reverse=[p] ++ out.toList.reverse:=by simp
 refine ⟨h.pm.pa h1 e,by rw [r]; exact sa,?_⟩;rw [r];refine List.pairwise_append.mpr ⟨p1,(List.pairwise_append.mp sa).2.1,λ x hx y hy=>?_⟩;rcases C2.mp hy with hy | hy
 ·rw [List.mem_singleton.mp hy]; exact c x hx
 ·exact p3 x hx y hy
theorem MH.ca {i:Nat} (h:MH κ a b out na nb) (hi:i<=na) (c:∀x∈b.toList.take nb,∀y∈(a.extract i na).toList,kl κ x y):MH κ a b (out ++ (a.extract i na).reverse) i nb:=by
 have r:(out ++ (a.extract i na).reverse).toList.reverse=(a.extract i na).toList ++ out.toList.reverse:=by simp
 have sa:=h.sa;rw [<- cH a hi,List.append_assoc] at sa;obtain ⟨p1,p2,p3⟩:=List.pairwise_append.mp h.sb;refine ⟨h.pm.ca hi,by rw [r]; exact sa,?_⟩;rw [r];refine List.pairwise_append.mpr ⟨p1,(List.pairwise_append.mp sa).2.1,λ x hx y hy=>?_⟩;rcases C2.mp hy with hy | hy
 ·exact c x hx y hy
 ·exact p3 x hx y hy
theorem MH.cb {i:Nat} (h:MH κ a b out na nb) (hi:i<=nb) (c:∀x∈a.toList.take na,∀y∈(b.extract i nb).toList,kl κ x y):MH κ a b (out ++ (b.extract i nb).reverse) na i:=by
 have r:(out ++ (b.extract i nb).reverse).toList.reverse=(b.extract i nb).toList ++ out.toList.reverse:=by simp
 have sb:=h.sb;rw [<- cH b hi,List.append_assoc] at sb;obtain ⟨p1,p2,p3⟩:=List.pairwise_append.mp h.sa;refine ⟨h.pm.cb hi,?_,by rw [r]; exact sb⟩;rw [r];refine List.pairwise_append.mpr ⟨p1,(List.pairwise_append.mp sb).2.1,λ x hx y hy=>?_⟩;rcases C2.mp hy with hy | hy
 ·exact c x hx y hy
 ·exact p3 x hx y hy
theorem MH.done (h:MH κ a b out na nb) (e:na=0\/nb=0):(a.extract 0 na ++ b.extract 0 nb ++ out.reverse).Perm (a ++ b)/\Srt κ (a.extract 0 na ++ b.extract 0 nb ++ out.reverse).toList:=by
 refine ⟨h.pm.done,?_⟩;rw [Array.toList_append,Array.toList_append,cG,cG,Array.toList_reverse];rcases e with e | e
 ·subst e; simpa using h.sb
 ·subst e; simpa using h.sa
theorem MH.first (h:MH κ a b out na nb) (e:nb=1) (hF:∀p,b[0]? = some p->∀y∈a.toList,kl κ p y):(b.extract 0 nb ++ a.extract 0 na ++ out.reverse).Perm (a ++ b)/\Srt κ (b.extract 0 nb ++ a.extract 0 na ++ out.reverse).toList:=by
 refine ⟨h.pm.first,?_⟩;rw [Array.toList_append,Array.toList_append,cG,cG,Array.toList_reverse,List.append_assoc];obtain ⟨p1,p2,p3⟩:=List.pairwise_append.mp h.sb;refine List.pairwise_append.mpr ⟨p1,h.sa,λ x hx y hy=>?_⟩;rcases C2.mp hy with hy | hy
 ·obtain ⟨i,ik,ei⟩:=pf hx;rw [show i=0 by omega] at ei;exact hF x ei y (List.mem_of_mem_take hy)
 ·exact p3 x hx y hy
end
def RunS (κ:KeyKind) (arr:Array Keyed) (x:Nat×Nat×Nat):Prop:=∀i j p q,x.1<=i->i<=j->j < x.1 + x.2.1->arr[i]? = some p->arr[j]? = some q->kl κ p q
def RS (κ:KeyKind) (st:SortSt):Prop:=∀x∈(pendingOf st).toList,RunS κ (arrOf st) x
theorem RunS.srt {κ:KeyKind} {arr:Array Keyed} {m n:Nat} (h:∀i j p q,m<=i->i<=j->j < n->arr[i]? = some p->arr[j]? = some q->kl κ p q):Srt κ (arr.extract m n).toList:=by
 unfold Srt;rw [List.pairwise_iff_getElem];intro i j hi hj ij;have ex:(arr.extract m n).toList[i]? = some (arr.extract m n).toList[i]:=EJ hi;have ey:(arr.extract m n).toList[j]? = some (arr.extract m n).toList[j]:=EJ hj;rw [Array.getElem?_toList,Array.getElem?_extract] at ex ey
 split at ex
 ·split at ey
  ·exact h _ _ _ _ ⋯ ⋯ ⋯ ex ey
  ·cases ey
 ·cases ex
theorem Tile.apart:∀ {l:List (Nat×Nat×Nat)} {i j lo hi:Nat} {x y:Nat×Nat×Nat},Tile l lo hi->i < j->l[i]? = some x->l[j]? = some y->x.1 + x.2.1<=y.1
 | z :: l,0,j + 1,lo,hi,x,y,h,_,e1,e2=>by cases e1;have:=Tile.from_ h.2.2 (show l[j]? = some y by simpa using e2);have:=h.1;omega
 | z :: l,i + 1,j + 1,lo,hi,x,y,h,ij,e1,e2=>Tile.apart h.2.2 (i:=i) (j:=j) ⋯ (by simpa using e1) (by simpa using e2)
 | [],_,_,_,_,_,_,_,_,e1,_=>by simp at e1
where
 Tile.from_:∀ {l:List (Nat×Nat×Nat)} {i lo hi:Nat} {x:Nat×Nat×Nat},Tile l lo hi->l[i]? = some x->lo<=x.1
 | z :: l,0,lo,hi,x,h,e=>by cases e; exact Nat.le_of_eq h.1.symm
 | z :: l,i + 1,lo,hi,x,h,e=>C5 (Nat.le_add_right _ _) (Tile.from_ h.2.2 (i:=i) (by simpa using e))
 | [],_,_,_,_,_,e=>by simp at e
theorem Tile.others {l:List (Nat×Nat×Nat)} {i lo hi:Nat} {x y m:Nat×Nat×Nat} (T:Tile l lo hi) (e1:l[i]? = some x) (e2:l[i + 1]? = some y):∀z∈(l.set i m).eraseIdx (i + 1),z=m\/(z∈l/\(z.1 + z.2.1<=x.1\/y.1 + y.2.1<=z.1)):=by
 intro z hz;obtain ⟨j,hj⟩:=List.getElem?_of_mem hz;rw [List.getElem?_eraseIdx] at hj
 split at hj
 ·rename_i c
  by_cases ji:j=i
  ·subst ji;rw [List.getElem?_set_self (List.getElem?_eq_some_iff.mp e1).1] at hj;exact .inl (B8 hj).symm
  ·rw [List.getElem?_set_ne (Ne.symm ji)] at hj;exact .inr ⟨B5 hj,.inl (T.apart ⋯ hj e1)⟩
 ·rename_i c
  rw [List.getElem?_set_ne ⋯] at hj;exact .inr ⟨B5 hj,.inr (T.apart ⋯ e2 hj)⟩
section
variable {prog:EQ} {w:ES} {A:Around} {E:ET->EO->Prop} {s:EO} {κ:KeyKind} {κ0:SortKind} {a₀:Array Keyed}
theorem fK (hO:bj prog w A s κ0 κ) {st:SortSt} {x y:Keyed} {Q:Option Bool->SortSt->Prop} (hk:kindOf st=κ0) (hx:∃k,κ.keyOf x.1=some k) (hy:∃k,κ.keyOf y.1=some k)
  (h:Q (some (κ.blt (ky κ x) (ky κ y))) st):wpS (model prog w) A E s (lt' x y) Q st:=by
 obtain ⟨a,ha⟩:=hx;obtain ⟨b,hb⟩:=hy;unfold ky at h;rw [ha,hb] at h;rw [lt'_eq];refine A3 (wpS_get ?_);rw [hk];refine A3 (wpS_lift (wpAny_attempt (hO _ _ _ a b _ ha hb ⟨rfl,?_⟩)));exact A4 h
theorem bF (hO:bj prog w A s κ0 κ) {st:SortSt} {left:Bool} {key:Keyed} {arr:Array Keyed} {base n hint:Nat} {Q:Option Nat->SortSt->Prop} (hk:kindOf st=κ0) (hn:base + n<=arr.size) (hh:hint < n)
  (ha:KdA κ arr) (hy:∃k,κ.keyOf key.1=some k) (bd:Nat->Bool) (hb:∀i p,i < n->arr[base + i]? = some p->bey κ left key p=bd i) (mono:∀i j,i<=j->j < n->bd j=true->bd i=true)
  (h:∀k,k<=n->(∀i,i < k->bd i=true)->(∀i,k<=i->i < n->bd i=false)->Q (some k) st):wpS (model prog w) A E s (qV left key arr base n hint) Q st:=by
 have neg:∀i j,i<=j->j < n->bd i=false->bd j=false:=λ i j ij jn e=>by
  cases c:bd j with
  | false=>rfl
  | true=>rw [mono i j ij jn c] at e; cases e
 have ask:∀ (i:Nat),i < n->∀ (R:Option Bool->SortSt->Prop),R (some (bd i)) st->wpS (model prog w) A E s (elem' arr (base + i) >>= λ x=>if left=true then lt' x key else lt' key x >>= λ r=>pure (r.map (!·))) R st:=by
  intro i hi R hR;refine A3 (aV ⋯ λ p hp=>?_);rw [<- hb i p hi hp] at hR;unfold bey at hR
  split
  ·rename_i c
   rw [if_pos c] at hR;exact fK hO hk (ha _ _ hp) hy hR
  ·rename_i c
   rw [if_neg c] at hR;exact A3 (fK hO hk hy (ha _ _ hp) (A4 hR))
 refine A3 (ask hint hh _ ?_);dsimp only
 split
 ·rename_i c0
  refine A3 (wpS_mono (wpS_forRange (I:=λ i c st'=>c.1=none/\st'=st/\c.2.1 < c.2.2/\hint + c.2.1 < n/\bd (hint + c.2.1)=true/\i < c.2.2) (Q:=λ c st'=>c.1=none/\st'=st/\hint + c.2.1 < n/\bd (hint + c.2.1)=true/\c.2.1 < c.2.2/\(n - hint<=c.2.2\/bd (hint + c.2.2)=false)) ?_ (λ c st' hc=>⟨hc.1,hc.2.1,hc.2.2.2.1,hc.2.2.2.2.1,hc.2.2.1,.inl (by have:=hc.2.2.2.2.2; omega)⟩) ⟨rfl,rfl,by dsimp only; omega,by dsimp only; omega,by simpa using c0,by dsimp only; omega⟩) ?_)
  ·rintro i ⟨r,lo,ofs⟩ st' _ _ ⟨h1,rfl,h2,h3,h4,h5⟩;dsimp only at h1 h2 h3 h4 h5 ⊢
   split
   ·rename_i c1
    exact A4 ⟨rfl,rfl,h3,h4,h2,.inl c1⟩
   ·rename_i c1
    refine A3 (ask _ ⋯ _ ?_);dsimp only
    split
    ·rename_i c2
     exact A4 ⟨rfl,rfl,h3,h4,h2,.inr (by simpa using c2)⟩
    ·rename_i c2
     exact A4 ⟨rfl,rfl,by dsimp only; omega,by dsimp only; omega,by simpa using c2,by dsimp only; omega⟩
  ·rintro ⟨r,lo,ofs⟩ st' ⟨h1,rfl,h3,h4,h2,h5⟩;dsimp only at h1 h2 h3 h4 h5 ⊢;subst h1;refine A3 (wpS_mono (wpS_forRange (I:=λ i c st2=>c.1=none/\st2=st'/\c.2.2<=n/\(∀j,j < c.2.1->bd j=true)/\(∀j,c.2.2<=j->j < n->bd j=false)/\c.2.1<=c.2.2/\c.2.2 + i<=c.2.1 + n) (Q:=λ c st2=>c.1=none/\st2=st'/\c.2.2<=n/\(∀j,j < c.2.2->bd j=true)/\(∀j,c.2.2<=j->j < n->bd j=false)) ?_ ?_ ⟨rfl,rfl,by dsimp only; omega,λ j hj=>mono j (hint + lo) (by dsimp only at hj; omega) h3 h4,λ j hj jn=>?_,by dsimp only; omega,by dsimp only; omega⟩) ?_)
   ·rintro i ⟨r,l2,h2'⟩ st2 _ _ ⟨g1,rfl,g2,g3,g4,g5,g6⟩;dsimp only at g1 g2 g3 g4 g5 g6 ⊢
    split
    ·rename_i c1
     exact A4 ⟨rfl,rfl,g2,by rw [show h2'=l2 by omega]; exact g3,g4⟩
    ·rename_i c1
     refine A3 (ask _ ⋯ _ ?_);dsimp only
     split
     ·rename_i c2
      refine A4 ⟨rfl,rfl,g2,λ j hj=>?_,g4,by dsimp only; omega,by dsimp only; omega⟩;dsimp only at hj;exact mono j (l2 + (h2' - l2) / 2) ⋯ ⋯ c2
     ·rename_i c2
      refine A4 ⟨rfl,rfl,by dsimp only; omega,g3,λ j hj jn=>?_,by dsimp only; omega,by dsimp only; omega⟩;dsimp only at hj;exact neg (l2 + (h2' - l2) / 2) j ⋯ jn (by simpa using c2)
   ·rintro ⟨r,l2,h2'⟩ st2 ⟨g1,rfl,g2,g3,g4,g5,g6⟩;dsimp only at g1 g2 g3 g4 g5 g6;exact ⟨g1,Y,g2,by dsimp only; rw [show h2'=l2 by omega]; exact g3,g4⟩
   ·dsimp only at hj;rcases h5 with z | z
    ·omega
    ·by_cases cm:n - hint<=ofs
     ·omega
     ·exact neg (hint + ofs) j ⋯ jn z
   ·rintro ⟨r,l2,h2'⟩ st2 ⟨g1,rfl,g2,g3,g4⟩;dsimp only at g1 g2 g3 g4 ⊢;subst g1;exact A4 (h _ g2 g3 g4)
 ·rename_i c0
  refine A3 (wpS_mono (wpS_forRange (I:=λ i c st'=>c.1=none/\st'=st/\c.2.1 < c.2.2/\c.2.1<=hint/\bd (hint - c.2.1)=false/\i < c.2.2) (Q:=λ c st'=>c.1=none/\st'=st/\c.2.1<=hint/\bd (hint - c.2.1)=false/\c.2.1 < c.2.2/\(hint + 1<=c.2.2\/bd (hint - c.2.2)=true)) ?_ (λ c st' hc=>⟨hc.1,hc.2.1,hc.2.2.2.1,hc.2.2.2.2.1,hc.2.2.1,.inl (by have:=hc.2.2.2.2.2; omega)⟩) ⟨rfl,rfl,by dsimp only; omega,by dsimp only; omega,by simpa using c0,by dsimp only; omega⟩) ?_)
  ·rintro i ⟨r,lo,ofs⟩ st' _ _ ⟨h1,rfl,h2,h3,h4,h5⟩;dsimp only at h1 h2 h3 h4 h5 ⊢
   split
   ·rename_i c1
    exact A4 ⟨rfl,rfl,h3,h4,h2,.inl c1⟩
   ·rename_i c1
    refine A3 (ask _ ⋯ _ ?_);dsimp only
    split
    ·rename_i c2
     exact A4 ⟨rfl,rfl,h3,h4,h2,.inr c2⟩
    ·rename_i c2
     exact A4 ⟨rfl,rfl,by dsimp only; omega,by dsimp only; omega,by simpa using c2,by dsimp only; omega⟩
  ·rintro ⟨r,lo,ofs⟩ st' ⟨h1,rfl,h3,h4,h2,h5⟩;dsimp only at h1 h2 h3 h4 h5 ⊢;subst h1;refine A3 (wpS_mono (wpS_forRange (I:=λ i c st2=>c.1=none/\st2=st'/\c.2.2<=n/\(∀j,j < c.2.1->bd j=true)/\(∀j,c.2.2<=j->j < n->bd j=false)/\c.2.1<=c.2.2/\c.2.2 + i<=c.2.1 + n) (Q:=λ c st2=>c.1=none/\st2=st'/\c.2.2<=n/\(∀j,j < c.2.2->bd j=true)/\(∀j,c.2.2<=j->j < n->bd j=false)) ?_ ?_ ⟨rfl,rfl,by dsimp only; omega,λ j hj=>?_,λ j hj jn=>neg (hint - lo) j (by dsimp only at hj; omega) jn h4,by dsimp only; omega,by dsimp only; omega⟩) ?_)
   ·rintro i ⟨r,l2,h2'⟩ st2 _ _ ⟨g1,rfl,g2,g3,g4,g5,g6⟩;dsimp only at g1 g2 g3 g4 g5 g6 ⊢
    split
    ·rename_i c1
     exact A4 ⟨rfl,rfl,g2,by rw [show h2'=l2 by omega]; exact g3,g4⟩
    ·rename_i c1
     refine A3 (ask _ ⋯ _ ?_);dsimp only
     split
     ·rename_i c2
      refine A4 ⟨rfl,rfl,g2,λ j hj=>?_,g4,by dsimp only; omega,by dsimp only; omega⟩;dsimp only at hj;exact mono j (l2 + (h2' - l2) / 2) ⋯ ⋯ c2
     ·rename_i c2
      refine A4 ⟨rfl,rfl,by dsimp only; omega,g3,λ j hj jn=>?_,by dsimp only; omega,by dsimp only; omega⟩;dsimp only at hj;exact neg (l2 + (h2' - l2) / 2) j ⋯ jn (by simpa using c2)
   ·rintro ⟨r,l2,h2'⟩ st2 ⟨g1,rfl,g2,g3,g4,g5,g6⟩;dsimp only at g1 g2 g3 g4 g5 g6;exact ⟨g1,Y,g2,by dsimp only; rw [show h2'=l2 by omega]; exact g3,g4⟩
   ·dsimp only at hj;rcases h5 with z | z
    ·omega
    ·by_cases cm:hint + 1<=ofs
     ·omega
     ·exact mono j (hint - ofs) ⋯ ⋯ z
   ·rintro ⟨r,l2,h2'⟩ st2 ⟨g1,rfl,g2,g3,g4⟩;dsimp only at g1 g2 g3 g4 ⊢;subst g1;exact A4 (h _ g2 g3 g4)
theorem iI (hO:bj prog w A s κ0 κ) {st:SortSt} {a b:Array Keyed} {Q:Array Keyed->SortSt->Prop} (hk:kindOf st=κ0) (ha:KdA κ a) (hb:KdA κ b) (la:1<=a.size) (lb:1<=b.size) (sa:Srt κ a.toList) (sb:Srt κ b.toList) (hF:∀p,b[0]? = some p->∀y∈a.toList,kl κ p y) (hL:∀p,a[a.size - 1]? = some p->∀y∈b.toList,kl κ y p)
  (h:∀r st',r.Perm (a ++ b)/\Srt κ r.toList->SameG st st'->Q r st'):wpS (model prog w) A E s (oZ a b) Q st:=by
 refine A3 (wpS_lift (wpAny_rule ⟨rfl,?_⟩));refine A3 (aV ⋯ λ p hp=>?_);have m0:MS κ a b #[p] 0 1:=by
  have:MS κ a b #[] 0 0:=⟨by unfold MLo; simp,by simpa using sa,by simpa using sb⟩
  exact this.pb hp (hF p hp)
 have aL:∀ (i:Nat) p,i + 1=a.size->a[i]? = some p->∀y∈b.toList,kl κ y p:=λ i p e hp=>hL p (by rw [<- e]; exact hp);have gtA:∀ {x y:Keyed} {i:Nat},a[i]? = some x->y∈a.toList.drop i->kl κ x y:=λ hx hy=>Srt.drop sa hx hy;have gtB:∀ {x y:Keyed} {i:Nat},b[i]? = some x->y∈b.toList.drop i->kl κ x y:=λ hx hy=>Srt.drop sb hx hy;dsimp -zeta only
 extract_lets
 refine ax (λ c1=>A4 (h _ _ (m0.done (.inl (by simp only [beq_iff_eq] at c1; omega))) .rfl')) (λ c1=>?_);refine ax (λ c2=>A4 (h _ _ (m0.last (by simp only [beq_iff_eq] at c2; omega) (aL 0)) .rfl')) (λ c2=>?_);simp only [beq_iff_eq] at c1 c2;refine A3 (wpS_get ?_);refine A3 (wpS_mono (wpS_forRange (I:=λ x c st2=>SameG st st2/\c.1=none/\MS κ a b c.2.1 c.2.2.1 c.2.2.2.1/\c.2.2.1 + 1 < a.size/\c.2.2.2.1 < b.size/\x + 1<=c.2.2.1 + c.2.2.2.1)
  (Q:=λ c st2=>SameG st st2/\∃r,c.1=some r/\(r.Perm (a ++ b)/\Srt κ r.toList)) ?step ?fin ⟨.rfl',rfl,m0,by dsimp only; omega,by dsimp only; omega,by dsimp only; omega⟩) ?post)
 case fin =>
  rintro ⟨r,out,ia,ib,mg⟩ st2 ⟨hs,h1,hm,b1,b2,b3⟩;dsimp only at b1 b2 b3;exact absurd b3 ⋯
 case post =>
  rintro ⟨r,out,ia,ib,mg⟩ st2 ⟨hs,r',h1,hr⟩;dsimp -zeta only at h1 ⊢;subst h1;exact A4 (h _ _ hr hs)
 case step =>
  clear c1 c2 m0 la lb;rintro x ⟨r,out,ia,ib,mg⟩ st2 _ hx ⟨hs,h1,hm,b1,b2,b3⟩;dsimp -zeta only at h1 hm b1 b2 b3 ⊢;refine A3 (wpS_mono (wpS_forRange (I:=λ y c st3=>st3=st2/\c.1=none/\MS κ a b c.2.1 c.2.2.1 c.2.2.2.1/\c.2.2.1 + 1 < a.size/\c.2.2.2.1 < b.size/\x + 1 + min y 1<=c.2.2.1 + c.2.2.2.1)
   (Q:=λ c st3=>SameG st st3/\((∃r,c.1=some r/\(r.Perm (a ++ b)/\Srt κ r.toList))\/(c.1=none/\MS κ a b c.2.1 c.2.2.1 c.2.2.2.1/\c.2.2.1 + 1 < a.size/\c.2.2.2.1 < b.size/\x + 2<=c.2.2.1 + c.2.2.2.1))) ?s1 ?f1 ⟨rfl,rfl,hm,b1,b2,by dsimp only; omega⟩) ?p1)
  case f1 =>
   rintro ⟨r,out,ia,ib,ac,bc⟩ st3 ⟨rfl,g1,g2,g3,g4,g5⟩;dsimp only at g1 g2 g3 g4 g5;exact ⟨hs,.inr ⟨g1,g2,g3,g4,by dsimp only; omega⟩⟩
  case s1 =>
   clear hm b1 b2 b3 hx;rintro y ⟨r,out,ia,ib,ac,bc⟩ st3 _ hy ⟨rfl,g1,hm,b1,b2,b3⟩;have sg:=hs;dsimp only at g1 hm b1 b2 b3 ⊢;refine A3 (aV ⋯ λ p1 hp1=>?_);refine A3 (aV ⋯ λ p2 hp2=>?_);refine A3 (fK hO (sg.1.trans hk) (hb _ _ hp1) (ha _ _ hp2) ?_);dsimp only;refine ax (λ c5=>?_) (λ c5=>?_)
   ·refine A3 (aV ⋯ λ q hq=>?_);rw [hp1] at hq; cases hq;have cc:∀y∈a.toList.drop ia,kl κ p1 y:=λ y hy=>kl.trans (KeyOrd.kle_of_klt c5) (gtA hp2 hy);refine ax (λ c2=>?_) (λ c2=>?_)
    ·simp only [beq_iff_eq] at c2;exact A4 ⟨sg,.inl ⟨_,rfl,(hm.pb hp1 cc).done (.inl ⋯)⟩⟩
    ·simp only [beq_iff_eq] at c2;refine ax (λ c1=>?_) (λ c1=>?_)
     ·exact A4 ⟨sg,.inr ⟨rfl,hm.pb hp1 cc,by dsimp only; omega,by dsimp only; omega,by dsimp only; omega⟩⟩
     ·exact A4 ⟨rfl,rfl,hm.pb hp1 cc,by dsimp only; omega,by dsimp only; omega,by dsimp only; omega⟩
   ·refine A3 (aV ⋯ λ q hq=>?_);rw [hp2] at hq; cases hq;have cc:∀y∈b.toList.drop ib,kl κ p2 y:=λ y hy=>kl.trans (KeyOrd.kle_of_not_klt c5) (gtB hp1 hy);refine ax (λ c4=>?_) (λ c4=>?_)
    ·simp only [beq_iff_eq] at c4;exact A4 ⟨sg,.inl ⟨_,rfl,(hm.pa hp2 cc).last ⋯ (aL _)⟩⟩
    ·simp only [beq_iff_eq] at c4;refine ax (λ c3=>?_) (λ c3=>?_)
     ·exact A4 ⟨sg,.inr ⟨rfl,hm.pa hp2 cc,by dsimp only; omega,by dsimp only; omega,by dsimp only; omega⟩⟩
     ·exact A4 ⟨rfl,rfl,hm.pa hp2 cc,by dsimp only; omega,by dsimp only; omega,by dsimp only; omega⟩
  case p1 =>
   clear hm b1 b2 b3 hx;rintro ⟨r,out,ia,ib,ac,bc⟩ st3 ⟨hs,(⟨r',h1,hr⟩ | ⟨h1,hm,b1,b2,b3⟩)⟩
   ·dsimp -zeta only at h1 ⊢;subst h1;exact A4 ⟨hs,r',rfl,hr⟩
   ·dsimp -zeta only at h1 hm b1 b2 b3 ⊢;subst h1;refine A3 (wpS_lift (wpAny_rule ⟨rfl,?_⟩));refine A3 (wpS_mono (wpS_forRange (I:=λ y c st3=>SameG st st3/\c.1=none/\MS κ a b c.2.1 c.2.2.1 c.2.2.2.1/\c.2.2.1 + 1 < a.size/\c.2.2.2.1 < b.size/\x + 2<=c.2.2.1 + c.2.2.2.1)
     (Q:=λ c st3=>SameG st st3/\((∃r,c.1=some r/\(r.Perm (a ++ b)/\Srt κ r.toList))\/(c.1=none/\MS κ a b c.2.1 c.2.2.1 c.2.2.2.1/\c.2.2.1 + 1 < a.size/\c.2.2.2.1 < b.size/\x + 2<=c.2.2.1 + c.2.2.2.1))) ?s2 ?f2 ⟨hs,rfl,hm,b1,b2,b3⟩) ?p2)
    case f2=>exact λ c st3 z=>⟨z.1,.inr z.2⟩
    case p2 =>
     clear hm b1 b2 b3;rintro ⟨r,out,ia,ib,mg,ac,bc⟩ st3 ⟨hs,(⟨r',h1,hr⟩ | ⟨h1,hm,b1,b2,b3⟩)⟩
     ·dsimp -zeta only at h1 ⊢;subst h1;exact A4 ⟨hs,r',rfl,hr⟩
     ·dsimp -zeta only at h1 hm b1 b2 b3 ⊢;subst h1;exact A3 (wpS_modify (A4 ⟨hs,rfl,hm,b1,b2,by dsimp only; omega⟩))
    case s2 =>
     clear hm b1 b2 b3;rintro y ⟨r,out,ia,ib,mg,ac,bc⟩ st2 _ hy ⟨hs,g1,hm,b1,b2,b3⟩;dsimp only at g1 hm b1 b2 b3;refine lB λ Qx hQ=>?_
     extract_lets
     refine lC λ mg=>?_;dsimp -zeta +zetaDelta only;refine A3 (jg λ st3 sg3=>?_);have sg:=hs.trans sg3;refine A3 (aV ⋯ λ p1 hp1=>?_);refine A3 (bF hO (sg.1.trans hk) ⋯ ⋯ ha (hb _ _ hp1) (bdv κ false p1 a ia) (ic ⋯) (dI ⋯ λ i j x y _ ij _ hx hy=>sa.at ij hx hy) λ k1 hk1 gT gF=>?_);have ga:∀x∈(a.extract ia (ia + k1)).toList,kl κ x p1:=λ x hx=>let ⟨i,ik,e⟩:=rW ⋯ hx; dJ (gT i ik) e
     have gb:∀y∈a.toList.drop (ia + k1),kl κ p1 y:=λ y hy=>let ⟨i,mi,il,e⟩:=rX hy; cI (gF (i - ia) ⋯ ⋯) (by rw [show ia + (i - ia)=i by omega]; exact e)
     dsimp -zeta only
     extract_lets _ jp1
     have hj1:∀o i,MS κ a b o i ib->(∀y∈a.toList.drop i,kl κ p1 y)->i + 1 < a.size->x + 2<=i + ib->wpS (model prog w) A E s (jp1 () o i) Qx st3:=by
      clear hm b1 b3 g1 hy ga gb gT gF hk1;intro out ia m1 cc b1 b3;dsimp -zeta only [jp1];refine A3 (aV ⋯ λ q hq=>?_);rw [hp1] at hq; cases hq
      try extract_lets
      refine ax (λ c5=>?_) (λ c5=>?_)
      ·simp only [beq_iff_eq] at c5;exact A4 (hQ _ _ ⟨sg,.inl ⟨_,rfl,(m1.pb hp1 cc).done (.inl ⋯)⟩⟩)
      ·simp only [beq_iff_eq] at c5;refine A3 (aV ⋯ λ q2 hq2=>?_);refine A3 (bF hO (sg.1.trans hk) ⋯ ⋯ hb (ha _ _ hq2) (bdv κ true q2 b (ib + 1)) (ic ⋯) (dI ⋯ λ i j x y _ ij _ hx hy=>sb.at ij hx hy) λ k2 hk2 gT gF=>?_);have ga:∀x∈(b.extract (ib + 1) (ib + 1 + k2)).toList,kl κ x q2:=λ x hx=>let ⟨i,ik,e⟩:=rW ⋯ hx; dJ (gT i ik) e
       have gb:∀y∈b.toList.drop (ib + 1 + k2),kl κ q2 y:=λ y hy=>let ⟨i,mi,il,e⟩:=rX hy; cI (gF (i - (ib + 1)) ⋯ ⋯) (by rw [show ib + 1 + (i - (ib + 1))=i by omega]; exact e)
       dsimp -zeta only
       extract_lets _ jp2
       have hj2:∀o i,MS κ a b o ia i->(∀y∈b.toList.drop i,kl κ q2 y)->i < b.size->x + 2<=ia + i->wpS (model prog w) A E s (jp2 () o i) Qx st3:=by
        intro o i m2 cc2 h1 h2;dsimp -zeta only [jp2];refine A3 (aV ⋯ λ q3 hq3=>?_);rw [hq2] at hq3; cases hq3;dsimp only;refine ax (λ c2=>?_) (λ c2=>?_)
        ·simp only [beq_iff_eq] at c2;exact A4 (hQ _ _ ⟨sg,.inl ⟨_,rfl,(m2.pa hq2 cc2).last ⋯ (aL _)⟩⟩)
        ·simp only [beq_iff_eq] at c2;refine ax (λ c1=>?_) (λ c1=>?_)
         ·exact A4 (hQ _ _ ⟨sg,.inr ⟨rfl,m2.pa hq2 cc2,by dsimp only; omega,by dsimp only; omega,by dsimp only; omega⟩⟩)
         ·exact A4 (hQ _ _ ⟨sg,rfl,m2.pa hq2 cc2,by dsimp only; omega,by dsimp only; omega,by dsimp only; omega⟩)
       refine ax (λ c4=>?_) (λ c4=>?_)
       ·try extract_lets
        refine ax (λ c3=>?_) (λ c3=>?_)
        ·simp only [beq_iff_eq] at c3;exact A4 (hQ _ _ ⟨sg,.inl ⟨_,rfl,((m1.pb hp1 cc).cb k2 (λ x hx y hy=>kl.trans (ga x hx) (gtA hq2 hy))).done (.inl ⋯)⟩⟩)
        ·simp only [beq_iff_eq] at c3;exact hj2 _ _ ((m1.pb hp1 cc).cb k2 (λ x hx y hy=>kl.trans (ga x hx) (gtA hq2 hy))) gb ⋯ ⋯
       ·exact hj2 _ _ (m1.pb hp1 cc) (by rw [show k2=0 by omega] at gb; exact gb) ⋯ ⋯
     refine ax (λ c8=>?_) (λ c8=>?_)
     ·try extract_lets
      refine ax (λ c7=>?_) (λ c7=>?_)
      ·simp only [beq_iff_eq] at c7;exact A4 (hQ _ _ ⟨sg,.inl ⟨_,rfl,(hm.ca k1 (λ x hx y hy=>kl.trans (ga x hx) (gtB hp1 hy))).last ⋯ (aL _)⟩⟩)
      ·simp only [beq_iff_eq] at c7;refine ax (λ c6=>?_) (λ c6=>?_)
       ·simp only [beq_iff_eq] at c6;exact A4 (hQ _ _ ⟨sg,.inl ⟨_,rfl,(hm.ca k1 (λ x hx y hy=>kl.trans (ga x hx) (gtB hp1 hy))).done (.inr ⋯)⟩⟩)
       ·simp only [beq_iff_eq] at c6;exact hj1 _ _ (hm.ca k1 (λ x hx y hy=>kl.trans (ga x hx) (gtB hp1 hy))) gb ⋯ ⋯
     ·exact hj1 _ _ hm (by rw [show k1=0 by omega] at gb; exact gb) ⋯ ⋯
theorem iJ (hO:bj prog w A s κ0 κ) {st:SortSt} {a b:Array Keyed} {Q:Array Keyed->SortSt->Prop} (hk:kindOf st=κ0) (ha:KdA κ a) (hb:KdA κ b) (la:1<=a.size) (lb:1<=b.size) (sa:Srt κ a.toList) (sb:Srt κ b.toList) (hF:∀p,b[0]? = some p->∀y∈a.toList,kl κ p y) (hL:∀p,a[a.size - 1]? = some p->∀y∈b.toList,kl κ y p)
  (h:∀r st',r.Perm (a ++ b)/\Srt κ r.toList->SameG st st'->Q r st'):wpS (model prog w) A E s (pd a b) Q st:=by
 refine A3 (wpS_lift (wpAny_rule ⟨rfl,?_⟩));refine A3 (aV ⋯ λ p hp=>?_);have m0:MH κ a b #[p] (a.size - 1) b.size:=by
  have:MH κ a b #[] a.size b.size:=⟨by unfold MHi; rw [List.take_of_length_le (by simp),List.take_of_length_le (by simp)]; simp,by rw [List.take_of_length_le (by simp)]; simpa using sa,by rw [List.take_of_length_le (by simp)]; simpa using sb⟩
  exact this.pa la hp λ y hy=>hL p hp y (List.mem_of_mem_take hy)
 have ltA:∀ {x y:Keyed} {i:Nat},1<=i->a[i - 1]? = some y->x∈a.toList.take i->kl κ x y:=λ h1 hy hx=>Srt.take sa h1 hy hx;have ltB:∀ {x y:Keyed} {i:Nat},1<=i->b[i - 1]? = some y->x∈b.toList.take i->kl κ x y:=λ h1 hy hx=>Srt.take sb h1 hy hx;dsimp -zeta only
 extract_lets
 refine ax (λ c1=>A4 (h _ _ (m0.done (.inl (by simp only [beq_iff_eq] at c1; omega))) .rfl')) (λ c1=>?_);refine ax (λ c2=>A4 (h _ _ (m0.first (by simp only [beq_iff_eq] at c2; omega) hF) .rfl')) (λ c2=>?_);simp only [beq_iff_eq] at c1 c2;refine A3 (wpS_get ?_);refine A3 (wpS_mono (wpS_forRange (I:=λ x c st2=>SameG st st2/\c.1=none/\MH κ a b c.2.2.2.1 c.2.1 c.2.2.1/\1<=c.2.1/\c.2.1 < a.size/\2<=c.2.2.1/\c.2.2.1<=b.size/\x + 1 + c.2.1 + c.2.2.1<=a.size + b.size)
  (Q:=λ c st2=>SameG st st2/\∃r,c.1=some r/\(r.Perm (a ++ b)/\Srt κ r.toList)) ?step ?fin ⟨.rfl',rfl,m0,by dsimp only; omega,by dsimp only; omega,by dsimp only; omega⟩) ?post)
 case fin =>
  rintro ⟨r,ia,ib,out,mg⟩ st2 ⟨hs,h1,hm,b1,b2,b3⟩;dsimp only at b1 b2 b3;exact absurd b3 ⋯
 case post =>
  rintro ⟨r,ia,ib,out,mg⟩ st2 ⟨hs,r',h1,hr⟩;dsimp -zeta only at h1 ⊢;subst h1;exact A4 (h _ _ hr hs)
 case step =>
  clear c1 c2 m0 la lb;rintro x ⟨r,ia,ib,out,mg⟩ st2 _ hx ⟨hs,h1,hm,b1,b2,b3⟩;dsimp -zeta only at h1 hm b1 b2 b3 ⊢;refine A3 (wpS_mono (wpS_forRange (I:=λ y c st3=>st3=st2/\c.1=none/\MH κ a b c.2.2.2.1 c.2.1 c.2.2.1/\1<=c.2.1/\c.2.1 < a.size/\2<=c.2.2.1/\c.2.2.1<=b.size/\x + 1 + min y 1 + c.2.1 + c.2.2.1<=a.size + b.size)
   (Q:=λ c st3=>SameG st st3/\((∃r,c.1=some r/\(r.Perm (a ++ b)/\Srt κ r.toList))\/(c.1=none/\MH κ a b c.2.2.2.1 c.2.1 c.2.2.1/\1<=c.2.1/\c.2.1 < a.size/\2<=c.2.2.1/\c.2.2.1<=b.size/\x + 2 + c.2.1 + c.2.2.1<=a.size + b.size))) ?s1 ?f1 ⟨rfl,rfl,hm,b1,b2,by dsimp only; omega⟩) ?p1)
  case f1 =>
   rintro ⟨r,ia,ib,out,ac,bc⟩ st3 ⟨rfl,g1,g2,g3,g4,g5⟩;dsimp only at g1 g2 g3 g4 g5;exact ⟨hs,.inr ⟨g1,g2,g3,g4,by dsimp only; omega⟩⟩
  case s1 =>
   clear hm b1 b2 b3 hx;rintro y ⟨r,ia,ib,out,ac,bc⟩ st3 _ hy ⟨rfl,g1,hm,b1,b2,b3⟩;have sg:=hs;dsimp only at g1 hm b1 b2 b3 ⊢;refine A3 (aV ⋯ λ p1 hp1=>?_);refine A3 (aV ⋯ λ p2 hp2=>?_);refine A3 (fK hO (sg.1.trans hk) (hb _ _ hp1) (ha _ _ hp2) ?_);dsimp only;refine ax (λ c10=>?_) (λ c10=>?_)
   ·refine A3 (aV ⋯ λ q hq=>?_);rw [hp2] at hq; cases hq;have cc:∀y∈b.toList.take ib,kl κ y p2:=λ y hy=>kl.trans (ltB ⋯ hp1 hy) (KeyOrd.kle_of_klt c10);refine ax (λ c7=>?_) (λ c7=>?_)
    ·simp only [beq_iff_eq] at c7;exact A4 ⟨sg,.inl ⟨_,rfl,(hm.pa ⋯ hp2 cc).done (.inl ⋯)⟩⟩
    ·simp only [beq_iff_eq] at c7;refine ax (λ c6=>?_) (λ c6=>?_)
     ·exact A4 ⟨sg,.inr ⟨rfl,(hm.pa ⋯ hp2 cc),by dsimp only; omega,by dsimp only; omega,by dsimp only; omega⟩⟩
     ·exact A4 ⟨rfl,rfl,(hm.pa ⋯ hp2 cc),by dsimp only; omega,by dsimp only; omega,by dsimp only; omega⟩
   ·refine A3 (aV ⋯ λ q hq=>?_);rw [hp1] at hq; cases hq;have cc:∀y∈a.toList.take ia,kl κ y p1:=λ y hy=>kl.trans (ltA ⋯ hp2 hy) (KeyOrd.kle_of_not_klt c10);refine ax (λ c9=>?_) (λ c9=>?_)
    ·simp only [beq_iff_eq] at c9;exact A4 ⟨sg,.inl ⟨_,rfl,(hm.pb ⋯ hp1 cc).first ⋯ hF⟩⟩
    ·simp only [beq_iff_eq] at c9;refine ax (λ c8=>?_) (λ c8=>?_)
     ·exact A4 ⟨sg,.inr ⟨rfl,(hm.pb ⋯ hp1 cc),by dsimp only; omega,by dsimp only; omega,by dsimp only; omega⟩⟩
     ·exact A4 ⟨rfl,rfl,(hm.pb ⋯ hp1 cc),by dsimp only; omega,by dsimp only; omega,by dsimp only; omega⟩
  case p1 =>
   clear hm b1 b2 b3 hx;rintro ⟨r,ia,ib,out,ac,bc⟩ st3 ⟨hs,(⟨r',h1,hr⟩ | ⟨h1,hm,b1,b2,b3⟩)⟩
   ·dsimp -zeta only at h1 ⊢;subst h1;exact A4 ⟨hs,r',rfl,hr⟩
   ·dsimp -zeta only at h1 hm b1 b2 b3 ⊢;subst h1;refine A3 (wpS_lift (wpAny_rule ⟨rfl,?_⟩));refine A3 (wpS_mono (wpS_forRange (I:=λ y c st3=>SameG st st3/\c.1=none/\MH κ a b c.2.2.2.1 c.2.1 c.2.2.1/\1<=c.2.1/\c.2.1 < a.size/\2<=c.2.2.1/\c.2.2.1<=b.size/\x + 2 + c.2.1 + c.2.2.1<=a.size + b.size)
     (Q:=λ c st3=>SameG st st3/\((∃r,c.1=some r/\(r.Perm (a ++ b)/\Srt κ r.toList))\/(c.1=none/\MH κ a b c.2.2.2.1 c.2.1 c.2.2.1/\1<=c.2.1/\c.2.1 < a.size/\2<=c.2.2.1/\c.2.2.1<=b.size/\x + 2 + c.2.1 + c.2.2.1<=a.size + b.size))) ?s2 ?f2 ⟨hs,rfl,hm,b1,b2,b3⟩) ?p2)
    case f2=>exact λ c st3 z=>⟨z.1,.inr z.2⟩
    case p2 =>
     clear hm b1 b2 b3;rintro ⟨r,ia,ib,out,mg,ac,bc⟩ st3 ⟨hs,(⟨r',h1,hr⟩ | ⟨h1,hm,b1,b2,b3⟩)⟩
     ·dsimp -zeta only at h1 ⊢;subst h1;exact A4 ⟨hs,r',rfl,hr⟩
     ·dsimp -zeta only at h1 hm b1 b2 b3 ⊢;subst h1;exact A3 (wpS_modify (A4 ⟨hs,rfl,hm,b1,b2,by dsimp only; omega⟩))
    case s2 =>
     clear hm b1 b2 b3;rintro y ⟨r,ia,ib,out,mg,ac,bc⟩ st2 _ hy ⟨hs,g1,hm,b1,b2,b3⟩;dsimp only at g1 hm b1 b2 b3;refine lB λ Qx hQ=>?_
     extract_lets
     refine lC λ mg=>?_;dsimp -zeta +zetaDelta only;refine A3 (jg λ st3 sg3=>?_);have sg:=hs.trans sg3;refine A3 (aV ⋯ λ p1 hp1=>?_);refine A3 (bF hO (sg.1.trans hk) ⋯ ⋯ ha (hb _ _ hp1) (bdv κ false p1 a 0) (ic ⋯) (dI ⋯ λ i j x y _ ij _ hx hy=>sa.at ij hx hy) λ k1 hk1 gT gF=>?_);have ga:∀x∈a.toList.take k1,kl κ x p1:=λ x hx=>let ⟨i,ik,e⟩:=pf hx; dJ (gT i ik) (by rw [Nat.zero_add]; exact e)
     have gb:∀y∈(a.extract k1 ia).toList,kl κ p1 y:=λ y hy=>let ⟨i,mi,il,e⟩:=ig hy; cI (gF i mi il) (by rw [Nat.zero_add]; exact e)
     dsimp -zeta only
     extract_lets _ _ jp1
     have bB:2<=ib/\ib<=b.size:=⟨b3.1,b3.2.1⟩
     have hj1:∀i o,MH κ a b o i ib->(∀y∈a.toList.take i,kl κ y p1)->1<=i->i < a.size->x + 2 + i + ib<=a.size + b.size->wpS (model prog w) A E s (jp1 () i o) Qx st3:=by
      clear hm b1 b3 g1 hy ga gb gT gF hk1;intro ia out m1 cc b1 b1' b3;dsimp -zeta only [jp1]
      try extract_lets
      refine A3 (aV ⋯ λ q hq=>?_);rw [hp1] at hq; cases hq
      try extract_lets
      refine ax (λ c6=>?_) (λ c6=>?_)
      ·simp only [beq_iff_eq] at c6;exact A4 (hQ _ _ ⟨sg,.inl ⟨_,rfl,(m1.pb ⋯ hp1 cc).first ⋯ hF⟩⟩)
      ·simp only [beq_iff_eq] at c6;refine A3 (aV ⋯ λ q2 hq2=>?_);refine A3 (bF hO (sg.1.trans hk) ⋯ ⋯ hb (ha _ _ hq2) (bdv κ true q2 b 0) (ic ⋯) (dI ⋯ λ i j x y _ ij _ hx hy=>sb.at ij hx hy) λ k2 hk2 gT gF=>?_);have ga:∀x∈b.toList.take k2,kl κ x q2:=λ x hx=>let ⟨i,ik,e⟩:=pf hx; dJ (gT i ik) (by rw [Nat.zero_add]; exact e)
       have gb:∀y∈(b.extract k2 (ib - 1)).toList,kl κ q2 y:=λ y hy=>let ⟨i,mi,il,e⟩:=ig hy; cI (gF i mi il) (by rw [Nat.zero_add]; exact e)
       dsimp -zeta only
       extract_lets _ _ jp2
       have hj2:∀i o,MH κ a b o ia i->(∀y∈b.toList.take i,kl κ y q2)->2<=i->i<=b.size->x + 2 + ia + i<=a.size + b.size->wpS (model prog w) A E s (jp2 () i o) Qx st3:=by
        intro i o m2 cc2 h1 h2 h3;dsimp -zeta only [jp2]
        try extract_lets
        refine A3 (aV ⋯ λ q3 hq3=>?_);rw [hq2] at hq3; cases hq3;dsimp only;refine ax (λ c2=>?_) (λ c2=>?_)
        ·simp only [beq_iff_eq] at c2;exact A4 (hQ _ _ ⟨sg,.inl ⟨_,rfl,(m2.pa ⋯ hq2 cc2).done (.inl ⋯)⟩⟩)
        ·simp only [beq_iff_eq] at c2;refine ax (λ c1=>?_) (λ c1=>?_)
         ·exact A4 (hQ _ _ ⟨sg,.inr ⟨rfl,(m2.pa ⋯ hq2 cc2),by dsimp only; omega,by dsimp only; omega,by dsimp only; omega⟩⟩)
         ·exact A4 (hQ _ _ ⟨sg,rfl,(m2.pa ⋯ hq2 cc2),by dsimp only; omega,by dsimp only; omega,by dsimp only; omega⟩)
       refine ax (λ c5=>?_) (λ c5=>?_)
       ·try extract_lets
        refine ax (λ c4=>?_) (λ c4=>?_)
        ·simp only [beq_iff_eq] at c4;exact A4 (hQ _ _ ⟨sg,.inl ⟨_,rfl,((m1.pb ⋯ hp1 cc).cb hk2 (λ x hx y hy=>kl.trans (ltA ⋯ hq2 hx) (gb y hy))).first ⋯ hF⟩⟩)
        ·simp only [beq_iff_eq] at c4;refine ax (λ c3=>?_) (λ c3=>?_)
         ·simp only [beq_iff_eq] at c3;exact A4 (hQ _ _ ⟨sg,.inl ⟨_,rfl,((m1.pb ⋯ hp1 cc).cb hk2 (λ x hx y hy=>kl.trans (ltA ⋯ hq2 hx) (gb y hy))).done (.inr ⋯)⟩⟩)
         ·simp only [beq_iff_eq] at c3;exact hj2 _ _ ((m1.pb ⋯ hp1 cc).cb hk2 (λ x hx y hy=>kl.trans (ltA ⋯ hq2 hx) (gb y hy))) ga ⋯ ⋯ ⋯
       ·exact hj2 _ _ (m1.pb ⋯ hp1 cc) (by rw [show k2=ib - 1 by omega] at ga; exact ga) ⋯ ⋯ ⋯
     refine ax (λ c8=>?_) (λ c8=>?_)
     ·try extract_lets
      refine ax (λ c7=>?_) (λ c7=>?_)
      ·simp only [beq_iff_eq] at c7;exact A4 (hQ _ _ ⟨sg,.inl ⟨_,rfl,(hm.ca hk1 (λ x hx y hy=>kl.trans (ltB ⋯ hp1 hx) (gb y hy))).done (.inl ⋯)⟩⟩)
      ·simp only [beq_iff_eq] at c7;exact hj1 _ _ (hm.ca hk1 (λ x hx y hy=>kl.trans (ltB ⋯ hp1 hx) (gb y hy))) ga ⋯ ⋯ ⋯
     ·exact hj1 _ _ hm (by rw [show k1=ia by omega] at ga; exact ga) ⋯ ⋯ ⋯
theorem cR (hO:bj prog w A s κ0 κ) (h0:KeysOf κ a₀) {st:SortSt} {i hi:Nat} {Q:Bool->SortSt->Prop} (hP:SP κ0 a₀ st) (hi2:i + 1 < (pendingOf st).size) (T:Tile (pendingOf st).toList 0 hi) (hh:hi<=a₀.size) (R:RS κ st)
  (h:∀st',SP κ0 a₀ st'->Tile (pendingOf st').toList 0 hi->RS κ st'->(pendingOf st').size + 1=(pendingOf st).size->(∀i,hi<=i->(arrOf st')[i]? = (arrOf st)[i]?)->Q true st'):wpS (model prog w) A E s (mergeAt' i) Q st:=by
 refine A3 (wpS_get ?_);obtain ⟨⟨sa,na,pw⟩,e1⟩:∃x,(pendingOf st)[i]? = some x:=⟨_,getElem?_pos (pendingOf st) i ⋯⟩
 obtain ⟨⟨sb,nb,pw2⟩,e2⟩:∃x,(pendingOf st)[i + 1]? = some x:=⟨_,getElem?_pos (pendingOf st) (i + 1) hi2⟩
 obtain ⟨t1,t2,t3,t4,t5⟩:=T.two (by rw [Array.getElem?_toList]; exact e1) (by rw [Array.getElem?_toList]; exact e2) pw;dsimp only at t1 t2 t3 t4 t5;have hz:=hP.size;have kd:=hP.kd h0;rw [e1,e2];dsimp only;refine A3 (qW (st2:=SortSt.mk' (kindOf st) (arrOf st) (((pendingOf st).setIfInBounds i (sa,na + nb,pw)).eraseIdxIfInBounds (i + 1)) (gallopOf st) (failedOf st)) ?_);have T2:Tile (((pendingOf st).setIfInBounds i (sa,na + nb,pw)).eraseIdxIfInBounds (i + 1)).toList 0 hi:=by simpa using t5
 generalize hst2:SortSt.mk' (kindOf st) (arrOf st) (((pendingOf st).setIfInBounds i (sa,na + nb,pw)).eraseIdxIfInBounds (i + 1)) (gallopOf st) (failedOf st)=st2;have P2:SP κ0 a₀ st2:=by subst hst2; exact ⟨hP.perm,hP.kind,hP.failed⟩
 have A2:arrOf st2=arrOf st:=by subst hst2; rfl
 have T3:Tile (pendingOf st2).toList 0 hi:=by subst hst2; exact T2
 have Z2:(pendingOf st2).size + 1=(pendingOf st).size:=by subst hst2;show (((pendingOf st).setIfInBounds i (sa,na + nb,pw)).eraseIdxIfInBounds (i + 1)).size + 1=_;rw [<- Array.length_toList,Array.toList_eraseIdxIfInBounds,Array.toList_setIfInBounds,List.length_eraseIdx,List.length_set,Array.length_toList,if_pos hi2];omega
 have m1:=B5 (show (pendingOf st).toList[i]? = some (sa,na,pw) by rw [Array.getElem?_toList]; exact e1);have m2:=B5 (show (pendingOf st).toList[i + 1]? = some (sb,nb,pw2) by rw [Array.getElem?_toList]; exact e2);have hA:=R _ m1;have hB:=R _ m2;have others:∀z∈(pendingOf st2).toList,z=(sa,na + nb,pw)\/(z∈(pendingOf st).toList/\(z.1 + z.2.1<=sa\/sb + nb<=z.1)):=by
  have e:(pendingOf st2).toList=((pendingOf st).toList.set i (sa,na + nb,pw)).eraseIdx (i + 1):=by subst hst2; simp [pendingOf,SortSt.mk']
  rw [e];exact T.others (by rw [Array.getElem?_toList]; exact e1) (by rw [Array.getElem?_toList]; exact e2)
 refine A3 (aV (arr:=arrOf st) (i:=sb) ⋯ λ p hp=>?_);refine A3 (bF (arr:=arrOf st) (base:=sa) (n:=na) hO P2.kind ⋯ ⋯ kd (kd _ _ hp) (bdv κ false p (arrOf st) sa) (ic ⋯) (dI ⋯ λ i j x y a1 a2 a3=>hA i j x y a1 a2 a3) λ k hk gT gF=>?_);have toP:∀i x,sa<=i->i < sa + k->(arrOf st)[i]? = some x->kl κ x p:=λ i x a1 a2 e=>dJ (gT (i - sa) ⋯) (by rw [show sa + (i - sa)=i by omega]; exact e);have frP:∀i x,sa + k<=i->i < sb->(arrOf st)[i]? = some x->kl κ p x:=λ i x a1 a2 e=>cI (gF (i - sa) ⋯ ⋯) (by rw [show sa + (i - sa)=i by omega]; exact e);have pB:∀i x,sb<=i->i < sb + nb->(arrOf st)[i]? = some x->kl κ p x:=λ i x a1 a2 e=>hB sb i p x (B3 _) a1 a2 hp e;dsimp only;refine ax (λ c1=>A4 (h _ P2 T3 (λ z hz=>?_) Z2 λ i _=>by rw [A2])) (λ c1=>?_)
 ·simp only [beq_iff_eq] at c1;rw [A2];rcases others z hz with rfl | ⟨hz,_⟩
  ·intro i j x y a1 a2 a3 ex ey;dsimp only at a1 a3
   by_cases ci:i < sb
   ·by_cases cj:j < sb
    ·exact hA i j x y a1 a2 (by dsimp only; omega) ex ey
    ·exact kl.trans (toP i x a1 ⋯ ex) (pB j y ⋯ ⋯ ey)
   ·exact hB i j x y (by dsimp only; omega) a2 (by dsimp only; omega) ex ey
  ·exact R z hz
 simp only [beq_iff_eq] at c1;refine A3 (aV (arr:=arrOf st) (i:=sa + k + (na - k) - 1) ⋯ λ q hq=>?_);refine A3 (bF (arr:=arrOf st) (base:=sb) (n:=nb) hO P2.kind ⋯ ⋯ kd (kd _ _ hq) (bdv κ true q (arrOf st) sb) (ic ⋯) (dI ⋯ λ i j x y a1 a2 a3=>hB i j x y a1 a2 a3) λ k2 hk2 gT2 gF2=>?_);have toQ:∀i x,sb<=i->i < sb + k2->(arrOf st)[i]? = some x->kl κ x q:=λ i x a1 a2 e=>dJ (gT2 (i - sb) ⋯) (by rw [show sb + (i - sb)=i by omega]; exact e);have frQ:∀i x,sb + k2<=i->i < sb + nb->(arrOf st)[i]? = some x->kl κ q x:=λ i x a1 a2 e=>cI (gF2 (i - sb) ⋯ ⋯) (by rw [show sb + (i - sb)=i by omega]; exact e);have aQ:∀i x,sa<=i->i < sb->(arrOf st)[i]? = some x->kl κ x q:=λ i x a1 a2 e=>hA i _ x q a1 ⋯ (by dsimp only; omega) e hq;dsimp only;refine ax (λ c2=>A4 (h _ P2 T3 (λ z hz=>?_) Z2 λ i _=>by rw [A2])) (λ c2=>?_)
 ·simp only [beq_iff_eq] at c2;rw [A2];rcases others z hz with rfl | ⟨hz,_⟩
  ·intro i j x y a1 a2 a3 ex ey;dsimp only at a1 a3
   by_cases ci:i < sb
   ·by_cases cj:j < sb
    ·exact hA i j x y a1 a2 (by dsimp only; omega) ex ey
    ·exact kl.trans (aQ i x a1 ci ex) (frQ j y ⋯ ⋯ ey)
   ·exact hB i j x y (by dsimp only; omega) a2 (by dsimp only; omega) ex ey
  ·exact R z hz
 simp only [beq_iff_eq] at c2;have fin:∀ (r:Array Keyed) (st3:SortSt),r.Perm ((arrOf st).extract (sa + k) sb ++ (arrOf st).extract sb (sb + k2))/\Srt κ r.toList->SameG st2 st3 ->
   wpS (model prog w) A E s ((modify λ (s:SortSt)=>setArr s (r.toList.zipIdx.foldl (λ a (x:Keyed×Nat)=>match x with | (p,j)=>a.setIfInBounds (sa + k + j) p) (arrOf s))) >>= λ _=>(get:StateT SortSt Sem SortSt) >>= λ s=>pure (failedOf s).isNone) Q st3:=by
  rintro r st3 ⟨hr,hsr⟩ hg;refine A3 (wpS_modify (A3 (wpS_get (A4 ?_))));have hrl:=Array.perm_iff_toList_perm.mp hr;have hlen:r.toList.length=sb + k2 - (sa + k):=by rw [hrl.length_eq]; simp; omega
  have hw:=hZ (sa + k) r.toList 0 (arrOf st3) (by rw [hg.2.1,A2,hlen]; omega);have e:failedOf st3=none:=hg.2.2.2.trans P2.failed;show Q (failedOf st3).isNone _;rw [e];refine h _ ⟨?_,hg.1.trans P2.kind,hg.2.2.2.trans P2.failed⟩ (by show Tile (pendingOf st3).toList 0 hi; rw [hg.2.2.1]; exact T3) ?_ (by show (pendingOf st3).size + 1=_; rw [hg.2.2.1]; exact Z2) ?_
  rotate_left
  ·have ar:(arrOf (setArr st3 (r.toList.zipIdx.foldl (λ a (x:Keyed×Nat)=>match x with | (p,j)=>a.setIfInBounds (sa + k + j) p) (arrOf st3)))).toList=(arrOf st).toList.take (sa + k) ++ r.toList ++ (arrOf st).toList.drop (sb + k2):=by show (r.toList.zipIdx.foldl _ (arrOf st3)).toList=_;rw [hw,hg.2.1,A2,hlen,Nat.add_zero,show sa + k + (sb + k2 - (sa + k))=sb + k2 by omega]
   intro z hz;show RunS κ (arrOf (setArr st3 (r.toList.zipIdx.foldl (λ a (x:Keyed×Nat)=>match x with | (p,j)=>a.setIfInBounds (sa + k + j) p) (arrOf st3)))) z;generalize arrOf (setArr st3 (r.toList.zipIdx.foldl (λ a (x:Keyed×Nat)=>match x with | (p,j)=>a.setIfInBounds (sa + k + j) p) (arrOf st3)))=ar' at ar ⊢;have hz:z∈(pendingOf st2).toList:=by rw [<- hg.2.2.1]; exact hz
   have tl:((arrOf st).toList.take (sa + k)).length=sa + k:=by rw [List.length_take]; simp; omega
   have out1:∀i,i < sa + k->ar'[i]? = (arrOf st)[i]? := λ i c=>by rw [<- Array.getElem?_toList,ar,List.append_assoc,List.getElem?_append_left ⋯,List.getElem?_take,if_pos c,Array.getElem?_toList]
   have in2:∀i x,sa + k<=i->i < sb + k2->ar'[i]? = some x->r.toList[i - (sa + k)]? = some x:=λ i x c1 c2 e=>by rw [<- Array.getElem?_toList,ar,List.append_assoc,List.getElem?_append_right ⋯,tl,List.getElem?_append_left ⋯] at e;exact e
   have out3:∀i,sb + k2<=i->ar'[i]? = (arrOf st)[i]? := λ i c=>by rw [<- Array.getElem?_toList,ar,List.append_assoc,List.getElem?_append_right ⋯,tl,List.getElem?_append_right ⋯,List.getElem?_drop,hlen,Array.getElem?_toList];congr 1; omega
   have memR:∀x∈r.toList,(∃i,sa + k<=i/\i < sb/\(arrOf st)[i]? = some x)\/∃i,sb<=i/\i < sb + k2/\(arrOf st)[i]? = some x:=λ x hx=>by
    have:=hrl.mem_iff.mp hx;rw [Array.toList_append] at this;rcases C2.mp this with h | h
    ·exact .inl (ig h)
    ·exact .inr (ig h)
   rcases others z hz with rfl | ⟨hz,zo⟩
   ·intro i j x y a1 a2 a3 ex ey;dsimp only at a1 a3
    by_cases ci:i < sa + k
    ·rw [out1 i ci] at ex
     by_cases cj:j < sa + k
     ·rw [out1 j cj] at ey;exact hA i j x y a1 a2 (by dsimp only; omega) ex ey
     ·refine kl.trans (toP i x a1 ci ex) ?_
      by_cases cj2:j < sb + k2
      ·rcases memR y (B5 (in2 j y ⋯ cj2 ey)) with ⟨l,l1,l2,l3⟩ | ⟨l,l1,l2,l3⟩
       ·exact frP l y l1 l2 l3
       ·exact pB l y l1 ⋯ l3
      ·rw [out3 j ⋯] at ey;exact pB j y ⋯ ⋯ ey
    ·by_cases ci2:i < sb + k2
     ·have ex':=in2 i x ⋯ ci2 ex
      by_cases cj2:j < sb + k2
      ·have ey':=in2 j y ⋯ cj2 ey;rw [Array.getElem?_toList] at ex' ey';exact Srt.at hsr ⋯ ex' ey'
      ·rw [out3 j ⋯] at ey;refine kl.trans ?_ (frQ j y ⋯ ⋯ ey);rcases memR x (B5 ex') with ⟨l,l1,l2,l3⟩ | ⟨l,l1,l2,l3⟩
       ·exact aQ l x ⋯ l2 l3
       ·exact toQ l x l1 l2 l3
     ·rw [out3 i ⋯] at ex;rw [out3 j ⋯] at ey;exact hB i j x y (by dsimp only; omega) a2 (by dsimp only; omega) ex ey
   ·intro i j x y a1 a2 a3 ex ey;have ez:∀l,z.1<=l->l < z.1 + z.2.1->ar'[l]? = (arrOf st)[l]? := λ l c1 c2=>by
     rcases zo with zo | zo
     ·exact out1 l ⋯
     ·exact out3 l ⋯
    rw [ez i a1 ⋯] at ex;rw [ez j ⋯ a3] at ey;exact R z hz i j x y a1 a2 a3 ex ey
  ·intro i hi';have tl:((arrOf st).toList.take (sa + k)).length=sa + k:=by rw [List.length_take]; simp; omega
   show (r.toList.zipIdx.foldl _ (arrOf st3))[i]? = _;rw [<- Array.getElem?_toList,hw,hg.2.1,A2,hlen,Nat.add_zero,show sa + k + (sb + k2 - (sa + k))=sb + k2 by omega,List.append_assoc,List.getElem?_append_right ⋯,tl,List.getElem?_append_right ⋯,List.getElem?_drop,hlen,Array.getElem?_toList];congr 1; omega
  refine Array.Perm.trans ?_ hP.perm;rw [Array.perm_iff_toList_perm];show List.Perm (r.toList.zipIdx.foldl _ (arrOf st3)).toList _;rw [hw,hg.2.1,A2,hlen,Nat.add_zero,show sa + k + (sb + k2 - (sa + k))=sb + k2 by omega];have e3:(arrOf st).toList=(arrOf st).toList.take (sa + k) ++ ((arrOf st).extract (sa + k) sb ++ (arrOf st).extract sb (sb + k2)).toList ++ (arrOf st).toList.drop (sb + k2):=by rw [Array.toList_append,<- List.append_assoc,cH _ ⋯,cH _ ⋯,List.take_append_drop]
  conv=>rhs; rw [e3]
  exact List.Perm.append_right _ (List.Perm.append_left _ hrl)
 have sx:((arrOf st).extract (sa + k) sb).size=sb - (sa + k):=by rw [Array.size_extract]; omega
 have sy:((arrOf st).extract sb (sb + k2)).size=k2:=by rw [Array.size_extract]; omega
 have sA:Srt κ ((arrOf st).extract (sa + k) sb).toList:=RunS.srt λ i j x y a1 a2 a3=>hA i j x y ⋯ a2 (by dsimp only; omega);have sB:Srt κ ((arrOf st).extract sb (sb + k2)).toList:=RunS.srt λ i j x y a1 a2 a3=>hB i j x y ⋯ a2 (by dsimp only; omega);have hF:∀p',((arrOf st).extract sb (sb + k2))[0]? = some p'->∀y∈((arrOf st).extract (sa + k) sb).toList,kl κ p' y:=λ p' e y hy=>by
  obtain ⟨l,l1,l2,l3⟩:=ig hy;rw [Array.getElem?_extract] at e
  split at e
  ·rw [Nat.add_zero,hp] at e; cases e;exact frP l y l1 l2 l3
  ·cases e
 have hL:∀p',((arrOf st).extract (sa + k) sb)[((arrOf st).extract (sa + k) sb).size - 1]? = some p'->∀y∈((arrOf st).extract sb (sb + k2)).toList,kl κ y p':=λ p' e y hy=>by
  obtain ⟨l,l1,l2,l3⟩:=ig hy;rw [Array.getElem?_extract] at e
  split at e
  ·rw [sx,show sa + k + (sb - (sa + k) - 1)=sa + k + (na - k) - 1 by omega,hq] at e; cases e;exact toQ l y l1 l2 l3
  ·cases e
 refine ax (λ c3=>?_) (λ c3=>?_)
 ·exact A3 (iI hO P2.kind (kd.ext _ _) (kd.ext _ _) (by rw [sx]; omega) (by rw [sy]; omega) sA sB hF hL fin)
 ·exact A3 (iJ hO P2.kind (kd.ext _ _) (kd.ext _ _) (by rw [sx]; omega) (by rw [sy]; omega) sA sB hF hL fin)
end
end PyProof.Rows
namespace PyProof.Rows
set_option autoImplicit false
open PySem
structure SQ (κ0:SortKind) (a₀:Array Keyed) (p:Array (Nat×Nat×Nat)) (lo:Nat) (aL:Array Keyed) (st:SortSt):Prop where
 sp:SP κ0 a₀ st
 pend:pendingOf st=p
 low:∀i,i < lo->(arrOf st)[i]? = aL[i]?
theorem SQ.size {κ0:SortKind} {a₀:Array Keyed} {p:Array (Nat×Nat×Nat)} {lo:Nat} {aL:Array Keyed} {st:SortSt} (h:SQ κ0 a₀ p lo aL st):(arrOf st).size=a₀.size:=h.sp.size
theorem SQ.setArr {κ0:SortKind} {a₀:Array Keyed} {p:Array (Nat×Nat×Nat)} {lo:Nat} {aL:Array Keyed} {st:SortSt} (h:SQ κ0 a₀ p lo aL st) {xs:Array Keyed} (hp:xs.Perm (arrOf st)) (hl:∀i,i < lo->xs[i]? = (arrOf st)[i]?):SQ κ0 a₀ p lo aL (setArr st xs) :=
 ⟨⟨hp.trans h.sp.perm,h.sp.kind,h.sp.failed⟩,h.pend,λ i hi=>(hl i hi).trans (h.low i hi)⟩
def KL (κ:KeyKind) (lo:Nat) (xs:Array Keyed) (i:Nat):κ.α:=KK κ xs (lo + i)
def SrtL (κ:KeyKind) (lo:Nat) (xs:Array Keyed) (k:Nat):Prop:=∀i j,i<=j->j < k->κ.kle (KL κ lo xs i) (KL κ lo xs j)
def mz (κ:KeyKind) (lo:Nat) (xs:Array Keyed) (k:Nat):Prop:=∀i j,i<=j->j < k->κ.kle (KL κ lo xs j) (KL κ lo xs i)
theorem cS {xs:Array Keyed} {i j lo:Nat} (hj:j<=xs.size) (hl:lo<=i):∀k,k < lo->(mirror xs i j ((j - i) / 2))[k]? = xs[k]? := λ k hk=>by rw [getElem?_mirror_all (i:=i) hj k,if_neg ⋯]
theorem kn {xs:Array Keyed} {src d lo:Nat} (hs:src < xs.size) (hd:d<=src) (hl:lo<=src - d):∀k,k < lo->(bubble xs src d)[k]? = xs[k]? := λ k hk=>by rw [getElem?_bubble hs d hd k,if_neg ⋯,if_neg ⋯]
theorem ii {κ:KeyKind} {xs:Array Keyed} {lo src d:Nat} (hs:lo + src < xs.size) (hd:d<=src) (k:Nat) :
  KL κ lo (bubble xs (lo + src) d) k=if k=src - d then KL κ lo xs src else if src - d < k/\k<=src then KL κ lo xs (k - 1) else KL κ lo xs k:=by
 unfold KL;rw [KK_bubble hs ⋯]
 by_cases h1:k=src - d
 ·rw [if_pos h1,if_pos ⋯]
 ·rw [if_neg h1,if_neg ⋯]
  by_cases h2:src - d < k/\k<=src
  ·rw [if_pos h2,if_pos ⋯,show lo + k - 1=lo + (k - 1) by omega]
  ·rw [if_neg h2,if_neg ⋯]
theorem im {κ:KeyKind} {xs:Array Keyed} {lo n:Nat} (hj:lo + n<=xs.size) (k:Nat) :
  KL κ lo (mirror xs lo (lo + n) ((lo + n - lo) / 2)) k=if k < n then KL κ lo xs (n - 1 - k) else KL κ lo xs k:=by
 unfold KL;rw [KK_mirror hj]
 by_cases h1:k < n
 ·rw [if_pos h1,if_pos ⋯,show lo + (lo + n) - 1 - (lo + k)=lo + (n - 1 - k) by omega]
 ·rw [if_neg h1,if_neg ⋯]
theorem bg {κ:KeyKind} {xs:Array Keyed} {lo i j:Nat} (hj:lo + j<=xs.size) (hi:lo<=i) (heq:∀k,i<=lo + k->k < j->KL κ lo xs k=KL κ lo xs (j - 1)) (k:Nat) :
  KL κ lo (mirror xs i (lo + j) ((lo + j - i) / 2)) k=KL κ lo xs k:=by
 unfold KL;refine KK_mirror_equal hj (λ k h1 h2=>?_) _;have:=heq (k - lo) ⋯ ⋯;unfold KL at this;rwa [show lo + (k - lo)=k by omega,show lo + (j - 1)=lo + j - 1 by omega] at this
def dg (lo:Nat) (a nrem:Nat):StateT SortSt Sem AscSt :=
 forIn [a:nrem] ((none,a):AscSt) λ _ __s=>do
  let __x<-ltAt' (lo + __s.snd) (lo + __s.snd - 1)
  match __x with
  | some smaller=>if smaller=true then pure (ForInStep.done (none,__s.snd)) else pure (ForInStep.yield (none,__s.snd + 1))
  | _=>pure (ForInStep.done (some none,__s.snd))
def gn (lo:Nat) (n nrem:Nat):StateT SortSt Sem (Option Nat):=do
 reverseSlice' lo (lo + n)
 let __s<-dg lo n nrem
 match __s.fst with
 | some r=>pure r
 | none=>pure (some __s.snd)
def dL (lo:Nat) (n nrem:Nat):StateT SortSt Sem DescSt :=
 forIn [n:nrem] ((none,n,0):DescSt) λ _ __s=>do
  let __x<-ltAt' (lo + __s.snd.fst) (lo + __s.snd.fst - 1)
  match __x with
  | some smaller =>
   if smaller=true then
    if __s.snd.snd > 0 then do
     reverseSlice' (lo + __s.snd.fst - (__s.snd.snd + 1)) (lo + __s.snd.fst)
     pure (ForInStep.yield (none,__s.snd.fst + 1,0))
    else pure (ForInStep.yield (none,__s.snd.fst + 1,0))
   else do
    let __x<-ltAt' (lo + __s.snd.fst - 1) (lo + __s.snd.fst)
    match __x with
    | some larger =>
     if larger=true then pure (ForInStep.done (none,__s.snd.fst,__s.snd.snd))
     else pure (ForInStep.yield (none,__s.snd.fst + 1,__s.snd.snd + 1))
    | _=>pure (ForInStep.done (some none,__s.snd.fst,__s.snd.snd))
  | _=>pure (ForInStep.done (some none,__s.snd.fst,__s.snd.snd))
def cJ (lo:Nat) (n nrem:Nat):StateT SortSt Sem (Option Nat):=do
 liftM (rule "list.sort.descending-run")
 let __s<-dL lo (n + 1) nrem
 match __s.fst with
 | some r=>pure r
 | none =>
  if __s.snd.snd > 0 then do
   reverseSlice' (lo + __s.snd.fst - (__s.snd.snd + 1)) (lo + __s.snd.fst)
   gn lo __s.snd.fst nrem
  else gn lo __s.snd.fst nrem
theorem iK (lo nrem:Nat):countRun' lo nrem=(do
  let __s<-dg lo 1 nrem
  match __s.fst with
  | some r=>pure r
  | none =>
   if (__s.snd == nrem)=true then pure (some __s.snd)
   else if __s.snd > 1 then do
    let __x<-ltAt' lo (lo + __s.snd - 1)
    match __x with
    | some rose=>if rose=true then pure (some __s.snd) else do
      reverseSlice' lo (lo + __s.snd)
      cJ lo __s.snd nrem
    | _=>pure none
   else cJ lo __s.snd nrem):=by
 rw [countRun'_eq];dsimp only;unfold cJ gn dL dg;congr 1
 funext __s
 obtain ⟨r,n⟩:=__s;cases r with
 | some r=>rfl
 | none =>
  dsimp only
  split
  ·rfl
  ·split
   ·congr 1
    funext x
    cases x with
    | none=>rfl
    | some rose =>
     dsimp only
     split
     ·rfl
     ·congr 1
      funext _r
      congr 1
      funext _u
      congr 1;congr 1
      funext s2
      obtain ⟨r2,n2,q2⟩:=s2;cases r2 with
      | some r2=>rfl
      | none =>
       dsimp only
       split
       ·congr 1
        funext _v
        (congr 1; funext _w; congr 1; (funext s3; obtain ⟨r3,n3⟩:=s3; cases r3 <;> rfl))
       ·(congr 1; funext _w; congr 1; (funext s3; obtain ⟨r3,n3⟩:=s3; cases r3 <;> rfl))
   ·congr 1
    funext _u
    congr 1;congr 1
    funext s2
    obtain ⟨r2,n2,q2⟩:=s2;cases r2 with
    | some r2=>rfl
    | none =>
     dsimp only
     split
     ·congr 1
      funext _v
      (congr 1; funext _w; congr 1; (funext s3; obtain ⟨r3,n3⟩:=s3; cases r3 <;> rfl))
     ·(congr 1; funext _w; congr 1; (funext s3; obtain ⟨r3,n3⟩:=s3; cases r3 <;> rfl))
section
variable {prog:EQ} {w:ES} {A:Around} {E:ET->EO->Prop} {s:EO} {a₀:Array Keyed} {κ:KeyKind} {κ0:SortKind}
theorem eK {st:SortSt} {p:Array (Nat×Nat×Nat)} {lo:Nat} {aL:Array Keyed} {i j i' j':Nat} {Q:Option Bool->SortSt->Prop} (hO:bj prog w A s κ0 κ) (hB:SQ κ0 a₀ p lo aL st) (h0:KeysOf κ a₀) (ei:i'=lo + i) (ej:j'=lo + j) (hi:lo + i < a₀.size) (hj:lo + j < a₀.size)
  (h:Q (some (κ.blt (KL κ lo (arrOf st) i) (KL κ lo (arrOf st) j))) st):wpS (model prog w) A E s (ltAt' i' j') Q st:=by
 subst ei ej;have kd:=hB.sp.kd h0;have hz:=hB.size;obtain ⟨x,ex⟩:∃x,(arrOf st)[lo + i]? = some x:=⟨_,Array.getElem?_eq_getElem ⋯⟩
 obtain ⟨y,ey⟩:∃y,(arrOf st)[lo + j]? = some y:=⟨_,Array.getElem?_eq_getElem ⋯⟩
 obtain ⟨a,ha⟩:=kd _ _ ex;obtain ⟨b,hb⟩:=kd _ _ ey;have e1:KL κ lo (arrOf st) i=a:=by unfold KL KK; rw [ex]; dsimp only; rw [ha]; rfl
 have e2:KL κ lo (arrOf st) j=b:=by unfold KL KK; rw [ey]; dsimp only; rw [hb]; rfl
 rw [e1,e2] at h;exact kj hO hB.sp.kind (x:=x.1) (p:=x.2) (y:=y.1) (q:=y.2) ex ey ha hb h
theorem fB {st:SortSt} {p:Array (Nat×Nat×Nat)} {lo:Nat} {aL:Array Keyed} {n ok:Nat} {Q:Bool->SortSt->Prop} (hO:bj prog w A s κ0 κ) (h0:KeysOf κ a₀) (hn:lo + n<=a₀.size) (hok:ok<=n) (hB:SQ κ0 a₀ p lo aL st) (hs:SrtL κ lo (arrOf st) ok)
  (h:∀st',SQ κ0 a₀ p lo aL st'->SrtL κ lo (arrOf st') n->Q true st'):wpS (model prog w) A E s (binarySort' lo n ok) Q st:=by
 rw [binarySort'_eq];refine A3 (wpS_mono (wpS_forRange (I:=λ k c st'=>c=(none,())/\SQ κ0 a₀ p lo aL st'/\SrtL κ lo (arrOf st') (min k n))
  (Q:=λ c st'=>c=(none,())/\SQ κ0 a₀ p lo aL st'/\SrtL κ lo (arrOf st') n) ?step ?fin ?init) ?post)
 case post =>
  rintro c st' ⟨rfl,hB',hs'⟩;exact A4 (h st' hB' hs')
 case init =>
  refine ⟨Y,hB,λ i j hij hj=>?_⟩
  by_cases h1:ok=0
  ·have:i=j:=⋯
   subst this; exact KeyOrd.kle_refl _
  ·exact hs i j hij ⋯
 case fin =>
  rintro c st' ⟨hc,hB',hs'⟩;refine ⟨hc,hB',?_⟩;rwa [show min (max (max ok 1) n) n=n by omega] at hs'
 case step =>
  rintro k c st' hak hkn ⟨rfl,hB',hs'⟩;rw [show min k n=k by omega] at hs';have hk:lo + k < a₀.size:=⋯
  refine A3 (wpS_mono (wpS_forRange (I:=λ x c st''=>st''=st'/\∃l r,c=(none,l,r)/\l<=r/\r<=k/\r - l<=k - x /\
    (∀i,i < l->κ.kle (KL κ lo (arrOf st') i) (KL κ lo (arrOf st') k))/\(∀i,r<=i->i < k->κ.klt (KL κ lo (arrOf st') k) (KL κ lo (arrOf st') i)))
   (Q:=λ c st''=>st''=st'/\∃l r,c=(none,l,r)/\l<=k /\
    (∀i,i < l->κ.kle (KL κ lo (arrOf st') i) (KL κ lo (arrOf st') k))/\(∀i,l<=i->i < k->κ.klt (KL κ lo (arrOf st') k) (KL κ lo (arrOf st') i))) ?istep ?ifin ?iinit) ?ipost)
  case iinit=>exact ⟨Y,0,k,Y,⋯,⋯,⋯,λ i hi=>⋯,λ i h1 h2=>⋯⟩
  case ifin =>
   rintro c st'' ⟨rfl,l,r,rfl,hlr,hrk,hm,hlo,hhi⟩;have:l=r:=⋯
   subst this;exact ⟨Y,l,l,Y,hrk,hlo,hhi⟩
  case istep =>
   rintro x c st'' _ hxk ⟨rfl,l,r,rfl,hlr,hrk,hm,hlo,hhi⟩;dsimp only
   by_cases hge:l≥r
   ·rw [if_pos hge];have:l=r:=⋯
    subst this;exact A4 ⟨rfl,l,l,rfl,hrk,hlo,hhi⟩
   ·rw [if_neg hge];refine A3 (eK (i:=k) (j:=(l + r) / 2) hO hB' h0 rfl rfl hk ⋯ ?_);cases hless:κ.blt (KL κ lo (arrOf st'') k) (KL κ lo (arrOf st'') ((l + r) / 2))
    case true =>
     simp only [if_true];refine A4 ⟨rfl,l,(l + r) / 2,rfl,⋯,⋯,⋯,hlo,λ i h1 h2=>?_⟩;exact KeyOrd.klt_of_klt_of_kle hless (hs' _ _ h1 h2)
    case false =>
     simp only [Bool.false_eq_true,if_false];refine A4 ⟨rfl,(l + r) / 2 + 1,r,rfl,⋯,⋯,⋯,λ i h1=>?_,hhi⟩;exact KeyOrd.kle_trans (hs' i ((l + r) / 2) ⋯ ⋯) (show κ.kle _ _ from hless)
  case ipost =>
   rintro c st'' ⟨rfl,l,r,rfl,hlk,hlo,hhi⟩;show wpS _ _ _ _ (do moveDown' (lo + k) (lo + l); pure (ForInStep.yield (none,()))) _ _;rw [moveDown'_eq];refine A3 (wpS_modify (A4 ⟨rfl,hB'.setArr (bubble_perm _ _ _) (kn (by rw [hB'.size]; omega) ⋯ ⋯),?_⟩));rw [show min (k + 1) n=k + 1 by omega];have hks:lo + k < (arrOf st'').size:=by rw [hB'.size]; exact hk
   intro i j hij hj;show κ.kle (KL κ lo (bubble (arrOf st'') (lo + k) (lo + k - (lo + l))) i) (KL κ lo (bubble (arrOf st'') (lo + k) (lo + k - (lo + l))) j);rw [show lo + k - (lo + l)=k - l by omega,ii hks ⋯,ii hks ⋯,show k - (k - l)=l by omega]
   repeat' split
   all_goals first
    | (exfalso; omega)
    | exact KeyOrd.kle_refl _
    | exact hlo _ ⋯
    | exact KeyOrd.kle_of_klt (hhi _ ⋯ ⋯)
    | exact hs' _ _ ⋯ ⋯
theorem eL {st:SortSt} {p:Array (Nat×Nat×Nat)} {lo:Nat} {aL:Array Keyed} {a nrem:Nat} {Q:AscSt->SortSt->Prop} (hO:bj prog w A s κ0 κ) (h0:KeysOf κ a₀) (hn:lo + nrem<=a₀.size) (ha:1<=a) (han:a<=nrem) (hB:SQ κ0 a₀ p lo aL st)
  (hs:SrtL κ lo (arrOf st) a)
  (h:∀n,a<=n->n<=nrem->SrtL κ lo (arrOf st) n->(n=nrem\/κ.klt (KL κ lo (arrOf st) n) (KL κ lo (arrOf st) (n - 1)))->Q (none,n) st) :
  wpS (model prog w) A E s (dg lo a nrem) Q st:=by
 unfold dg;refine wpS_forRange (I:=λ x c st'=>st'=st/\c=(none,x)/\SrtL κ lo (arrOf st) x) ?step ?fin ⟨rfl,rfl,hs⟩
 case fin =>
  rintro c st' ⟨rfl,rfl,hs'⟩;rw [show max a nrem=nrem by omega] at hs' ⊢;exact h nrem han (B3 _) hs' (.inl rfl)
 case step =>
  rintro x c st' hax hxn ⟨rfl,rfl,hs'⟩;dsimp only;refine A3 (eK (i:=x) (j:=x - 1) hO hB h0 rfl ⋯ ⋯ ⋯ ?_);cases hless:κ.blt (KL κ lo (arrOf st') x) (KL κ lo (arrOf st') (x - 1))
  case true =>
   simp only [if_true];exact A4 (h x hax ⋯ hs' (.inr hless))
  case false =>
   simp only [Bool.false_eq_true,if_false];refine A4 ⟨rfl,rfl,λ i j hij hj=>?_⟩
   by_cases hjx:j < x
   ·exact hs' i j hij hjx
   ·have hj':j=x:=⋯
    subst hj'
    by_cases hi':i=j
    ·subst hi'; exact KeyOrd.kle_refl _
    ·exact KeyOrd.kle_trans (hs' i (j - 1) ⋯ ⋯) hless
theorem gp {st:SortSt} {p:Array (Nat×Nat×Nat)} {lo:Nat} {aL:Array Keyed} {n nrem:Nat} {Q:Option Nat->SortSt->Prop} (hO:bj prog w A s κ0 κ) (h0:KeysOf κ a₀) (hn:lo + nrem<=a₀.size) (h1:1<=n) (hnn:n<=nrem) (hB:SQ κ0 a₀ p lo aL st)
  (hs:mz κ lo (arrOf st) n) (h:∀m st',SQ κ0 a₀ p lo aL st'->1<=m->m<=nrem->SrtL κ lo (arrOf st') m->Q (some m) st') :
  wpS (model prog w) A E s (gn lo n nrem) Q st:=by
 unfold gn;have hsz:lo + n<=(arrOf st).size:=by rw [hB.size]; omega
 refine A3 (wpS_reverse ?_);have hB':SQ κ0 a₀ p lo aL (setArr st (mirror (arrOf st) lo (lo + n) ((lo + n - lo) / 2))):=hB.setArr (mirror_perm _ _ _ _) (cS hsz ⋯);refine A3 (eL hO h0 hn h1 hnn hB' ?_ λ m hm1 hm2 hsm _=>A4 (h m _ hB' ⋯ hm2 hsm));intro i j hij hj;show κ.kle (KL κ lo (mirror (arrOf st) lo (lo + n) ((lo + n - lo) / 2)) i) (KL κ lo (mirror (arrOf st) lo (lo + n) ((lo + n - lo) / 2)) j);rw [im hsz,im hsz,if_pos ⋯,if_pos ⋯];exact hs _ _ ⋯ ⋯
theorem gI {st:SortSt} {p:Array (Nat×Nat×Nat)} {lo:Nat} {aL:Array Keyed} {n nrem:Nat} {Q:DescSt->SortSt->Prop} (hO:bj prog w A s κ0 κ) (h0:KeysOf κ a₀) (hn:lo + nrem<=a₀.size) (h1:1<=n) (hnn:n<=nrem) (hB:SQ κ0 a₀ p lo aL st)
  (hs:mz κ lo (arrOf st) n)
  (h:∀m neq st',SQ κ0 a₀ p lo aL st'->n<=m->m<=nrem->mz κ lo (arrOf st') m->neq + 1<=m->(∀i,m - (neq + 1)<=i->i < m->KL κ lo (arrOf st') i=KL κ lo (arrOf st') (m - 1))->Q (none,m,neq) st') :
  wpS (model prog w) A E s (dL lo n nrem) Q st:=by
 unfold dL;refine wpS_forRange (I:=λ x c st'=>∃neq,c=(none,x,neq)/\SQ κ0 a₀ p lo aL st'/\mz κ lo (arrOf st') x/\neq + 1<=x /\
   (∀i,x - (neq + 1)<=i->i < x->KL κ lo (arrOf st') i=KL κ lo (arrOf st') (x - 1))) ?step ?fin ⟨0,rfl,hB,hs,⋯,λ i h1 h2=>by congr 1; omega⟩
 case fin =>
  rintro c st' ⟨neq,rfl,hB',hs',hq,he⟩;rw [show max n nrem=nrem by omega] at hs' hq he ⊢;exact h nrem neq st' hB' hnn (B3 _) hs' hq he
 case step =>
  rintro x c st' hax hxn ⟨neq,rfl,hB',hs',hq,he⟩;dsimp only;have hsz:lo + x<=(arrOf st').size:=by rw [hB'.size]; omega
  refine A3 (eK (i:=x) (j:=x - 1) hO hB' h0 rfl ⋯ ⋯ ⋯ ?_);cases hless:κ.blt (KL κ lo (arrOf st') x) (KL κ lo (arrOf st') (x - 1))
  case true =>
   simp only [if_true];have step1:∀xs:Array Keyed,(∀k,KL κ lo xs k=KL κ lo (arrOf st') k)->mz κ lo xs (x + 1):=by
    intro xs hk i j hij hj;rw [hk,hk]
    by_cases hjx:j < x
    ·exact hs' i j hij hjx
    ·have hj':j=x:=⋯
     subst hj'
     by_cases hi':i=j
     ·subst hi'; exact KeyOrd.kle_refl _
     ·exact KeyOrd.kle_trans (KeyOrd.kle_of_klt hless) (hs' i (j - 1) ⋯ ⋯)
   by_cases hneq:neq > 0
   ·rw [if_pos hneq];refine A3 (wpS_reverse (A4 ⟨0,rfl,hB'.setArr (mirror_perm _ _ _ _) (cS hsz ⋯),step1 _ (bg hsz ⋯ (λ k h1 h2=>he k ⋯ h2)),⋯,λ i h1 h2=>by congr 1; omega⟩))
   ·rw [if_neg hneq];exact A4 ⟨0,rfl,hB',step1 _ (λ _=>rfl),⋯,λ i h1 h2=>by congr 1; omega⟩
  case false =>
   simp only [Bool.false_eq_true,if_false];refine A3 (eK (i:=x - 1) (j:=x) hO hB' h0 ⋯ rfl ⋯ ⋯ ?_);cases hlarger:κ.blt (KL κ lo (arrOf st') (x - 1)) (KL κ lo (arrOf st') x)
   case true =>
    simp only [if_true];exact A4 (h x neq st' hB' hax ⋯ hs' hq he)
   case false =>
    simp only [Bool.false_eq_true,if_false];have heqx:KL κ lo (arrOf st') x=KL κ lo (arrOf st') (x - 1):=KeyOrd.kle_antisymm hlarger hless;refine A4 ⟨neq + 1,rfl,hB',λ i j hij hj=>?_,⋯,λ i h1 h2=>?_⟩
    ·by_cases hjx:j < x
     ·exact hs' i j hij hjx
     ·have hj':j=x:=⋯
      subst hj'
      by_cases hi':i=j
      ·subst hi'; exact KeyOrd.kle_refl _
      ·rw [heqx]; exact hs' i (j - 1) ⋯ ⋯
    ·rw [show x + 1 - 1=x by omega]
     by_cases hix:i=x
     ·subst hix; rfl
     ·rw [heqx]; exact he i ⋯ ⋯
theorem ec {st:SortSt} {p:Array (Nat×Nat×Nat)} {lo:Nat} {aL:Array Keyed} {n nrem:Nat} {Q:Option Nat->SortSt->Prop} (hO:bj prog w A s κ0 κ) (h0:KeysOf κ a₀) (hn:lo + nrem<=a₀.size) (hnn:n + 1<=nrem) (hB:SQ κ0 a₀ p lo aL st)
  (hs:mz κ lo (arrOf st) (n + 1)) (h:∀m st',SQ κ0 a₀ p lo aL st'->1<=m->m<=nrem->SrtL κ lo (arrOf st') m->Q (some m) st') :
  wpS (model prog w) A E s (cJ lo n nrem) Q st:=by
 unfold cJ;refine A3 (wpS_lift (wpAny_rule ⟨rfl,?_⟩));refine A3 (gI hO h0 hn ⋯ hnn hB hs λ m neq st' hB' hm1 hm2 hs' hq he=>?_);dsimp only;have hsz:lo + m<=(arrOf st').size:=by rw [hB'.size]; omega
 by_cases hneq:neq > 0
 ·rw [if_pos hneq];refine A3 (wpS_reverse (gp hO h0 hn ⋯ hm2 (hB'.setArr (mirror_perm _ _ _ _) (cS hsz ⋯)) ?_ h));intro i j hij hj;show κ.kle (KL κ lo (mirror (arrOf st') _ _ _) j) (KL κ lo (mirror (arrOf st') _ _ _) i);rw [bg hsz ⋯ (λ k h1 h2=>he k ⋯ h2),bg hsz ⋯ (λ k h1 h2=>he k ⋯ h2)];exact hs' i j hij hj
 ·rw [if_neg hneq];exact gp hO h0 hn ⋯ hm2 hB' hs' h
theorem gJ {st:SortSt} {p:Array (Nat×Nat×Nat)} {lo:Nat} {aL:Array Keyed} {nrem:Nat} {Q:Option Nat->SortSt->Prop} (hO:bj prog w A s κ0 κ) (h0:KeysOf κ a₀) (hn:lo + nrem<=a₀.size) (h1:1<=nrem) (hB:SQ κ0 a₀ p lo aL st)
  (h:∀m st',SQ κ0 a₀ p lo aL st'->1<=m->m<=nrem->SrtL κ lo (arrOf st') m->Q (some m) st') :
  wpS (model prog w) A E s (countRun' lo nrem) Q st:=by
 rw [iK];refine A3 (eL hO h0 hn (B3 1) h1 hB (λ i j hij hj=>by have:i=j:=⋯; subst this; exact KeyOrd.kle_refl _) λ n hn1 hn2 hsn hor=>?_);dsimp only
 by_cases hnn:n=nrem
 ·rw [if_pos (by simpa using hnn)];exact A4 (h n st hB hn1 hn2 hsn)
 ·rw [if_neg (by simpa using hnn)];have hlt:κ.klt (KL κ lo (arrOf st) n) (KL κ lo (arrOf st) (n - 1)):=hor.resolve_left hnn
  by_cases hgt:n > 1
  ·rw [if_pos hgt];refine A3 (eK (i:=0) (j:=n - 1) hO hB h0 rfl ⋯ ⋯ ⋯ ?_);cases hrose:κ.blt (KL κ lo (arrOf st) 0) (KL κ lo (arrOf st) (n - 1))
   case true =>
    simp only [if_true];exact A4 (h n st hB hn1 hn2 hsn)
   case false =>
    simp only [Bool.false_eq_true,if_false];have hsz:lo + n<=(arrOf st).size:=by rw [hB.size]; omega
    have hall:∀k,0<=k->k < n->KL κ lo (arrOf st) k=KL κ lo (arrOf st) (n - 1):=by intro k _ hk;have a1:=hsn 0 k ⋯ hk;have a2:=hsn k (n - 1) ⋯ ⋯;exact KeyOrd.kle_antisymm a2 (KeyOrd.kle_trans hrose a1)
    refine A3 (wpS_reverse (ec hO h0 hn ⋯ (hB.setArr (mirror_perm _ _ _ _) (cS hsz ⋯)) ?_ h));intro i j hij hj;show κ.kle (KL κ lo (mirror (arrOf st) _ _ _) j) (KL κ lo (mirror (arrOf st) _ _ _) i);rw [bg hsz ⋯ (λ k h1 h2=>hall k ⋯ h2),bg hsz ⋯ (λ k h1 h2=>hall k ⋯ h2)]
    by_cases hjn:j < n
    ·rw [hall i ⋯ ⋯,hall j ⋯ hjn]; exact KeyOrd.kle_refl _
    ·have hj':j=n:=⋯
     subst hj'
     by_cases hi':i=j
     ·subst hi'; exact KeyOrd.kle_refl _
     ·rw [hall i ⋯ ⋯]; exact KeyOrd.kle_of_klt hlt
  ·rw [if_neg hgt];have hn1':n=1:=⋯
   subst hn1';refine ec hO h0 hn ⋯ hB ?_ h;intro i j hij hj
   by_cases hi':i=j
   ·subst hi'; exact KeyOrd.kle_refl _
   ·have hi0:i=0:=⋯
    have hj1:j=1:=⋯
    subst hi0; subst hj1;exact KeyOrd.kle_of_klt hlt
end
end PyProof.Rows
namespace PyProof.Rows
set_option autoImplicit false
open PySem
theorem Tile.inn:∀ {l:List (Nat×Nat×Nat)} {lo hi:Nat} {z:Nat×Nat×Nat},Tile l lo hi->z∈l->z.1 + z.2.1<=hi
 | x :: l,lo,hi,z,T,h=>by
  obtain ⟨T1,T2,T3⟩:=T;rcases List.mem_cons.mp h with rfl | h
  ·have:=T3.le; omega
  ·exact Tile.inn T3 h
theorem Tile.len:∀ {l:List (Nat×Nat×Nat)} {lo hi:Nat},Tile l lo hi->lo + l.length<=hi
 | [],lo,hi,T=>by have:lo=hi:=T; simp; omega
 | x :: l,lo,hi,T=>by obtain ⟨T1,T2,T3⟩:=T;have:=Tile.len T3;rw [List.length_cons]; omega
section
variable {prog:EQ} {w:ES} {A:Around} {E:ET->EO->Prop} {s:EO} {κ:KeyKind} {κ0:SortKind} {a₀:Array Keyed}
theorem lD {xs:Array Keyed} {i:Nat} {p:Keyed} (e:xs[i]? = some p):KK κ xs i=ky κ p:=by unfold KK ky; rw [e]
theorem SrtL.run {lo n q:Nat} {xs:Array Keyed} (h:SrtL κ lo xs n):RunS κ xs (lo,n,q):=λ i j x y a1 a2 a3 ex ey=>by dsimp only at a1 a3;have:=h (i - lo) (j - lo) ⋯ ⋯;unfold KL at this;rw [show lo + (i - lo)=i by omega,show lo + (j - lo)=j by omega,lD ex,lD ey] at this;exact this
theorem RS.low {st st':SortSt} {lo:Nat} (h:RS κ st) (T:Tile (pendingOf st).toList 0 lo) (e:pendingOf st'=pendingOf st) (l:∀i,i < lo->(arrOf st')[i]? = (arrOf st)[i]?):RS κ st':=λ z hz i j x y a1 a2 a3 ex ey=>by rw [e] at hz;have:=T.inn hz;rw [l i ⋯] at ex;rw [l j ⋯] at ey;exact h z hz i j x y a1 a2 a3 ex ey
theorem RS.push {st:SortSt} {p:Array (Nat×Nat×Nat)} {x:Nat×Nat×Nat} (h:∀z∈p.toList,RunS κ (arrOf st) z) (hx:RunS κ (arrOf st) x):∀z∈(p.push x).toList,RunS κ (arrOf st) z:=λ z hz=>by
 rw [Array.toList_push] at hz;rcases C2.mp hz with hz | hz
 ·exact h z hz
 ·rw [List.mem_singleton.mp hz]; exact hx
theorem RS.upd {xs:Array Keyed} {f:Nat×Nat×Nat->Nat×Nat×Nat} (hf:∀x,(f x).1=x.1/\(f x).2.1=x.2.1) {p:Array (Nat×Nat×Nat)} {k:Nat} (h:∀z∈p.toList,RunS κ xs z):∀z∈(p.modify k f).toList,RunS κ xs z:=λ z hz=>by
 rw [Array.toList_modify] at hz;obtain ⟨j,hj⟩:=List.getElem?_of_mem hz;rw [List.getElem?_modify] at hj;cases e:p.toList[j]? with
 | none=>rw [e] at hj; cases hj
 | some y =>
  rw [e] at hj;have my:=h y (B5 e);simp only [Option.map_eq_map,Option.map_some,Option.some.injEq] at hj
  split at hj
  ·subst hj;intro i j x w a1 a2 a3 ex ew;exact my i j x w (by rw [<- (hf y).1]; exact a1) a2 (by rw [<- (hf y).1,<- (hf y).2]; exact a3) ex ew
  ·subst hj; exact my
theorem gK (hO:bj prog w A s κ0 κ) (h0:KeysOf κ a₀) {st:SortSt} {Q:Unit->SortSt->Prop} (hP:SPp κ0 a₀ #[] st)
  (h:∀st',SP κ0 a₀ st'->SortedToK κ (arrOf st') a₀.size->Q () st'):wpS (model prog w) A E s sortRuns' Q st:=by
 refine A3 (wpS_get ?_);have hz:(arrOf st).size=a₀.size:=hP.1.size;refine A3 (wpS_mono (wpS_forRange (I:=λ x c st'=>c.1=none/\SP κ0 a₀ st'/\Tile (pendingOf st').toList 0 c.2/\c.2<=a₀.size/\RS κ st'/\x<=c.2) (Q:=λ c st'=>c.1=none/\SP κ0 a₀ st'/\Tile (pendingOf st').toList 0 c.2/\c.2=a₀.size/\RS κ st') ?step (λ c _ z=>⟨z.1,z.2.1,z.2.2.1,by have a:=z.2.2.2.1; have b:=z.2.2.2.2.2; have c2:(arrOf st).size<=c.2:=C5 (Nat.le_max_right 0 _) b; omega,z.2.2.2.2.1⟩) ⟨rfl,hP.1,by rw [hP.2]; rfl,EH _,(λ z hz=>by rw [hP.2] at hz; cases hz),B3 _⟩) ?post)
 case post =>
  rintro ⟨r,lo⟩ st1 ⟨g1,P1,T1,l1,R1⟩;dsimp only at g1 T1 l1 ⊢;subst g1;have T1':=T1.len;rw [Array.length_toList] at T1';refine A3 (wpS_mono (wpS_forRange (I:=λ x c st'=>c.1=none/\SP κ0 a₀ st'/\Tile (pendingOf st').toList 0 lo/\RS κ st'/\(pendingOf st').size + x<=a₀.size) (Q:=λ c st'=>c.1=none/\SP κ0 a₀ st'/\Tile (pendingOf st').toList 0 lo/\RS κ st'/\(pendingOf st').size<=1) ?_ (λ _ st' z=>⟨z.1,z.2.1,z.2.2.1,z.2.2.2.1,by have b:(pendingOf st').size + (arrOf st).size<=a₀.size:=C5 (Nat.add_le_add_left (Nat.le_max_right 0 _) _) z.2.2.2.2; omega⟩) ⟨rfl,P1,T1,R1,⋯⟩) ?_)
  ·rintro i ⟨r,u⟩ st2 _ _ ⟨g1,P2,T2,R2,z2⟩;refine A3 (wpS_get ?_);refine ax (λ c1=>A4 ⟨rfl,P2,T2,R2,c1⟩) (λ c1=>?_);have c2:1 < (pendingOf st2).size:=Nat.lt_of_not_le c1;refine A3 (cR hO h0 P2 ?_ T2 ⋯ R2 λ st3 P3 T3 R3 z3 _=>?_)
   ·have ie:∀ (c:Prop) [Decidable c] (x y z:Nat),x < z->y < z->(if c then x else y) < z:=λ c _ x y z h1 h2=>by split <;> assumption
    exact C1 (Nat.add_lt_add_right (ie _ _ _ _ (show (pendingOf st2).size - 2 - 1 < (pendingOf st2).size - 1 by omega) (show (pendingOf st2).size - 2 < (pendingOf st2).size - 1 by omega)) 1) ⋯
   ·exact ax (λ c3=>absurd c3 ∅) (λ c3=>A4 ⟨rfl,P3,T3,R3,⋯⟩)
  ·rintro ⟨r,u⟩ st2 ⟨g1,P2,T2,R2,z2⟩;dsimp only at g1 ⊢;subst g1;refine A4 (h _ P2 ?_);have sz:=P2.size;intro i j ij hj;obtain ⟨x,ex⟩:∃x,(arrOf st2)[i]? = some x:=⟨_,Array.getElem?_eq_getElem ⋯⟩
   obtain ⟨y,ey⟩:∃y,(arrOf st2)[j]? = some y:=⟨_,Array.getElem?_eq_getElem ⋯⟩
   rw [lD ex,lD ey];cases e:(pendingOf st2).toList with
   | nil =>
    rw [e] at T2;have:0=lo:=T2;omega
   | cons z l =>
    have hl:l=[]:=by rw [<- Array.length_toList,e,List.length_cons] at z2;exact List.eq_nil_of_length_eq_zero ⋯
    subst hl;rw [e] at T2;obtain ⟨t1,t2,t3⟩:=T2;have t3':z.1 + z.2.1=lo\/0 + z.2.1=lo:=by first | exact .inl t3 | exact .inr t3
    exact R2 z (by rw [e]; exact B7) i j x y ⋯ ij ⋯ ex ey
 case step =>
  rintro i ⟨r,lo⟩ st1 _ _ ⟨g1,P1,T1,l1,R1,x1⟩;dsimp only at g1 T1 l1 x1 ⊢;refine ax (λ c1=>?_) (λ c1=>?_)
  ·have c1':(arrOf st).size<=lo:=c1;exact A4 ⟨rfl,P1,T1,by dsimp only; omega,R1⟩
  have c2:lo < a₀.size:=by have:¬ (arrOf st).size<=lo:=c1; omega
  refine A3 (gJ hO h0 (lo:=lo) (nrem:=(arrOf st).size - lo) (p:=pendingOf st1) (aL:=arrOf st1) ⋯ ⋯ ⟨P1,rfl,λ _ _=>rfl⟩ λ n st2 P2 n1 n2 S2=>?_);have hz':=hz;unfold arrOf at hz' n2;rw [hz'] at n2;simp only [hz'];refine ax (λ c3=>?_) (λ c3=>?_)
  ·refine A3 (wpS_lift (wpAny_rule ⟨rfl,?_⟩));obtain ⟨mn,hmn⟩:∃mn,min (a₀.size - lo) (minRun' a₀.size a₀.size 0)=mn:=⟨_,Y⟩
   have h1mn:1<=mn/\lo + mn<=a₀.size/\n<=mn:=by have:n < minRun' a₀.size a₀.size 0:=c3;omega
   unfold minRun' at hmn;simp only [hmn];refine A3 (fB hO h0 (lo:=lo) (n:=mn) (ok:=n) (p:=pendingOf st1) (aL:=arrOf st1) ⋯ ⋯ P2 S2 λ st3 P3 S3=>?_);refine ax (λ c4=>absurd c4 ∅) (λ c4=>?_);have nx:1<=mn/\lo + mn<=a₀.size:=⋯
   have TX:Tile (pendingOf st3).toList 0 lo:=by rw [P3.pend]; exact T1
   have RX:RS κ st3:=R1.low T1 P3.pend P3.low;refine A3 (wpS_get ?_)
   split
   ·refine A3 (wpS_mono (wpS_forRange (I:=λ _ c st'=>c.1=none/\SP κ0 a₀ st'/\Tile (pendingOf st').toList 0 lo/\RS κ st'/\∀i,lo<=i->(arrOf st')[i]? = (arrOf st3)[i]?) (Q:=λ c st'=>c.1=none/\SP κ0 a₀ st'/\Tile (pendingOf st').toList 0 lo/\RS κ st'/\∀i,lo<=i->(arrOf st')[i]? = (arrOf st3)[i]?) ?_ (λ _ _ z=>z) ⟨rfl,P3.sp,TX,RX,λ _ _=>rfl⟩) ?_)
    ·rintro i ⟨r,u⟩ st4 _ _ ⟨_,P4,T4,R4,u4⟩;refine A3 (wpS_get ?_)
     split
     ·rename_i he
      refine ax (λ c5=>A4 ⟨rfl,P4,T4,R4,u4⟩) (λ c5=>?_);refine A3 (cR hO h0 P4 ?_ T4 l1 R4 λ st5 P5 T5 R5 _ u5=>?_)
      ·have z:1 < (pendingOf st4).size:=by
        split at he
        ·assumption
        ·cases he
       show (pendingOf st4).size - 2 + 1 < (pendingOf st4).size;omega
      ·exact ax (λ c=>absurd c ∅) (λ _=>A4 ⟨rfl,P5,T5,R5,λ i hi=>(u5 i hi).trans (u4 i hi)⟩)
     ·exact A4 ⟨rfl,P4,T4,R4,u4⟩
    ·rintro ⟨r,u⟩ st4 ⟨g1,P4,T4,R4,u4⟩;dsimp only at g1 ⊢;subst g1;have X4:RunS κ (arrOf st4) (lo,mn,0):=λ i j x y a1 a2 a3 ex ey=>by rw [u4 i a1] at ex;rw [u4 j (Nat.le_trans a1 a2)] at ey;exact S3.run i j x y a1 a2 a3 ex ey
     refine A3 (wpS_modify ?_);refine A3 (wpS_modify (A4 ⟨rfl,⟨P4.perm,P4.kind,P4.failed⟩,?_,?_,?_,?_⟩))
     ·show Tile (((pendingOf st4).modify _ _).push _).toList 0 _;rw [Array.toList_push];refine Tile.push ?_ nx.1;rw [Array.toList_modify];refine Tile.upd ?_ _ T4;exact λ _=>⟨Y,Y⟩
     ·exact nx.2
     ·show ∀z∈(((pendingOf st4).modify _ _).push _).toList,RunS κ (arrOf st4) z;refine RS.push (RS.upd ?_ R4) X4;exact λ _=>⟨Y,Y⟩
     ·have:=nx.1;show i + 1<=lo + mn;omega
   ·refine A3 (wpS_modify (A4 ⟨rfl,⟨P3.sp.perm,P3.sp.kind,P3.sp.failed⟩,?_,?_,?_,?_⟩))
    ·show Tile (Array.push _ _).toList 0 _;rw [Array.toList_push];exact Tile.push TX nx.1
    ·exact nx.2
    ·show ∀z∈((pendingOf st3).push _).toList,RunS κ (arrOf st3) z;exact RS.push RX S3.run
    ·have:=nx.1;show i + 1<=lo + mn;omega
  ·have nx:1<=n/\lo + n<=a₀.size:=⋯
   have TX:Tile (pendingOf st2).toList 0 lo:=by rw [P2.pend]; exact T1
   have RX:RS κ st2:=R1.low T1 P2.pend P2.low;refine A3 (wpS_get ?_)
   split
   ·refine A3 (wpS_mono (wpS_forRange (I:=λ _ c st'=>c.1=none/\SP κ0 a₀ st'/\Tile (pendingOf st').toList 0 lo/\RS κ st'/\∀i,lo<=i->(arrOf st')[i]? = (arrOf st2)[i]?) (Q:=λ c st'=>c.1=none/\SP κ0 a₀ st'/\Tile (pendingOf st').toList 0 lo/\RS κ st'/\∀i,lo<=i->(arrOf st')[i]? = (arrOf st2)[i]?) ?_ (λ _ _ z=>z) ⟨rfl,P2.sp,TX,RX,λ _ _=>rfl⟩) ?_)
    ·rintro i ⟨r,u⟩ st4 _ _ ⟨_,P4,T4,R4,u4⟩;refine A3 (wpS_get ?_)
     split
     ·rename_i he
      refine ax (λ c5=>A4 ⟨rfl,P4,T4,R4,u4⟩) (λ c5=>?_);refine A3 (cR hO h0 P4 ?_ T4 l1 R4 λ st5 P5 T5 R5 _ u5=>?_)
      ·have z:1 < (pendingOf st4).size:=by
        split at he
        ·assumption
        ·cases he
       show (pendingOf st4).size - 2 + 1 < (pendingOf st4).size;omega
      ·exact ax (λ c=>absurd c ∅) (λ _=>A4 ⟨rfl,P5,T5,R5,λ i hi=>(u5 i hi).trans (u4 i hi)⟩)
     ·exact A4 ⟨rfl,P4,T4,R4,u4⟩
    ·rintro ⟨r,u⟩ st4 ⟨g1,P4,T4,R4,u4⟩;dsimp only at g1 ⊢;subst g1;have X4:RunS κ (arrOf st4) (lo,n,0):=λ i j x y a1 a2 a3 ex ey=>by rw [u4 i a1] at ex;rw [u4 j (Nat.le_trans a1 a2)] at ey;exact S2.run i j x y a1 a2 a3 ex ey
     refine A3 (wpS_modify ?_);refine A3 (wpS_modify (A4 ⟨rfl,⟨P4.perm,P4.kind,P4.failed⟩,?_,?_,?_,?_⟩))
     ·show Tile (((pendingOf st4).modify _ _).push _).toList 0 _;rw [Array.toList_push];refine Tile.push ?_ nx.1;rw [Array.toList_modify];refine Tile.upd ?_ _ T4;exact λ _=>⟨Y,Y⟩
     ·exact nx.2
     ·show ∀z∈(((pendingOf st4).modify _ _).push _).toList,RunS κ (arrOf st4) z;refine RS.push (RS.upd ?_ R4) X4;exact λ _=>⟨Y,Y⟩
     ·have:=nx.1;show i + 1<=lo + n;omega
   ·refine A3 (wpS_modify (A4 ⟨rfl,⟨P2.sp.perm,P2.sp.kind,P2.sp.failed⟩,?_,?_,?_,?_⟩))
    ·show Tile (Array.push _ _).toList 0 _;rw [Array.toList_push];exact Tile.push TX nx.1
    ·exact nx.2
    ·show ∀z∈((pendingOf st2).push _).toList,RunS κ (arrOf st2) z;exact RS.push RX S2.run
    ·have:=nx.1;show i + 1<=lo + n;omega
end
section
variable {prog:EQ} {w:ES} {A:Around} {E:ET->EO->Prop} {s:EO}
theorem fC {κ:KeyKind} {κ0:SortKind} {a:Addr} {vs:List ET} {n:Nat} {P:Fin->EO->Prop} (ho:s.heap.get? a=some (seqObj "list" vs.toArray n))
  (h0:KeysOf κ (pairsOf vs)) (hkk:∀s':EO,(∀b o,b≠a->s.heap.get? b=some o->s'.heap.get? b=some o)->bj prog w A s' κ0 κ/\∀v₁ v₂ rest,vs=v₁ :: v₂ :: rest->∀ (Q:SortKind->EO->Prop),Q κ0 s'->wpAny (model prog w) A (keyKind' (v₁ :: v₂ :: rest).toArray) Q E s') (h64:vs.length < 4096)
  (h:∀st':SortSt,(arrOf st').Perm (pairsOf vs)->SortedToK κ (arrOf st') (pairsOf vs).size->P (.done (.ret .none)) { s with heap:=sortedHeap s.heap a vs ((arrOf st').map (·.2)) }) :
  wpAny (model prog w) A (Builtin.«list.sort» ⟨[.ref a],[]⟩) P E s:=by
 rw [list_sort_plain];have ha:a < s.heap.objs.size:=A9 ho;refine A0 (listItems_at ho rfl ?_);refine A0 (listUpdate_at ho rfl ?_);obtain ⟨e1,ho1⟩:∃e1,(s.heap.update a (Obj.mapSeq λ _=>#[])).get? a=some (seqObj "list" #[] e1):=⟨_,get?_update_seq ho (λ _=>#[])⟩
 refine A0 (seqEpoch_at ho1 rfl ?_);refine A0 (wpAny_newTuple ?_);refine A0 (wpAny_newList ?_);refine wpAny_holding ?_;have ho6:(((s.heap.update a (Obj.mapSeq λ _=>#[])).push (seqObj "tuple" vs.toArray 0)).push (seqObj "list" #[] 0)).get? a=some (seqObj "list" #[] e1):=by rw [Heap.get?_push_ne _ _ _ (by rw [size_push',Heap.size_update]; exact Nat.ne_of_lt (Nat.lt_succ_of_lt ha)),Heap.get?_push_ne _ _ _ (by rw [Heap.size_update]; exact Nat.ne_of_lt ha)];exact ho1
 show wpAny (model prog w) A _ P E { s with heap:=((s.heap.update a (Obj.mapSeq λ _=>#[])).push (seqObj "tuple" vs.toArray 0)).push (seqObj "list" #[] 0) };dsimp only;have hsz:vs.toArray.size=vs.length:=by simp
 have fin:=h
 by_cases h2:vs.toArray.size < 2
 ·rw [if_pos h2,if_pos h2];refine A0 (A1 ?_);rw [StateT.run_pure];refine A0 (A1 ?_);dsimp only;refine A0 (seqEpoch_at ho6 rfl ?_);refine A0 (listUpdate_at ho6 rfl ?_ (hsz2:=by rw [Array.size_map]; show (pairsOf vs).size<=_; rw [pairsOf_size,sizeLine_eq]; omega));simp only [bne_self_eq_false,Bool.false_eq_true,if_false];refine A1 (fin (SortSt.mk' general' (vs.toArray.zip vs.toArray) #[] 7 none) (Array.Perm.refl _) ?_);intro i j hij hj;have:i=j:=by rw [pairsOf_size] at hj; omega
  subst this; exact KeyOrd.kle_refl _
 ·rw [if_neg h2,if_neg h2];obtain ⟨v₁,v₂,rest,rfl⟩:∃v₁ v₂ rest,vs=v₁ :: v₂ :: rest:=by
   match vs,hsz,h2 with
   | [],_,h2=>simp at h2
   | [_],_,h2=>simp at h2
   | v₁ :: v₂ :: rest,_,_=>exact ⟨v₁,v₂,rest,Y⟩
  have kp:∀b o,b≠a->s.heap.get? b=some o->(((s.heap.update a (Obj.mapSeq λ _=>#[])).push (seqObj "tuple" (v₁ :: v₂ :: rest).toArray 0)).push (seqObj "list" #[] 0)).get? b=some o:=λ b o nb e =>
   A7 _ (A7 _ (by rw [Heap.get?_update_ne _ _ _ _ nb]; exact e))
  obtain ⟨hO,hK⟩:=hkk { s with heap:=((s.heap.update a (Obj.mapSeq λ _=>#[])).push (seqObj "tuple" (v₁ :: v₂ :: rest).toArray 0)).push (seqObj "list" #[] 0) } kp;refine A0 (hK _ _ _ rfl _ ?_);refine A0 (wpAny_mono (gK (κ:=κ) (κ0:=κ0) hO (a₀:=pairsOf (v₁ :: v₂ :: rest)) h0 (st:=SortSt.mk' κ0 ((v₁ :: v₂ :: rest).toArray.zip (v₁ :: v₂ :: rest).toArray) #[] 7 none)
   (Q:=λ _ st'=>SP κ0 (pairsOf (v₁ :: v₂ :: rest)) st'/\SortedToK κ (arrOf st') (pairsOf (v₁ :: v₂ :: rest)).size) ⟨⟨Array.Perm.refl _,rfl,rfl⟩,rfl⟩ λ st' z y=>⟨z,y⟩) ?_ λ _ _ e=>e)
  rintro ⟨⟨⟩,st'⟩ s' ⟨rfl,⟨hp,hk2,hf⟩,hs⟩;dsimp only;refine A0 (seqEpoch_at ho6 rfl ?_);refine A0 (listUpdate_at ho6 rfl ?_ (hsz2:=by refine C5 (Nat.le_of_eq ((Array.size_map ..).trans (hp.size_eq.trans (pairsOf_size _)))) ?_; rw [sizeLine_eq]; omega));rw [hf];simp only [bne_self_eq_false,Bool.false_eq_true,if_false];exact A1 (fin st' hp hs)
theorem qX {κ:KeyKind} {κ0:SortKind} {l:Addr} {vs:List ET} {Q:ET->EO->Prop} (hl:s.heap.IsList l vs.toArray) (h0:KeysOf κ (pairsOf vs)) (hkk:∀ (A':Around) (s':EO),(∀b o,s.heap.get? b=some o->s'.heap.get? b=some o)->bj prog w A' s' κ0 κ/\∀v₁ v₂ rest,vs=v₁ :: v₂ :: rest->∀ (Q:SortKind->EO->Prop) (E':ET->EO->Prop),Q κ0 s'->wpAny (model prog w) A' (keyKind' (v₁ :: v₂ :: rest).toArray) Q E' s') (h64:vs.length < 4096)
  (h:∀st':SortSt,(arrOf st').Perm (pairsOf vs)->SortedToK κ (arrOf st') (pairsOf vs).size->Q (.ref (s.heap.objs.size + 1)) { s with heap:=sortedAll s.heap vs ((arrOf st').map (·.2)) }) :
  wpAny (model prog w) A (call (.builtin "sorted") [.ref l]) Q E s:=by
 refine Calls.call_function_entry kind_sorted plain_sorted entry_sorted (args_sorted1 _) ?_;unfold Builtin.«sorted»;refine A0 (m:=checkCount "sorted" 1 1 _) (A1 ?_);refine A0 (collect_list hl ?_);refine A0 (wpAny_newList ?_);have hsz:((s.heap.push (seqObj "list" #[] 0)).update s.heap.objs.size (Obj.mapSeq (· ++ vs.toArray))).objs.size=s.heap.objs.size + 1:=by rw [Heap.size_update,size_push']
 have hoL:(((s.heap.push (seqObj "list" #[] 0)).update s.heap.objs.size (Obj.mapSeq (· ++ vs.toArray))).push (seqObj "list" vs.toArray 0)).get? (s.heap.objs.size + 1)=some (seqObj "list" vs.toArray 0):=by rw [<- hsz]; exact A8 _ rfl
 show wpAny _ _ _ _ _ { s with heap:=((s.heap.push (seqObj "list" #[] 0)).update s.heap.objs.size (Obj.mapSeq (· ++ vs.toArray))).push (seqObj "list" vs.toArray 0) };rw [hsz];refine A0 (wpAny_holding (EL slot_list_sort ⟨_,hoL,rfl⟩ entry_list_sort (fC hoL h0 (λ s' k=>by obtain ⟨a1,a2⟩:=hkk _ s' (λ b o e=>k b o (B9 (Nat.lt_succ_of_lt (A9 e))) (A7 _ (by rw [Heap.get?_update_ne _ _ _ _ (Nat.ne_of_lt (Heap.lt_size e))]; exact A7 _ e))); exact ⟨a1,λ v1 v2 r e Q q=>a2 v1 v2 r e Q _ q⟩) h64 λ st' a1 a2=>⟨_,Y,?_⟩) (args_list_sort _)));exact A1 ⟨_,rfl,h st' a1 a2⟩
end
end PyProof.Rows
namespace L2
open PySem PySem.Spec PyProof.Rows
section
variable {X:Cx}
def sR (K:C4) (xs:List V) (H:Hp) (Q:VK):Prop:=∃ (p:Addr) (as:List Addr) (sh:List Bool) (key:Addr->List Int),xs=[.ref p]/\SqL K H p (as.map V.ref)/\as.length < 4096/\sh.head? = some false/\(∀a∈as,∃vs,SqT K H a vs/\je sh vs=some (key a)) /\
 ∀ (l:Addr) (as':List Addr),H l=none->as'.Perm as->(as'.map key).Pairwise (λ x y=>bz y x=false)->Q (.ref l) (upd H l (.lst (as'.map V.ref)))
theorem bW:cY X (.builtin "sorted") (sR X.K):=by
 intro pins s σ H xs us Q I r h;obtain ⟨p,as,sh,key,rfl,hs,h64,h0,hk,q⟩:=h;obtain ⟨u,rfl,rfl⟩:=fX r;obtain ⟨its,rv,pl,_⟩:=I.list hs;have ei:=hV rv;subst ei;have tu:∀a∈as,∃o us n,s.heap.get? a=some o/\o.cls=.type "tuple" /\ o.data=.seq (List.toArray us) n/\bK sh us=some (key a):=λ a ha=>by obtain ⟨vs,hv,hf⟩:=hk a ha;obtain ⟨us,r,⟨o,e,c,n,d⟩,_⟩:=I.tuple hv;exact ⟨o,us,n,e,c,d,km r hf⟩
 have kof:∀a∈as,(mw s.heap sh).keyOf (.ref a)=some (key a):=λ a ha=>by
  obtain ⟨o,us,n,e,c,d,f⟩:=tu a ha;show (match s.heap.get? a with
   | some o=>match o.data with
    | .seq xs _=>bK sh xs.toList
    | _=>none
   | none=>none)=some (key a)
  rw [e];show (match o.data with
    | .seq xs _=>bK sh xs.toList
    | _=>none)=some (key a)
  rw [d];exact f
 refine qX (κ:=mw s.heap sh) (κ0:=tuples' true) pl.isList ?keys ?kk (by rw [List.length_map]; exact h64) λ st' hp hs'=>?_
 case keys =>
  intro pr hpr;rw [pairsOf_toList] at hpr;obtain ⟨a,ha,e⟩:=List.mem_map.mp (List.of_mem_zip (show (pr.1,pr.2)∈_ from hpr)).1;exact ⟨key a,by rw [<- e]; exact kof a ha⟩
 case kk =>
  intro A' s' k;refine ⟨mx h0 k,λ v1 v2 rest e Q E' q=>?_⟩;obtain ⟨fs,f1,f2,f3⟩:=fo (h:=s'.heap) (key:=key) h0 as λ a ha=>by obtain ⟨o,us,n,e,c,d,f⟩:=tu a ha;exact ⟨o,us,n,k _ _ e,c,d,f⟩
  rw [e] at f1;have:(as.map Value.ref).length=rest.length + 2:=by rw [e]; rfl
  rw [List.length_map] at this;refine PySem.W.kat_kind (T:=.type "int") f1 ⋯ (λ v hv=>?_) rfl q;obtain ⟨i,t,rfl⟩:=f3 v hv;exact PySem.W.Looks.of_pure rfl
 have pz:∀l:List Addr,(l.map Value.ref).zip (l.map Value.ref)=l.map λ a=>(Value.ref a,Value.ref a):=λ l=>by
  induction l with
  | nil=>rfl
  | cons a l ih=>rw [List.map_cons,List.zip_cons_cons,ih,List.map_cons]
 have hp':=Array.perm_iff_toList_perm.mp hp;rw [pairsOf_toList,pz] at hp';obtain ⟨as',ea,pa⟩:=oX (f:=λ a=>(Value.ref a,Value.ref a)) (λ pr=>match pr.1 with
  | .ref a=>some a
  | _=>none) (λ a=>rfl) hp'
 have eo:((arrOf st').map (·.2)).toList=as'.map Value.ref:=by rw [Array.toList_map,ea,List.map_map]; rfl
 obtain ⟨e,he⟩:=sortedAll_at s.heap (as.map Value.ref) ((arrOf st').map (·.2));have hn:H (s.heap.objs.size + 1)=none:=I.hok.fresh (Nat.le_succ _);refine ⟨.ref (s.heap.objs.size + 1),upd H (s.heap.objs.size + 1) (.lst (as'.map V.ref)),I.laid (o:=.lst (as'.map V.ref)) (t':=s.toks) (λ _ _=>sortedAll_old) (Nat.le_succ _) (show ObjOk _ _ _ _ _ (.lst _) from ⟨?_,((arrOf st').map (·.2)).toList,e,?_,?_⟩),Y,q _ as' hn pa ?_⟩
 ·rw [List.length_map,pa.length_eq];have:(4096:Nat)<=sizeLine:=∅
  omega
 ·rw [eo]; exact hX as'
 ·rw [he]
 ·rw [List.pairwise_iff_getElem];intro i j hi hj hij;rw [List.length_map] at hi hj;have sz:(pairsOf (as.map Value.ref)).size=as.length:=by rw [pairsOf_size,List.length_map]
  have kk:∀i (hi:i < as'.length),KK (mw s.heap sh) (arrOf st') i=key as'[i]:=λ i hi=>by
   have e:(arrOf st')[i]? = some (Value.ref as'[i],Value.ref as'[i]):=by rw [<- Array.getElem?_toList,ea,List.getElem?_map,List.getElem?_eq_getElem hi]; rfl
   unfold KK;rw [e];show ((mw s.heap sh).keyOf (.ref as'[i])).getD _=_;rw [kof _ (pa.mem_iff.mp (List.getElem_mem hi))]; rfl
  have:=hs' i j ⋯ (by rw [sz,<- pa.length_eq]; exact hj);rw [kk i hi,kk j hj] at this;rw [List.getElem_map,List.getElem_map];exact this
end
end L2
namespace L2
open PySem PySem.Spec PyProof.Rows PySem.SeqAt
section
variable {X:Cx}
def lE:V->List V->Hp->VK->Prop:=λ x vs H Q=>∃ (l:Addr) (ns:List Int) (i:Int),x=.ref l/\vs=[.int i]/\H l=↥(ns.map V.int)/\Q (.int ((ns.count i:Nat):Int)) H
theorem mB:MtR X "list.count" lE:=by intro pins s σ H x vs v us Q I rx rv h;obtain ⟨l,ns,i,rfl,rfl,hH,q⟩:=h;cases rx;obtain ⟨u,rfl,ru⟩:=rv.one;obtain ⟨t,rfl⟩:=ru;obtain ⟨z,its,n,r,hl,e⟩:=I.lstM hH;exact count_list_ints ⟨_,e,rfl,n,rfl⟩ (iG r) ⟨.int _,H,I.tok _,⟨s.toks,rfl⟩,q⟩
theorem mC (K:C4) {o e:Expr} {to:TE} {t:TA} {apos cpos:Pos} (hK:X.K=K) (ho:PE X o to) (ha:PA X [e] t)
  (hbase:attributeBase o "count" X.env (eval o X.env)=eval o X.env:=by rfl)
  (hfew:((backTo cpos (starEach [e] X.env)).all (λ x=>!x.1) && (backToKw cpos (keywordEach [] X.env)).all (λ x=>x.1.isSome)
   && decide (([e]:List Expr).length + ([]:List Keyword).length + (if ([]:List Keyword).isEmpty then 0 else 1) < 30))=true:=by rfl)
  (hline:(apos.endLine == cpos.line)=true:=by rfl) (hs:starEach [e] X.env=(false,eval e X.env) :: starEach [] X.env:=by rfl) (hplain:(backTo cpos (starEach [] X.env)).any (·.1)=false:=by rfl) :
  PE X (.Call (.Attribute o "count" apos) [e] [] cpos) (tBM K "list" lE to t) :=
 hK ▸ fm EN PySem.F.slot_list_count PySem.F.type_list_count mB ho ha hbase hfew hline hs hplain
end
end L2
namespace Pc
open PySem L2
def top (i:Nat):Stmt:=PySem.Challenge.pw_platecuts_k27_whole_deep_trees.main.body.getD i (.Pass ⟨0,0,0,0⟩)
abbrev vQ:Stmt:=top 0
abbrev iL:Stmt:=top 10
abbrev iM:Stmt:=top 11
abbrev qY:Stmt:=top 12
abbrev cw:Stmt:=top 13
abbrev fL:Stmt:=top 18
abbrev dM:Stmt:=top 19
abbrev cx:Stmt:=top 26
abbrev iN:Stmt:=top 27
abbrev fM:Stmt:=top 28
abbrev bX:Stmt:=top 29
abbrev fN:Stmt:=top 30
abbrev cT:Stmt:=top 31
abbrev dN:Stmt:=top 32
abbrev dO:Stmt:=top 34
abbrev dh:Stmt:=top 35
abbrev cK:Stmt:=top 36
abbrev di:Stmt:=top 37
abbrev eM:Stmt:=top 38
abbrev fO:Stmt:=top 42
abbrev fP:Stmt:=top 43
abbrev cL:Stmt:=inClass (top 44) 0
abbrev cU:Stmt:=inClass (top 44) 1
abbrev cV:Stmt:=inClass (top 44) 2
abbrev jj:Stmt:=inClass (top 44) 3
abbrev jk:Stmt:=inClass (top 44) 4
abbrev bY:Stmt:=inClass (top 44) 5
abbrev cW:Stmt:=inClass (top 44) 6
abbrev qZ:Stmt:=top 46
abbrev lF:Stmt:=top 47
abbrev fQ:Stmt:=top 48
abbrev lG:Stmt:=top 49
abbrev lH:Stmt:=top 50
abbrev dj:Stmt:=top 51
abbrev lI:Stmt:=top 52
abbrev cX:Stmt:=top 53
abbrev lJ:Stmt:=top 54
abbrev fR:Stmt:=top 55
abbrev fS:Stmt:=top 56
abbrev lK:Stmt:=top 57
abbrev dP:Stmt:=top 58
abbrev aX:Stmt:=top 59
abbrev jl:Stmt:=top 60
section
variable {P:EQ} {w:ES} {K:C4} {mg:Str->Option ET} {base:Heap}
structure Blt (mg:Str->Option Value):Prop where
 isi:mg "isinstance" = none
 int:mg "int" = none
 bool:mg "bool" = none
 list:mg "list" = none
 tuple:mg "tuple" = none
 len:mg "len" = none
 range:mg "range" = none
 max:mg "max" = none
 min:mg "min" = none
 abs:mg "abs" = none
 divmod:mg "divmod" = none
 sum:mg "sum" = none
 sorted:mg "sorted" = none
 all:mg "all" = none
 repr:mg "repr" = none
 zip:mg "zip" = none
 enumerate:mg "enumerate" = none
 mostk:∃t,mg "MOST_KINDS" = some (.int 8 t)
 fivek:∃t,mg "THINGS_OF_A_KIND" = some (.int 5 t)
end
theorem sS {xs:List V} {i:Int} (h0:0<=i) (h1:i < xs.length):∃v,atI xs i=some v/\v∈xs:=by
 have hk:i.toNat < xs.length:=⋯
 exact ⟨xs[i.toNat],aG h0 (EJ hk),List.getElem_mem hk⟩
theorem rc {H H':Hp} {p:Addr} (s:Same H H'):But p H H':=λ c o _ e=>s c o e
theorem aw {t u:TS} {D:Ends} {σ:St} {H:Hp} (J:St->Hp->Prop) (h1:∀R:St->Hp->Prop,(∀σ' H',J σ' H'->R σ' H')->t { D with nx:=R } σ H) (h2:∀σ' H',J σ' H'->u D σ' H'):vq t u D σ H:=h1 _ h2
section
variable {P:EQ} {w:ES} {K:C4} {mg:Str->Option ET} {base:Heap}
theorem rd:FnScope ["thing","least"] ["thing","least"] (defScope iL):=⟨Y,Y,Y,∅,Y,∅,∅⟩
theorem pi {f:Addr} {fd:ER} (F:Fun K "is_whole" "is_whole" iL f fd) (B:Blt mg):FnOk P w K mg base CX0 1 f fd ["thing","least"] (cr K):=by
 refine F.ok rd (λ vs H Q E h=>?_) (λ cdv A outer s H vs Q E hr h=>?_)
 ·obtain ⟨x,T,l,rfl,_⟩:=h
  rfl
 obtain ⟨x,T,l,rfl,⟨tn,ty⟩,q⟩:=h;refine ⟨_,ag (au (dd (aF bR rfl B.isi PyProof.Rows.boot_isinstance (aa (pv 0) (aa (cN (v:=.ty "int") rfl B.int PyProof.Rows.boot_int rfl) ab)))
  (dd (nW (aF bR rfl B.isi PyProof.Rows.boot_isinstance (aa (pv 0) (aa (cN (v:=.ty "bool") rfl B.bool PyProof.Rows.boot_bool rfl) ab))))
  (ef (bu oe (pv 0) (pv 1) (az _)))))),?_⟩
 refine ⟨_,Y,x,_,_,_,_,Y,ty,Y,qR T tn,_,Y,?_⟩;have tb:=lm ty;refine bU (λ c=>?_) (λ c=>?_)
 ·refine ⟨_,Y,x,_,_,_,_,Y,ty,Y,jc T tn,_,Y,_,Y,?_⟩;refine bU (λ c2=>?_) (λ c2=>?_)
  ·have hT:(T == "int")=true:=by
    have:(T == "bool")=false:=by simpa using c2
    rw [this,Bool.or_false] at c; exact c
   obtain ⟨i,rfl⟩:=sN ty tn hT;exact ⟨_,Y,_,Y,_,_,Y,Y,q⟩
  ·have hT:ms x=true:=by
    rw [<- tb];cases e:(T == "bool") with
    | true=>rfl
    | false=>rw [e] at c2; exact absurd rfl c2
   cases x <;> first | exact q | (exact absurd hT B2)
 ·have hx:aM x l=false:=by
   cases x with
   | int i =>
    exfalso;have ty':=ty;generalize hv:Value.type T=tv at ty';cases ty' with
    | int=>cases hv; exact c rfl
   | _=>rfl
  rw [hx] at q;exact q
theorem re:FnScope ["thing"] ["thing"] (defScope iM):=⟨Y,Y,Y,∅,Y,∅,∅⟩
theorem pj {f:Addr} {fd:ER} (F:Fun K "is_truth" "is_truth" iM f fd) (B:Blt mg):FnOk P w K mg base CX0 1 f fd ["thing"] (fF K):=by
 refine F.ok re (λ vs H Q E h=>?_) (λ cdv A outer s H vs Q E hr h=>?_)
 ·obtain ⟨x,T,rfl,_⟩:=h
  rfl
 obtain ⟨x,T,rfl,⟨tn,ty⟩,q⟩:=h;refine ⟨_,ag (au (aF bR rfl B.isi PyProof.Rows.boot_isinstance (aa (pv 0) (aa (cN (v:=.ty "bool") rfl B.bool PyProof.Rows.boot_bool rfl) ab)))),?_⟩;refine ⟨_,Y,x,_,_,_,_,Y,ty,Y,jc T tn,?_⟩;rw [lm ty];exact q
theorem vR:FnScope ["thing"] ["thing"] (defScope qY):=⟨Y,Y,Y,∅,Y,∅,∅⟩
theorem sT {f:Addr} {fd:ER} (F:Fun K "is_row" "is_row" qY f fd) (B:Blt mg):FnOk P w K mg base CX0 1 f fd ["thing"] (jd K):=by
 refine F.ok vR (λ vs H Q E h=>?_) (λ cdv A outer s H vs Q E hr h=>?_)
 ·obtain ⟨x,T,rfl,_⟩:=h
  rfl
 obtain ⟨x,T,rfl,ty,q⟩:=h;refine ⟨_,ag (au (aF iE rfl B.isi PyProof.Rows.boot_isinstance (aa (pv 0) (aa (ay (aa (cN (v:=.ty "list") rfl B.list PyProof.Rows.boot_list rfl) (aa (cN (v:=.ty "tuple") rfl B.tuple PyProof.Rows.boot_tuple rfl) ab))) ab)))),?_⟩;refine ⟨_,Y,zS2,λ p hp=>?_⟩;have s1:Same H (upd H p (.tup [.ty "list",.ty "tuple"])):=λ b o e=>by rw [aj (aq e hp)]; exact e
 have t2:=Ty.same s1 ty;exact ⟨x,p,_,_,_,_,Y,t2.2,af,Y,qS T ty.1,q _ s1⟩
theorem scIsKind:FnScope ["thing","wide","high","worth","wanted","turns"] ["thing"] (defScope fO):=⟨Y,Y,Y,∅,Y,∅,∅⟩
theorem mD {f:Addr} {fd:ER} (F:Fun K "is_kind" "is_kind" fO f fd) (B:Blt mg) (DW:Dn P w K mg base "is_whole" ["thing","least"] 1 (cr K)) (DT:Dn P w K mg base "is_truth" ["thing"] 1 (fF K)) (DR:Dn P w K mg base "is_row" ["thing"] 1 (jd K)) :
  FnOk P w K mg base CX0 2 f fd ["thing"] (eI K):=by
 refine F.ok scIsKind (λ vs H Q E h=>?_) (λ cdv A outer s H vs Q E hr h=>?_)
 ·obtain ⟨x,T,rfl,_⟩:=h
  rfl
 obtain ⟨x,T,rfl,ty,q⟩:=h;obtain ⟨tk,htk⟩:=B.fivek;have nd:=scIsKind.nd;refine ⟨_,ae (aK (PW.pt (cB (aZ (aO (ao DR hr rfl (aa (pv 0) ab)))) (cf (aB gQ (aF aU rfl B.len PySem.boot_len (aa (pv 0) ab)) (aY (v:=.int 5) rfl htk ⟨tk,Y⟩) (az _))))) (ag (au bO)) aA)
  (ae (be (pv 0) (jU rfl (ah (ai (i:=1) nd rfl (Or.inl rfl)) (ah (ai (i:=2) nd rfl (Or.inl rfl)) (ah (ai (i:=3) nd rfl (Or.inl rfl)) (ah (ai (i:=4) nd rfl (Or.inl rfl)) (ah (ai (i:=5) nd rfl (Or.inl rfl)) aI)))))))
  (ae (aK (PW.pt (cB (aZ (aO (ao DW hr rfl (aa (pv 1) (aa ad ab))))) (cf (aZ (aO (ao DW hr rfl (aa (pv 2) (aa ad ab)))))))) (ag (au bO)) aA)
  (ag (au (dd (ao DW hr rfl (aa (pv 3) (aa ad ab))) (dd (ao DW hr rfl (aa (pv 4) (aa ad ab))) (ef (ao DT hr rfl (aa (pv 5) ab))))))))),?_⟩
 refine ⟨_,Y,x,T,Y,ty,λ H1 s1=>⟨_,Y,?_⟩⟩;rcases q with ⟨n1,n2,q⟩ | ⟨a,xs,rfl,hx,its,q⟩
 ·have e:(T == "list" || T == "tuple")=false:=by simp [n1,n2]
  rw [e];refine aS (aS ?_);exact q H1 s1
 ·have e:(T == "list" || T == "tuple")=true:=by
   have t2:=ty.2;generalize hv:Value.type T=tv at t2;generalize hr:V.ref a=rv at t2;cases t2 with
   | lst _=>cases hv; rfl
   | frz _=>cases hv; rfl
   | tup _=>cases hv; rfl
   | dK e=>cases hr; rcases hx with z | z <;> (rw [z] at e; cases e)
   | dT e=>cases hr; rcases hx with z | z <;> (rw [z] at e; cases e)
   | ext e _=>cases hr; rcases hx with z | z <;> (rw [z] at e; cases e)
   | ins=>cases hv
   | _=>cases hr
  rw [e];have sq:SqL K H1 a xs\/SqT K H1 a xs:=by
   rcases hx with z | z
   ·exact .inl (EW (s1 _ _ z))
   ·exact .inr (EV (s1 _ _ z))
  refine aJ ⟨_,rfl,a,xs,rfl,sq,rfl,_,rfl,?_⟩;refine bU (λ c=>?_) (λ c=>?_)
  ·have hl:xs.length≠5:=λ z=>by rw [z] at c; exact absurd c ∅
   have:hI xs=false:=by
    unfold hI
    split
    ·exact absurd rfl hl
    ·rfl
   rw [this] at q;exact q H1 s1
  ·have hl:xs.length=5:=by
    by_cases z:xs.length=5
    ·exact z
    ·exfalso;apply c;have:¬ (V.int (xs.length:Int)=V.int 5):=λ h=>z (by have:=V.int.inj h; omega);rw [decide_eq_false this]; rfl
   obtain ⟨x1,x2,x3,x4,x5,rfl⟩:∃x1 x2 x3 x4 x5,xs=[x1,x2,x3,x4,x5]:=by
    match xs,hl with
    | [a,b,c,d,e],_=>exact ⟨a,b,c,d,e,Y⟩
   obtain ⟨T1,t1⟩:=its x1 (by simp);obtain ⟨T2,t2⟩:=its x2 (by simp);obtain ⟨T3,t3⟩:=its x3 (by simp);obtain ⟨T4,t4⟩:=its x4 (by simp);obtain ⟨T5,t5⟩:=its x5 (by simp);refine ⟨_,Y,a,_,Y,sq,Y,x1,_,Y,x2,_,Y,x3,_,Y,x4,_,Y,x5,_,Y,Y,?_⟩;refine ⟨_,Y,x1,T1,1,Y,Ty.same s1 t1,_,Y,?_⟩;have q':∀b,hI [x1,x2,x3,x4,x5]=b->Q (.bl b) H1:=λ b e=>by rw [<- e]; exact q H1 s1
   have k5:hI [x1,x2,x3,x4,x5]=(aM x1 1 && aM x2 1 && aM x3 0 && aM x4 0 && ms x5):=rfl;cases w1:aM x1 1 with
   | false =>
    refine aS (aS ?_);exact q' false (by rw [k5,w1]; rfl)
   | true =>
    refine aJ ⟨_,rfl,x2,T2,1,rfl,Ty.same s1 t2,_,rfl,?_⟩;cases w2:aM x2 1 with
    | false =>
     refine aS ?_;exact q' false (by rw [k5,w1,w2]; rfl)
    | true =>
     refine aJ ⟨_,rfl,x3,T3,0,rfl,Ty.same s1 t3,_,rfl,?_⟩;cases w3:aM x3 0 with
     | false =>
      refine aJ ?_;exact q' false (by rw [k5,w1,w2,w3]; rfl)
     | true =>
      refine aS ⟨_,rfl,x4,T4,0,rfl,Ty.same s1 t4,_,rfl,?_⟩;cases w4:aM x4 0 with
      | false =>
       refine aJ ?_;exact q' false (by rw [k5,w1,w2,w3,w4]; rfl)
      | true =>
       refine aS ⟨_,rfl,x5,T5,rfl,Ty.same s1 t5,?_⟩;exact q' _ (by rw [k5,w1,w2,w3,w4]; rfl)
end
section
variable {P:EQ} {w:ES} {K:C4} {mg:Str->Option ET} {base:Heap}
theorem scInit:FnScope ["self","blade","kinds","kind"] ["self","blade","kinds"] (defScope cL):=⟨Y,Y,Y,∅,Y,∅,∅⟩
theorem rf {f C:Addr} {fd:ER} (F:Fun K "__init__" "Shop.__init__" cL f fd) (B:Blt mg) (T:ShopTxt K C) (DW:Dn P w K mg base "is_whole" ["thing","least"] 1 (cr K)) (DR:Dn P w K mg base "is_row" ["thing"] 1 (jd K))
  (DK:Dn P w K mg base "is_kind" ["thing"] 2 (eI K)):FnOk P w K mg base CX0 3 f fd ["self","blade","kinds"] (jY C):=by
 refine F.ok scInit (λ vs H Q E h=>?_) (λ cdv A outer s H vs Q E hr h=>?_)
 ·obtain ⟨x,dx,ks,b,rs,kds,rfl,_⟩:=h
  rfl
 obtain ⟨x,dx,ks,b,rs,kds,rfl,hx,b0,hks,hrs,hgd,n1,n8,q⟩:=h;have hr1:=hr.mono (show 1<=2 by decide);obtain ⟨tk,htk⟩:=B.mostk;have nd:=scInit.nd;have n8':(8:Nat) < sizeLine:=∅
 refine ⟨_,ae (aK (aZ (aO (ao DW hr1 rfl (aa (pv 1) (aa ad ab))))) eS aA)
  (ae (aK (PW.pt (cB (aZ (aO (ao DR hr1 rfl (aa (pv 2) ab)))) (cf (aZ (og gR gR ad (aF aU rfl B.len PySem.boot_len (aa (pv 2) ab)) (aY (v:=.int 8) rfl htk ⟨tk,rfl⟩)))))) eS aA)
  (ae (cy ED rfl (oO (pv 2)) (ai (i:=3) nd rfl (Or.inl rfl)) (ag (aK (aZ (aO (ao DK hr rfl (aa (pv 3) ab)))) eS aA)))
  (ae (oj (pv 0) (pv 1) rfl)
  (ag (oj (pv 0) (bC dZ rfl B.tuple PyProof.Rows.boot_tuple (aa (bv (own:=["kind"]) (cs:=[]) (cap:=[]) rfl (oO (pv 2))
   (aP (sc:=defScope cL) (N:=["self","blade","kinds","kind"]) rfl rfl ∅)
   (λ _ _ _ _ _=>ai (i:=0) (by show List.Nodup (["kind"]:List Str); decide +kernel) rfl (Or.inl rfl) (Or.inr rfl)) (λ _ _ _ _ _=>bJ)
   (λ _ _ _ _ _=>bC (r:=oR K) dZ rfl B.tuple PyProof.Rows.boot_tuple (aa (pv 0) ab))) ab)) rfl))))),?_⟩
 refine ⟨_,Y,.int b,_,0,Y,.int,_,Y,?_⟩;have wb:aM (.int b) 0=true:=B0 b0;rw [wb];refine aJ ?_;have tyk:∃T,Ty K H (.ref ks) T/\(T == "list" || T == "tuple")=true:=by
  rcases hks with e | e
  ·exact ⟨_,.lst e,Y⟩
  ·exact ⟨_,.tup e,Y⟩
 obtain ⟨T0,ty0,te0⟩:=tyk;refine ⟨_,Y,.ref ks,T0,Y,ty0,λ H1 s1=>⟨_,Y,?_⟩⟩;rw [te0];have sq:∀ {H2:Hp},Same H H2->SqL K H2 ks rs\/SqT K H2 ks rs:=λ s2=>by
  rcases hks with z | z
  ·exact .inl (EW (s2 _ _ z))
  ·exact .inr (EV (s2 _ _ z))
 refine aJ ⟨_,rfl,ks,rs,rfl,sq s1,_,_,rfl,rfl,_,rfl,?_⟩;rw [decide_eq_true (show (1:Int)<=(rs.length:Int) by omega)];refine aS ⟨_,_,rfl,rfl,_,rfl,?_⟩;rw [decide_eq_true (show (rs.length:Int)<=8 by omega)];refine aJ ?_;have tw:=EC hrs;refine oS (j:=2) (a:=ks) (xs:=rs) rfl (hks.imp (λ z=>s1 _ _ z) λ z=>s1 _ _ z) (λ i σ H2=>∃v,σ=[↑x,⇑b,↑ks,v]/\Same H1 H2) ⟨none,rfl,Same.refl _⟩ (λ i σ H2 _ ⟨_,_,s2⟩ o e=>s2 _ _ e) ?_ ?_
 ·rintro i y σ H2 hi ⟨v,rfl,s2⟩;obtain ⟨k,hk,rk⟩:=EY hrs hi;refine ⟨_,Y,?_⟩;simp only [om,List.append_nil];refine mv ((rk.same s1).same s2) (hgd k (B5 hk)) λ H3 s3=>⟨_,Y,aJ ?_⟩
  exact ⟨_,Y,s2.trans s3⟩
 rintro σ H2 ⟨v,rfl,s12⟩;have s2:Same H H2:=s1.trans s12;refine ⟨_,Y,_,Y,x,C,dx,[],Y,s2 _ _ hx,T.cl,T.nB,(by show 0 < 1000; decide),?_⟩;have k3:∀c o,c≠x->H c=some o->(upd H2 x (.ins C dx (cq "blade_width" (.int b) []))) c=some o:=λ c o n e=>by rw [aj n]; exact s2 c o e
 have x3:(upd H2 x (.ins C dx (cq "blade_width" (.int b) []))) x=some (.ins C dx (cq "blade_width" (.int b) [])):=af;generalize upd H2 x (.ins C dx (cq "blade_width" (.int b) []))=H3 at k3 x3 ⊢;have rx:∀c xs,H c=↥xs\/H c= ~~~xs->c≠x:=λ c xs e z=>by subst z;rcases e with e | e <;> (rw [hx] at e; cases e)
 dsimp only [vG,tCB,oq];refine mt (j:=2) (a:=ks) (xs:=rs) rfl (hks.imp (λ z=>k3 _ _ (rx _ _ (.inl z)) z) λ z=>k3 _ _ (rx _ _ (.inr z)) z) (λ i ys H4=>ys.length=i/\Same H3 H4/\Tups H4 ys (kds.take i)) (λ i ys H4 _ ⟨_,s4,_⟩ o e=>s4 _ _ e) ⟨rfl,Same.refl _,.nil⟩ ?_ ?_
 ·rintro i y ys H4 hi ⟨hy,s4,ty4⟩;have hin:i < rs.length:=(A6.mp hi).1;obtain ⟨k,hk,rk⟩:=EY hrs hi;have tk1:kds.take (i + 1)=kds.take i ++ [k]:=by rw [List.take_add_one,hk]; rfl
  refine ⟨⋯,leS.set rfl,bS ?_⟩;rcases rk with ⟨a,rfl,h⟩ | ⟨a,rfl,h⟩
  ·have h4:=s4 _ _ (k3 _ _ (rx _ _ (.inr h)) h);exact ⟨_,Y,a,_,Y,.inr ⟨EV h4,Nx.of hin ⟨by rw [List.length_append,hy]; rfl,s4,by rw [tk1]; exact Paired.snoc ty4 ⟨a,Y,h4⟩⟩⟩⟩
  ·have h4:=s4 _ _ (k3 _ _ (rx _ _ (.inl h)) h);refine ⟨_,Y,a,_,Y,.inl ⟨EW h4,λ l hl=>Nx.of hin ⟨by rw [List.length_append,hy]; rfl,λ c o e=>?_,?_⟩⟩⟩
   ·have e4:=s4 c o e;rw [aj (aq e4 hl)]; exact e4
   ·rw [tk1];exact Paired.snoc (Tups.keep (λ c xs e=>by rw [aj (aq e hl)]; exact e) ty4) ⟨l,rfl,af⟩
 rintro ys H4 ⟨hy,s4,ty4⟩;refine ⟨⋯,λ p hp=>?_⟩;refine ⟨p,ys,Y,.inl ⟨EW af,λ r hr'=>?_⟩⟩;have hpr:r≠p:=λ z=>by rw [z,af] at hr'; cases hr'
 have hr4:H4 r=none:=by rw [aj hpr] at hr'; exact hr'
 have x4:=s4 _ _ x3;have xp:x≠p:=aq x4 hp;have xr:x≠r:=aq x4 hr4;refine ⟨_,Y,x,C,dx,_,Y,(by rw [aj xr,aj xp]; exact x4),T.cl,T.nK,(Nat.lt_of_le_of_lt (de _ _ _) ∅),?_⟩;rw [tw,List.take_length] at ty4;refine q _ ⟨dx,r,ys,af,by rw [aj (Ne.symm xr),af],?_⟩ λ c o n e=>?_
 ·refine Tups.keep (λ c xs e=>?_) ty4;rw [aj (λ z=>by rw [z,x4] at e; cases e),aj (aq e hr4),aj (aq e hp)];exact e
 ·have e4:=s4 _ _ (k3 c o n e);rw [aj n,aj (aq e4 hr4),aj (aq e4 hp)];exact e4
theorem rg:FnScope ["self"] ["self"] (defScope cU):=⟨Y,Y,Y,∅,Y,∅,∅⟩
theorem pq {f C:Addr} {fd:ER} (F:Fun K "blade" "Shop.blade" cU f fd) (T:ShopTxt K C):FnOk P w K mg base CX0 1 f fd ["self"] (fG C):=by
 refine F.ok rg (λ vs H Q E h=>?_) (λ cdv A outer s H vs Q E hr h=>?_)
 ·obtain ⟨x,b,ks,rfl,_⟩:=h
  rfl
 obtain ⟨x,b,ks,rfl,⟨dx,r,rs,h1,h2,h3⟩,q⟩:=h;exact ⟨_,ag (au (fY (pv 0) rfl)),_,Y,x,C,dx,_,_,Y,h1,T.cl,T.nB,jX _ _,q⟩
theorem rh:FnScope ["self"] ["self"] (defScope cV):=⟨Y,Y,Y,∅,Y,∅,∅⟩
theorem pC {f C:Addr} {fd:ER} (F:Fun K "kinds" "Shop.kinds" cV f fd) (T:ShopTxt K C) (ml:mg "list" = none):FnOk P w K mg base CX0 1 f fd ["self"] (fH C):=by
 refine F.ok rh (λ vs H Q E h=>?_) (λ cdv A outer s H vs Q E hr h=>?_)
 ·obtain ⟨x,b,ks,rfl,_⟩:=h
  rfl
 obtain ⟨x,b,ks,rfl,⟨dx,r,rs,h1,h2,h3⟩,q⟩:=h;refine ⟨_,ag (au (bC iC rfl ml PyProof.Rows.boot_list (aa (fY (pv 0) rfl) ab))),?_⟩;exact ⟨_,Y,x,C,dx,_,_,Y,h1,T.cl,T.nK,dD _ _,r,rs,Y,.inr (EV h2),λ l hl=>q l rs hl h3⟩
end
section
variable {P:EQ} {w:ES} {K:C4} {mg:Str->Option ET} {base:Heap}
theorem pE:FnScope ["kind"] ["kind"] (defScope fP):=⟨Y,Y,Y,∅,Y,∅,∅⟩
theorem mE {f:Addr} {fd:ER} (F:Fun K "can_lie_turned" "can_lie_turned" fP f fd):FnOk P w K mg base CX0 1 f fd ["kind"] (gj K):=by
 refine F.ok pE (λ vs H Q E h=>?_) (λ cdv A outer s H vs Q E hr h=>?_)
 ·obtain ⟨a,k,rfl,_⟩:=h
  rfl
 obtain ⟨a,k,rfl,ha,q⟩:=h;refine ⟨_,ag (au (dd (am ix_tup (pv 0) ad (λ _ _=>rfl)) (ef (bu gQ (am ix_tup (pv 0) ad (λ _ _=>rfl)) (am ix_tup (pv 0) ad (λ _ _=>rfl)) (az _))))),?_⟩;refine ⟨_,Y,a,_,4,_,Y,Y,EV ha,Y,_,Y,?_⟩;unfold bf at q;refine bU (λ c=>?_) (λ c=>?_)
 ·rw [c,Bool.true_and] at q;refine ⟨_,Y,a,_,0,_,Y,Y,EV ha,Y,_,Y,a,_,1,_,Y,Y,EV ha,Y,Y,?_⟩;rw [iz];rw [show (decide (k.w=k.h))=(k.w == k.h) from rfl] at q;exact q
 ·have c':k.tu=false:=by simpa using c
  rw [c',Bool.false_and] at q;exact q
theorem mF:FnScope ["self","kind","turned"] ["self","kind","turned"] (defScope bY):=⟨Y,Y,Y,∅,Y,∅,∅⟩
theorem ko {f C:Addr} {fd:ER} (F:Fun K "is_lying" "Shop.is_lying" bY f fd) (B:Blt mg) (T:ShopTxt K C) (DW:Dn P w K mg base "is_whole" ["thing","least"] 1 (cr K)) (DU:Dn P w K mg base "is_truth" ["thing"] 1 (fF K)) (DT:Dn P w K mg base "can_lie_turned" ["kind"] 1 (gj K)) :
  FnOk P w K mg base CX0 2 f fd ["self","kind","turned"] (dE K C):=by
 refine F.ok mF (λ vs H Q E h=>?_) (λ cdv A outer s H vs Q E hr h=>?_)
 ·obtain ⟨s,b,ks,x,t,T0,U,rfl,_⟩:=h
  rfl
 obtain ⟨s,b,ks,x,t,T0,U,rfl,⟨dx,r,rs,h1,h2,h3⟩,tx,tt,q⟩:=h;have tD:=EC h3;refine ⟨_,ae (aK (PW.pt (cB (aZ (aO (ao DW hr rfl (aa (pv 1) (aa ad ab))))) (cB (aB oe (pv 1) (aF aU rfl B.len PySem.boot_len (aa (fY (pv 0) rfl) ab)) (az _))
   (cf (aZ (aO (ao DU hr rfl (aa (pv 2) ab)))))))) (ag (au bO)) aA)
  (ag (au (vo (nW (pv 2)) (ef (ao DT hr rfl (aa (am ix_tup (fY (pv 0) rfl) (pv 1) (λ _ _=>rfl)) ab)))))),?_⟩
 refine ⟨_,Y,x,_,0,Y,tx,_,Y,?_⟩;cases hw:aM x 0 with
 | false =>
  have e:dU ks x t=false:=by
   cases x with
   | int i =>
    have h0:decide (0<=i)=false:=hw;cases t <;> first | rfl | (show (decide (0<=i) && _)=false; rw [h0,Bool.false_and])
   | _=>rfl
  rw [e] at q;exact aS (aS q)
 | true =>
  have ex:∃i,x=.int i/\0<=i:=by
   cases x with
   | int i=>exact ⟨i,Y,C0 hw⟩
   | _=>cases hw
  obtain ⟨i,rfl,i0⟩:=ex;refine aJ ⟨_,rfl,_,rfl,s,C,dx,_,_,rfl,h1,T.cl,T.nK,dD _ _,r,rs,rfl,.inr (EV h2),i,_,rfl,rfl,_,rfl,?_⟩
  by_cases hi:(rs.length:Int)<=i
  ·rw [decide_eq_true hi];have e:dU ks (.int i) t=false:=by have hn:ks[i.toNat]? = none:=C6 ⋯;cases t <;> first | rfl | (show (decide (0<=i) && match ks[i.toNat]? with | some k=>_ | none=>false)=false; rw [hn,Bool.and_false])
   rw [e] at q;exact aS (aS q)
  ·rw [decide_eq_false hi];refine aJ ⟨_,rfl,t,_,rfl,tt,_,rfl,?_⟩;have hlt:i.toNat < ks.length:=⋯
   cases hb:ms t with
   | false =>
    have e:dU ks (.int i) t=false:=by cases t <;> first | rfl | cases hb
    rw [e] at q;exact aS q
   | true =>
    have ex:∃c,t=.bl c:=by cases t <;> first | exact ⟨_,Y⟩ | cases hb
    obtain ⟨c,rfl⟩:=ex;obtain ⟨y,hy⟩:∃y,rs[i.toNat]? = some y:=⟨rs[i.toNat]'⋯,by simp [show i.toNat < rs.length by omega]⟩
    obtain ⟨k,hk,a,rfl,ha⟩:=EY h3 hy;have e:dU ks (.int i) (.bl c)=(!c || bf k):=by show (decide (0<=i) && match ks[i.toNat]? with | some k=>(!c || bf k) | none=>false)=_;rw [hk,decide_eq_true i0,Bool.true_and]
    rw [e] at q;refine aJ ⟨_,rfl,c,rfl,_,rfl,?_⟩;refine bU (λ d=>?_) (λ d=>?_)
    ·rw [d,Bool.true_or] at q;exact q
    ·have d':(!c)=false:=by simpa using d
     rw [d',Bool.false_or] at q;have at':atI rs i=↑a:=by
      have en:ixN rs.length i=some i.toNat:=by unfold ixN;rw [if_pos i0,if_pos ⋯]
      unfold atI;rw [en];exact hy
     exact ⟨_,Y,s,C,dx,_,_,Y,h1,T.cl,T.nK,dD _ _,_,Y,r,rs,i,_,Y,Y,EV h2,at',a,k,Y,ha,q⟩
end
def pF (k:Kd) (c:Bool):List V:=if c=true then [.int k.h,.int k.w] else [.int k.w,.int k.h]
inductive spSides (K:C4) (C:Addr) (vs:List V) (H:Hp) (Q:VK) (E_:XK):Prop
 | mk (s:Addr) (b:Int) (ks:List Kd) (x t:V) (T U:String) (e_1:vs=[.ref s,x,t]) (e_2:ShopAt C H s b ks) (e_3:Ty K H x T) (e_4:Ty K H t U) (e_5:dU ks x t=true) (e_6:∀ (i:Int) (c:Bool) (k:Kd) (p:Addr),x=.int i->t=.bl c->ks[i.toNat]? = some k->dU ks x t=true->H p=none->Q (.ref p) (upd H p (.tup (pF k c)))):spSides K C vs H Q E_
theorem io {ks:List Kd} {x t:V} (h:dU ks x t=true):∃ (i:Int) (c:Bool) (k:Kd),x=.int i/\t=.bl c/\0<=i/\ks[i.toNat]? = some k:=by
 unfold dU at h
 split at h
 ·rename_i i c
  rw [Bool.and_eq_true] at h;obtain ⟨h1,h2⟩:=h
  split at h2
  ·rename_i k hk
   exact ⟨i,c,k,Y,Y,C0 h1,hk⟩
  ·cases h2
 ·cases h
theorem sU {rs:List V} {i:Int} {v:V} (i0:0<=i) (h:rs[i.toNat]? = some v):atI rs i=some v:=by
 have en:ixN rs.length i=some i.toNat:=by unfold ixN;have:=(A6.mp h).1;rw [if_pos i0,if_pos ⋯]
 unfold atI;rw [en];exact h
section
variable {P:EQ} {w:ES} {K:C4} {mg:Str->Option ET} {base:Heap}
theorem scSides:FnScope ["self","kind","turned","row"] ["self","kind","turned"] (defScope cW):=⟨Y,Y,Y,∅,Y,∅,∅⟩
theorem pG {f C:Addr} {fd:ER} (F:Fun K "sides" "Shop.sides" cW f fd) (T:ShopTxt K C) (ML:Mn P w K mg base C "is_lying" ["self","kind","turned"] 2 (dE K C)) :
  FnOk P w K mg base CX0 3 f fd ["self","kind","turned"] (spSides K C):=by
 refine F.ok scSides (λ vs H Q E h=>?_) (λ cdv A outer s H vs Q E hr h=>?_)
 ·obtain ⟨s,b,ks,x,t,T0,U,rfl,_⟩:=h
  rfl
 obtain ⟨s,b,ks,x,t,T0,U,rfl,S,tx,tt,he,hq⟩:=h;have nd:=scSides.nd;refine ⟨_,ae (aK (aZ (aO (lq (pv 0) T.cl ML hr (aa (pv 1) (aa (pv 2) ab))))) (ag fV) aA)
  (ae (av (i:=3) nd rfl (Or.inl rfl) (am ix_tup (fY (pv 0) rfl) (pv 1) (λ _ _=>rfl)))
  (ae (aK (aO (pv 2)) (ag (au (ay (aa (am ix_tup (pv 3) ad (λ _ _=>rfl)) (aa (am ix_tup (pv 3) ad (λ _ _=>rfl)) ab))))) aA)
  (ag (au (ay (aa (am ix_tup (pv 3) ad (λ _ _=>rfl)) (aa (am ix_tup (pv 3) ad (λ _ _=>rfl)) ab))))))),?_⟩
 obtain ⟨dx,r,rs,h1,h2,h3⟩:=id S;refine ⟨_,Y,s,dx,_,Y,h1,cu _ _ ∅ ∅,_,Y,_,Y,s,b,ks,x,t,T0,U,Y,S,tx,tt,_,Y,?_⟩;cases hl:dU ks x t with
 | false=>rw [hl] at he; cases he
 | true =>
  obtain ⟨i,c,k,rfl,rfl,i0,hk⟩:=io hl;have tD:=EC h3;have hik:=(A6.mp hk).1;obtain ⟨y,hy⟩:∃y,rs[i.toNat]? = some y:=⟨rs[i.toNat]'⋯,by simp [show i.toNat < rs.length by omega]⟩
  obtain ⟨k',hk',a,rfl,ha⟩:=EY h3 hy;rw [hk] at hk';obtain rfl:=B8 hk';refine aJ ?_;refine ⟨_,Y,s,C,dx,_,_,Y,h1,T.cl,T.nK,dD _ _,_,Y,r,rs,i,_,Y,Y,EV h2,sU i0 hy,?_⟩;refine ⟨_,Y,_,Y,?_⟩;cases c with
  | true =>
   refine aS ?_;refine ⟨_,Y,a,_,1,_,Y,Y,EV ha,Y,_,Y,a,_,0,_,Y,Y,EV ha,Y,zS2,λ p hp=>?_⟩;exact hq i true k p rfl rfl hk hl hp
  | false =>
   refine aJ ?_;refine ⟨_,Y,a,_,0,_,Y,Y,EV ha,Y,_,Y,a,_,1,_,Y,Y,EV ha,Y,zS2,λ p hp=>?_⟩;exact hq i false k p rfl rfl hk hl hp
end
mutual
inductive Dt (p:Addr) (H:Hp):V->PyData->Prop
 | non:Dt p H .non .none
 | bl (b:Bool):Dt p H (.bl b) (.bool b)
 | int (i:Int):Dt p H (.int i) (.int i)
 | str (z:Str):Dt p H (.str z) (.str z)
 | lst {a:Addr} {xs:List V} {ds:List PyData}:a≠p->H a=↥xs->Dts p H xs ds->Dt p H (.ref a) (.list ds)
 | tup {a:Addr} {xs:List V} {ds:List PyData}:H a= ~~~xs->Dts p H xs ds->Dt p H (.ref a) (.tuple ds)
 | emp {a:Addr}:H a=some (.dK [])->Dt p H (.ref a) (.dict [])
inductive Dts (p:Addr) (H:Hp):List V->List PyData->Prop
 | nil:Dts p H [] []
 | cons {x:V} {d:PyData} {xs:List V} {ds:List PyData}:Dt p H x d->Dts p H xs ds->Dts p H (x :: xs) (d :: ds)
end
mutual
theorem Dt.same {p:Addr} {H H':Hp} (s:Same H H'):∀ {v:V} {d:PyData},Dt p H v d->Dt p H' v d
 | _,_,.non=>.non
 | _,_,.bl b=>.bl b
 | _,_,.int i=>.int i
 | _,_,.str z=>.str z
 | _,_,.lst n h r=>.lst n (s _ _ h) (r.same s)
 | _,_,.tup h r=>.tup (s _ _ h) (r.same s)
 | _,_,.emp h=>.emp (s _ _ h)
theorem Dts.same {p:Addr} {H H':Hp} (s:Same H H'):∀ {vs:List V} {ds:List PyData},Dts p H vs ds->Dts p H' vs ds
 | _,_,.nil=>.nil
 | _,_,.cons a r=>.cons (a.same s) (r.same s)
end
theorem Dts.length {p:Addr} {H:Hp}:∀ {vs:List V} {ds:List PyData},Dts p H vs ds->vs.length=ds.length
 | _,_,.nil=>rfl
 | _,_,.cons _ r=>by rw [List.length_cons,List.length_cons,r.length]
theorem Dt.ty {K:C4} {p:Addr} {H:Hp} {v:V} {d:PyData} (h:Dt p H v d):∃T,Ty K H v T:=by
 cases h with
 | non=>exact ⟨_,Ty.non⟩
 | bl b=>exact ⟨_,Ty.bl⟩
 | int i=>exact ⟨_,Ty.int⟩
 | str z=>exact ⟨_,Ty.str⟩
 | lst _ h _=>exact ⟨_,Ty.lst h⟩
 | tup h _=>exact ⟨_,Ty.tup h⟩
 | emp h=>exact ⟨_,Ty.dK h⟩
mutual
theorem Dt.but {p:Addr} {H H':Hp} (hp:∃xs,H p=↥xs) (b:But p H H'):∀ {v:V} {d:PyData},Dt p H v d->Dt p H' v d
 | _,_,.non=>.non
 | _,_,.bl b=>.bl b
 | _,_,.int i=>.int i
 | _,_,.str z=>.str z
 | _,_,.lst n h r=>.lst n (b _ _ n h) (r.but hp b)
 | _,_,.tup h r=>.tup (b _ _ (λ z=>by obtain ⟨_,e⟩:=hp; rw [z,e] at h; cases h) h) (r.but hp b)
 | _,_,.emp h=>.emp (b _ _ (λ z=>by obtain ⟨_,e⟩:=hp; rw [z,e] at h; cases h) h)
theorem Dts.but {p:Addr} {H H':Hp} (hp:∃xs,H p=↥xs) (b:But p H H'):∀ {vs:List V} {ds:List PyData},Dts p H vs ds->Dts p H' vs ds
 | _,_,.nil=>.nil
 | _,_,.cons a r=>.cons (a.but hp b) (r.but hp b)
end
mutual
def wt:PyData->Nat
 | .str z=>z.length + 1
 | .list ds=>wts ds + 1
 | .tuple ds=>wts ds + 1
 | _=>1
def wts:List PyData->Nat
 | []=>0
 | d :: r=>wt d + wts r
end
theorem pH (d:PyData):1<=wt d:=by cases d <;> simp only [wt] <;> omega
def aN:PyData->Option (List PyData)
 | .list ds=>some ds
 | .tuple ds=>some ds
 | _=>none
theorem pI {d x:PyData} {ds:List PyData} (h:aN d=some ds) (hx:x∈ds):sizeOf x < sizeOf d:=by
 have:=List.sizeOf_lt_of_mem hx;cases d <;> simp only [aN,Option.some.injEq,reduceCtorEq] at h
 ·subst h; simp; omega
 ·subst h; simp; omega
theorem Dt.row {K:C4} {p:Addr} {H:Hp} {v:V} {d:PyData} (h:Dt p H v d):(aN d=none/\∃T,Ty K H v T/\(T == "list" || T == "tuple")=false)\/∃a xs ds T,aN d=some ds/\v=.ref a/\(H a=↥xs\/H a= ~~~xs)/\Dts p H xs ds/\Ty K H v T/\(T == "list" || T == "tuple")=true:=by
 cases h with
 | non=>exact .inl ⟨Y,_,Ty.non,Y⟩
 | bl b=>exact .inl ⟨Y,_,Ty.bl,Y⟩
 | int i=>exact .inl ⟨Y,_,Ty.int,Y⟩
 | str z=>exact .inl ⟨Y,_,Ty.str,Y⟩
 | lst _ h r=>exact .inr ⟨_,_,_,_,Y,Y,.inl h,r,Ty.lst h,Y⟩
 | tup h r=>exact .inr ⟨_,_,_,_,Y,Y,.inr h,r,Ty.tup h,Y⟩
 | emp h=>exact .inl ⟨Y,_,Ty.dK h,Y⟩
def bw (d:PyData) (z:Str) (n:Nat):Bool:=match aN d with
 | some (.str y :: r)=>decide (r.length + 1=n) && decide (y=z)
 | _=>false
section
variable {P:EQ} {w:ES} {K:C4} {mg:Str->Option ET} {base:Heap}
inductive spBegins (vs:List V) (H:Hp) (Q:VK) (E_:XK):Prop
 | mk (pp:Addr) (v:V) (d:PyData) (z:Str) (n:Nat) (e_1:vs=[v,.str z,.int n]) (e_2:1<=n) (e_3:Dt pp H v d) (e_4:∀H',Same H H'->Q (.bl (bw d z n)) H'):spBegins vs H Q E_
theorem scbegins:FnScope ["thing","word","many"] ["thing","word","many"] (defScope cx):=⟨Y,Y,Y,∅,Y,∅,∅⟩
theorem mG {f:Addr} {fd:ER} (F:Fun K "begins_with" "begins_with" cx f fd) (B:Blt mg) (bs:mg "str" = none) (DR:Dn P w K mg base "is_row" ["thing"] 1 (jd K)):FnOk P w K mg base CX0 2 f fd ["thing","word","many"] (spBegins):=by
 refine F.ok scbegins (λ vs H Q E h=>?_) (λ cdv A outer s H vs Q E hr h=>?_)
 ·obtain ⟨pp,v,d,z,n,rfl,_⟩:=h
  rfl
 obtain ⟨pp,v,d,z,n,rfl,n1,hd,q⟩:=h;have nd:=scbegins.nd;refine ⟨_,(((PW.pt (cB (@aZ _ _ _ _ (@aO _ _ _ (DR∪((pv 0)^^^ab)) (by intro _; rfl))) (cf ((@aF _ _ _ _ _ _ _ _ _ aU Y B.len PySem.boot_len ((pv 0)^^^ab) ∅ ∅ Y Y)<*>gQ<*>(pv 2)))))<|>(bO⁻¹)<|>aA)<<<((dd (@aF _ _ _ _ _ _ _ _ _ bR Y B.isi PyProof.Rows.boot_isinstance (((pv 0)&&&bH&&&ad)^^^((cN (v:=.ty "str") Y bs PyProof.Rows.boot_str Y)^^^ab)) ∅ ∅ Y Y) (ef (@bu _ _ _ _ _ _ _ _ bA ((pv 0)&&&bH&&&ad) (pv 1) (az _))))⁻¹)),?_⟩;rcases hd.row (K:=K) with ⟨e,T,ty,hT⟩ | ⟨a,xs,ds,T,e,rfl,hx,dx,ty,hT⟩
 ·refine ⟨_,Y,v,T,Y,ty,λ H1 s1=>⟨_,Y,?_⟩⟩;rw [hT];have q1:=q H1 s1;unfold bw at q1;rw [e] at q1;exact aS (aS q1)
 refine ⟨_,Y,_,T,Y,ty,λ H1 s1=>⟨_,Y,?_⟩⟩;rw [hT];have sq:SqL K H1 a xs\/SqT K H1 a xs:=hx.imp (λ z=>EW (s1 _ _ z)) λ z=>EV (s1 _ _ z);refine aJ ⟨_,rfl,a,_,rfl,sq,_,rfl,rfl,_,rfl,?_⟩;have q1:=q H1 s1;have len:=dx.length;cases dx with
 | nil =>
  rw [show decide (V.int (([]:List V).length:Int)=V.int (n:Int))=false from decide_eq_false (λ z=>by have:=V.int.inj z; simp at this; omega)];unfold bw at q1;rw [e] at q1;exact aS q1
 | @cons x d1 xs ds hd1 dr =>
  have a0:atI (x :: xs) 0=some x:=aG (EE _) rfl;have ixs:∀Q':VK,Q' x H1->rIx K (.ref a) (.int 0) H1 Q':=λ Q' h=>sq.elim (λ z=>.inl ⟨a,_,0,x,Y,Y,z,a0,h⟩) (λ z=>.inr (.inl ⟨a,_,0,x,Y,Y,z,a0,h⟩));rw [List.length_cons,List.length_cons] at len
  by_cases hn:ds.length + 1=n
  ·rw [show decide (V.int ((x :: xs).length:Int)=V.int (n:Int))=true from decide_eq_true (by rw [List.length_cons,len,hn])];refine aJ ⟨_,rfl,ixs _ ?_⟩;cases hd1 with
   | str y =>
    refine ⟨_,_,_,_,_,Y,(Ty.str (K:=K)).2,Y,cP "str" (by simp [aE]),_,Y,aS ?_⟩;refine ⟨_,Y,ixs _ ⟨_,Y,Y,?_⟩⟩;unfold bw at q1;rw [e] at q1;simp only [hn,decide_true,Bool.true_and] at q1;rw [show decide (V.str y=V.str z)=decide (y=z) from decide_eq_decide.mpr ⟨V.str.inj,congrArg _⟩];exact q1
   | non=>exact ⟨_,_,_,_,_,Y,(Ty.non (K:=K)).2,Y,cP "NoneType" (by simp [aE]),_,Y,aJ (by unfold bw at q1; rw [e] at q1; exact q1)⟩
   | bl b=>exact ⟨_,_,_,_,_,Y,(Ty.bl (K:=K)).2,Y,cP "bool" (by simp [aE]),_,Y,aJ (by unfold bw at q1; rw [e] at q1; exact q1)⟩
   | int i=>exact ⟨_,_,_,_,_,Y,(Ty.int (K:=K)).2,Y,cP "int" (by simp [aE]),_,Y,aJ (by unfold bw at q1; rw [e] at q1; exact q1)⟩
   | lst _ h r=>exact ⟨_,_,_,_,_,Y,(Ty.lst (s1 _ _ h) (K:=K)).2,Y,cP "list" (by simp [aE]),_,Y,aJ (by unfold bw at q1; rw [e] at q1; exact q1)⟩
   | tup h r=>exact ⟨_,_,_,_,_,Y,(Ty.tup (s1 _ _ h) (K:=K)).2,Y,cP "tuple" (by simp [aE]),_,Y,aJ (by unfold bw at q1; rw [e] at q1; exact q1)⟩
   | emp h=>exact ⟨_,_,_,_,_,Y,(Ty.dK (s1 _ _ h) (K:=K)).2,Y,cP "dict" (by simp [aE]),_,Y,aJ (by unfold bw at q1; rw [e] at q1; exact q1)⟩
  ·rw [show decide (V.int ((x :: xs).length:Int)=V.int (n:Int))=false from decide_eq_false (λ z=>hn (by have:=V.int.inj z; rw [List.length_cons,len] at this; omega))];refine aS ?_;have z:bw d z n=false:=by unfold bw;rw [e];cases d1 <;> simp [hn]
   rw [z] at q1;exact q1
def sd1 (k:Kd) (c:Bool):Int:=if c=true then k.h else k.w
def sd2 (k:Kd) (c:Bool):Int:=if c=true then k.w else k.h
theorem jm (k:Kd) (c:Bool):pF k c=[.int (sd1 k c),.int (sd2 k c)]:=by cases c <;> rfl
def dk (ks:List Kd) (w h:Int) (kv tv xv yv:V):Bool:=dU ks kv tv && aM xv 0 && aM yv 0 && (match kv,tv,xv,yv with
 | .int i,.bl c,.int x,.int y=>(match ks[i.toNat]? with
  | some k=>decide (x + sd1 k c<=w) && decide (y + sd2 k c<=h)
  | none=>false)
 | _,_,_,_=>false)
inductive spLiesG (K:C4) (C:Addr) (vs:List V) (H:Hp) (Q:VK) (E_:XK):Prop
 | mk (s:Addr) (b:Int) (ks:List Kd) (w h:Int) (kv tv xv yv:V) (T1 T2 T3 T4:String) (e_1:vs=[.ref s,.int w,.int h,kv,tv,xv,yv]) (e_2:ShopAt C H s b ks) (e_3:Ty K H kv T1) (e_4:Ty K H tv T2) (e_5:Ty K H xv T3) (e_6:Ty K H yv T4) (e_7:∀H',Same H H'->Q (.bl (dk ks w h kv tv xv yv)) H'):spLiesG K C vs H Q E_
theorem scliesG:FnScope ["shop","wide","high","kind","turned","x","y","piece_wide","piece_high"] ["shop","wide","high","kind","turned","x","y"] (defScope fL):=⟨Y,Y,Y,∅,Y,∅,∅⟩
theorem pJ {f C:Addr} {fd:ER} (F:Fun K "lies_in" "lies_in" fL f fd) (T:ShopTxt K C) (DW:Dn P w K mg base "is_whole" ["thing","least"] 1 (cr K)) (MI:Mn P w K mg base C "is_lying" ["self","kind","turned"] 2 (dE K C)) (MS:Mn P w K mg base C "sides" ["self","kind","turned"] 3 (spSides K C)):FnOk P w K mg base CX0 4 f fd ["shop","wide","high","kind","turned","x","y"] (spLiesG K C):=by
 refine F.ok scliesG (λ vs H Q E h=>?_) (λ cdv A outer s H vs Q E hr h=>?_)
 ·obtain ⟨s,b,ks,w1,h1,kv,tv,xv,yv,T1,T2,T3,T4,rfl,_⟩:=h
  rfl
 obtain ⟨s,b,ks,w1,h1',kv,tv,xv,yv,T1,T2,T3,T4,rfl,S,t1,t2,t3,t4,q⟩:=h;have nd:=scliesG.nd;have hr1:=hr.mono (show 1<=3 by decide);have hr2:=hr.mono (show 2<=3 by decide);refine ⟨_,(((PW.pt (cB (@aZ _ _ _ _ (@aO _ _ _ (lq (pv 0) T.cl MI hr2 ((pv 3)^^^((pv 4)^^^ab))) (by intro _; rfl))) (cB (@aZ _ _ _ _ (@aO _ _ _ (@ao _ _ _ _ _ _ _ _ _ _ DW hr1 Y ((pv 5)^^^(ad^^^ab)) ∅ Y Y) (by intro _; rfl))) (cf (@aZ _ _ _ _ (@aO _ _ _ (@ao _ _ _ _ _ _ _ _ _ _ DW hr1 Y ((pv 6)^^^(ad^^^ab)) ∅ Y Y) (by intro _; rfl)))))))<|>(bO⁻¹)<|>aA)<<<((@be _ _ _ _ _ _ (lq (pv 0) T.cl MS hr ((pv 3)^^^((pv 4)^^^ab))) (aR Y (7•(8•aI))) Y Y Y)<<<((dd (@bu _ _ _ _ _ _ _ _ gR ((pv 5)|||aD|||(pv 7)) (pv 1) (az _)) (ef (@bu _ _ _ _ _ _ _ _ gR ((pv 6)|||aD|||(pv 8)) (pv 2) (az _))))⁻¹))),?_⟩;obtain ⟨dx,r,rs,h1,h2,h3⟩:=id S;refine ⟨_,Y,s,dx,_,Y,h1,(cu _ _ ∅ ∅),_,Y,_,Y,s,b,ks,kv,tv,T1,T2,Y,S,t1,t2,_,Y,?_⟩;cases ly:dU ks kv tv with
 | false =>
  have q1:=q H (Same.refl _);unfold dk at q1;rw [ly] at q1;exact aS (aS q1)
 | true =>
 refine aJ ⟨_,rfl,xv,T3,0,rfl,t3,_,rfl,?_⟩;cases hx:aM xv 0 with
 | false =>
  have q1:=q H (Same.refl _);unfold dk at q1;rw [ly,hx] at q1;exact aS (aS q1)
 | true =>
 refine aJ ⟨_,rfl,yv,T4,0,rfl,t4,_,rfl,?_⟩;cases hy:aM yv 0 with
 | false =>
  have q1:=q H (Same.refl _);unfold dk at q1;rw [ly,hx,hy] at q1;exact aS q1
 | true =>
 refine aJ ?_;obtain ⟨i,c,k,rfl,rfl,i0,hk⟩:=io ly;obtain ⟨x1,rfl⟩:∃i,xv=.int i:=by cases xv <;> first | exact ⟨_,Y⟩ | cases hx
 obtain ⟨y1,rfl⟩:∃i,yv=.int i:=by cases yv <;> first | exact ⟨_,Y⟩ | cases hy
 refine ⟨_,Y,s,dx,_,Y,h1,(cu _ _ ∅ ∅),_,Y,_,Y,s,b,ks,.int i,.bl c,T1,T2,Y,S,t1,t2,ly,λ i' c' k' p e1 e2 hk' _ hp=>?_⟩;cases e1;cases e2;rw [hk] at hk';cases hk';rw [jm];have q1:=q _ (EU hp (o:=.tup [.int (sd1 k c),.int (sd2 k c)]));refine ⟨p,_,Y,EV af,Y,_,_,Y,_,_,Y,Y,?_⟩;refine ⟨_,Y,_,Y,_,_,Y,Y,_,Y,_,_,Y,Y,_,Y,?_⟩;unfold dk at q1;rw [ly,hx,hy] at q1;simp only [hk,Bool.true_and] at q1;refine bU (λ cc=>?_) (λ cc=>?_)
 ·refine ⟨_,Y,_,Y,_,_,Y,Y,_,Y,_,_,Y,Y,?_⟩;rw [cc,Bool.true_and] at q1;exact q1
 ·rw [show decide (x1 + sd1 k c<=w1)=false by simpa using cc,Bool.false_and] at q1;exact q1
end
theorem Dts.one {p:Addr} {H:Hp} {xs:List V} {ds:List PyData} {n:Nat} (h:Dts p H xs ds) (hl:ds.length=n + 1):∃x d xs' ds',xs=x :: xs'/\ds=d :: ds'/\Dt p H x d/\Dts p H xs' ds'/\ds'.length=n:=by
 cases h with
 | nil=>cases hl
 | cons a r=>exact ⟨_,_,_,_,Y,Y,a,r,Nat.succ.inj hl⟩
theorem Dts.zero {p:Addr} {H:Hp} {xs:List V} {ds:List PyData} (h:Dts p H xs ds) (hl:ds.length=0):xs=[]/\ds=[]:=by
 cases h with
 | nil=>exact ⟨Y,Y⟩
 | cons a r=>cases hl
theorem Dts.three {p:Addr} {H:Hp} {xs:List V} {ds:List PyData} (h:Dts p H xs ds) (hl:ds.length=3):∃x1 x2 x3 d1 d2 d3,xs=[x1,x2,x3]/\ds=[d1,d2,d3]/\Dt p H x1 d1/\Dt p H x2 d2/\Dt p H x3 d3:=by obtain ⟨x1,d1,xs,ds,rfl,rfl,h1,h,hl⟩:=h.one hl;obtain ⟨x2,d2,xs,ds,rfl,rfl,h2,h,hl⟩:=h.one hl;obtain ⟨x3,d3,xs,ds,rfl,rfl,h3,h,hl⟩:=h.one hl;obtain ⟨rfl,rfl⟩:=h.zero hl;exact ⟨_,_,_,_,_,_,Y,Y,h1,h2,h3⟩
theorem Dts.four {p:Addr} {H:Hp} {xs:List V} {ds:List PyData} (h:Dts p H xs ds) (hl:ds.length=4):∃x1 x2 x3 x4 d1 d2 d3 d4,xs=[x1,x2,x3,x4]/\ds=[d1,d2,d3,d4]/\Dt p H x1 d1/\Dt p H x2 d2/\Dt p H x3 d3/\Dt p H x4 d4:=by obtain ⟨x1,d1,xs,ds,rfl,rfl,h1,h,hl⟩:=h.one hl;obtain ⟨x2,x3,x4,d2,d3,d4,rfl,rfl,h2,h3,h4⟩:=h.three hl;exact ⟨_,_,_,_,_,_,_,_,Y,Y,h1,h2,h3,h4⟩
section
variable {P:EQ} {w:ES} {K:C4} {mg:Str->Option ET} {base:Heap}
structure TrC (K:C4) (mg:Str->Option Value) (wa:Addr):Prop where
 dn:∃t,mg "DOWN" = some (.str "down" t)
 rs:∃t,mg "REST" = some (.str "rest" t)
 pc:∃t,mg "PIECE" = some (.str "piece" t)
 n1:∃t,mg "THINGS_OF_A_REST" = some (.int 1 t)
 n5:∃t,mg "THINGS_OF_A_PIECE" = some (.int 5 t)
 n4:∃t,mg "THINGS_OF_A_CUT" = some (.int 4 t)
 wy:mg "WAYS" = ↑wa
 wq:∀H,SqT K H wa [.str "down",.str "across"]
def rj (b side:Int):PyData->Bool
 | .int p=>decide (1<=p) && decide (p + b < side)
 | _=>false
def ed (b side:Int) (d:PyData):Bool:=match aN d with
 | some [_,p,_,_]=>rj b side p
 | _=>false
def isC (b w h:Int) (d:PyData):Bool:=if bw d "down" 4=true then ed b w d else if bw d "across" 4=true then ed b h d else false
def jo (ks:List Kd) (w h:Int):PyData->PyData->PyData->PyData->Bool
 | .int i,.bool c,.int x,.int y=>dk ks w h (.int i) (.bl c) (.int x) (.int y)
 | _,_,_,_=>false
def isL (ks:List Kd) (w h:Int) (d:PyData):Bool:=if bw d "piece" 5=true then (match aN d with
 | some [_,k,t,x,y]=>jo ks w h k t x y
 | _=>false) else bw d "rest" 1
inductive spParts2 (vs:List V) (H:Hp) (Q:VK) (E_:XK):Prop
 | mk (b w h p:Int) (t:Addr) (dn:Bool) (e_1:vs=[.int b, .ref t, .str (if dn=true then "down" else "across"), .int p]) (e_2:H t= ~~~[.int w, .int h]) (e_3:∀ (u t1 t2:Addr) (H':Hp), H' u= ~~~[.ref t1, .ref t2]->H' t1= ~~~(if dn=true then [.int p, .int h] else [.int w, .int p])->H' t2= ~~~(if dn=true then [.int (w - p - b), .int h] else [.int w, .int (h - p - b)])->Same H H'->Q (.ref u) H'):spParts2 vs H Q E_
inductive spCut (vs:List V) (H:Hp) (Q:VK) (E_:XK):Prop
 | mk (pp:Addr) (b x y w h:Int) (sp:Addr) (v:V) (d:PyData) (e_1:vs=[.int b,.ref sp]) (e_2:H sp= ~~~[.int x,.int y,.int w,.int h,v]) (e_3:Dt pp H v d) (e_4:∀H',Same H H'->Q (.bl (isC b w h d)) H'):spCut vs H Q E_
inductive spLeaf (C:Addr) (vs:List V) (H:Hp) (Q:VK) (E_:XK):Prop
 | mk (pp:Addr) (b' x y w h:Int) (s sp:Addr) (ks:List Kd) (v:V) (d:PyData) (e_1:vs=[.ref s,.ref sp]) (e_2:ShopAt C H s b' ks) (e_3:H sp= ~~~[.int x,.int y,.int w,.int h,v]) (e_4:Dt pp H v d) (e_5:∀H',Same H H'->Q (.bl (isL ks w h d)) H'):spLeaf C vs H Q E_
inductive spBehind (vs:List V) (H:Hp) (Q:VK) (E_:XK):Prop
 | mk (b x y w h p:Int) (sp a:Addr) (dn:Bool) (l r:V) (e_1:vs=[.int b, .ref sp]) (e_2:H sp= ~~~[.int x, .int y, .int w, .int h, .ref a]) (e_3:(H a=some (.lst [.str (if dn=true then "down" else "across"), .int p, l, r])\/H a=some (.tup [.str (if dn=true then "down" else "across"), .int p, l, r]))) (e_4:∀ (u t1 t2:Addr) (H':Hp), H u=none->H' u=↥[.ref t1, .ref t2]->H' t1= ~~~(if dn=true then [.int x, .int y, .int p, .int h, l] else [.int x, .int y, .int w, .int p, l])->H' t2= ~~~(if dn=true then [.int (x + (p + b)), .int y, .int (w - p - b), .int h, r] else [.int x, .int (y + (p + b)), .int w, .int (h - p - b), r])->Same H H'->Q (.ref u) H'):spBehind vs H Q E_
theorem scparts2:FnScope ["blade","part","way","p","wide","high"] ["blade","part","way","p"] (defScope dM):=⟨Y,Y,Y,∅,Y,∅,∅⟩
theorem mH {f wa:Addr} {fd:ER} (F:Fun K "cut_parts" "cut_parts" dM f fd) (Z:TrC K mg wa):FnOk P w K mg base CX0 1 f fd ["blade","part","way","p"] (spParts2):=by
 refine F.ok scparts2 (λ vs H Q E h=>?_) (λ cdv A outer s H vs Q E hr h=>?_)
 ·obtain ⟨b,w1,h1,p1,t,dn,rfl,_⟩:=h
  rfl
 obtain ⟨b,w1,h1,p1,t,dn,rfl,ht,q⟩:=h;have nd:=scparts2.nd;obtain ⟨tdn,hdn⟩:=Z.dn;obtain ⟨trs,hrs⟩:=Z.rs;obtain ⟨tpc,hpc⟩:=Z.pc;obtain ⟨tn1,hn1⟩:=Z.n1;obtain ⟨tn5,hn5⟩:=Z.n5;obtain ⟨tn4,hn4⟩:=Z.n4;refine ⟨_,((@be _ _ _ _ _ _ (pv 1) (aR Y (4•(5•aI))) Y Y Y)<<<((((pv 2)<*>bA<*>(aY (v:=.str "down") Y hdn ⟨tdn,Y⟩))<|>((@ay _ _ _ _ _ ((@ay _ _ _ _ _ ((pv 3)^^^((pv 5)^^^ab)))^^^((@ay _ _ _ _ _ ((((pv 4)|||aW|||(pv 3))|||aW|||(pv 0))^^^((pv 5)^^^ab)))^^^ab)))⁻¹)<|>aA)<<<((@ay _ _ _ _ _ ((@ay _ _ _ _ _ ((pv 4)^^^((pv 3)^^^ab)))^^^((@ay _ _ _ _ _ ((pv 4)^^^((((pv 5)|||aW|||(pv 3))|||aW|||(pv 0))^^^ab)))^^^ab)))⁻¹))),?_⟩;refine ⟨_,Y,t,_,Y,EV ht,Y,_,_,Y,_,_,Y,Y,?_⟩;cases dn with
 | true =>
  refine ⟨_,Y,Y,_,Y,aS ?_⟩;refine ⟨_,Y,_,Y,zS2,λ t1 h1'=>?_⟩;have sa:Same H (upd H t1 (.tup [.int p1,.int h1])):=EU h1';have ka:(upd H t1 (.tup [.int p1,.int h1])) t1= ~~~[.int p1,.int h1]:=af;generalize upd H t1 (.tup [.int p1,.int h1])=Ha at sa ka ⊢;refine ⟨_,Y,_,Y,_,_,Y,Y,_,Y,_,_,Y,Y,_,Y,zS2,λ t2 h2'=>?_⟩;have sb:Same Ha (upd Ha t2 (.tup [.int (w1 - p1 - b),.int h1])):=EU h2';have kb:(upd Ha t2 (.tup [.int (w1 - p1 - b),.int h1])) t2= ~~~[.int (w1 - p1 - b),.int h1]:=af;generalize upd Ha t2 (.tup [.int (w1 - p1 - b),.int h1])=Hb at sb kb ⊢;refine ⟨zS2,λ u hu=>?_⟩;have sc:Same Hb (upd Hb u (.tup [.ref t1,.ref t2])):=EU hu;have kc:(upd Hb u (.tup [.ref t1,.ref t2])) u= ~~~[.ref t1,.ref t2]:=af;generalize upd Hb u (.tup [.ref t1,.ref t2])=Hc at sc kc ⊢;exact q u t1 t2 Hc kc (sc _ _ (sb _ _ ka)) (sc _ _ kb) ((sa.trans sb).trans sc)
 | false =>
  refine ⟨_,Y,Y,_,Y,aJ ?_⟩;refine ⟨_,Y,_,Y,zS2,λ t1 h1'=>?_⟩;have sa:Same H (upd H t1 (.tup [.int w1,.int p1])):=EU h1';have ka:(upd H t1 (.tup [.int w1,.int p1])) t1= ~~~[.int w1,.int p1]:=af;generalize upd H t1 (.tup [.int w1,.int p1])=Ha at sa ka ⊢;refine ⟨_,Y,_,Y,_,Y,_,_,Y,Y,_,Y,_,_,Y,Y,zS2,λ t2 h2'=>?_⟩;have sb:Same Ha (upd Ha t2 (.tup [.int w1,.int (h1 - p1 - b)])):=EU h2';have kb:(upd Ha t2 (.tup [.int w1,.int (h1 - p1 - b)])) t2= ~~~[.int w1,.int (h1 - p1 - b)]:=af;generalize upd Ha t2 (.tup [.int w1,.int (h1 - p1 - b)])=Hb at sb kb ⊢;refine ⟨zS2,λ u hu=>?_⟩;have sc:Same Hb (upd Hb u (.tup [.ref t1,.ref t2])):=EU hu;have kc:(upd Hb u (.tup [.ref t1,.ref t2])) u= ~~~[.ref t1,.ref t2]:=af;generalize upd Hb u (.tup [.ref t1,.ref t2])=Hc at sc kc ⊢;exact q u t1 t2 Hc kc (sc _ _ (sb _ _ ka)) (sc _ _ kb) ((sa.trans sb).trans sc)
theorem gq {d:PyData} {z:Str} {n:Nat} (h:bw d z n=true):∃r,aN d=some (.str z :: r)/\r.length + 1=n:=by
 unfold bw at h
 split at h
 ·rename_i y r e
  rw [Bool.and_eq_true] at h;have:=C0 h.2;subst this;exact ⟨r,e,C0 h.1⟩
 ·cases h
theorem Dt.ref_row {p:Addr} {H:Hp} {v:V} {d:PyData} {ds:List PyData} (h:Dt p H v d) (e:aN d=some ds):∃a xs,v=.ref a/\(H a=↥xs\/H a= ~~~xs)/\Dts p H xs ds:=by
 cases h <;> simp only [aN,Option.some.injEq,reduceCtorEq] at e
 ·subst e; exact ⟨_,_,Y,.inl ‹_›,‹_›⟩
 ·subst e; exact ⟨_,_,Y,.inr ‹_›,‹_›⟩
theorem ixR {H H1:Hp} {a:Addr} {xs:List V} (s1:Same H H1) (hx:H a=↥xs\/H a= ~~~xs) {i:Int} {x:V} (e:atI xs i=some x) {Q':VK} (h:Q' x H1):rIx K (.ref a) (.int i) H1 Q' :=
 hx.elim (λ z=>.inl ⟨a,_,i,x,Y,Y,EW (s1 _ _ z),e,h⟩) (λ z=>.inr (.inl ⟨a,_,i,x,Y,Y,EV (s1 _ _ z),e,h⟩))
theorem sccut:FnScope ["blade","spot","tree","way","side"] ["blade","spot"] (defScope iN):=⟨Y,Y,Y,∅,Y,∅,∅⟩
theorem sV {f wa:Addr} {fd:ER} (F:Fun K "is_cut" "is_cut" iN f fd) (Z:TrC K mg wa) (DB:Dn P w K mg base "begins_with" ["thing","word","many"] 2 spBegins) (DW:Dn P w K mg base "is_whole" ["thing","least"] 1 (cr K)):FnOk P w K mg base CX0 3 f fd ["blade","spot"] (spCut):=by
 refine F.ok sccut (λ vs H Q E h=>?_) (λ cdv A outer s H vs Q E hr h=>?_)
 ·obtain ⟨pp,b,x1,y1,w1,h1,sp,v,d,rfl,_⟩:=h
  rfl
 obtain ⟨pp,b,x0',y0',w1,h1,sp,v,d,rfl,hsp,hd,q⟩:=h;have nd:=sccut.nd;obtain ⟨tdn,hdn⟩:=Z.dn;obtain ⟨trs,hrs⟩:=Z.rs;obtain ⟨tpc,hpc⟩:=Z.pc;obtain ⟨tn1,hn1⟩:=Z.n1;obtain ⟨tn5,hn5⟩:=Z.n5;obtain ⟨tn4,hn4⟩:=Z.n4;have hr1:=hr.mono (show 1<=2 by decide);refine ⟨_,((2∣((pv 1)&&&ix_tup&&&ad))<<<((@cy _ _ _ _ _ _ _ _ ED Y (jH (aY (v:=.ref wa) Y Z.wy Y)) (ai (i:=3) nd Y (Or.inl Y)) (@ag _ _ _ ((@aO _ _ _ (DB∪((pv 2)^^^((pv 3)^^^((aY (v:=.int 4) Y hn4 ⟨tn4,Y⟩)^^^ab)))) (by intro _; rfl))<|>((4∣(iU ((pv 3)<*>bA<*>(aY (v:=.str "down") Y hdn ⟨tdn,Y⟩)) ((pv 1)&&&ix_tup&&&ad) ((pv 1)&&&ix_tup&&&ad)))<<<((dd (@ao _ _ _ _ _ _ _ _ _ _ DW hr1 Y (((pv 2)&&&bH&&&ad)^^^(ad^^^ab)) ∅ Y Y) (ef (@bu _ _ _ _ _ _ _ _ iX (((pv 2)&&&bH&&&ad)|||aD|||(pv 0)) (pv 4) (az _))))⁻¹))<|>aA)) (by intro _; rfl))<<<(bO⁻¹))),?_⟩;refine ⟨_,Y,sp,_,4,_,Y,Y,EV hsp,Y,?_⟩;refine ⟨wa, Y, ⟨_, Z.wq H⟩, kX (xs:=[.str "down", .str "across"]) (λ i σ H'=>(∃v3 v4, σ=[⇑b, ↑sp, some v, v3, v4])/\Same H H'/\(1<=i->bw d "down" 4=false)/\(2<=i->bw d "across" 4=false)) ⟨⟨_, _, Y⟩, Same.refl _, λ z=>absurd z ∅, λ z=>absurd z ∅⟩ (λ i σ H' _ _=>Z.wq H') ?_ ?_⟩
 ·rintro i y σ H1 hi ⟨⟨v3,v4,rfl⟩,s1,g1,g2⟩
  match i,hi with
  | 0,hi =>
   cases hi;refine ⟨_,Y,_,Y,pp,v,d,"down",4,Y,∅,hd.same s1,λ H2 s12=>⟨_,Y,?_⟩⟩;have s2:=s1.trans s12;refine bU (λ hb=>?_) (λ hb=>⟨⟨_,_,Y⟩,s2,λ _=>by simpa using hb,λ z=>absurd z ∅⟩);obtain ⟨r0,er,rl⟩:=gq hb;obtain ⟨a,xs,rfl,hx,dx⟩:=hd.ref_row er;cases dx with
   | @cons x0 _ xs0 _ hd0 dx =>
   obtain ⟨x1,x2,x3,d1,d2,d3,rfl,rfl,hd1,hd2,hd3⟩:=dx.three (by simpa using rl);have sp2:=s2 _ _ hsp;have co:ed b w1 d=rj b w1 d1:=by unfold ed;rw [er]
   refine ⟨_,Y,Y,_,Y,aS ⟨_,Y,sp,_,2,_,Y,Y,EV sp2,Y,?_⟩⟩;have at1:atI [x0,x1,x2,x3] 1=some x1:=aG ∅ rfl;obtain ⟨T1,t1⟩:=(hd1.same s2).ty (K:=K);refine ⟨_,Y,ixR s2 hx at1 ⟨x1,T1,1,Y,t1,_,Y,?_⟩⟩;have q1:=q H2 s2;unfold isC at q1;rw [if_pos hb,co] at q1;cases hd1 with
   | int p =>
    have q1:Q (.bl (decide (1<=p) && decide (p + b < w1))) H2:=q1;refine bU (λ cc=>?_) (λ cc=>?_)
    ·have cc:decide (1<=p)=true:=cc;refine ⟨_,Y,ixR s2 hx at1 ⟨_,Y,_,_,Y,Y,_,Y,_,_,Y,Y,?_⟩⟩;rw [cc,Bool.true_and] at q1;exact q1
    ·have cc:¬ decide (1<=p)=true:=cc;rw [show decide (1<=p)=false by simpa using cc,Bool.false_and] at q1;exact q1
   | _=>exact aJ q1
  | 1,hi =>
   cases hi;have hb0:=g1 ∅;refine ⟨_,Y,_,Y,pp,v,d,"across",4,Y,∅,hd.same s1,λ H2 s12=>⟨_,Y,?_⟩⟩;have s2:=s1.trans s12;refine bU (λ hb=>?_) (λ hb=>⟨⟨_,_,Y⟩,s2,λ _=>hb0,λ _=>by simpa using hb⟩);obtain ⟨r0,er,rl⟩:=gq hb;obtain ⟨a,xs,rfl,hx,dx⟩:=hd.ref_row er;cases dx with
   | @cons x0 _ xs0 _ hd0 dx =>
   obtain ⟨x1,x2,x3,d1,d2,d3,rfl,rfl,hd1,hd2,hd3⟩:=dx.three (by simpa using rl);have sp2:=s2 _ _ hsp;have co:ed b h1 d=rj b h1 d1:=by unfold ed;rw [er]
   refine ⟨_,Y,Y,_,Y,aJ ⟨_,Y,sp,_,3,_,Y,Y,EV sp2,Y,?_⟩⟩;have at1:atI [x0,x1,x2,x3] 1=some x1:=aG ∅ rfl;obtain ⟨T1,t1⟩:=(hd1.same s2).ty (K:=K);refine ⟨_,Y,ixR s2 hx at1 ⟨x1,T1,1,Y,t1,_,Y,?_⟩⟩;have q1:=q H2 s2;unfold isC at q1;rw [if_neg (by rw [hb0]; decide),if_pos hb,co] at q1;cases hd1 with
   | int p =>
    have q1:Q (.bl (decide (1<=p) && decide (p + b < h1))) H2:=q1;refine bU (λ cc=>?_) (λ cc=>?_)
    ·have cc:decide (1<=p)=true:=cc;refine ⟨_,Y,ixR s2 hx at1 ⟨_,Y,_,_,Y,Y,_,Y,_,_,Y,Y,?_⟩⟩;rw [cc,Bool.true_and] at q1;exact q1
    ·have cc:¬ decide (1<=p)=true:=cc;rw [show decide (1<=p)=false by simpa using cc,Bool.false_and] at q1;exact q1
   | _=>exact aJ q1
 ·rintro σ H1 ⟨⟨v3,v4,rfl⟩,s1,g1,g2⟩;have q1:=q H1 s1;unfold isC at q1;rw [if_neg (by rw [g1 ∅]; decide),if_neg (by rw [g2 ∅]; decide)] at q1;exact q1
theorem eN {C:Addr} {H H':Hp} {s:Addr} {b:Int} {ks:List Kd} (k:Same H H') (S:ShopAt C H s b ks):ShopAt C H' s b ks:=S.keep (λ c o e=>k _ _ e) (λ c C' d fs e=>k _ _ e)
theorem scleaf:FnScope ["shop","spot","x","y","wide","high","tree"] ["shop","spot"] (defScope fM):=⟨Y,Y,Y,∅,Y,∅,∅⟩
theorem rn {f wa C:Addr} {fd:ER} (F:Fun K "is_leaf" "is_leaf" fM f fd) (Z:TrC K mg wa) (DB:Dn P w K mg base "begins_with" ["thing","word","many"] 2 spBegins) (DL:Dn P w K mg base "lies_in" ["shop","wide","high","kind","turned","x","y"] 4 (spLiesG K C)):FnOk P w K mg base CX0 5 f fd ["shop","spot"] (spLeaf C):=by
 refine F.ok scleaf (λ vs H Q E h=>?_) (λ cdv A outer s H vs Q E hr h=>?_)
 ·obtain ⟨pp,b',x1,y1,w1,h1,s,sp,ks,v,d,rfl,_⟩:=h
  rfl
 obtain ⟨pp,b',x0',y0',w1,h1,s,sp,ks,v,d,rfl,S,hsp,hd,q⟩:=h;have nd:=scleaf.nd;obtain ⟨tdn,hdn⟩:=Z.dn;obtain ⟨trs,hrs⟩:=Z.rs;obtain ⟨tpc,hpc⟩:=Z.pc;obtain ⟨tn1,hn1⟩:=Z.n1;obtain ⟨tn5,hn5⟩:=Z.n5;obtain ⟨tn4,hn4⟩:=Z.n4;have hr2:=hr.mono (show 2<=4 by decide);refine ⟨_,((@be _ _ _ _ _ _ (pv 1) (aR Y (2•(3•(4•(5•(6•aI)))))) Y Y Y)<<<(((@aO _ _ _ (@ao _ _ _ _ _ _ _ _ _ _ DB hr2 Y ((pv 6)^^^((aY (v:=.str "piece") Y hpc ⟨tpc,Y⟩)^^^((aY (v:=.int 5) Y hn5 ⟨tn5,Y⟩)^^^ab))) ∅ Y Y) (by intro _; rfl))<|>((DL∪((pv 0)^^^((pv 4)^^^((pv 5)^^^(((pv 6)&&&bH&&&ad)^^^(((pv 6)&&&bH&&&ad)^^^(((pv 6)&&&bH&&&ad)^^^(((pv 6)&&&bH&&&ad)^^^ab))))))))⁻¹)<|>aA)<<<((@ao _ _ _ _ _ _ _ _ _ _ DB hr2 Y ((pv 6)^^^((aY (v:=.str "rest") Y hrs ⟨trs,Y⟩)^^^((aY (v:=.int 1) Y hn1 ⟨tn1,Y⟩)^^^ab))) ∅ Y Y)⁻¹))),?_⟩;refine ⟨_,Y,sp,_,Y,EV hsp,Y,_,_,Y,_,_,Y,_,_,Y,_,_,Y,_,_,Y,Y,?_⟩;refine ⟨_,Y,pp,v,d,"piece",5,Y,∅,hd,λ H1 s1=>⟨_,Y,?_⟩⟩;refine bU (λ hb=>?_) (λ hb=>?_)
 ·obtain ⟨r0,er,rl⟩:=gq hb;obtain ⟨a,xs,rfl,hx,dx⟩:=hd.ref_row er;cases dx with
  | @cons x0 _ xs0 _ hd0 dx =>
  obtain ⟨x1,x2,x3,x4,d1,d2,d3,d4,rfl,rfl,hd1,hd2,hd3,hd4⟩:=dx.four (by simpa using rl);have a1:atI [x0,x1,x2,x3,x4] 1=some x1:=aG ∅ rfl;have a2:atI [x0,x1,x2,x3,x4] 2=some x2:=aG ∅ rfl;have a3:atI [x0,x1,x2,x3,x4] 3=some x3:=aG ∅ rfl;have a4:atI [x0,x1,x2,x3,x4] 4=some x4:=aG ∅ rfl;obtain ⟨T1,t1⟩:=(hd1.same s1).ty (K:=K);obtain ⟨T2,t2⟩:=(hd2.same s1).ty (K:=K);obtain ⟨T3,t3⟩:=(hd3.same s1).ty (K:=K);obtain ⟨T4,t4⟩:=(hd4.same s1).ty (K:=K);refine ⟨_,Y,_,Y,_,Y,_,Y,ixR s1 hx a1 ⟨_,Y,ixR s1 hx a2 ⟨_,Y,ixR s1 hx a3 ⟨_,Y,ixR s1 hx a4 ?_⟩⟩⟩⟩;refine ⟨s,b',ks,w1,h1,x1,x2,x3,x4,T1,T2,T3,T4,Y,eN s1 S,t1,t2,t3,t4,λ H2 s2=>?_⟩;have q1:=q H2 (s1.trans s2);unfold isL at q1;rw [if_pos hb,er] at q1;have e:jo ks w1 h1 d1 d2 d3 d4=dk ks w1 h1 x1 x2 x3 x4:=by
   cases hd1 with
   | int i=>cases hd2 with
    | bl c=>cases hd3 with
     | int x=>cases hd4 with
      | int y=>rfl
      | _=>simp [jo,dk,aM]
     | _=>simp [jo,dk,aM]
    | _=>simp [jo,dk,dU]
   | _=>simp [jo,dk,dU]
  have q1:Q (.bl (jo ks w1 h1 d1 d2 d3 d4)) H2:=q1;rw [e] at q1;exact q1
 ·refine ⟨_,Y,pp,v,d,"rest",1,Y,∅,hd.same s1,λ H2 s2=>?_⟩;have q1:=q H2 (s1.trans s2);unfold isL at q1;rw [if_neg hb] at q1;exact q1
theorem scbehind:FnScope ["blade","spot","x","y","wide","high","tree","way","p","first","second","wide_ahead","high_ahead","wide_behind","high_behind","step","far_x","far_y"] ["blade","spot"] (defScope bX):=⟨Y,Y,Y,∅,Y,∅,∅⟩
theorem mI {f wa:Addr} {fd:ER} (F:Fun K "spots_behind" "spots_behind" bX f fd) (Z:TrC K mg wa) (DP:Dn P w K mg base "cut_parts" ["blade","part","way","p"] 1 spParts2):FnOk P w K mg base CX0 2 f fd ["blade","spot"] (spBehind):=by
 refine F.ok scbehind (λ vs H Q E h=>?_) (λ cdv A outer s H vs Q E hr h=>?_)
 ·obtain ⟨b,x1,y1,w1,h1,p1,sp,a,dn,l,r,rfl,_⟩:=h
  rfl
 obtain ⟨b,x1,y1,w1,h1,p1,sp,a,dn,l,r,rfl,hsp,ha,q⟩:=h;have nd:=scbehind.nd;obtain ⟨tdn,hdn⟩:=Z.dn;obtain ⟨trs,hrs⟩:=Z.rs;obtain ⟨tpc,hpc⟩:=Z.pc;obtain ⟨tn1,hn1⟩:=Z.n1;obtain ⟨tn5,hn5⟩:=Z.n5;obtain ⟨tn4,hn4⟩:=Z.n4;refine ⟨_,((@be _ _ _ _ _ _ (pv 1) (aR Y (2•(3•(4•(5•(6•aI)))))) Y Y Y)<<<((@be _ _ _ _ _ _ (pv 6) (jU Y (7•(8•(9•(10•aI))))) Y Y Y)<<<((@be _ _ _ _ _ _ (DP∪((pv 0)^^^((@ay _ _ _ _ _ ((pv 4)^^^((pv 5)^^^ab)))^^^((pv 7)^^^((pv 8)^^^ab))))) (aR Y (ah (aR Y (11•(12•aI))) (ah (aR Y (13•(14•aI))) aI))) Y Y Y)<<<((15∣((pv 8)|||aD|||(pv 0)))<<<((@be _ _ _ _ _ _ (iU ((pv 7)<*>bA<*>(aY (v:=.str "down") Y hdn ⟨tdn,Y⟩)) (@ay _ _ _ _ _ (((pv 2)|||aD|||(pv 15))^^^((pv 3)^^^ab))) (@ay _ _ _ _ _ ((pv 2)^^^(((pv 3)|||aD|||(pv 15))^^^ab)))) (aR Y (16•(17•aI))) Y Y Y)<<<((@br _ _ _ _ ((@ay _ _ _ _ _ ((pv 2)^^^((pv 3)^^^((pv 11)^^^((pv 12)^^^((pv 9)^^^ab))))))^^^((@ay _ _ _ _ _ ((pv 16)^^^((pv 17)^^^((pv 13)^^^((pv 14)^^^((pv 10)^^^ab))))))^^^ab)))⁻¹)))))),?_⟩;refine ⟨_,Y,sp,_,Y,EV hsp,Y,_,_,Y,_,_,Y,_,_,Y,_,_,Y,_,_,Y,Y,?_⟩;have sq:SqL K H a [.str (if dn=true then "down" else "across"),.int p1,l,r]\/SqT K H a [.str (if dn=true then "down" else "across"),.int p1,l,r]:=ha.imp (λ z=>EW z) λ z=>EV z;refine ⟨_,Y,a,_,Y,sq,Y,_,_,Y,_,_,Y,_,_,Y,_,_,Y,Y,?_⟩;clear sq;cases dn with
 | true =>
  refine ⟨_,Y,_,Y,_,Y,zS2,λ tp htp=>?_⟩;have sa:Same H (upd H tp (.tup [.int w1,.int h1])):=EU htp;have ka:(upd H tp (.tup [.int w1,.int h1])) tp= ~~~[.int w1,.int h1]:=af;generalize upd H tp (.tup [.int w1,.int h1])=Ha at sa ka ⊢;refine ⟨_,Y,_,Y,b,w1,h1,p1,tp,true,Y,ka,λ u t1 t2 Hb ku k1 k2 sb=>?_⟩;refine ⟨u,_,Y,EV ku,Y,_,_,Y,t1,_,Y,EV k1,Y,_,_,Y,_,_,Y,Y,_,_,Y,t2,_,Y,EV k2,Y,_,_,Y,_,_,Y,Y,Y,?_⟩;refine aw (λ σ' H'=>σ'=[⇑b, ↑sp, ⇑x1, ⇑y1, ⇑w1, ⇑h1, ↑a, some (.str "down"), ⇑p1, some l, some r, ⇑p1, ⇑h1, ⇑(w1 - p1 - b), ⇑h1, none, none, none]/\Hb=H') (λ R hR=>hR _ _ ⟨rfl, rfl⟩) ?_;rintro _ _ ⟨rfl,rfl⟩;refine ⟨_,Y,_,Y,_,_,Y,Y,?_⟩;refine ⟨_,Y,Y,_,Y,aS ⟨_,Y,_,Y,_,_,Y,Y,_,Y,zS2,λ tf hf=>?_⟩⟩;have sd:Same Hb (upd Hb tf (.tup [.int (x1 + (p1 + b)),.int y1])):=EU hf;have kd:(upd Hb tf (.tup [.int (x1 + (p1 + b)),.int y1])) tf= ~~~[.int (x1 + (p1 + b)),.int y1]:=af;generalize upd Hb tf (.tup [.int (x1 + (p1 + b)),.int y1])=Hd at sd kd ⊢;refine ⟨tf,_,Y,EV kd,Y,_,_,Y,_,_,Y,Y,?_⟩;refine ⟨_,Y,_,Y,_,Y,_,Y,_,Y,zS5,λ g1 hg1=>?_⟩;have se:Same Hd (upd Hd g1 (.tup [.int x1,.int y1,.int p1,.int h1,l])):=EU hg1;have ke:(upd Hd g1 (.tup [.int x1,.int y1,.int p1,.int h1,l])) g1= ~~~[.int x1,.int y1,.int p1,.int h1,l]:=af;generalize upd Hd g1 (.tup [.int x1,.int y1,.int p1,.int h1,l])=He at se ke ⊢;refine ⟨_,Y,_,Y,_,Y,_,Y,_,Y,zS5,λ g2 hg2=>?_⟩;have sf:Same He (upd He g2 (.tup [.int (x1 + (p1 + b)),.int y1,.int (w1 - p1 - b),.int h1,r])):=EU hg2;have kf:(upd He g2 (.tup [.int (x1 + (p1 + b)),.int y1,.int (w1 - p1 - b),.int h1,r])) g2= ~~~[.int (x1 + (p1 + b)),.int y1,.int (w1 - p1 - b),.int h1,r]:=af;generalize upd He g2 (.tup [.int (x1 + (p1 + b)),.int y1,.int (w1 - p1 - b),.int h1,r])=Hf at sf kf ⊢;refine ⟨zS2,λ lu hlu=>?_⟩;have sg:Same Hf (upd Hf lu (.lst [.ref g1,.ref g2])):=EU hlu;have kg:(upd Hf lu (.lst [.ref g1,.ref g2])) lu=↥[.ref g1,.ref g2]:=af;generalize upd Hf lu (.lst [.ref g1,.ref g2])=Hg at sg kg ⊢;have sA:=((((sa.trans sb).trans sd).trans se).trans sf)
  exact q lu g1 g2 Hg (sA.free hlu) kg (sg _ _ (sf _ _ ke)) (sg _ _ kf) (sA.trans sg)
 | false =>
  refine ⟨_,Y,_,Y,_,Y,zS2,λ tp htp=>?_⟩;have sa:Same H (upd H tp (.tup [.int w1,.int h1])):=EU htp;have ka:(upd H tp (.tup [.int w1,.int h1])) tp= ~~~[.int w1,.int h1]:=af;generalize upd H tp (.tup [.int w1,.int h1])=Ha at sa ka ⊢;refine ⟨_,Y,_,Y,b,w1,h1,p1,tp,false,Y,ka,λ u t1 t2 Hb ku k1 k2 sb=>?_⟩;refine ⟨u,_,Y,EV ku,Y,_,_,Y,t1,_,Y,EV k1,Y,_,_,Y,_,_,Y,Y,_,_,Y,t2,_,Y,EV k2,Y,_,_,Y,_,_,Y,Y,Y,?_⟩;refine aw (λ σ' H'=>σ'=[⇑b, ↑sp, ⇑x1, ⇑y1, ⇑w1, ⇑h1, ↑a, some (.str "across"), ⇑p1, some l, some r, ⇑w1, ⇑p1, ⇑w1, ⇑(h1 - p1 - b), none, none, none]/\Hb=H') (λ R hR=>hR _ _ ⟨rfl, rfl⟩) ?_;rintro _ _ ⟨rfl,rfl⟩;refine ⟨_,Y,_,Y,_,_,Y,Y,?_⟩;refine ⟨_,Y,Y,_,Y,aJ ⟨_,Y,_,Y,_,Y,_,_,Y,Y,zS2,λ tf hf=>?_⟩⟩;have sd:Same Hb (upd Hb tf (.tup [.int x1,.int (y1 + (p1 + b))])):=EU hf;have kd:(upd Hb tf (.tup [.int x1,.int (y1 + (p1 + b))])) tf= ~~~[.int x1,.int (y1 + (p1 + b))]:=af;generalize upd Hb tf (.tup [.int x1,.int (y1 + (p1 + b))])=Hd at sd kd ⊢;refine ⟨tf,_,Y,EV kd,Y,_,_,Y,_,_,Y,Y,?_⟩;refine ⟨_,Y,_,Y,_,Y,_,Y,_,Y,zS5,λ g1 hg1=>?_⟩;have se:Same Hd (upd Hd g1 (.tup [.int x1,.int y1,.int w1,.int p1,l])):=EU hg1;have ke:(upd Hd g1 (.tup [.int x1,.int y1,.int w1,.int p1,l])) g1= ~~~[.int x1,.int y1,.int w1,.int p1,l]:=af;generalize upd Hd g1 (.tup [.int x1,.int y1,.int w1,.int p1,l])=He at se ke ⊢;refine ⟨_,Y,_,Y,_,Y,_,Y,_,Y,zS5,λ g2 hg2=>?_⟩;have sf:Same He (upd He g2 (.tup [.int x1,.int (y1 + (p1 + b)),.int w1,.int (h1 - p1 - b),r])):=EU hg2;have kf:(upd He g2 (.tup [.int x1,.int (y1 + (p1 + b)),.int w1,.int (h1 - p1 - b),r])) g2= ~~~[.int x1,.int (y1 + (p1 + b)),.int w1,.int (h1 - p1 - b),r]:=af;generalize upd He g2 (.tup [.int x1,.int (y1 + (p1 + b)),.int w1,.int (h1 - p1 - b),r])=Hf at sf kf ⊢;refine ⟨zS2,λ lu hlu=>?_⟩;have sg:Same Hf (upd Hf lu (.lst [.ref g1,.ref g2])):=EU hlu;have kg:(upd Hf lu (.lst [.ref g1,.ref g2])) lu=↥[.ref g1,.ref g2]:=af;generalize upd Hf lu (.lst [.ref g1,.ref g2])=Hg at sg kg ⊢;have sA:=((((sa.trans sb).trans sd).trans se).trans sf)
  exact q lu g1 g2 Hg (sA.free hlu) kg (sg _ _ (sf _ _ ke)) (sg _ _ kf) (sA.trans sg)
end
def isT (b:Int) (ks:List Kd) (w h:Int) (d:PyData):Bool :=
 if isC b w h d=true then
  match e:aN d with
  | some [_,.int p,l,r]=>if bw d "down" 4=true then isT b ks p h l && isT b ks (w - p - b) h r else isT b ks w p l && isT b ks w (h - p - b) r
  | _=>false
 else isL ks w h d
termination_by sizeOf d
decreasing_by all_goals (apply pI e; simp)
theorem ck {b:Int} {ks:List Kd} {w h:Int} {d:PyData} (hc:isC b w h d=false):isT b ks w h d=isL ks w h d:=by rw [isT,if_neg (by rw [hc]; decide)]
theorem dQ {b:Int} {ks:List Kd} {w h:Int} {d:PyData} (hc:isC b w h d=true):∃ (dn:Bool) (p:Int) (l r:PyData),aN d=some [.str (if dn=true then "down" else "across"),.int p,l,r]/\1<=p/\(dn=true->p + b < w)/\(dn=false->p + b < h) /\
  isT b ks w h d=(if dn=true then isT b ks p h l && isT b ks (w - p - b) h r else isT b ks w p l && isT b ks w (h - p - b) r):=by
 have key:∀side,ed b side d=true->∃x p l r,aN d=some [x,.int p,l,r]/\1<=p/\p + b < side:=λ side h=>by
  unfold ed at h
  split at h
  ·rename_i x p l r e
   unfold rj at h
   split at h
   ·rename_i p'
    rw [Bool.and_eq_true] at h;exact ⟨x,p',l,r,e,C0 h.1,C0 h.2⟩
   ·cases h
  ·cases h
 have hc':=hc;unfold isC at hc
 by_cases hb:bw d "down" 4=true
 ·rw [if_pos hb] at hc;obtain ⟨x,p,l,r,e,p1,p2⟩:=key _ hc;obtain ⟨r',e',_⟩:=gq hb;rw [e] at e';cases e';refine ⟨true,p,l,r,e,p1,λ _=>p2,λ z=>(by cases z),?_⟩;rw [isT,if_pos hc']
  split
  ·rename_i y p' l' r' e2
   rw [e] at e2;cases e2;rw [if_pos hb]; rfl
  ·rename_i z
   exact absurd e (z _ _ _ _)
 ·rw [if_neg hb] at hc
  by_cases hb2:bw d "across" 4=true
  ·rw [if_pos hb2] at hc;obtain ⟨x,p,l,r,e,p1,p2⟩:=key _ hc;obtain ⟨r',e',_⟩:=gq hb2;rw [e] at e';cases e';refine ⟨false,p,l,r,e,p1,λ z=>(by cases z),λ _=>p2,?_⟩;rw [isT,if_pos hc']
   split
   ·rename_i y p' l' r' e2
    rw [e] at e2;cases e2;rw [if_neg hb]; rfl
   ·rename_i z
    exact absurd e (z _ _ _ _)
  ·rw [if_neg hb2] at hc;cases hc
structure Spot where
 x:Int
 y:Int
 w:Int
 h:Int
 d:PyData
def SpAt (p:Addr) (H0 H:Hp) (v:V) (t:Spot):Prop:=∃a u,v=.ref a/\H a= ~~~[.int t.x,.int t.y,.int t.w,.int t.h,u]/\Dt p H0 u t.d
theorem SpAt.keep {p:Addr} {H0 H H':Hp} (k:∀a xs,H a= ~~~xs->H' a= ~~~xs) {v:V} {t:Spot} (h:SpAt p H0 H v t):SpAt p H0 H' v t:=by obtain ⟨a,u,e,h1,h2⟩:=h;exact ⟨a,u,e,k _ _ h1,h2⟩
def fg (ts:List Spot):Nat:=(ts.map λ t=>wt t.d).sum
theorem dq (a b:List Spot):fg (a ++ b)=fg a + fg b:=by unfold fg; rw [List.map_append,List.sum_append]
theorem jq:∀ts:List Spot,ts.length<=fg ts
 | []=>B3 _
 | t :: r=>by have:=jq r;have:=pH t.d;show r.length + 1<=wt t.d + fg r;omega
theorem mJ {d x y l r:PyData} (h:aN d=some [x,y,l,r]):wt l + wt r < wt d:=by
 cases d <;> simp only [aN,Option.some.injEq,reduceCtorEq] at h
 ·subst h; simp only [wt,wts]; omega
 ·subst h; simp only [wt,wts]; omega
theorem pK {α β:Type} {R:α->β->Prop} {x:α}:∀ {xs:List α} {zs:List β},Paired R (xs ++ [x]) zs->∃ys y,zs=ys ++ [y]/\Paired R xs ys/\R x y
 | [],zs,h=>by
  cases h with
  | cons a t=>cases t; exact ⟨[],_,Y,.nil,a⟩
 | z :: xs,zs,h=>by
  cases h with
  | cons a t =>
   obtain ⟨ys,y,rfl,p,r⟩:=pK t;exact ⟨_ :: ys,y,Y,.cons a p,r⟩
theorem dW {α β:Type} {R:α->β->Prop}:∀ {xs:List α} {ys:List β} {xs':List α} {ys':List β},Paired R xs ys->Paired R xs' ys'->Paired R (xs ++ xs') (ys ++ ys')
 | _,_,_,_,.nil,h=>h
 | _,_,_,_,.cons a t,h=>.cons a (dW t h)
section
variable {P:EQ} {w:ES} {K:C4} {mg:Str->Option ET} {base:Heap}
inductive spCP (vs:List V) (H:Hp) (Q:VK) (E_:XK):Prop
 | mk (w h:Int) (e_1:vs=[.int w,.int h]) (e_2:1<=w) (e_3:1<=h) (e_4:Q .non H):spCP vs H Q E_
inductive spIsTree (C:Addr) (vs:List V) (H:Hp) (Q:VK) (E_:XK):Prop
 | mk (pp s:Addr) (b w h:Int) (ks:List Kd) (v:V) (d:PyData) (e_1:vs=[.ref s,.int w,.int h,v]) (e_2:ShopAt C H s b ks) (e_3:1<=w) (e_4:1<=h) (e_5:Dt pp H v d) (e_6:wt d<=30000) (e_7:∀H',Same H H'->Q (.bl (isT b ks w h d)) H'):spIsTree C vs H Q E_
theorem sccplate:FnScope ["wide","high"] ["wide","high"] (defScope cw):=⟨Y,Y,Y,∅,Y,∅,∅⟩
theorem mK {f:Addr} {fd:ER} (F:Fun K "check_plate" "check_plate" cw f fd) (DW:Dn P w K mg base "is_whole" ["thing","least"] 1 (cr K)):FnOk P w K mg base CX0 2 f fd ["wide","high"] (spCP):=by
 refine F.ok sccplate (λ vs H Q E h=>?_) (λ cdv A outer s H vs Q E hr h=>?_)
 ·obtain ⟨w1,h1,rfl,_⟩:=h
  rfl
 obtain ⟨w1,h1,rfl,w0,h0,q⟩:=h;have nd:=sccplate.nd;refine ⟨_,(@ag _ _ _ ((PW.pt (cB (@aZ _ _ _ _ (@aO _ _ _ (DW∪((pv 0)^^^(ad^^^ab))) (by intro _; rfl))) (cf (@aZ _ _ _ _ (@aO _ _ _ (DW∪((pv 1)^^^(ad^^^ab))) (by intro _; rfl))))))<|>(@ag _ _ _ fV)<|>aA)),?_⟩;refine ⟨_,Y,.int w1,"int",1,Y,Ty.int,_,Y,?_⟩;rw [show aM (.int w1) 1=true from decide_eq_true w0];refine aJ ⟨_,rfl,.int h1,"int",1,rfl,Ty.int,_,rfl,?_⟩;rw [show aM (.int h1) 1=true from decide_eq_true h0];exact aJ q
theorem scistree:FnScope ["shop","wide","high","thing","blade","waiting","spot"] ["shop","wide","high","thing"] (defScope fN):=⟨Y,Y,Y,∅,Y,∅,∅⟩
theorem mL {f C:Addr} {fd:ER} (F:Fun K "is_tree" "is_tree" fN f fd) (T:ShopTxt K C) (MB:Mn P w K mg base C "blade" ["self"] 1 (fG C)) (DCP:Dn P w K mg base "check_plate" ["wide","high"] 2 (spCP)) (DC:Dn P w K mg base "is_cut" ["blade","spot"] 3 (spCut)) (DF:Dn P w K mg base "is_leaf" ["shop","spot"] 5 (spLeaf C)) (DS:Dn P w K mg base "spots_behind" ["blade","spot"] 2 (spBehind)):FnOk P w K mg base CX0 6 f fd ["shop","wide","high","thing"] (spIsTree C):=by
 refine F.ok scistree (λ vs H Q E h=>?_) (λ cdv A outer s H vs Q E hr h=>?_)
 ·obtain ⟨pp,s,b,w1,h1,ks,v,d,rfl,_⟩:=h
  rfl
 obtain ⟨pp,s,b,w1,h1,ks,v,d,rfl,S,w0,h0,hd,dz,q⟩:=h;have nd:=scistree.nd;have hr1:=hr.mono (show 1<=5 by decide);have hr2:=hr.mono (show 2<=5 by decide);have hr3:=hr.mono (show 3<=5 by decide);refine ⟨_,((@bG _ _ _ _ (@ao _ _ _ _ _ _ _ _ _ _ DCP hr2 Y ((pv 1)^^^((pv 2)^^^ab)) ∅ Y Y) Y)<<<((4∣(iF (pv 0) T.cl MB hr1))<<<((5∣(@br _ _ _ _ ((@ay _ _ _ _ _ (ad^^^(ad^^^((pv 1)^^^((pv 2)^^^((pv 3)^^^ab))))))^^^ab)))<<<((iV ED (iY (pv 5) (λ _=>Y)) ((6∣(oE EN PySem.F.slot_list_pop PySem.F.type_list_pop oG (pv 5)))>>>((@aO _ _ _ (@ao _ _ _ _ _ _ _ _ _ _ DC hr3 Y ((pv 4)^^^((pv 6)^^^ab)) ∅ Y Y) (by intro _; rfl))<|>(@ag _ _ _ (@bG _ _ _ _ (@fm _ _ _ _ _ _ _ _ _ _ _ _ EN PySem.F.slot_list_extend PySem.F.type_list_extend eZ (pv 5) ((@ao _ _ _ _ _ _ _ _ _ _ DS hr2 Y ((pv 4)^^^((pv 6)^^^ab)) ∅ Y Y)^^^ab) Y Y Y Y Y) Y))<|>(@ag _ _ _ ((@aZ _ _ _ _ (@aO _ _ _ (DF∪((pv 0)^^^((pv 6)^^^ab))) (by intro _; rfl)))<|>(bO⁻¹)<|>aA)))))<<<(bO⁻¹))))),?_⟩;have sz:(40000:Nat)<=sizeLine:=∅
 refine ⟨_,Y,_,Y,w1,h1,Y,w0,h0,?_⟩;obtain ⟨dx,r,rs,S1,S2,S3⟩:=id S;refine ⟨_,Y,s,dx,_,Y,S1,(cu _ _ ∅ ∅),s,b,ks,Y,S,?_⟩;refine ⟨_,Y,_,Y,_,Y,zS5,λ t ht=>?_⟩;have sa:Same H (upd H t (.tup [.int 0,.int 0,.int w1,.int h1,v])):=EU ht;have ka:(upd H t (.tup [.int 0,.int 0,.int w1,.int h1,v])) t= ~~~[.int 0,.int 0,.int w1,.int h1,v]:=af;generalize upd H t (.tup [.int 0,.int 0,.int w1,.int h1,v])=Ha at sa ka ⊢;refine ⟨zS1,λ wl hwl=>?_⟩;have sb:Same Ha (upd Ha wl (.lst [.ref t])):=EU hwl;have kb:(upd Ha wl (.lst [.ref t])) wl=↥[.ref t]:=af;generalize upd Ha wl (.lst [.ref t])=Hb at sb kb ⊢;have fw:H wl=none:=sa.free hwl;have sab:=sa.trans sb;refine ⟨λ m σ H'=>∃ (vs:List V) (ts:List Spot) (v6:Option V),σ=[↑s,⇑w1,⇑h1,some v,⇑b,↑wl,v6]/\m=fg ts/\H' wl=↥vs/\Paired (SpAt pp H H') vs ts/\fg ts<=30000/\isT b ks w1 h1 d=ts.all (λ t=>isT b ks t.w t.h t.d)/\Same H H',⟨_,[.ref t],[⟨0,0,w1,h1,d⟩],none,Y,Y,kb,.cons ⟨t,v,Y,sb _ _ ka,hd⟩ .nil,by show wt d + 0<=30000; omega,by rw [List.all_cons,List.all_nil,Bool.and_true],sab⟩,?_⟩;rintro m σ H1 ⟨vs,ts,v6,rfl,rfl,hw,pr,sz1,al,s1⟩;refine ⟨_,Y,_,.inl ⟨vs,EW hw,Y⟩,?_⟩;rcases List.eq_nil_or_concat vs with rfl | ⟨vs',v0,rfl⟩
 ·have ets:ts=[]:=by
   have:=EC pr;cases ts with
   | nil=>rfl
   | cons _ _=>simp at this
  subst ets;have q1:=q H1 s1;rw [al] at q1;exact aJ q1
 rw [List.concat_eq_append] at pr hw ⊢;obtain ⟨ts',t0,rfl,prp,⟨sp,u,rfl,hsp,hdu⟩⟩:=pK pr;rw [show (!(vs' ++ [V.ref sp]).isEmpty)=true by cases vs' <;> rfl];have ssz:fg (ts' ++ [t0])=fg ts' + wt t0.d:=by rw [dq]; show _ + (wt t0.d + 0)=_; omega
 rw [ssz] at sz1 ⊢;refine aS ⟨λ σ' H'=>∃ (vs:List V) (ts:List Spot) (v6:Option V),σ'=[↑s,⇑w1,⇑h1,some v,⇑b,↑wl,v6]/\fg ts < fg ts' + wt t0.d/\H' wl=↥vs/\Paired (SpAt pp H H') vs ts/\fg ts<=30000/\isT b ks w1 h1 d=ts.all (λ t=>isT b ks t.w t.h t.d)/\Same H H',λ σ' H' ⟨vs,ts,v6,e,l,r⟩=>⟨_,l,vs,ts,v6,e,rfl,r⟩,?_⟩;rw [List.all_append,List.all_cons,List.all_nil,Bool.and_true] at al;have ml:(vs' ++ [V.ref sp]).length=vs'.length + 1:=by rw [List.length_append]; rfl
 have keep:∀ {Hx:Hp} {o:HO},Same H Hx->Same H (upd Hx wl o):=λ {Hx o} sx c oo e=>by rw [aj (λ z=>by rw [z,fw] at e; cases e)];exact sx _ _ e
 refine aw (λ σ' H'=>σ'=[↑s,⇑w1,⇑h1,some v,⇑b,↑wl,↑sp]/\H' wl=↥vs'/\Paired (SpAt pp H H') vs' ts'/\H' sp= ~~~[.int t0.x,.int t0.y,.int t0.w,.int t0.h,u]/\Same H H') (λ R hR=>?_) ?_
 ·refine ⟨_,Y,.inl ⟨Y,_,EW hw⟩,wl,_,.ref sp,Y,Y,hw,(by rw [ml]; simp),?_⟩;rw [List.dropLast_concat];have kt:∀ {c:Addr} {xs:List V},H1 c= ~~~xs->(upd H1 wl (.lst vs')) c= ~~~xs:=λ {c xs} e=>by rw [aj (λ z=>by rw [z,hw] at e; cases e)]; exact e
  exact hR _ _ ⟨rfl,af,EX prp λ v t h=>h.keep λ a xs e=>kt e,kt hsp,keep s1⟩
 rintro _ H2 ⟨rfl,hw2,pr2,hsp2,s2⟩;refine ⟨_,Y,_,Y,pp,b,t0.x,t0.y,t0.w,t0.h,sp,u,t0.d,Y,hsp2,hdu.same s2,λ H3 s3=>⟨_,Y,?_⟩⟩;have s03:=s2.trans s3;refine bU (λ hc=>?_) (λ hc=>?_)
 ·obtain ⟨dn,p,l,r,er,p1,pw,ph,eT⟩:=dQ (ks:=ks) hc;obtain ⟨a,xs,rfl,hx,dxs⟩:=hdu.ref_row er;cases dxs with
  | @cons x0 _ xs0 _ hd0 dxs =>
  cases dxs with
  | @cons x1 _ xs1 _ hd1 dxs =>
  cases dxs with
  | @cons lv _ xs2 _ hdl dxs =>
  cases dxs with
  | @cons rv _ xs3 _ hdr dxs =>
  cases dxs;cases hd0;cases hd1;refine ⟨_,Y,.inl ⟨Y,_,EW (s3 _ _ hw2)⟩,_,Y,_,Y,?_⟩;refine ⟨b,t0.x,t0.y,t0.w,t0.h,p,sp,a,dn,lv,rv,Y,s3 _ _ hsp2,hx.imp (s03 _ _) (s03 _ _),λ lu t1 t2 H4 hlu ku k1 k2 s4=>?_⟩;have hw4:=s4 _ _ (s3 _ _ hw2);have pl:=EC pr2;have sl:=jq ts';have two:=mJ er;refine ⟨wl,lu,_,_,Y,Y,hw4,ku,by show _ + 2<=_; omega,?_⟩;have kt:∀ {c:Addr} {xs:List V},H4 c= ~~~xs->(upd H4 wl (.lst (vs' ++ [.ref t1,.ref t2]))) c= ~~~xs:=λ {c xs} e=>by rw [aj (λ z=>by rw [z,hw4] at e; cases e)]; exact e
  have pr4:Paired (SpAt pp H (upd H4 wl (.lst (vs' ++ [.ref t1,.ref t2])))) vs' ts':=EX pr2 λ v t h=>h.keep λ a xs e=>kt (s4 _ _ (s3 _ _ e));cases dn with
  | true =>
   have k1:H4 t1= ~~~[.int t0.x,.int t0.y,.int p,.int t0.h,lv]:=k1;have k2:H4 t2= ~~~[.int (t0.x + (p + b)),.int t0.y,.int (t0.w - p - b),.int t0.h,rv]:=k2;refine ⟨vs' ++ [.ref t1,.ref t2],ts' ++ [⟨t0.x,t0.y,p,t0.h,l⟩,⟨t0.x + (p + b),t0.y,t0.w - p - b,t0.h,r⟩],_,Y,?_,af,dW pr4 (.cons ⟨t1,lv,Y,kt k1,hdl⟩ (.cons ⟨t2,rv,Y,kt k2,hdr⟩ .nil)),?_,?_,keep (s03.trans s4)⟩
   ·rw [dq]; show _ + (wt l + (wt r + 0)) < _; omega
   ·rw [dq]; show _ + (wt l + (wt r + 0))<=_; omega
   ·rw [al,eT,List.all_append];simp only [if_true,List.all_cons,List.all_nil,Bool.and_true]
  | false =>
   have k1:H4 t1= ~~~[.int t0.x,.int t0.y,.int t0.w,.int p,lv]:=k1;have k2:H4 t2= ~~~[.int t0.x,.int (t0.y + (p + b)),.int t0.w,.int (t0.h - p - b),rv]:=k2;refine ⟨vs' ++ [.ref t1,.ref t2],ts' ++ [⟨t0.x,t0.y,t0.w,p,l⟩,⟨t0.x,t0.y + (p + b),t0.w,t0.h - p - b,r⟩],_,Y,?_,af,dW pr4 (.cons ⟨t1,lv,Y,kt k1,hdl⟩ (.cons ⟨t2,rv,Y,kt k2,hdr⟩ .nil)),?_,?_,keep (s03.trans s4)⟩
   ·rw [dq]; show _ + (wt l + (wt r + 0)) < _; omega
   ·rw [dq]; show _ + (wt l + (wt r + 0))<=_; omega
   ·rw [al,eT,List.all_append];simp only [Bool.false_eq_true,if_false,List.all_cons,List.all_nil,Bool.and_true]
 ·have hc:isC b t0.w t0.h t0.d=false:=by simpa using hc
  have lf:=ck (ks:=ks) hc;refine ⟨_,Y,_,Y,pp,b,t0.x,t0.y,t0.w,t0.h,s,sp,ks,u,t0.d,Y,eN s03 S,s3 _ _ hsp2,hdu.same s03,λ H4 s4=>⟨_,Y,?_⟩⟩;have s04:=s03.trans s4;have sp0:=pH t0.d;cases hl:isL ks t0.w t0.h t0.d with
  | true =>
   rw [lf,hl,Bool.and_true] at al;exact aJ ⟨vs',ts',_,rfl,⋯,s4 _ _ (s3 _ _ hw2),EX pr2 λ v t h=>h.keep λ a xs e=>s4 _ _ (s3 _ _ e),⋯,al,s04⟩
  | false =>
   rw [lf,hl,Bool.and_false] at al;have q1:=q H4 s04;rw [al] at q1;exact aS q1
end
section
variable {P:EQ} {w:ES} {K:C4} {mg:Str->Option ET} {base:Heap}
theorem scPot:FnScope ["_law_script","_law_place","_law_cell"] ["_law_script","_law_place"] (defScope qZ):=⟨Y,Y,Y,∅,Y,∅,∅⟩
theorem sW {f:Addr} {fd:ER} (F:Fun K "_law_pot" "_law_pot" qZ f fd) (ml:mg "len" = none) (mi:mg "int" = none):FnOk P w K mg base CX0 1 f fd ["_law_script","_law_place"] (oQ K):=by
 refine F.ok scPot (λ vs H Q E h=>?_) (λ cdv A outer s H vs Q E hr h=>?_)
 ·obtain ⟨a,ns,n,rfl,_⟩:=h
  rfl
 obtain ⟨a,ns,n,rfl,hS,n0,n1,h63,q⟩:=h;refine ⟨_,ae (av (i:=2) scPot.nd rfl (Or.inl rfl) ad)
  (ae (aK (aB iX (pv 1) (aF aU rfl ml PySem.boot_len (aa (pv 0) ab)) (az _)) (ag (av (i:=2) scPot.nd rfl (Or.inl rfl) (am ix_list (pv 0) (pv 1) (λ _ _=>rfl)))) aA)
  (ag (au (br (aa (ap cg (pv 2) (bC cD rfl mi PyProof.Rows.boot_int (aa (bu oe (pv 2) (ap eW ad ad) (az _)) ab)))
   (aa (ap eV (ap aD (ap aD (ap cg (pv 2) ad) (ap cg ad (pv 1))) ad) ad) ab)))))),?_⟩
 have hl:(ns.map V.int).length=ns.length:=List.length_map _;have fin:∀c:Int,Pot (c * (if decide ((10:Int) ^ (18:Int).toNat<=c)=true then 1 else 0)) ((c * 48271 + 7919 * n + 12345) % 2147483629):=λ c=>by
  refine ⟨?_,Int.emod_nonneg _ ∅,Int.emod_lt_of_pos _ ∅⟩
  by_cases hc:(10:Int) ^ (18:Int).toNat<=c
  ·rw [decide_eq_true hc,if_pos rfl];have:(0:Int)<=(10:Int) ^ (18:Int).toNat:=∅
   omega
  ·rw [decide_eq_false hc,if_neg Bool.false_ne_true]; omega
 refine ⟨_,Y,_,Y,a,_,Y,.inl hS,_,_,Y,Y,_,Y,?_⟩;refine bU (λ c=>?_) (λ c=>?_)
 ·have c':n < ((ns.map V.int).length:Int):=C0 c;rw [hl] at c';have hk:n.toNat < ns.length:=⋯
  have hv:atI (ns.map V.int) n=some (.int ns[n.toNat]):=by
   have e:n=((n.toNat:Nat):Int):=⋯
   have z:atI (ns.map V.int) ((n.toNat:Nat):Int)=some (.int ns[n.toNat]):=lh (by rw [List.getElem?_map,List.getElem?_eq_getElem hk]; rfl);rw [<- e] at z; exact z
  refine ⟨_,Y,_,Y,a,_,_,_,Y,Y,hS,hv,?_⟩;refine ⟨_,Y,_,Y,_,_,Y,Y,⟨∅,∅,∅⟩,_,_,Y,Y,.inr ⟨_,Y,_,_,Y,Y,.inr ⟨by split <;> decide,by split <;> decide⟩,_,Y,_,_,Y,Y,.inr ⟨∅,∅⟩,_,Y,_,_,Y,Y,.inl ⟨∅,∅⟩,_,_,Y,Y,_,_,Y,Y,_,_,Y,Y,(by show (0:Int) < 2147483629; decide),zS2,λ p hp=>?_⟩⟩;exact q p _ hp ⟨_,_,fin _,af⟩ (λ b o e=>by rw [aj (aq e hp)]; exact e)
 ·refine ⟨_,Y,_,Y,_,_,Y,Y,⟨∅,∅,∅⟩,_,_,Y,Y,.inr ⟨_,Y,_,_,Y,Y,.inr ⟨by split <;> decide,by split <;> decide⟩,_,Y,_,_,Y,Y,.inr ⟨∅,∅⟩,_,Y,_,_,Y,Y,.inl ⟨∅,∅⟩,_,_,Y,Y,_,_,Y,Y,_,_,Y,Y,(by show (0:Int) < 2147483629; decide),zS2,λ p hp=>?_⟩⟩;exact q p _ hp ⟨_,_,fin _,af⟩ (λ b o e=>by rw [aj (aq e hp)]; exact e)
theorem scDraw:FnScope ["_law_pot_here","_law_many","_law_found"] ["_law_pot_here","_law_many"] (defScope lF):=⟨Y,Y,Y,∅,Y,∅,∅⟩
theorem rp {f:Addr} {fd:ER} (F:Fun K "_law_draw" "_law_draw" lF f fd):FnOk P w K mg base CX0 1 f fd ["_law_pot_here","_law_many"] cz:=by
 refine F.ok scDraw (λ vs H Q E h=>?_) (λ cdv A outer s H vs Q E hr h=>?_)
 ·obtain ⟨p,m,rfl,_⟩:=h
  rfl
 obtain ⟨p,m,rfl,⟨a,b,pt,hp⟩,m0,m1,q⟩:=h;refine ⟨_,ae (aK (aB rP (am ix_list (pv 0) ad (λ _ _=>rfl)) ad (az _))
   (ae (av (i:=2) scDraw.nd rfl (Or.inl rfl) (ap eV (am ix_list (pv 0) ad (λ _ _=>rfl)) (pv 1)))
   (ae (be (ap oK (am ix_list (pv 0) ad (λ _ _=>rfl)) (pv 1)) (jD (pv 0) ad eE))
   (ag (au (pv 2))))) aA)
  (ae (be (ap eV (ap aD (ap cg (am ix_list (pv 0) ad (λ _ _=>rfl)) ad) ad) ad) (jD (pv 0) ad eE))
  (ag (au (ap eV (ap qD (ap eV (ap cg (am ix_list (pv 0) ad (λ _ _=>rfl)) (am ix_list (pv 0) ad (λ _ _=>rfl))) ad) ad) (pv 1))))),?_⟩
 have at0:atI [V.int a,V.int b] 0=⇑a:=rfl;have at1:atI [V.int a,V.int b] 1=⇑b:=rfl;refine ⟨_,Y,p,_,_,_,Y,Y,EW hp,at0,_,_,Y,Y,_,Y,?_⟩;refine bU (λ c=>?_) (λ c=>?_)
 ·have c':0 < a:=C0 c;refine ⟨_,Y,p,_,_,_,Y,Y,EW hp,at0,_,Y,_,_,Y,Y,m0,?_⟩;refine ⟨_,Y,p,_,_,_,Y,Y,EW hp,at0,_,Y,_,_,Y,Y,⟨m0,m1⟩,_,Y,p,_,_,_,Y,Y,hp,Y,?_⟩;refine ⟨_,Y,q _ _ (Int.emod_nonneg _ ⋯) (Int.emod_lt_of_pos _ m0) ⟨a / m,b,⟨Int.ediv_nonneg pt.a0 ⋯,pt.b0,pt.b1⟩,af⟩ But.upd⟩
 ·refine ⟨_,Y,p,_,_,_,Y,Y,EW hp,at1,_,_,Y,Y,.inr ⟨∅,∅⟩,_,_,Y,Y,_,_,Y,Y,(by show (0:Int) < 2147483629; decide),_,Y,p,_,_,_,Y,Y,hp,Y,?_⟩;have n0:0<=(b * 39373 + 611953) % 2147483629:=Int.emod_nonneg _ ∅;have n1:(b * 39373 + 611953) % 2147483629 < 2147483629:=Int.emod_lt_of_pos _ ∅;refine ⟨_,Y,p,_,_,_,Y,Y,EW af,Y,_,Y,p,_,_,_,Y,Y,EW af,Y,_,_,Y,Y,.inl ⟨⋯,⋯⟩,_,_,Y,Y,(by show (0:Int) < 2147483563; decide),_,_,Y,Y,⟨∅,∅⟩,_,Y,_,_,Y,Y,m0,?_⟩;exact q _ _ (Int.emod_nonneg _ ⋯) (Int.emod_lt_of_pos _ m0) ⟨a,_,⟨pt.a0,n0,n1⟩,af⟩ But.upd
theorem scNumber:FnScope ["_law_pot_here","_law_least","_law_way"] ["_law_pot_here","_law_least"] (defScope fQ):=⟨Y,Y,Y,∅,Y,∅,∅⟩
theorem mM {f:Addr} {fd:ER} (F:Fun K "_law_number" "_law_number" fQ f fd) (D:Dn P w K mg base "_law_draw" ["_law_pot_here","_law_many"] 1 cz):FnOk P w K mg base CX0 2 f fd ["_law_pot_here","_law_least"] eH:=by
 refine F.ok scNumber (λ vs H Q E h=>?_) (λ cdv A outer s H vs Q E hr h=>?_)
 ·obtain ⟨p,l,rfl,_⟩:=h
  rfl
 obtain ⟨p,l,rfl,pt,l0,l1,q⟩:=h;refine ⟨_,ae (av (i:=2) scNumber.nd rfl (Or.inl rfl) (ao D hr rfl (aa (pv 0) (aa ad ab))))
  (ae (aK (aB iX (pv 2) ad (az _)) (ag (au (ap aD (pv 1) (ao D hr rfl (aa (pv 0) (aa ad ab)))))) aA)
  (ae (aK (aB bA (pv 2) ad (az _)) (ag (au (ap aD (pv 1) (ao D hr rfl (aa (pv 0) (aa (ap aW (ap eW ad ad) (pv 1)) ab)))))) aA)
  (ag (au (ap aD (ap aD (ap eW ad ad) (ap cg (ao D hr rfl (aa (pv 0) (aa (ap eW ad ad) ab))) (ap eW ad ad)))
   (ao D hr rfl (aa (pv 0) (aa (ap eW ad ad) ab)))))))),?_⟩
 have pw:∀ {i j:Int},i=10->0<=j->j<=60->vD i j:=λ {i j} a b c=>⟨b,⋯,by subst a; decide⟩
 refine ⟨_,Y,p,4,Y,pt,∅,∅,λ y H1 y0 y1 pt1 b1=>?_⟩;refine ⟨_,Y,_,_,Y,Y,_,Y,?_⟩;refine bU (λ c=>?_) (λ c=>?_)
 ·refine ⟨_,Y,_,Y,p,12,Y,pt1,∅,∅,λ r H2 r0 r1 pt2 b2=>⟨_,_,Y,Y,?_⟩⟩;exact q _ _ ⋯ ⋯ pt2 (b1.trans b2)
 ·refine ⟨_,Y,Y,_,Y,?_⟩;refine bU (λ c2=>?_) (λ c2=>?_)
  ·refine ⟨_,Y,_,Y,_,_,Y,Y,pw rfl ∅ ∅,_,Y,_,_,Y,Y,p,_,Y,pt1,?_,?_,λ r H2 r0 r1 pt2 b2=>⟨_,_,Y,Y,?_⟩⟩
   ·show (0:Int) < 10 ^ 60 - l;omega
   ·show (10 ^ 60:Int) - l<=10 ^ 60;omega
   ·have r1':r < 10 ^ 60 - l:=r1;exact q _ _ ⋯ ⋯ pt2 (b1.trans b2)
  ·refine ⟨_,_,Y,Y,pw rfl ∅ ∅,_,Y,_,_,Y,Y,pw rfl ∅ ∅,p,_,Y,pt1,∅,∅,λ r H2 r0 r1 pt2 b2=>?_⟩;have r1':r < 10 ^ 9:=r1;refine ⟨_,_,Y,Y,pw rfl ∅ ∅,_,_,Y,Y,.inl ⟨⋯,⋯⟩,_,_,Y,Y,_,Y,_,_,Y,Y,pw rfl ∅ ∅,p,_,Y,pt2,∅,∅,λ r' H3 r0' r1'' pt3 b3=>⟨_,_,Y,Y,?_⟩⟩;have r2':r' < 10 ^ 9:=r1'';refine q _ _ ?_ ?_ pt3 (b1.trans (b2.trans b3))
   ·show l<=10 ^ 59 + r * 10 ^ 40 + r';omega
   ·show 10 ^ 59 + r * 10 ^ 40 + r' < 10 ^ 60;omega
theorem scKind:FnScope ["_law_pot_here","_law_wide","_law_high"] ["_law_pot_here"] (defScope lG):=⟨Y,Y,Y,∅,Y,∅,∅⟩
theorem rq {f:Addr} {fd:ER} (F:Fun K "_law_kind" "_law_kind" lG f fd) (D:Dn P w K mg base "_law_draw" ["_law_pot_here","_law_many"] 1 cz) (N:Dn P w K mg base "_law_number" ["_law_pot_here","_law_least"] 2 eH) (mi:mg "int" = none) :
  FnOk P w K mg base CX0 3 f fd ["_law_pot_here"] jV:=by
 refine F.ok scKind (λ vs H Q E h=>?_) (λ cdv A outer s H vs Q E hr h=>?_)
 ·obtain ⟨p,rfl,_⟩:=h
  rfl
 obtain ⟨p,rfl,pt,q⟩:=h;have hr1:=hr.mono (show 1<=2 by decide);refine ⟨_,ae (av (i:=1) scKind.nd rfl (Or.inl rfl) (ao N hr rfl (aa (pv 0) (aa ad ab))))
  (ae (av (i:=2) scKind.nd rfl (Or.inl rfl) (am ix_list (br (aa (pv 1) (aa (ao N hr rfl (aa (pv 0) (aa ad ab))) ab)))
   (bC cD rfl mi PyProof.Rows.boot_int (aa (bu rP (ao D hr1 rfl (aa (pv 0) (aa ad ab))) ad (az _)) ab)) (λ _ _=>rfl)))
  (ag (au (ay (aa (pv 1) (aa (pv 2) (aa (ao N hr rfl (aa (pv 0) (aa ad ab))) (aa (ao N hr rfl (aa (pv 0) (aa ad ab)))
   (aa (bu bA (ao D hr1 rfl (aa (pv 0) (aa ad ab))) ad (az _)) ab))))))))),?_⟩
 refine ⟨_,Y,p,1,Y,pt,∅,∅,λ wd H1 w0 w1 pt1 b1=>?_⟩;refine ⟨_,Y,_,Y,p,1,Y,pt1,∅,∅,λ hg H2 h0 h1 pt2 b2=>⟨zS2,λ l hl=>?_⟩⟩;refine ⟨_,Y,p,4,Y,pt2.new hl,∅,∅,λ y H3 y0 y1 pt3 b3=>?_⟩;have hlp:l≠p:=λ z=>by rw [z] at hl; exact pt2.some hl
 have hl3:H3 l=↥[.int wd,.int hg]:=b3 l _ hlp af;refine ⟨_,_,Y,Y,.inr ⟨_,Y,?_⟩⟩;obtain ⟨hh,hv,hh0,hh1⟩:∃hh:Int,atI [V.int wd,V.int hg] (if decide (0 < y)=true then (1:Int) else 0)=⇑hh/\1<=hh/\hh < 10 ^ 60:=by
  by_cases c:0 < y
  ·exact ⟨hg,by rw [decide_eq_true c,if_pos rfl]; rfl,h0,h1⟩
  ·exact ⟨wd,by rw [decide_eq_false c,if_neg Bool.false_ne_true]; rfl,w0,w1⟩
 refine ⟨l,_,_,_,Y,Y,EW hl3,hv,?_⟩;refine ⟨_,Y,_,Y,_,Y,p,0,Y,pt3,∅,∅,λ wo H4 o0 o1 pt4 b4=>?_⟩;refine ⟨_,Y,p,0,Y,pt4,∅,∅,λ wa H5 a0 a1 pt5 b5=>?_⟩;refine ⟨_,Y,p,2,Y,pt5,∅,∅,λ z H6 z0 z1 pt6 b6=>⟨Y,zS5,λ t ht=>?_⟩⟩;have b:=(((((b1.trans b2).trans (But.new hl)).trans b3).trans b4).trans b5).trans b6;exact q t ⟨wd,hh,wo,wa,decide (V.int z=V.int 1)⟩ _ (b.free pt6 ht) ⟨w0,hh0,o0,a0,w1,hh1,o1,a1⟩ af (pt6.new ht) (b.trans (But.new ht))
end
theorem PotAt.ne {p q:Addr} {H:Hp} (x:PotAt H p) (h:H q=none):p≠q:=λ z=>x.some (z ▸ h)
theorem PotAt.same {p:Addr} {H H':Hp} (x:PotAt H p) (s:Same H H'):PotAt H' p:=by obtain ⟨a,b,h,e⟩:=x;exact ⟨a,b,h,s _ _ e⟩
theorem dv {H:Hp} {p:Addr} (h:PotAt H p):∃xs,H p=↥xs:=by obtain ⟨_,_,_,e⟩:=h;exact ⟨_,e⟩
theorem bN {p c:Addr} {H0 H:Hp} {o:HO} (b:But p H0 H) (pt:PotAt H p) (h:H c=none):∃H',upd H c o=H'/\H' c=some o/\c≠p/\Same H H'/\But p H0 H'/\PotAt H' p :=
 ⟨_,rfl,af,Ne.symm (pt.ne h),EU h,b.trans (But.new h),pt.new h⟩
theorem bL {p:Addr} {rs:List V} {ks:List Kd} {H H':Hp} (b:But p H H') (pt:PotAt H p) (h:Tups H rs ks):Tups H' rs ks:=by obtain ⟨_,hp⟩:=dv pt;exact Tups.keep (λ x xs e=>b _ _ (λ z=>by rw [z,hp] at e; cases e) e) h
def fD (k:Kd) (c:Bool) (w h:Int):Bool:=decide (sd1 k c<=w) && decide (sd2 k c<=h)
def bV (k:Kd):List Bool:=if bf k=true then [false,true] else [false]
section
variable {P:EQ} {w:ES} {K:C4} {mg:Str->Option ET} {base:Heap}
inductive spShopL (vs:List V) (H:Hp) (Q:VK) (E_:XK):Prop
 | mk (p:Addr) (e_1:vs=[.ref p]) (e_2:PotAt H p) (e_3:∀ (t l:Addr) (b:Int) (rs:List V) (ks:List Kd) (H':Hp),H' t= ~~~[.int b,.ref l]->H' l=↥rs->l≠p->Tups H' rs ks->(∀k∈ks,Good k)->1<=rs.length->rs.length<=8->0<=b->PotAt H' p->But p H H'->Q (.ref t) H'):spShopL vs H Q E_
theorem scshop:FnScope ["_law_pot_here","_law_blade","_law_kinds","_law_k","_law_wide","_law_high"] ["_law_pot_here"] (defScope lH):=⟨Y,Y,Y,∅,Y,∅,∅⟩
theorem rz {f:Addr} {fd:ER} (F:Fun K "_law_shop" "_law_shop" lH f fd) (B:Blt mg) (DD:Dn P w K mg base "_law_draw" ["_law_pot_here","_law_many"] 1 (cz)) (DN:Dn P w K mg base "_law_number" ["_law_pot_here","_law_least"] 2 (eH)) (DK:Dn P w K mg base "_law_kind" ["_law_pot_here"] 3 (jV)):FnOk P w K mg base CX0 4 f fd ["_law_pot_here"] (spShopL):=by
 refine F.ok scshop (λ vs H Q E h=>?_) (λ cdv A outer s H vs Q E hr h=>?_)
 ·obtain ⟨p,rfl,_⟩:=h
  rfl
 obtain ⟨p,rfl,pt,q⟩:=h;have nd:=scshop.nd;have hr1:=hr.mono (show 1<=3 by decide);have hr2:=hr.mono (show 2<=3 by decide);refine ⟨_,((1∣(@ao _ _ _ _ _ _ _ _ _ _ DD hr1 Y ((pv 0)^^^(ad^^^ab)) ∅ Y Y))<<<((2∣(@br _ _ _ _ ab))<<<((@cy _ _ _ _ _ _ _ _ ED Y (dA Y B.range ((ad|||aD|||(@ao _ _ _ _ _ _ _ _ _ _ DD hr1 Y ((pv 0)^^^(ad^^^ab)) ∅ Y Y))^^^ab)) (ai (i:=3) nd Y (Or.inl Y)) ((4∣(ad|||aD|||(@ao _ _ _ _ _ _ _ _ _ _ DD hr1 Y ((pv 0)^^^(ad^^^ab)) ∅ Y Y)))<<<((5∣(ad|||aD|||(@ao _ _ _ _ _ _ _ _ _ _ DD hr1 Y ((pv 0)^^^(ad^^^ab)) ∅ Y Y)))>>>(@bG _ _ _ _ (@fm _ _ _ _ _ _ _ _ _ _ _ _ EN PySem.F.slot_list_append PySem.F.type_list_append dC (pv 2) ((@ay _ _ _ _ _ ((pv 4)^^^((pv 5)^^^((@ao _ _ _ _ _ _ _ _ _ _ DN hr2 Y ((pv 0)^^^(ad^^^ab)) ∅ Y Y)^^^((@ao _ _ _ _ _ _ _ _ _ _ DN hr2 Y ((pv 0)^^^(ad^^^ab)) ∅ Y Y)^^^((@bu _ _ _ _ _ _ _ _ bA (@ao _ _ _ _ _ _ _ _ _ _ DD hr1 Y ((pv 0)^^^(ad^^^ab)) ∅ Y Y) ad (az _))^^^ab))))))^^^ab) Y Y Y Y Y) Y))) (by intro _; rfl))<<<((((@ao _ _ _ _ _ _ _ _ _ _ DD hr1 Y ((pv 0)^^^(ad^^^ab)) ∅ Y Y)<*>bA<*>ad)<|>(@ag _ _ _ (@be _ _ _ _ _ _ (DK∪((pv 0)^^^ab)) (jD (pv 2) ad eE) Y Y Y))<|>aA)<<<((((@ao _ _ _ _ _ _ _ _ _ _ DD hr1 Y ((pv 0)^^^(ad^^^ab)) ∅ Y Y)<*>bA<*>ad)<|>(@ag _ _ _ (1∣(@ao _ _ _ _ _ _ _ _ _ _ DN hr2 Y ((pv 0)^^^(ad^^^ab)) ∅ Y Y)))<|>aA)<<<((@ay _ _ _ _ _ ((pv 1)^^^((pv 2)^^^ab)))⁻¹)))))),?_⟩;have e60:(100:Int) < 10 ^ 60:=∅
 have sz:(100:Nat) < sizeLine:=∅
 refine ⟨_,Y,p,4,Y,pt,∅,∅,λ b0 H1 b00 b01 pt1 bt1=>?_⟩;refine ⟨∅,λ l hl=>?_⟩;obtain ⟨H2,e2,k2,n2,s2,bt2,pt2⟩:=bN (o:=.lst []) bt1 pt1 hl;rw [e2]; clear e2;refine aw (λ σ' H'=>σ'=[↑p,⇑b0,↑l,none,none,none]/\H2=H') (λ R hR=>hR _ _ ⟨rfl,rfl⟩) ?_;rintro _ _ ⟨rfl,rfl⟩;refine aw (λ σ' H'=>∃ (v3 v4 v5:Option V) (rs:List V) (ks:List Kd),σ'=[↑p,⇑b0,↑l,v3,v4,v5]/\H' l=↥rs/\Tups H' rs ks/\(∀k∈ks,Good k)/\1<=rs.length/\rs.length<=8/\PotAt H' p/\But p H H') (λ R hR=>?_) ?_
 ·refine ⟨_,Y,p,8,Y,pt2,∅,∅,λ m H3 m0 m1 pt3 bt3=>⟨_,_,Y,Y,_,Y,⋯,⋯,?_⟩⟩;have fl:H l=none:=by
   cases e:H l with
   | none=>rfl
   | some o=>rw [bt1 _ _ n2 e] at hl; cases hl
  refine dB (n:=(1 + m).toNat) (λ i σ' H'=>∃ (v3 v4 v5:Option V) (rs:List V) (ks:List Kd),σ'=[↑p,⇑b0,↑l,v3,v4,v5]/\H' l=↥rs/\Tups H' rs ks/\(∀k∈ks,Good k)/\rs.length=i/\PotAt H' p/\But p H H') ⟨_,_,_,[],[],rfl,bt3 _ _ n2 k2,.nil,λ k hk=>by simp at hk,rfl,pt3,bt2.trans bt3⟩ ?_ ?_
  ·rintro i _ H4 hi ⟨v3,v4,v5,rs,ks,rfl,hl4,tp4,gk4,rl4,pt4,bt4⟩;refine ⟨_,Y,p,6,Y,pt4,∅,∅,λ w1 H5 w0 w1' pt5 b5=>⟨_,_,Y,Y,?_⟩⟩;refine ⟨_,Y,p,6,Y,pt5,∅,∅,λ h1 H6 h0 h1' pt6 b6=>⟨_,_,Y,Y,?_⟩⟩;have hl6:=b6 _ _ n2 (b5 _ _ n2 hl4);refine ⟨_,Y,.inl ⟨Y,_,EW hl6⟩,_,Y,_,Y,_,Y,p,0,Y,pt6,∅,∅,λ wo H7 wo0 wo1 pt7 b7=>?_⟩;refine ⟨_,Y,p,0,Y,pt7,∅,∅,λ wa H8 wa0 wa1 pt8 b8=>?_⟩;refine ⟨_,Y,p,2,Y,pt8,∅,∅,λ tu H9 tu0 tu1 pt9 b9=>⟨Y,zS5,λ t ht=>?_⟩⟩;have b49:=(((b5.trans b6).trans b7).trans b8).trans b9;obtain ⟨Ha,ea,ka,na,sa,ba,pta⟩:=bN (o:=.tup [.int (1 + w1),.int (1 + h1),.int wo,.int wa,.bl (decide (V.int tu=V.int 1))]) (bt4.trans b49) pt9 ht;rw [show upd H9 t _=Ha from ea]; clear ea;have ka:Ha t= ~~~(kdV ⟨1 + w1,1 + h1,wo,wa,decide (V.int tu=V.int 1)⟩):=ka;have hla:=sa _ _ (b49 _ _ n2 hl4);refine ⟨l,_,_,Y,Y,hla,(by have:i < (1 + m).toNat:=hi; omega),?_⟩;have kt:∀ {c:Addr} {xs:List V} {o:HO},Ha c= ~~~xs->(upd Ha l (.lst (rs ++ [.ref t]))) c= ~~~xs:=λ {c xs o} e=>by rw [aj (λ z=>by rw [z,hla] at e; cases e)]; exact e
   refine ⟨_,_,_,rs ++ [.ref t],ks ++ [⟨1 + w1,1 + h1,wo,wa,decide (V.int tu=V.int 1)⟩],Y,af,?_,λ k hk=>?_,by rw [List.length_append,rl4]; rfl,?_,λ c o n e=>?_⟩
   ·refine dW (Tups.keep (λ c xs e=>kt (o:=.own 0) (sa _ _ e)) (bL b49 pt4 tp4)) (.cons ⟨t,Y,kt (o:=.own 0) ka⟩ .nil)
   ·rcases C2.mp hk with hk | hk
    ·exact gk4 k hk
    ·rw [List.mem_singleton.mp hk];exact ⟨by show (1:Int)<=1 + w1; omega,by show (1:Int)<=1 + h1; omega,wo0,wa0,by show 1 + w1 < _; omega,by show 1 + h1 < _; omega,wo1,wa1⟩
   ·obtain ⟨x,y,hxy,e⟩:=pta;exact ⟨x,y,hxy,by rw [aj (Ne.symm n2)]; exact e⟩
   ·rw [aj (λ z=>by rw [z,fl] at e; cases e)];exact ba _ _ n e
  ·rintro _ H4 ⟨v3,v4,v5,rs,ks,rfl,hl4,tp4,gk4,rl4,pt4,bt4⟩;exact hR _ _ ⟨_,_,_,rs,ks,rfl,hl4,tp4,gk4,⋯,⋯,pt4,bt4⟩
 rintro _ H3 ⟨v3,v4,v5,rs,ks,rfl,hl3,tp3,gk3,r1,r8,pt3,bt3⟩;have fl:H l=none:=by
  cases e:H l with
  | none=>rfl
  | some o=>rw [bt1 _ _ n2 e] at hl; cases hl
 refine aw (λ σ' H'=>∃ (rs:List V) (ks:List Kd),σ'=[↑p,⇑b0,↑l,v3,v4,v5]/\H' l=↥rs/\Tups H' rs ks/\(∀k∈ks,Good k)/\1<=rs.length/\rs.length<=8/\PotAt H' p/\But p H H') (λ R hR=>?_) ?_
 ·refine ⟨_,Y,p,4,Y,pt3,∅,∅,λ z H4 z0 z1 pt4 b4=>⟨Y,_,Y,?_⟩⟩;refine bU (λ cc=>?_) (λ cc=>?_)
  ·refine ⟨_,Y,p,Y,pt4,λ t k H5 ht gk kt pt5 b5=>?_⟩;have b35:=b4.trans b5;have hl5:=b35 _ _ n2 hl3;refine ⟨_,Y,l,_,0,0,Y,Y,hl5,(by unfold ixN; rw [if_pos ∅,if_pos ⋯]; rfl),?_⟩;have kt5:∀ {c:Addr} {xs:List V},H5 c= ~~~xs->(upd H5 l (.lst (rs.set 0 (.ref t)))) c= ~~~xs:=λ {c xs} e=>by rw [aj (λ z=>by rw [z,hl5] at e; cases e)]; exact e
   have tp5:=Tups.keep (λ c xs e=>kt5 e) (bL b35 pt3 tp3);refine hR _ _ ⟨rs.set 0 (.ref t),ks.set 0 k,rfl,af,?_,λ k' hk'=>?_,by rw [List.length_set]; exact r1,by rw [List.length_set]; exact r8,?_,λ c o n e=>?_⟩
   ·cases tp5 with
    | nil=>exact absurd r1 ∅
    | cons a r=>exact .cons ⟨t,Y,kt5 kt⟩ r
   ·rcases List.mem_or_eq_of_mem_set hk' with hk' | rfl
    ·exact gk3 k' hk'
    ·exact gk
   ·obtain ⟨x,y,hxy,e⟩:=pt5;exact ⟨x,y,hxy,by rw [aj (Ne.symm n2)]; exact e⟩
   ·rw [aj (λ z=>by rw [z,fl] at e; cases e)];exact b35 _ _ n (bt3 _ _ n e)
  ·exact hR _ _ ⟨rs,ks,rfl,b4 _ _ n2 hl3,bL b4 pt3 tp3,gk3,r1,r8,pt4,bt3.trans b4⟩
 rintro _ H4 ⟨rs',ks',rfl,hl4,tp4,gk4,r1',r8',pt4,bt4⟩;refine aw (λ σ' H'=>∃ (b:Int),0<=b/\σ'=[↑p,⇑b,↑l,v3,v4,v5]/\PotAt H' p/\But p H4 H') (λ R hR=>?_) ?_
 ·refine ⟨_,Y,p,8,Y,pt4,∅,∅,λ z H5 z0 z1 pt5 b5=>⟨Y,_,Y,?_⟩⟩;refine bU (λ cc=>?_) (λ cc=>?_)
  ·exact ⟨_,Y,p,0,Y,pt5,∅,∅,λ n H6 n0 n1 pt6 b6=>hR _ _ ⟨n,n0,Y,pt6,b5.trans b6⟩⟩
  ·exact hR _ _ ⟨b0,b00,rfl,pt5,b5⟩
 rintro _ H5 ⟨b,bn,rfl,pt5,b45⟩;refine ⟨_,Y,_,Y,zS2,λ t ht=>?_⟩;obtain ⟨H6,e6,k6,n6,s6,b6,pt6⟩:=bN (o:=.tup [.int b,.ref l]) (bt4.trans b45) pt5 ht;rw [e6];exact q t l b rs' ks' H6 k6 (s6 _ _ (b45 _ _ n2 hl4)) n2 (Tups.keep (λ c xs e=>s6 _ _ e) (bL b45 pt4 tp4)) gk4 r1' r8' bn pt6 b6
end
def fq1 (ks:List Kd) (w h:Int) (i:Nat):List (Nat×Bool):=match ks[i]? with
 | some k=>((bV k).filter λ c=>fD k c w h).map λ c=>(i,c)
 | none=>[]
def fq (ks:List Kd) (w h:Int) (n:Nat):List (Nat×Bool):=(List.range n).flatMap (fq1 ks w h)
theorem lL (ks:List Kd) (w h:Int) (n:Nat):fq ks w h (n + 1)=fq ks w h n ++ fq1 ks w h n:=by unfold fq;rw [List.range_succ,List.flatMap_append,List.flatMap_cons,List.flatMap_nil,List.append_nil]
theorem sX {ks:List Kd} {w h:Int} {n i:Nat} {c:Bool} (hm:(i,c)∈fq ks w h n):∃k,ks[i]? = some k/\c∈bV k/\fD k c w h=true:=by
 unfold fq at hm;rw [List.mem_flatMap] at hm;obtain ⟨j,_,hj⟩:=hm;unfold fq1 at hj;cases e:ks[j]? with
 | none=>rw [e] at hj; cases hj
 | some k =>
  rw [e] at hj;obtain ⟨c',hc',e2⟩:=List.mem_map.mp hj;cases e2;rw [List.mem_filter] at hc';exact ⟨k,e,hc'.1,hc'.2⟩
theorem lM (ks:List Kd) (w h:Int) (i:Nat):(fq1 ks w h i).length<=2:=by
 unfold fq1
 split
 ·rw [List.length_map];refine C5 (List.length_filter_le _ _) ?_;unfold bV
  split <;> decide
 ·decide
theorem kq (ks:List Kd) (w h:Int):∀n,(fq ks w h n).length<=2 * n
 | 0=>B3 _
 | n + 1=>by rw [lL,List.length_append];have:=kq ks w h n;have:=lM ks w h n;omega
theorem kr {a b c:St} (h1:leS a b) (h2:leS b c):leS a c:=⟨h2.1.trans h1.1,λ i v e=>h2.2 i v (h1.2 i v e)⟩
def QAt (ks:List Kd) (H:Hp) (v:V) (q:Nat×Bool):Prop:=∃a k,v=.ref a/\ks[q.1]? = some k/\H a= ~~~[.int q.1,.bl q.2,.int (sd1 k q.2),.int (sd2 k q.2)]
theorem QAt.keep {ks:List Kd} {H H':Hp} (k:∀a xs,H a= ~~~xs->H' a= ~~~xs) {v:V} {q:Nat×Bool} (h:QAt ks H v q):QAt ks H' v q:=by obtain ⟨a,kk,e,e2,h⟩:=h;exact ⟨a,kk,e,e2,k _ _ h⟩
def BL (k:Kd) (H:Hp) (v:V) (c:Bool):Prop:=∃a,v=.ref a/\H a= ~~~[.int (sd1 k c),.int (sd2 k c),.bl c]
section
variable {P:EQ} {w:ES} {K:C4} {mg:Str->Option ET} {base:Heap}
inductive spFitQ (vs:List V) (H:Hp) (Q:VK) (E_:XK):Prop
 | mk (kl:Addr) (rs:List V) (ks:List Kd) (w h:Int) (e_1:vs=[.ref kl,.int w,.int h]) (e_2:H kl=↥rs) (e_3:Tups H rs ks) (e_4:rs.length<=8) (e_5:∀ (l:Addr) (ys:List V) (H':Hp),H l=none->H' l=↥ys->Paired (QAt ks H') ys (fq ks w h ks.length)->Same H H'->Q (.ref l) H'):spFitQ vs H Q E_
theorem scfitq:FnScope ["_law_kinds","_law_wide","_law_high","_law_found","_law_number_here","_law_kind_here","_law_sides"] ["_law_kinds","_law_wide","_law_high"] (defScope dj):=⟨Y,Y,Y,∅,Y,∅,∅⟩
theorem rA {f:Addr} {fd:ER} (F:Fun K "_law_fitting" "_law_fitting" dj f fd) (B:Blt mg):FnOk P w K mg base CX0 1 f fd ["_law_kinds","_law_wide","_law_high"] (spFitQ):=by
 refine F.ok scfitq (λ vs H Q E h=>?_) (λ cdv A outer s H vs Q E hr h=>?_)
 ·obtain ⟨kl,rs,ks,w1,h1,rfl,_⟩:=h
  rfl
 obtain ⟨kl,rs,ks,w1,h1,rfl,hk0,tp,r8,q⟩:=h;have nd:=scfitq.nd;refine ⟨_,((3∣(@br _ _ _ _ ab))<<<((@cy _ _ _ _ _ _ _ _ ED Y (qT Y B.enumerate ((pv 0)^^^ab)) (aR Y (ah (ai (i:=4) nd Y (Or.inr Y)) (5•aI))) ((6∣(@br _ _ _ _ ((@ay _ _ _ _ _ (((pv 5)&&&ix_tup&&&ad)^^^(((pv 5)&&&ix_tup&&&ad)^^^(bO^^^ab))))^^^ab)))<<<(((PW.pt (nV (@aO _ _ _ ((pv 5)&&&ix_tup&&&ad) (by intro _; rfl)) (kW (((pv 5)&&&ix_tup&&&ad)<*>gQ<*>((pv 5)&&&ix_tup&&&ad)))))<|>(@ag _ _ _ (@bG _ _ _ _ (@fm _ _ _ _ _ _ _ _ _ _ _ _ EN PySem.F.slot_list_append PySem.F.type_list_append dC (pv 6) ((@ay _ _ _ _ _ (((pv 5)&&&ix_tup&&&ad)^^^(((pv 5)&&&ix_tup&&&ad)^^^(bO^^^ab))))^^^ab) Y Y Y Y Y) Y))<|>aA)>>>(@bG _ _ _ _ (@fm _ _ _ _ _ _ _ _ _ _ _ _ EN PySem.F.slot_list_extend PySem.F.type_list_extend eZ (pv 3) ((bv (own:=["_law_a","_law_b","_law_turned"]) (cs:=["_law_wide","_law_high","_law_number_here"]) (cap:=[1,2,4]) Y (bo (pv 6)) (aP (sc:=defScope dj) (N:=["_law_kinds","_law_wide","_law_high","_law_found","_law_number_here","_law_kind_here","_law_sides"]) Y Y ∅) (λ _ _ _ _ _=>oV K Y Y (by show List.Nodup (["_law_a","_law_b","_law_turned","_law_wide","_law_high","_law_number_here"]:List Str) ; decide +kernel) Y Y Y Y Y Y) (λ _ _ _ _ _=>(eF (PW.pt (nV ((pv 0)<*>gR<*>(pv 3)) (kW ((pv 1)<*>gR<*>(pv 4))))))) (λ _ _ _ _ _=>(@ay _ _ _ _ _ ((pv 5)^^^((pv 2)^^^((pv 0)^^^((pv 1)^^^ab)))))))^^^ab) Y Y Y Y Y) Y))) (by intro _; rfl))<<<((pv 3)⁻¹))),?_⟩;have sz:(100:Nat) < sizeLine:=∅
 refine ⟨∅,λ l hl=>?_⟩;have s1:Same H (upd H l (.lst [])):=EU hl;have l1:(upd H l (.lst ([]:List V))) l=↥[]:=af;generalize upd H l (.lst ([]:List V))=H1 at s1 l1 ⊢;have kl1:=s1 _ _ hk0;have nkl:kl≠l:=λ e=>by rw [e,hl] at hk0; cases hk0
 have len:=EC tp;refine ⟨_,Y,kl,rs,Y,.inl ⟨kl1,oU (f:=.lst) (λ _ _ e=>by cases e; rfl) (xs:=rs) (λ i σ H'=>(∃v4 v5 v6,σ=[↑kl,⇑w1,⇑h1,↑l,v4,v5,v6])/\(∃ys,H' l=↥ys/\Paired (QAt ks H') ys (fq ks w1 h1 i))/\But l H1 H') ⟨⟨_,_,_,Y⟩,⟨[],l1,.nil⟩,But.refl⟩ (λ i σ H' ⟨_,_,b4⟩=>b4 _ _ nkl kl1) ?_ ?_⟩⟩
 ·rintro i x pp σ H2 hx hp ⟨⟨v4,v5,v6,rfl⟩,⟨ys,l2,py⟩,b2⟩;obtain ⟨k,hk',ka,rfl,hka⟩:=EY tp hx;have hin:i < rs.length:=(A6.mp hx).1;have nka:ka≠l:=λ e=>by rw [e,hl] at hka; cases hka
  have s3:Same H2 (upd H2 pp (.tup [.int i,.ref ka])):=EU hp;have p3:(upd H2 pp (.tup [.int i,.ref ka])) pp= ~~~[.int i,.ref ka]:=af;generalize upd H2 pp (.tup [.int i,.ref ka])=H3 at s3 p3 ⊢;have ka3:H3 ka= ~~~(kdV k):=s3 _ _ (b2 _ _ nka (s1 _ _ hka));refine ⟨pp,_,Y,EV p3,Y,_,_,Y,_,_,Y,Y,?_⟩;refine aw (λ σ' H'=>∃sl a,σ'=[↑kl,⇑w1,⇑h1,↑l,⇑i,↑ka,↑sl]/\H3 sl=none/\H' sl=↥[.ref a]/\H' a= ~~~[.int k.w,.int k.h,.bl false]/\Same H3 H') (λ R hR=>?_) ?_
  ·refine ⟨_,Y,ka,_,0,_,Y,Y,EV ka3,Y,_,Y,ka,_,1,_,Y,Y,EV ka3,Y,zS3,λ a ha=>?_⟩;have s4:Same H3 (upd H3 a (.tup [.int k.w,.int k.h,.bl false])):=EU ha;have k4:(upd H3 a (.tup [.int k.w,.int k.h,.bl false])) a= ~~~[.int k.w,.int k.h,.bl false]:=af;generalize upd H3 a (.tup [.int k.w,.int k.h,.bl false])=H4 at s4 k4 ⊢;exact ⟨zS1,λ sl hsl=>hR _ _ ⟨sl,a,Y,s4.free hsl,af,EU hsl _ _ k4,s4.trans (EU hsl)⟩⟩
  rintro _ H4 ⟨sl,a0,rfl,fsl,hs4,ha4,s34⟩;have nsl:sl≠l:=λ e=>by rw [e,s3 _ _ l2] at fsl; cases fsl
  have ka4:=s34 _ _ ka3;refine aw (λ σ' H'=>∃zs,σ'=[↑kl,⇑w1,⇑h1,↑l,⇑i,↑ka,↑sl]/\H' sl=↥zs/\Paired (BL k H') zs (bV k)/\But sl H4 H') (λ R hR=>?_) ?_
  ·have no:bf k=false->R [↑kl,⇑w1,⇑h1,↑l,⇑i,↑ka,↑sl] H4:=λ ht=>hR _ _ ⟨_,rfl,hs4,by unfold bV; rw [ht]; exact .cons ⟨a0,rfl,ha4⟩ .nil,But.refl⟩;refine ⟨_,Y,ka,_,4,_,Y,Y,EV ka4,Y,_,Y,?_⟩;cases htu:k.tu with
   | false=>exact aJ (no (by unfold bf; rw [htu]; rfl))
   | true =>
    refine aS ⟨_,rfl,ka,_,0,_,rfl,rfl,EV ka4,rfl,_,rfl,ka,_,1,_,rfl,rfl,EV ka4,rfl,rfl,_,rfl,?_⟩
    by_cases hwh:k.w=k.h
    ·rw [show decide (V.int k.w=V.int k.h)=true from decide_eq_true (by rw [hwh])];exact aJ (no (by unfold bf; rw [decide_eq_true hwh]; simp))
    ·rw [show decide (V.int k.w=V.int k.h)=false from decide_eq_false (λ z=>hwh (V.int.inj z))];refine aS ⟨_,rfl,.inl ⟨rfl,_,EW hs4⟩,_,rfl,ka,_,1,_,rfl,rfl,EV ka4,rfl,_,rfl,ka,_,0,_,rfl,rfl,EV ka4,rfl,zS3,λ a ha=>?_⟩;have s5:Same H4 (upd H4 a (.tup [.int k.h,.int k.w,.bl true])):=EU ha;have k5:(upd H4 a (.tup [.int k.h,.int k.w,.bl true])) a= ~~~[.int k.h,.int k.w,.bl true]:=af;generalize upd H4 a (.tup [.int k.h,.int k.w,.bl true])=H5 at s5 k5 ⊢;have hs5:=s5 _ _ hs4;refine ⟨sl,_,_,Y,Y,hs5,(by show 1 < sizeLine; decide),?_⟩;have kt:∀ {c:Addr} {xs:List V},H5 c= ~~~xs->(upd H5 sl (.lst ([.ref a0] ++ [.ref a]))) c= ~~~xs:=λ {c xs} e=>by rw [aj (λ z=>by rw [z,hs5] at e; cases e)]; exact e
     refine hR _ _ ⟨[.ref a0,.ref a],rfl,af,?_,λ c o n e=>by rw [aj n]; exact s5 _ _ e⟩;have ht:bf k=true:=by unfold bf; rw [htu,decide_eq_false hwh]; rfl
     unfold bV;rw [ht];exact .cons ⟨a0,Y,kt (s5 _ _ ha4)⟩ (.cons ⟨a,Y,kt k5⟩ .nil)
  rintro _ H5 ⟨zs,rfl,hs5,pz5,b5⟩;have l5:H5 l=↥ys:=b5 _ _ (Ne.symm nsl) (s34 _ _ (s3 _ _ l2));have zl:=EC pz5;have ll:(bV k).length<=2:=by unfold bV; split <;> decide
  have yl:=EC py;have fl:=kq ks w1 h1 i;refine ⟨_,Y,.inl ⟨Y,_,EW l5⟩,?_⟩;have fe:fq1 ks w1 h1 i=((bV k).filter λ c=>fD k c w1 h1).map λ c=>(i,c):=by unfold fq1; rw [hk']
  refine ⟨_,Y,sl,Y,⟨_,EW hs5⟩,(bi (K:=K) (.inl hs5) (λ j us Hx=>Same H5 Hx/\Paired (QAt ks Hx) us ((((bV k).take j).filter λ c=>fD k c w1 h1).map λ c=>(i,c))) (λ j us Hx _ ⟨sx,_⟩ o e=>sx _ _ e) ⟨Same.refl _,.nil⟩ ?_ ?_).1 hs5⟩
  ·rintro j y us Hx hj ⟨sx,pu⟩;have hjn:j < zs.length:=(A6.mp hj).1;obtain ⟨cc,hc',t,rfl,ht⟩:=EY pz5 hj;have htx:=sx _ _ ht;have pul:=EC pu;have tk:(bV k).take (j + 1)=(bV k).take j ++ [cc]:=by rw [List.take_add_one,hc']; rfl
   have pl:us.length<=2:=by rw [pul,List.length_map];exact C5 (List.length_filter_le _ _) (by rw [List.length_take]; omega)
   refine ⟨⋯,?_⟩;refine ⟨t,_,Y,EV htx,Y,_,_,Y,_,_,Y,_,_,Y,Y,kr (kr (leS.set rfl) (leS.set rfl)) (leS.set rfl),?_⟩;refine ⟨_,Y,_,Y,_,_,Y,Y,_,Y,?_⟩;have pn:=List.filter_append (p:=λ c=>fD k c w1 h1) ((bV k).take j) [cc];rw [<- tk] at pn;refine bU (λ c1=>?_) (λ c1=>?_)
   ·refine ⟨_,Y,_,Y,_,_,Y,Y,_,Y,?_⟩;refine bU (λ c2=>?_) (λ c2=>?_)
    ·have ff:fD k cc w1 h1=true:=by unfold fD; rw [c1,c2]; rfl
     refine ⟨_,Y,_,Y,_,Y,_,Y,zS4,λ z hz=>?_⟩;refine Nx.of hjn ⟨sx.trans (EU hz),?_⟩;rw [pn,List.filter_cons,if_pos ff,List.filter_nil,List.map_append];exact dW (EX pu λ v q h=>h.keep λ a xs e=>EU hz _ _ e) (.cons ⟨z,k,Y,hk',af⟩ .nil)
    ·have ff:¬ fD k cc w1 h1=true:=λ z=>c2 (by unfold fD at z; exact (Bool.and_eq_true_iff.mp z).2);refine Nx.of hjn ⟨sx,?_⟩;rw [pn,List.filter_cons,if_neg ff,List.filter_nil,List.append_nil];exact pu
   ·have ff:¬ fD k cc w1 h1=true:=λ z=>c1 (by unfold fD at z; exact (Bool.and_eq_true_iff.mp z).1);refine aJ (Nx.of hjn ⟨sx,?_⟩);rw [pn,List.filter_cons,if_neg ff,List.filter_nil,List.append_nil];exact pu
  ·rintro us Hx ⟨sx,pu⟩;rw [zl,List.take_length,<- fe] at pu;have pul:=EC pu;have f1:=lM ks w1 h1 i;refine ⟨⋯,λ xl hxl=>?_⟩;have sy:Same Hx (upd Hx xl (.lst us)):=EU hxl;have ky:(upd Hx xl (.lst us)) xl=↥us:=af;generalize upd Hx xl (.lst us)=Hy at sy ky ⊢;have ly:=sy _ _ (sx _ _ l5);refine ⟨l,xl,_,_,Y,Y,ly,ky,⋯,?_⟩;have kt:∀ {c:Addr} {xs:List V},Hy c= ~~~xs->(upd Hy l (.lst (ys ++ us))) c= ~~~xs:=λ {c xs} e=>by rw [aj (λ z=>by rw [z,ly] at e; cases e)]; exact e
   have up:∀ {c:Addr} {xs:List V},H2 c= ~~~xs->Hy c= ~~~xs:=λ {c xs} e=>sy _ _ (sx _ _ (b5 _ _ (λ z=>by rw [z] at e; rw [s34 _ _ (s3 _ _ e)] at hs4; cases hs4) (s34 _ _ (s3 _ _ e))));refine ⟨⟨_,_,_,Y⟩,⟨ys ++ us,af,?_⟩,λ c o n e=>?_⟩
   ·rw [lL];exact dW (EX py λ v q h=>h.keep λ a xs e=>kt (up e)) (EX pu λ v q h=>h.keep λ a xs e=>kt (sy _ _ e))
   ·rw [aj n];have e4:=s34 _ _ (s3 _ _ (b2 _ _ n e));refine sy _ _ (sx _ _ (b5 _ _ (λ z=>?_) e4));rw [z] at e;have:=s3 _ _ (b2 _ _ nsl e);rw [fsl] at this;cases this
 ·rintro σ H3 ⟨⟨v4,v5,v6,rfl⟩,⟨ys,l3,py⟩,b3⟩;rw [len] at py;exact ⟨_,Y,q l ys H3 hl l3 py (λ x o e=>b3 _ _ (λ z=>by rw [z,hl] at e; cases e) (s1 _ _ e))⟩
end
inductive Tr where
 | rest
 | piece (i:Nat) (c:Bool) (x y:Int)
 | cut (dn:Bool) (p:Int) (l r:Tr)
def toD:Tr->PyData
 | .rest=>.tuple [.str "rest"]
 | .piece i c x y=>.tuple [.str "piece",.int i,.bool c,.int x,.int y]
 | .cut dn p l r=>.tuple [.str (if dn=true then "down" else "across"),.int p,toD l,toD r]
def lvN:Tr->Nat
 | .cut _ _ l r=>lvN l + lvN r
 | _=>1
theorem rB:∀t:Tr,1<=(toD t).depth
 | .rest=>∅
 | .piece .. => by show 1<=PyData.depthAll _ + 1; omega
 | .cut .. => by show 1<=PyData.depthAll _ + 1; omega
theorem eO:∀t:Tr,(toD t).depth<=1->lvN t=1
 | .rest,_=>rfl
 | .piece ..,_=>rfl
 | .cut dn p l r,h=>by exfalso;have h:PyData.depthAll [.str (if dn=true then "down" else "across"),.int p,toD l,toD r] + 1<=1:=h;have:=rB l;simp only [PyData.depthAll,PyData.depth] at h;omega
def TrV (H:Hp):Tr->V->Prop
 | .rest,v=>∃a,v=.ref a/\H a=some (.tup [.str "rest"])
 | .piece i c x y,v=>∃a,v=.ref a/\H a=some (.tup [.str "piece",.int i,.bl c,.int x,.int y])
 | .cut dn p l r,v=>∃a x y,v=.ref a/\H a=some (.tup [.str (if dn=true then "down" else "across"),.int p,x,y])/\TrV H l x/\TrV H r y
theorem TrV.keep {H H':Hp} (k:∀a xs,H a= ~~~xs->H' a= ~~~xs):∀ (t:Tr) {v:V},TrV H t v->TrV H' t v
 | .rest,_,⟨a,e,h⟩=>⟨a,e,k _ _ h⟩
 | .piece ..,_,⟨a,e,h⟩=>⟨a,e,k _ _ h⟩
 | .cut _ _ l r,_,⟨a,x,y,e,h,h1,h2⟩=>⟨a,x,y,e,k _ _ h,TrV.keep k l h1,TrV.keep k r h2⟩
theorem TrV.dt {p:Addr} {H:Hp}:∀ (t:Tr) {v:V},TrV H t v->Dt p H v (toD t)
 | .rest,_,⟨a,e,h⟩=>by subst e; exact .tup h (.cons (.str _) .nil)
 | .piece ..,_,⟨a,e,h⟩=>by subst e; exact .tup h (.cons (.str _) (.cons (.int _) (.cons (.bl _) (.cons (.int _) (.cons (.int _) .nil)))))
 | .cut _ _ l r,_,⟨a,x,y,e,h,h1,h2⟩=>by subst e; exact .tup h (.cons (.str _) (.cons (.int _) (.cons (TrV.dt l h1) (.cons (TrV.dt r h2) .nil))))
def okT (b:Int) (ks:List Kd):Int->Int->Tr->Prop
 | _,_,.rest=>True
 | w,h,.piece i c x y=>∃k,ks[i]? = some k/\c∈bV k/\0<=x/\0<=y/\x + sd1 k c<=w/\y + sd2 k c<=h
 | w,h,.cut dn p l r=>1<=p/\(if dn=true then p + b < w/\okT b ks p h l/\okT b ks (w - p - b) h r else p + b < h/\okT b ks w p l/\okT b ks w (h - p - b) r)
theorem fT {ks:List Kd} {i:Nat} {c:Bool} {k:Kd} (hk:ks[i]? = some k) (hc:c∈bV k):dU ks (.int i) (.bl c)=true:=by
 unfold dU;simp only [Int.toNat_natCast,hk];rw [decide_eq_true (show (0:Int)<=i by omega),Bool.true_and];cases c with
 | false=>rfl
 | true =>
  unfold bV at hc;cases t:bf k with
  | true=>rfl
  | false=>rw [t] at hc; simp at hc
theorem gr {b:Int} {ks:List Kd}:∀ (t:Tr) (w h:Int),okT b ks w h t->isT b ks w h (toD t)=true
 | .rest,w,h,_=>by
  rw [ck (by rfl)]
  rfl
 | .piece i c x y,w,h,⟨k,hk,hc,x0,y0,hx,hy⟩=>by
  rw [ck (by rfl)];show dk ks w h (.int i) (.bl c) (.int x) (.int y)=true;unfold dk;rw [fT hk hc];simp only [Int.toNat_natCast,hk];rw [show aM (.int x) 0=true from decide_eq_true x0,show aM (.int y) 0=true from decide_eq_true y0,decide_eq_true hx,decide_eq_true hy]
  rfl
 | .cut true p l r,w,h,⟨p1,hp,hl,hr⟩=>by
  have hc:isC b w h (toD (.cut true p l r))=true:=by show (decide (1<=p) && decide (p + b < w))=true;rw [decide_eq_true p1,decide_eq_true hp]; rfl
  obtain ⟨dn,p',l',r',e,_,_,_,eT⟩:=dQ (ks:=ks) hc;cases dn with
  | true =>
   cases e;rw [eT,if_pos rfl,gr l p h hl,gr r _ h hr]; rfl
  | false =>
   exfalso;have:(PyData.str "down")=.str "across" := by have:=B8 e;exact (List.cons.inj this).1
   exact absurd (PyData.str.inj this) ∅
 | .cut false p l r,w,h,⟨p1,hp,hl,hr⟩=>by
  have hc:isC b w h (toD (.cut false p l r))=true:=by show (decide (1<=p) && decide (p + b < h))=true;rw [decide_eq_true p1,decide_eq_true hp]; rfl
  obtain ⟨dn,p',l',r',e,_,_,_,eT⟩:=dQ (ks:=ks) hc;cases dn with
  | false =>
   cases e;rw [eT,if_neg Bool.false_ne_true,gr l w p hl,gr r w _ hr]; rfl
  | true =>
   exfalso;have:(PyData.str "across")=.str "down" := by have:=B8 e;exact (List.cons.inj this).1
   exact absurd (PyData.str.inj this) ∅
def Dm (p q:Addr) (H H':Hp):Prop:=∀c o,c≠p->c≠q->H c=some o->H' c=some o
section
variable {P:EQ} {w:ES} {K:C4} {mg:Str->Option ET} {base:Heap}
inductive spLeafL (vs:List V) (H:Hp) (Q:VK) (E_:XK):Prop
 | mk (p kl:Addr) (rs:List V) (ks:List Kd) (w h:Int) (e_1:vs=[.ref p,.ref kl,.int w,.int h]) (e_2:kl≠p) (e_3:H kl=↥rs) (e_4:Tups H rs ks) (e_5:rs.length<=8) (e_6:(∀k∈ks,Good k)) (e_7:1<=w) (e_8:w < 10 ^ 60) (e_9:1<=h) (e_10:h < 10 ^ 60) (e_11:PotAt H p) (e_12:∀ (v:V) (t:Tr) (H':Hp),TrV H' t v->(∀b,okT b ks w h t)->wt (toD t)<=11->(toD t).depth<=1->PotAt H' p->But p H H'->Q v H'):spLeafL vs H Q E_
theorem vS {ks:List Kd} {H:Hp}:∀ {ys:List V} {qs:List (Nat×Bool)},Paired (QAt ks H) ys qs->∃ds,DatVs K H ys ds/\ds.length=qs.length/\PyData.canLayAll0 ds=true/\PyData.depthAll ds<=1
 | _,_,.nil=>⟨[],.nil,Y,Y,EH _⟩
 | _,_,.cons ⟨a,k,e,e2,h⟩ r=>by
  subst e;obtain ⟨ds,d1,d2,d3,d4⟩:=vS r;refine ⟨_ :: ds,.cons (.tup (EV h) (.cons (.int _) (.cons (.bl _) (.cons (.int _) (.cons (.int _) .nil))))) d1,by rw [List.length_cons,List.length_cons,d2],?_,?_⟩
  ·simp [PyData.canLayAll0,PyData.canLay0,d3]
  ·simp only [PyData.depthAll,PyData.depth]; omega
theorem scleafl:FnScope ["_law_pot_here","_law_kinds","_law_wide","_law_high","_law_some","_law_number_here","_law_turned","_law_a","_law_b"] ["_law_pot_here","_law_kinds","_law_wide","_law_high"] (defScope lI):=⟨Y,Y,Y,∅,Y,∅,∅⟩
theorem pL {f:Addr} {fd:ER} (F:Fun K "_law_leaf" "_law_leaf" lI f fd) (B:Blt mg) (DD:Dn P w K mg base "_law_draw" ["_law_pot_here","_law_many"] 1 (cz)) (DF:Dn P w K mg base "_law_fitting" ["_law_kinds","_law_wide","_law_high"] 1 (spFitQ)):FnOk P w K mg base CX0 2 f fd ["_law_pot_here","_law_kinds","_law_wide","_law_high"] (spLeafL):=by
 refine F.ok scleafl (λ vs H Q E h=>?_) (λ cdv A outer s H vs Q E hr h=>?_)
 ·obtain ⟨p,kl,rs,ks,w1,h1,rfl,_⟩:=h
  rfl
 obtain ⟨p,kl,rs,ks,w1,h1,rfl,nkp,hk0,tp,r8,gk,w0,w60,h0,h60,pt,q⟩:=h;have nd:=scleafl.nd;have hu:=hr.units;refine ⟨_,((4∣(DF∪((pv 1)^^^((pv 2)^^^((pv 3)^^^ab)))))<<<(((PW.pt (cB ((pv 4)<*>(oM hu)<*>(@br _ _ _ _ ab)) (cf ((DD∪((pv 0)^^^(ad^^^ab)))<*>bA<*>ad))))<|>((@ay _ _ _ _ _ (bq^^^ab))⁻¹)<|>aA)<<<((@be _ _ _ _ _ _ ((pv 4)&&&ix_list&&&(DD∪((pv 0)^^^((@aF _ _ _ _ _ _ _ _ _ aU Y B.len PySem.boot_len ((pv 4)^^^ab) ∅ ∅ Y Y)^^^ab)))) (aR Y (5•(6•(7•(8•aI))))) Y Y Y)<<<((@ay _ _ _ _ _ (bq^^^((pv 5)^^^((pv 6)^^^((DD∪((pv 0)^^^((((pv 2)|||aW|||(pv 7))|||aD|||ad)^^^ab)))^^^((DD∪((pv 0)^^^((((pv 3)|||aW|||(pv 8))|||aD|||ad)^^^ab)))^^^ab))))))⁻¹)))),?_⟩;have e60:(100:Int) < 10 ^ 60:=∅
 have sz:(100:Nat) < sizeLine:=∅
 have len:=EC tp;refine ⟨_,Y,_,Y,_,Y,kl,rs,ks,w1,h1,Y,hk0,tp,r8,λ l ys H1 hl l1 py s1=>?_⟩;have pt1:=pt.same s1;have nlp:l≠p:=Ne.symm (pt.ne hl);have yl:=EC py;have fl:=kq ks w1 h1 ks.length;have rest:∀Hx, But p H Hx->PotAt Hx p->vv (vH (oq (tC (.str "rest")) om)) { nx:=λ x H'=>Q V.non H', rt:=Q } [↑p, ↑kl, ⇑w1, ⇑h1, ↑l, none, none, none, none] Hx:=λ Hx bx ptx=>by refine ⟨zS1,λ t ht=>?_⟩;obtain ⟨Hy, ey, ky, ny, sy, by', pty⟩:=bN (o:=.tup [.str "rest"]) bx ptx ht;rw [ey];exact q _ .rest Hy ⟨t,rfl,ky⟩ (λ b=>trivial) ∅ ∅ pty by'
 refine aw (λ σ' H'=>σ'=[↑p,↑kl,⇑w1,⇑h1,↑l,none,none,none,none]/\H1=H') (λ R hR=>hR _ _ ⟨rfl,rfl⟩) ?_;rintro _ _ ⟨rfl,rfl⟩;refine aw (λ σ' H'=>σ'=[↑p,↑kl,⇑w1,⇑h1,↑l,none,none,none,none]/\ys≠[]/\H' l=↥ys/\Paired (QAt ks H') ys (fq ks w1 h1 ks.length)/\PotAt H' p/\But p H H') (λ R hR=>?_) ?_
 ·refine ⟨_,Y,∅,λ e0 he0=>?_⟩;obtain ⟨H2,e2,k2,n2,s2,b2,pt2⟩:=bN (o:=.lst []) (But.refl (p:=p) (H:=H1)) pt1 he0;rw [e2]; clear e2;have s12:=s1.trans s2;have py2:Paired (QAt ks H2) ys (fq ks w1 h1 ks.length):=EX py λ v q h=>h.keep λ a xs e=>s2 _ _ e;obtain ⟨ds,d1,d2,d3,d4⟩:=vS (K:=K) py2;refine ⟨.list ds,.list [],.lst (EW (s2 _ _ l1)) d1,.lst (EW k2) .nil,?_,∅,_,Y,?_⟩
  ·simp [SeqAt.shaped,PyData.canLay0,PyData.depth,d3];omega
  cases ys with
  | nil =>
   have:ds=[]:=by cases ds with
    | nil=>rfl
    | cons _ _=>simp at d2; rw [<- yl] at d2; simp at d2
   subst this;exact aS (aS (rest _ (rc s12) pt2))
  | cons y0 yr =>
   have hne:PyData.eqv (.list ds) (.list [])=false:=by
    cases ds with
    | nil=>rw [<- yl] at d2; simp at d2
    | cons _ _=>rfl
   rw [hne];refine aJ ⟨_,rfl,p,5,rfl,pt2,∅,∅,λ z H3 z0 z1 pt3 b3=>⟨rfl,_,rfl,?_⟩⟩;refine bU (λ cc=>?_) (λ cc=>?_)
   ·exact rest _ ((rc s12).trans b3) pt3
   ·refine hR _ _ ⟨rfl,List.cons_ne_nil _ _,b3 _ _ nlp (s2 _ _ l1),?_,pt3,(rc s12).trans b3⟩;obtain ⟨_,hp⟩:=dv pt2;exact EX py2 λ v q h=>h.keep λ a xs e=>b3 _ _ (λ z=>by rw [z,hp] at e; cases e) e
 rintro _ H2 ⟨rfl,ne,l2,py2,pt2,b2⟩;have y1:1<=ys.length:=by cases ys with
  | nil=>exact absurd rfl ne
  | cons _ _=>rw [List.length_cons]; omega
 refine ⟨_,Y,_,Y,_,Y,l,_,Y,.inl (EW l2),p,_,Y,pt2,⋯,⋯,λ r H3 r0 r1 pt3 b3=>?_⟩;have l3:=b3 _ _ nlp l2;obtain ⟨x,hx,hm⟩:=sS (xs:=ys) r0 r1;obtain ⟨j,hj⟩:=List.mem_iff_getElem?.mp hm;obtain ⟨⟨i,c⟩,hq,a,k,rfl,hk',ha⟩:=EY py2 hj;obtain ⟨k',hk2,hcl,hf⟩:=sX (B5 hq);rw [show ks[i]? = some k from hk'] at hk2;cases hk2;have ha3:H3 a= ~~~[.int i,.bl c,.int (sd1 k c),.int (sd2 k c)]:=by obtain ⟨_,hp⟩:=dv pt2;exact b3 _ _ (λ z=>by rw [z,hp] at ha; cases ha) ha
 have fits':sd1 k c<=w1/\sd2 k c<=h1:=by unfold fD at hf;rw [Bool.and_eq_true] at hf;exact ⟨C0 hf.1,C0 hf.2⟩
 have g:=gk k (B5 hk');have sp:1<=sd1 k c/\1<=sd2 k c:=by have:=g.w; have:=g.h; cases c <;> exact ⟨by assumption,by assumption⟩
 refine ⟨l,_,_,_,Y,Y,EW l3,hx,a,_,Y,EV ha3,Y,_,_,Y,_,_,Y,_,_,Y,_,_,Y,Y,?_⟩;refine ⟨_,Y,_,Y,_,Y,_,Y,_,Y,_,_,Y,Y,_,_,Y,Y,p,_,Y,pt3,(by show 0 < w1 - sd1 k c + 1; omega),(by show w1 - sd1 k c + 1<=_; omega),λ x1 H4 x0 x1' pt4 b4=>?_⟩;refine ⟨_,Y,_,Y,_,Y,_,_,Y,Y,_,_,Y,Y,p,_,Y,pt4,(by show 0 < h1 - sd2 k c + 1; omega),(by show h1 - sd2 k c + 1<=_; omega),λ y1' H5 y0 y1'' pt5 b5=>?_⟩;refine ⟨zS5,λ t ht=>?_⟩;obtain ⟨H6, e6, k6, n6, s6, b6, pt6⟩:=bN (o:=.tup [.str "piece", .int i, .bl c, .int x1, .int y1']) (((b2.trans b3).trans b4).trans b5) pt5 ht;rw [show upd H5 t _=H6 from e6];refine q _ (.piece i c x1 y1') H6 ⟨t, rfl, k6⟩ (λ b=>⟨k, hk', hcl, x0, y0, by omega, by omega⟩) (by show wt (.str "piece") + (1 + (1 + (1 + (1 + 0)))) + 1<=11; decide +kernel) (by simp [toD, PyData.depth, PyData.depthAll]) pt6 b6
end
theorem ft {d:PyData} {y:Str} {r:List PyData} (e:aN d=some (.str y :: r)) (z:Str) (n:Nat):bw d z n=(decide (r.length + 1=n) && decide (y=z)):=by unfold bw;rw [e]
def pcD (ks:List Kd) (w h:Int):List PyData->Bool
 | [k,t,x,y]=>jo ks w h k t x y
 | _=>false
theorem ip {b:Int} {ks:List Kd} {w h:Int} {d:PyData} {y:Str} {r:List PyData} (e:aN d=some (.str y :: r)) (h1:(decide (y = "down"))=false) (h2:(decide (y = "across"))=false):isT b ks w h d=(if decide (y = "rest")=true then decide (r.length + 1=1) else if decide (y = "piece")=true then pcD ks w h r else false):=by
 have hc:isC b w h d=false:=by
  unfold isC;rw [ft e,ft e,h1,h2];simp only [Bool.and_false]
  rfl
 rw [ck hc];unfold isL;rw [ft e,ft e,e]
 by_cases hr:y = "rest"
 ·subst hr;rw [show decide ((Str.ofString "rest")=(Str.ofString "piece"))=false by decide +kernel,Bool.and_false,if_neg Bool.false_ne_true,decide_eq_true (rfl:(Str.ofString "rest")=Str.ofString "rest"),if_pos rfl,Bool.and_true]
 ·rw [decide_eq_false hr,if_neg Bool.false_ne_true]
  by_cases hp:y = "piece"
  ·subst hp;rw [decide_eq_true (rfl:(Str.ofString "piece")=Str.ofString "piece"),Bool.and_true,if_pos (rfl:true=true),Bool.and_false]
   match r with
   | []=>rfl
   | [_]=>rfl
   | [_,_]=>rfl
   | [_,_,_]=>rfl
   | [_,_,_,_]=>rfl
   | _ :: _ :: _ :: _ :: _ :: r=>simp [pcD]
  ·rw [decide_eq_false hp,Bool.and_false,Bool.and_false,if_neg Bool.false_ne_true,if_neg Bool.false_ne_true]
theorem lN {b:Int} {ks:List Kd} {w h:Int} {d:PyData} {dn:Bool} {r:List PyData} (e:aN d=some (.str (if dn=true then "down" else "across") :: r)):isT b ks w h d=(match r with
  | [.int p,l,r']=>decide (1<=p) && (if dn=true then decide (p + b < w) && (isT b ks p h l && isT b ks (w - p - b) h r') else decide (p + b < h) && (isT b ks w p l && isT b ks w (h - p - b) r'))
  | _=>false):=by
 have leafF:isC b w h d=false->isT b ks w h d=false:=λ hc=>by
  rw [ck hc];unfold isL;rw [ft e,ft e];cases dn
  ·rw [show decide ((if false=true then (Str.ofString "down") else Str.ofString "across")=Str.ofString "piece")=false by decide +kernel,show decide ((if false=true then (Str.ofString "down") else Str.ofString "across")=Str.ofString "rest")=false by decide +kernel,Bool.and_false,Bool.and_false,if_neg Bool.false_ne_true]
  ·rw [show decide ((if true=true then (Str.ofString "down") else Str.ofString "across")=Str.ofString "piece")=false by decide +kernel,show decide ((if true=true then (Str.ofString "down") else Str.ofString "across")=Str.ofString "rest")=false by decide +kernel,Bool.and_false,Bool.and_false,if_neg Bool.false_ne_true]
 cases hc:isC b w h d with
 | false =>
  rw [leafF hc]
  split
  ·rename_i p l r' e
   unfold isC at hc;rw [ft e,ft e] at hc;cases dn
   ·rw [show decide ((if false=true then (Str.ofString "down") else Str.ofString "across")=Str.ofString "down")=false by decide +kernel,show decide ((if false=true then (Str.ofString "down") else Str.ofString "across")=Str.ofString "across")=true by decide +kernel] at hc;unfold ed at hc;rw [e] at hc;have hc:(decide (1<=p) && decide (p + b < h))=false:=hc;rw [if_neg Bool.false_ne_true,<- Bool.and_assoc,hc,Bool.false_and]
   ·rw [show decide ((if true=true then (Str.ofString "down") else Str.ofString "across")=Str.ofString "down")=true by decide +kernel] at hc;unfold ed at hc;rw [e] at hc;have hc:(decide (1<=p) && decide (p + b < w))=false:=hc;rw [if_pos rfl,<- Bool.and_assoc,hc,Bool.false_and]
  ·rfl
 | true =>
  obtain ⟨dn',p,l,r',e',p1,pw,ph,eT⟩:=dQ (ks:=ks) hc;rw [e] at e';have hdn:dn=dn':=by have:=PyData.str.inj (List.cons.inj (B8 e')).1;cases dn <;> cases dn' <;> first | rfl | exact absurd this ∅
  subst hdn;cases e';rw [eT];cases dn
  ·simp only [Bool.false_eq_true,if_false];rw [decide_eq_true p1,decide_eq_true (ph rfl)]; rfl
  ·simp only [if_true];rw [decide_eq_true p1,decide_eq_true (pw rfl)]; rfl
theorem iq {x:PyData}:∀ {ds:List PyData},x∈ds->x.depth<=PyData.depthAll ds
 | d :: r,h=>by
  rw [PyData.depthAll];rcases List.mem_cons.mp h with h | h
  ·rw [h]; omega
  ·have:=iq h; omega
mutual
def lsD:PyData->PyData
 | .tuple ds=>.list (dX ds)
 | .none=>.none
 | .bool b=>.bool b
 | .int i=>.int i
 | .str z=>.str z
 | .list ds=>.list ds
 | .dict k=>.dict k
def dX:List PyData->List PyData
 | []=>[]
 | d :: r=>lsD d :: dX r
end
mutual
theorem mN:∀d:PyData,(lsD d).depth=d.depth
 | .tuple ds=>by rw [lsD,PyData.depth,PyData.depth,gt ds]
 | .none=>rfl
 | .bool _=>rfl
 | .int _=>rfl
 | .str _=>rfl
 | .list _=>rfl
 | .dict _=>rfl
theorem gt:∀ds:List PyData,PyData.depthAll (dX ds)=PyData.depthAll ds
 | []=>rfl
 | d :: r=>by rw [dX,PyData.depthAll,PyData.depthAll,mN d,gt r]
end
mutual
theorem pM:∀d:PyData,wt (lsD d)=wt d
 | .tuple ds=>by rw [lsD,wt,wt,lO ds]
 | .none=>rfl
 | .bool _=>rfl
 | .int _=>rfl
 | .str _=>rfl
 | .list _=>rfl
 | .dict _=>rfl
theorem lO:∀ds:List PyData,wts (dX ds)=wts ds
 | []=>rfl
 | d :: r=>by rw [dX,wts,wts,pM d,lO r]
end
mutual
theorem rC:∀d:PyData,(lsD d).canLay0=d.canLay0
 | .tuple ds=>by rw [lsD,PyData.canLay0,PyData.canLay0,jr ds]
 | .none=>rfl
 | .bool _=>rfl
 | .int _=>rfl
 | .str _=>rfl
 | .list _=>rfl
 | .dict _=>rfl
theorem jr:∀ds:List PyData,PyData.canLayAll0 (dX ds)=PyData.canLayAll0 ds
 | []=>rfl
 | d :: r=>by rw [dX,PyData.canLayAll0,PyData.canLayAll0,rC d,jr r]
end
theorem js:∀a b:List PyData,dX (a ++ b)=dX a ++ dX b
 | [],_=>rfl
 | d :: r,b=>by rw [List.cons_append,dX,dX,js r b]; rfl
theorem gu:∀a:List PyData,(dX a).length=a.length
 | []=>rfl
 | d :: r=>by rw [dX,List.length_cons,List.length_cons,gu r]
theorem lP:∀ds:List PyData,ds.length<=wts ds
 | []=>B3 _
 | d :: r=>by have:=lP r; have:=pH d; rw [List.length_cons,wts]; omega
theorem lQ {x:PyData}:∀ {ds:List PyData},x∈ds->wt x<=wts ds
 | d :: r,h=>by
  rw [wts];rcases List.mem_cons.mp h with h | h
  ·rw [h]; omega
  ·have:=lQ h; omega
mutual
theorem Dt.dat {K:C4} {p:Addr} {H:Hp}:∀ {v:V} {d:PyData},Dt p H v d->d.canLay0=true->DatV K H v d
 | _,_,.non,_=>.non
 | _,_,.bl b,_=>.bl b
 | _,_,.int i,_=>.int i
 | _,_,.str z,_=>.str z
 | _,_,.lst n h r,c=>.lst (EW h) (r.dat c)
 | _,_,.tup h r,c=>.tup (EV h) (r.dat c)
 | _,_,.emp h,c=>nomatch c
theorem Dts.dat {K:C4} {p:Addr} {H:Hp}:∀ {vs:List V} {ds:List PyData},Dts p H vs ds->PyData.canLayAll0 ds=true->DatVs K H vs ds
 | _,_,.nil,_=>.nil
 | _,_,.cons a r,c=>.cons (a.dat (C7.mp c).1) (r.dat (C7.mp c).2)
end
theorem Dts.get {p:Addr} {H:Hp}:∀ {vs:List V} {ds:List PyData} {i:Nat} {x:V},Dts p H vs ds->vs[i]? = some x->∃d,ds[i]? = some d/\Dt p H x d
 | _,_,0,_,.cons a _,e=>⟨_,Y,by cases e; exact a⟩
 | _,_,i + 1,_,.cons _ r,e=>by obtain ⟨d,h1,h2⟩:=r.get (i:=i) (by simpa using e);exact ⟨d,by simpa using h1,h2⟩
theorem Dts.app {p:Addr} {H:Hp}:∀ {vs us:List V} {ds es:List PyData},Dts p H vs ds->Dts p H us es->Dts p H (vs ++ us) (ds ++ es)
 | _,_,_,_,.nil,h=>h
 | _,_,_,_,.cons a r,h=>.cons a (r.app h)
theorem eP {b:Int} {ks:List Kd}:∀ (t:Tr) (w h:Int),okT b ks w h t->isT b ks w h (lsD (toD t))=true
 | .rest,w,h,_=>by
  rw [ck (by rfl)]
  rfl
 | .piece i c x y,w,h,⟨k,hk,hc,x0,y0,hx,hy⟩=>by
  rw [ck (by rfl)];show dk ks w h (.int i) (.bl c) (.int x) (.int y)=true;unfold dk;rw [fT hk hc];simp only [Int.toNat_natCast,hk];rw [show aM (.int x) 0=true from decide_eq_true x0,show aM (.int y) 0=true from decide_eq_true y0,decide_eq_true hx,decide_eq_true hy]
  rfl
 | .cut true p l r,w,h,⟨p1,hp,hl,hr⟩=>by
  have hc:isC b w h (lsD (toD (.cut true p l r)))=true:=by show (decide (1<=p) && decide (p + b < w))=true;rw [decide_eq_true p1,decide_eq_true hp]; rfl
  obtain ⟨dn,p',l',r',e,_,_,_,eT⟩:=dQ (ks:=ks) hc;cases dn with
  | true =>
   cases e;rw [eT,if_pos rfl,eP l p h hl,eP r _ h hr]; rfl
  | false =>
   exfalso;have:(PyData.str "down")=.str "across" := by have:=B8 e;exact (List.cons.inj this).1
   exact absurd (PyData.str.inj this) ∅
 | .cut false p l r,w,h,⟨p1,hp,hl,hr⟩=>by
  have hc:isC b w h (lsD (toD (.cut false p l r)))=true:=by show (decide (1<=p) && decide (p + b < h))=true;rw [decide_eq_true p1,decide_eq_true hp]; rfl
  obtain ⟨dn,p',l',r',e,_,_,_,eT⟩:=dQ (ks:=ks) hc;cases dn with
  | false =>
   cases e;rw [eT,if_neg Bool.false_ne_true,eP l w p hl,eP r w _ hr]; rfl
  | true =>
   exfalso;have:(PyData.str "across")=.str "down" := by have:=B8 e;exact (List.cons.inj this).1
   exact absurd (PyData.str.inj this) ∅
section
variable {P:EQ} {w:ES} {K:C4} {mg:Str->Option ET} {base:Heap}
inductive spListed (n:Nat) (vs:List V) (H:Hp) (Q:VK) (E_:XK):Prop
 | mk (pp:Addr) (v:V) (d:PyData) (e_1:vs=[v]) (e_2:Dt pp H v d) (e_3:d.depth < n) (e_4:wt d<=40000) (e_5:(∃xs,H pp=↥xs)) (e_6:∀v' H',Dt pp H' v' (lsD d)->Same H H'->Q v' H'):spListed n vs H Q E_
theorem sclisted:FnScope ["_law_thing"] ["_law_thing"] (defScope cX):=⟨Y,Y,Y,∅,Y,∅,∅⟩
theorem mO {f:Addr} {fd:ER} (F:Fun K "_law_listed" "_law_listed" cX f fd) (B:Blt mg) (n:Nat) (DLs:Dn P w K mg base "_law_listed" ["_law_thing"] (1 + n) (spListed n)):FnOk P w K mg base CX0 (1 + (n + 1)) f fd ["_law_thing"] (spListed (n + 1)):=by
 refine F.ok sclisted (λ vs H Q E h=>?_) (λ cdv A outer s H vs Q E hr h=>?_)
 ·obtain ⟨pp,v,d,rfl,_⟩:=h
  rfl
 obtain ⟨pp,v,d,rfl,hd,hn,wd,hpp,q⟩:=h;have nd:=sclisted.nd;refine ⟨_,(((@aO _ _ _ (@aF _ _ _ _ _ _ _ _ _ bR Y B.isi PyProof.Rows.boot_isinstance ((pv 0)^^^((cN (v:=.ty "tuple") Y B.tuple PyProof.Rows.boot_tuple Y)^^^ab)) ∅ ∅ Y Y) (by intro _; rfl))<|>((bv (own:=["_law_one"]) (cs:=[]) (cap:=[]) Y (jH (pv 0)) (aP (sc:=defScope cX) (N:=["_law_thing"]) Y Y ∅) (λ _ _ _ _ _=>ai (i:=0) (by show List.Nodup (["_law_one"]:List Str) ; decide +kernel) Y (Or.inl Y) (Or.inr Y)) (λ _ _ _ _ _=>bJ) (λ _ _ _ _ _=>(DLs∪((pv 0)^^^ab))))⁻¹)<|>aA)<<<((pv 0)⁻¹)),?_⟩;cases hd with
 | @tup a xs ds h r =>
  have hl:=r.length;have wl:=lP ds;have wd':wts ds + 1<=40000:=wd;have sz:40000 < sizeLine:=∅
  refine ⟨_,Y,_,_,_,_,_,Y,(Ty.tup h (K:=K)).2,Y,bE "tuple" (by simp [aE]),_,Y,aS ?_⟩;refine ⟨_,Y,a,Y,⟨_,EV h⟩,(bi (K:=K) (.inr h) (λ i ys Hx=>Same H Hx/\Dts pp Hx ys (dX (ds.take i))) (λ i ys Hx _ ⟨sx,_⟩ o e=>sx _ _ e) ⟨Same.refl _,.nil⟩ ?_ ?_).2 h⟩
  ·rintro i x ys H1 hi ⟨s1,py⟩;have hin:i < xs.length:=(A6.mp hi).1;obtain ⟨d,hd,hx⟩:=r.get hi;have yl:=py.length;rw [gu,List.length_take] at yl;have dm:=B5 hd;have d1:=iq dm;have w1:=lQ dm;have hn:PyData.depthAll ds + 1 < n + 1:=hn;obtain ⟨us,hu⟩:=hpp;refine ⟨⋯,leS.set rfl,bS ?_⟩;refine ⟨_,Y,pp,x,d,Y,hx.same s1,⋯,⋯,⟨us,s1 _ _ hu⟩,λ v' H2 hv s2=>Nx.of hin ⟨s1.trans s2,?_⟩⟩;rw [List.take_add_one,hd,js];exact (py.same s2).app (.cons hv .nil)
  ·rintro ys H1 ⟨s1,py⟩;have yl:=py.length;rw [gu,List.length_take] at yl;obtain ⟨us,hu⟩:=hpp;refine ⟨⋯,λ t ht=>?_⟩;rw [hl,List.take_length] at py;refine q _ _ (.lst (Ne.symm (aq (s1 _ _ hu) ht)) af (py.same (EU ht))) (s1.trans (EU ht))
 | non=>exact ⟨_,Y,_,_,_,_,_,Y,(Ty.non (K:=K)).2,Y,bE "NoneType" (by simp [aE]),_,Y,aJ ⟨_,Y,q _ _ (.non) (Same.refl _)⟩⟩
 | bl b=>exact ⟨_,Y,_,_,_,_,_,Y,(Ty.bl (K:=K)).2,Y,bE "bool" (by simp [aE]),_,Y,aJ ⟨_,Y,q _ _ (.bl b) (Same.refl _)⟩⟩
 | int i=>exact ⟨_,Y,_,_,_,_,_,Y,(Ty.int (K:=K)).2,Y,bE "int" (by simp [aE]),_,Y,aJ ⟨_,Y,q _ _ (.int i) (Same.refl _)⟩⟩
 | str z=>exact ⟨_,Y,_,_,_,_,_,Y,(Ty.str (K:=K)).2,Y,bE "str" (by simp [aE]),_,Y,aJ ⟨_,Y,q _ _ (.str z) (Same.refl _)⟩⟩
 | lst n h r=>exact ⟨_,Y,_,_,_,_,_,Y,(Ty.lst h (K:=K)).2,Y,bE "list" (by simp [aE]),_,Y,aJ ⟨_,Y,q _ _ (.lst n h r) (Same.refl _)⟩⟩
 | emp h=>exact ⟨_,Y,_,_,_,_,_,Y,(Ty.dK h (K:=K)).2,Y,bE "dict" (by simp [aE]),_,Y,aJ ⟨_,Y,q _ _ (.emp h) (Same.refl _)⟩⟩
theorem kz {f:Addr} {fd:ER} (F:Fun K "_law_listed" "_law_listed" cX f fd):FnOk P w K mg base CX0 1 f fd ["_law_thing"] (spListed 0):=by
 refine F.ok sclisted (λ vs H Q E h=>?_) (λ cdv A outer s H vs Q E hr h=>?_)
 ·obtain ⟨pp,v,d,rfl,_⟩:=h
  rfl
 ·obtain ⟨pp,v,d,_,_,z,_⟩:=h;exact absurd z (Nat.not_lt_zero _)
theorem gv {f:Addr} {fd:ER} (F:Fun K "_law_listed" "_law_listed" cX f fd) (B:Blt mg) (mk:∀n,FnOk P w K mg base CX0 (1 + n) f fd ["_law_thing"] (spListed n)->Dn P w K mg base "_law_listed" ["_law_thing"] (1 + n) (spListed n)):∀n,FnOk P w K mg base CX0 (1 + n) f fd ["_law_thing"] (spListed n)
 | 0=>kz F
 | n + 1=>mO F B n (mk n (gv F B mk n))
end
def TrD:Tr->PyData->Prop
 | .rest,d=>aN d=some [.str "rest"]
 | .piece i c x y,d=>aN d=some [.str "piece",.int i,.bool c,.int x,.int y]
 | .cut dn p l r,d=>∃dl dr,aN d=some [.str (if dn=true then "down" else "across"),.int p,dl,dr]/\TrD l dl/\TrD r dr
theorem TrD.to:∀t:Tr,TrD t (toD t)
 | .rest=>rfl
 | .piece .. => rfl
 | .cut _ _ l r=>⟨toD l,toD r,Y,TrD.to l,TrD.to r⟩
theorem TrD.good {b:Int} {ks:List Kd}:∀ (t:Tr) (d:PyData) (w h:Int),TrD t d->okT b ks w h t->isT b ks w h d=true
 | .rest,d,w,h,e,_=>by have e:aN d=some (.str "rest" :: []):=e;rw [ip e ∅ ∅,if_pos ∅]; rfl
 | .piece i c x y,d,w,h,e,⟨k,hk,hc,x0,y0,hx,hy⟩=>by
  have e:aN d=some (.str "piece" :: [.int i,.bool c,.int x,.int y]):=e;rw [ip e ∅ ∅,if_neg ∅,if_pos ∅];show dk ks w h (.int i) (.bl c) (.int x) (.int y)=true;unfold dk;rw [fT hk hc];simp only [Int.toNat_natCast,hk];rw [show aM (.int x) 0=true from decide_eq_true x0,show aM (.int y) 0=true from decide_eq_true y0,decide_eq_true hx,decide_eq_true hy]
  rfl
 | .cut true p l r,d,w,h,⟨dl,dr,e,tl,tr⟩,⟨p1,hp,hl,hr⟩=>by have eT:isT b ks w h d=(decide (1<=p) && (decide (p + b < w) && (isT b ks p h dl && isT b ks (w - p - b) h dr))):=lN (dn:=true) (r:=[.int p,dl,dr]) e;rw [eT,decide_eq_true p1,decide_eq_true hp,TrD.good l dl p h tl hl,TrD.good r dr _ h tr hr]; rfl
 | .cut false p l r,d,w,h,⟨dl,dr,e,tl,tr⟩,⟨p1,hp,hl,hr⟩=>by have eT:isT b ks w h d=(decide (1<=p) && (decide (p + b < h) && (isT b ks w p dl && isT b ks w (h - p - b) dr))):=lN (dn:=false) (r:=[.int p,dl,dr]) e;rw [eT,decide_eq_true p1,decide_eq_true hp,TrD.good l dl w p tl hl,TrD.good r dr w _ tr hr]; rfl
structure Lf where
 x:Int
 y:Int
 w:Int
 h:Int
 t:Tr
def lvs (b:Int):Tr->Int->Int->Int->Int->List Lf
 | .cut true p l r,x,y,w,h=>lvs b r (x + (p + b)) y (w - p - b) h ++ lvs b l x y p h
 | .cut false p l r,x,y,w,h=>lvs b r x (y + (p + b)) w (h - p - b) ++ lvs b l x y w p
 | .rest,x,y,w,h=>[⟨x,y,w,h,.rest⟩]
 | .piece i c u v,x,y,w,h=>[⟨x,y,w,h,.piece i c u v⟩]
def szT:Tr->Nat
 | .cut _ _ l r=>szT l + szT r + 1
 | _=>1
def LfAt (p:Addr) (H0 H:Hp) (v:V) (t:Lf):Prop:=∃a u d,v=.ref a/\H a= ~~~[.int t.x,.int t.y,.int t.w,.int t.h,u]/\Dt p H0 u d/\TrD t.t d
theorem LfAt.keep {p:Addr} {H0 H H':Hp} (k:∀a xs,H a= ~~~xs->H' a= ~~~xs) {v:V} {t:Lf} (h:LfAt p H0 H v t):LfAt p H0 H' v t:=by obtain ⟨a,u,d,e,h1,h2,h3⟩:=h;exact ⟨a,u,d,e,k _ _ h1,h2,h3⟩
def lsz (ts:List Lf):Nat:=(ts.map λ t=>szT t.t).sum
theorem bZ (a b:List Lf):lsz (a ++ b)=lsz a + lsz b:=by unfold lsz; rw [List.map_append,List.sum_append]
theorem vT (t:Tr):1<=szT t:=by cases t <;> simp only [szT] <;> omega
theorem fU:∀ts:List Lf,ts.length<=lsz ts
 | []=>B3 _
 | t :: r=>by have:=fU r;have:=vT t.t;show r.length + 1<=szT t.t + lsz r;omega
def mP (b:Int) (ts:List Lf):List Lf:=ts.reverse.flatMap λ t=>lvs b t.t t.x t.y t.w t.h
theorem cM (b:Int) (ts:List Lf) (t:Lf):mP b (ts ++ [t])=lvs b t.t t.x t.y t.w t.h ++ mP b ts:=by
 unfold mP;rw [List.reverse_append]
 rfl
section
variable {P:EQ} {w:ES} {K:C4} {mg:Str->Option ET} {base:Heap}
inductive spLeaves (C:Addr) (vs:List V) (H:Hp) (Q:VK) (E_:XK):Prop
 | mk (pp s:Addr) (b w h:Int) (ks:List Kd) (v:V) (d:PyData) (t:Tr) (e_1:vs=[.ref s,.int w,.int h,v]) (e_2:ShopAt C H s b ks) (e_3:Dt pp H v d) (e_4:TrD t d) (e_5:szT t<=10000) (e_6:∀ (l:Addr) (us:List V) (H':Hp),H l=none->H' l=↥us->Paired (LfAt pp H H') us (lvs b t 0 0 w h)->Same H H'->Q (.ref l) H'):spLeaves C vs H Q E_
inductive spCheckT (C:Addr) (vs:List V) (H:Hp) (Q:VK) (E_:XK):Prop
 | mk (pp s:Addr) (b w h:Int) (ks:List Kd) (v:V) (d:PyData) (e_1:vs=[.ref s,.int w,.int h,v]) (e_2:ShopAt C H s b ks) (e_3:1<=w) (e_4:1<=h) (e_5:Dt pp H v d) (e_6:wt d<=30000) (e_7:isT b ks w h d=true) (e_8:∀H',Same H H'->Q .non H'):spCheckT C vs H Q E_
theorem scleaves:FnScope ["shop","wide","high","tree","leaves","waiting","spot"] ["shop","wide","high","tree"] (defScope dN):=⟨Y,Y,Y,∅,Y,∅,∅⟩
theorem mQ {f C wa:Addr} {fd:ER} (F:Fun K "leaves_of" "leaves_of" dN f fd) (T:ShopTxt K C) (Z:TrC K mg wa) (MB:Mn P w K mg base C "blade" ["self"] 1 (fG C)) (DS:Dn P w K mg base "spots_behind" ["blade","spot"] 2 (spBehind)):FnOk P w K mg base CX0 3 f fd ["shop","wide","high","tree"] (spLeaves C):=by
 refine F.ok scleaves (λ vs H Q E h=>?_) (λ cdv A outer s H vs Q E hr h=>?_)
 ·obtain ⟨pp,s,b,w1,h1,ks,v,d,t,rfl,_⟩:=h
  rfl
 obtain ⟨pp,s,b,w1,h1,ks,v,d,t,rfl,SH,hd,td,tz,q⟩:=h;have nd:=scleaves.nd;refine ⟨_,((4∣(@br _ _ _ _ ab))<<<((5∣(@br _ _ _ _ ((@ay _ _ _ _ _ (ad^^^(ad^^^((pv 1)^^^((pv 2)^^^((pv 3)^^^ab))))))^^^ab)))<<<((iV ED (iY (pv 5) (λ _=>Y)) ((6∣(oE EN PySem.F.slot_list_pop PySem.F.type_list_pop oG (pv 5)))>>>((@aB _ _ _ _ _ _ _ _ gY (((pv 6)&&&ix_tup&&&ad)&&&bH&&&ad) (aY (v:=.ref wa) Y Z.wy Y) Y)<|>(@ag _ _ _ (@bG _ _ _ _ (@fm _ _ _ _ _ _ _ _ _ _ _ _ EN PySem.F.slot_list_extend PySem.F.type_list_extend eZ (pv 5) ((DS∪((iF (pv 0) T.cl MB (hr.mono ∅))^^^((pv 6)^^^ab)))^^^ab) Y Y Y Y Y) Y))<|>(@ag _ _ _ (@bG _ _ _ _ (@fm _ _ _ _ _ _ _ _ _ _ _ _ EN PySem.F.slot_list_append PySem.F.type_list_append dC (pv 4) ((pv 6)^^^ab) Y Y Y Y Y) Y)))))<<<((pv 4)⁻¹)))),?_⟩;have sz:(40000:Nat)<=sizeLine:=∅
 obtain ⟨dx,r,rs,S1,S2,S3⟩:=id SH;refine ⟨∅,λ ll hll=>?_⟩;have s0:Same H (upd H ll (.lst [])):=EU hll;have k0:(upd H ll (.lst [])) ll=↥[]:=af;generalize upd H ll (.lst [])=H0 at s0 k0 ⊢;refine ⟨_,Y,_,Y,_,Y,zS5,λ t' ht=>?_⟩;have sa:Same H0 (upd H0 t' (.tup [.int 0,.int 0,.int w1,.int h1,v])):=EU ht;have ka:(upd H0 t' (.tup [.int 0,.int 0,.int w1,.int h1,v])) t'= ~~~[.int 0,.int 0,.int w1,.int h1,v]:=af;generalize upd H0 t' (.tup [.int 0,.int 0,.int w1,.int h1,v])=Ha at sa ka ⊢;refine ⟨zS1,λ wl hwl=>?_⟩;have sb:Same Ha (upd Ha wl (.lst [.ref t'])):=EU hwl;have kb:(upd Ha wl (.lst [.ref t'])) wl=↥[.ref t']:=af;generalize upd Ha wl (.lst [.ref t'])=Hb at sb kb ⊢;have fw:H wl=none:=(s0.trans sa).free hwl;have nlw:ll≠wl:=λ z=>by rw [<- z,sa _ _ k0] at hwl; cases hwl
 have sab:=(s0.trans sa).trans sb;refine ⟨λ m σ H'=>∃ (vs us:List V) (ts L:List Lf) (v6:Option V),σ=[↑s,⇑w1,⇑h1,some v,↑ll,↑wl,v6]/\m=lsz ts/\H' wl=↥vs/\H' ll=↥us/\Paired (LfAt pp H H') vs ts/\Paired (LfAt pp H H') us L/\lsz ts + L.length<=10000/\L ++ mP b ts=lvs b t 0 0 w1 h1/\Same H H',⟨_,[.ref t'],[],[⟨0,0,w1,h1,t⟩],[],none,Y,Y,kb,sb _ _ (sa _ _ k0),.cons ⟨t',v,d,Y,sb _ _ ka,hd,td⟩ .nil,.nil,(by show szT t + 0 + 0<=10000; omega),(by show [] ++ (lvs b t 0 0 w1 h1 ++ [])=_; rw [List.append_nil]; rfl),sab⟩,?_⟩;rintro m σ H1 ⟨vs,us,ts,L,v6,rfl,rfl,hw,hl,pr,pu,sz1,al,s1⟩;refine ⟨_,Y,_,.inl ⟨vs,EW hw,Y⟩,?_⟩;rcases List.eq_nil_or_concat vs with rfl | ⟨vs',v0,rfl⟩
 ·have ets:ts=[]:=by
   have:=EC pr;cases ts with
   | nil=>rfl
   | cons _ _=>simp at this
  subst ets;rw [show mP b []=[] from rfl,List.append_nil] at al;rw [al] at pu;exact aJ ⟨_,rfl,q ll us H1 hll hl pu s1⟩
 rw [List.concat_eq_append] at pr hw ⊢;obtain ⟨ts',t0,rfl,prp,⟨sp,u,du,rfl,hsp,hdu,tdu⟩⟩:=pK pr;rw [show (!(vs' ++ [V.ref sp]).isEmpty)=true by cases vs' <;> rfl];have ssz:lsz (ts' ++ [t0])=lsz ts' + szT t0.t:=by rw [bZ]; show _ + (szT t0.t + 0)=_; omega
 rw [ssz] at sz1 ⊢;refine aS ⟨λ σ' H'=>∃ (vs us:List V) (ts L:List Lf) (v6:Option V),σ'=[↑s,⇑w1,⇑h1,some v,↑ll,↑wl,v6]/\lsz ts < lsz ts' + szT t0.t/\H' wl=↥vs/\H' ll=↥us/\Paired (LfAt pp H H') vs ts/\Paired (LfAt pp H H') us L/\lsz ts + L.length<=10000/\L ++ mP b ts=lvs b t 0 0 w1 h1/\Same H H',λ σ' H' ⟨vs,us,ts,L,v6,e,l,r⟩=>⟨_,l,vs,us,ts,L,v6,e,rfl,r⟩,?_⟩;rw [cM] at al;have ml:(vs' ++ [V.ref sp]).length=vs'.length + 1:=by rw [List.length_append]; rfl
 have keep:∀ {Hx:Hp} {o:HO},Same H Hx->Same H (upd Hx wl o):=λ {Hx o} sx c oo e=>by rw [aj (λ z=>by rw [z,fw] at e; cases e)];exact sx _ _ e
 have keepL:∀ {Hx:Hp} {o:HO},Same H Hx->Same H (upd Hx ll o):=λ {Hx o} sx c oo e=>by rw [aj (λ z=>by rw [z,hll] at e; cases e)];exact sx _ _ e
 refine aw (λ σ' H'=>σ'=[↑s,⇑w1,⇑h1,some v,↑ll,↑wl,↑sp]/\H' wl=↥vs'/\H' ll=↥us/\Paired (LfAt pp H H') vs' ts'/\Paired (LfAt pp H H') us L/\H' sp= ~~~[.int t0.x,.int t0.y,.int t0.w,.int t0.h,u]/\Same H H') (λ R hR=>?_) ?_
 ·refine ⟨_,Y,.inl ⟨Y,_,EW hw⟩,wl,_,.ref sp,Y,Y,hw,(by rw [ml]; simp),?_⟩;rw [List.dropLast_concat];have kt:∀ {c:Addr} {xs:List V},H1 c= ~~~xs->(upd H1 wl (.lst vs')) c= ~~~xs:=λ {c xs} e=>by rw [aj (λ z=>by rw [z,hw] at e; cases e)]; exact e
  exact hR _ _ ⟨rfl,af,by rw [aj nlw]; exact hl,EX prp λ v t h=>h.keep λ a xs e=>kt e,EX pu λ v t h=>h.keep λ a xs e=>kt e,kt hsp,keep s1⟩
 rintro _ H2 ⟨rfl,hw2,hl2,pr2,pu2,hsp2,s02⟩;have a4:atI [.int t0.x,.int t0.y,.int t0.w,.int t0.h,u] 4=some u:=aG ∅ rfl;have inT:∀z:Str,(z = "down" \/ z = "across")->inV (V.str z) [V.str "down",V.str "across"]=true:=λ z hz=>by rcases hz with e | e <;> subst e <;> decide +kernel
 have go:∀ (y:Str) (ys:List PyData),aN du=some (.str y :: ys)->∃a xs,u=.ref a/\(H a=↥(.str y :: xs)\/H a= ~~~(.str y :: xs))/\Dts pp H xs ys:=λ y ys er=>by
  obtain ⟨a,xs,e,hx,dxs⟩:=hdu.ref_row er;cases dxs with
  | cons hd0 dxs =>
   cases hd0;exact ⟨a,_,e,hx,dxs⟩
 refine ⟨_,Y,sp,_,4,_,Y,Y,EV hsp2,a4,?_⟩;obtain ⟨tt,et⟩:∃tt,t0.t=tt:=⟨_,Y⟩
 cases tt with
 | cut dn p l r =>
  rw [et] at tdu;obtain ⟨dl,dr,er,tl,tr⟩:=tdu;obtain ⟨a,xs,eu,hx,dxs⟩:=go _ _ er;have hx0:=hx;cases dxs with
  | @cons x1 _ xs1 _ hd1 dxs =>
  cases dxs with
  | @cons lv _ xs2 _ hdl dxs =>
  cases dxs with
  | @cons rv _ xs3 _ hdr dxs =>
  cases dxs;cases hd1;subst eu;show rIx K (.ref a) (.int 0) H2 _;refine ixR s02 hx (aG (EE _) rfl) ?_;refine ⟨wa,_,Y,.inr (Z.wq _),Y,Y,_,Y,?_⟩;show (if (inV (V.str (if dn=true then "down" else "across")) [V.str "down",V.str "across"])=true then _ else _);rw [inT _ (by cases dn <;> first | exact .inl rfl | exact .inr rfl)];have SH2:=eN s02 SH;obtain ⟨dx',r',rs',S1',S2',S3'⟩:=id SH2;refine aS ⟨_,rfl,.inl ⟨rfl,_,EW hw2⟩,_,rfl,s,dx',_,rfl,S1',(cu _ _ ∅ ∅),s,b,ks,rfl,SH2,_,rfl,?_⟩;refine ⟨b,t0.x,t0.y,t0.w,t0.h,p,sp,a,dn,lv,rv,Y,hsp2,hx.imp (s02 _ _) (s02 _ _),λ lu t1 t2 H4 hlu ku k1 k2 s4=>?_⟩;have hw4:=s4 _ _ hw2;have pl:=EC pr2;have sl:=fU ts';have sz0:szT t0.t=szT l + szT r + 1:=by rw [et]; rfl
  refine ⟨wl,lu,_,_,Y,Y,hw4,ku,by show _ + 2<=_; omega,?_⟩;have kt:∀ {c:Addr} {xs:List V},H4 c= ~~~xs->(upd H4 wl (.lst (vs' ++ [.ref t1,.ref t2]))) c= ~~~xs:=λ {c xs} e=>by rw [aj (λ z=>by rw [z,hw4] at e; cases e)]; exact e
  have kl4:(upd H4 wl (.lst (vs' ++ [.ref t1,.ref t2]))) ll=↥us:=by rw [aj nlw]; exact s4 _ _ hl2
  have pr4:Paired (LfAt pp H (upd H4 wl (.lst (vs' ++ [.ref t1,.ref t2])))) vs' ts':=EX pr2 λ v t h=>h.keep λ a xs e=>kt (s4 _ _ e);have pu4:Paired (LfAt pp H (upd H4 wl (.lst (vs' ++ [.ref t1,.ref t2])))) us L:=EX pu2 λ v t h=>h.keep λ a xs e=>kt (s4 _ _ e);cases dn with
  | true =>
   have k1:H4 t1= ~~~[.int t0.x,.int t0.y,.int p,.int t0.h,lv]:=k1;have k2:H4 t2= ~~~[.int (t0.x + (p + b)),.int t0.y,.int (t0.w - p - b),.int t0.h,rv]:=k2;refine ⟨vs' ++ [.ref t1,.ref t2],us,ts' ++ [⟨t0.x,t0.y,p,t0.h,l⟩] ++ [⟨t0.x + (p + b),t0.y,t0.w - p - b,t0.h,r⟩],L,_,Y,?_,af,kl4,?_,pu4,?_,?_,keep (s02.trans s4)⟩
   ·rw [bZ,bZ]; show _ + (szT l + 0) + (szT r + 0) < _; rw [sz0]; omega
   ·rw [List.append_assoc]; exact dW pr4 (.cons ⟨t1,lv,dl,Y,kt k1,hdl,tl⟩ (.cons ⟨t2,rv,dr,Y,kt k2,hdr,tr⟩ .nil))
   ·rw [bZ,bZ]; show _ + (szT l + 0) + (szT r + 0) + _<=_; rw [sz0] at sz1; omega
   ·rw [cM,cM,<- al,et,lvs,List.append_assoc]
  | false =>
   have k1:H4 t1= ~~~[.int t0.x,.int t0.y,.int t0.w,.int p,lv]:=k1;have k2:H4 t2= ~~~[.int t0.x,.int (t0.y + (p + b)),.int t0.w,.int (t0.h - p - b),rv]:=k2;refine ⟨vs' ++ [.ref t1,.ref t2],us,ts' ++ [⟨t0.x,t0.y,t0.w,p,l⟩] ++ [⟨t0.x,t0.y + (p + b),t0.w,t0.h - p - b,r⟩],L,_,Y,?_,af,kl4,?_,pu4,?_,?_,keep (s02.trans s4)⟩
   ·rw [bZ,bZ]; show _ + (szT l + 0) + (szT r + 0) < _; rw [sz0]; omega
   ·rw [List.append_assoc]; exact dW pr4 (.cons ⟨t1,lv,dl,Y,kt k1,hdl,tl⟩ (.cons ⟨t2,rv,dr,Y,kt k2,hdr,tr⟩ .nil))
   ·rw [bZ,bZ]; show _ + (szT l + 0) + (szT r + 0) + _<=_; rw [sz0] at sz1; omega
   ·rw [cM,cM,<- al,et,lvs,List.append_assoc]
 | rest =>
  rw [et] at tdu;obtain ⟨a,xs,eu,hx,dxs⟩:=go _ _ tdu;subst eu;show rIx K (.ref a) (.int 0) H2 _;refine ixR s02 hx (aG (EE _) rfl) ?_;refine ⟨wa,_,Y,.inr (Z.wq _),Y,Y,_,Y,?_⟩;show (if (inV (V.str "rest") [V.str "down",V.str "across"])=true then _ else _);rw [show inV (V.str "rest") [V.str "down",V.str "across"]=false by decide +kernel];have sl:=fU ts';have ul:=EC pu2;have SZ:szT t0.t=1:=by rw [et]; rfl
  refine aJ ⟨_,rfl,.inl ⟨rfl,_,EW hl2⟩,_,rfl,ll,us,_,rfl,rfl,hl2,⋯,?_⟩;have kt:∀ {c:Addr} {xs:List V},H2 c= ~~~xs->(upd H2 ll (.lst (us ++ [.ref sp]))) c= ~~~xs:=λ {c xs} e=>by rw [aj (λ z=>by rw [z,hl2] at e; cases e)]; exact e
  refine ⟨vs',us ++ [.ref sp],ts',L ++ [t0],_,Y,⋯,by rw [aj (Ne.symm nlw)]; exact hw2,af,EX pr2 λ v t h=>h.keep λ a xs e=>kt e,dW (EX pu2 λ v t h=>h.keep λ a xs e=>kt e) (.cons ⟨sp,.ref a,du,Y,kt hsp2,hdu,by rw [et]; exact tdu⟩ .nil),?_,?_,keepL s02⟩
  ·rw [List.length_append]; show _ + (_ + 1)<=_; omega
  ·rw [<- al,List.append_assoc];congr 2;rw [et];cases t0;cases et
   rfl
 | piece i c x y =>
  rw [et] at tdu;obtain ⟨a,xs,eu,hx,dxs⟩:=go _ _ tdu;subst eu;show rIx K (.ref a) (.int 0) H2 _;refine ixR s02 hx (aG (EE _) rfl) ?_;refine ⟨wa,_,Y,.inr (Z.wq _),Y,Y,_,Y,?_⟩;show (if (inV (V.str "piece") [V.str "down",V.str "across"])=true then _ else _);rw [show inV (V.str "piece") [V.str "down",V.str "across"]=false by decide +kernel];have sl:=fU ts';have ul:=EC pu2;have SZ:szT t0.t=1:=by rw [et]; rfl
  refine aJ ⟨_,rfl,.inl ⟨rfl,_,EW hl2⟩,_,rfl,ll,us,_,rfl,rfl,hl2,⋯,?_⟩;have kt:∀ {c:Addr} {xs:List V},H2 c= ~~~xs->(upd H2 ll (.lst (us ++ [.ref sp]))) c= ~~~xs:=λ {c xs} e=>by rw [aj (λ z=>by rw [z,hl2] at e; cases e)]; exact e
  refine ⟨vs',us ++ [.ref sp],ts',L ++ [t0],_,Y,⋯,by rw [aj (Ne.symm nlw)]; exact hw2,af,EX pr2 λ v t h=>h.keep λ a xs e=>kt e,dW (EX pu2 λ v t h=>h.keep λ a xs e=>kt e) (.cons ⟨sp,.ref a,du,Y,kt hsp2,hdu,by rw [et]; exact tdu⟩ .nil),?_,?_,keepL s02⟩
  ·rw [List.length_append]; show _ + (_ + 1)<=_; omega
  ·rw [<- al,List.append_assoc];congr 2;rw [et];cases t0;cases et
   rfl
theorem sccheckt:FnScope ["shop","wide","high","thing"] ["shop","wide","high","thing"] (defScope cT):=⟨Y,Y,Y,∅,Y,∅,∅⟩
theorem mR {f C:Addr} {fd:ER} (F:Fun K "check_tree" "check_tree" cT f fd) (DI:Dn P w K mg base "is_tree" ["shop","wide","high","thing"] 6 (spIsTree C)):FnOk P w K mg base CX0 7 f fd ["shop","wide","high","thing"] (spCheckT C):=by
 refine F.ok sccheckt (λ vs H Q E h=>?_) (λ cdv A outer s H vs Q E hr h=>?_)
 ·obtain ⟨pp,s,b,w1,h1,ks,v,d,rfl,_⟩:=h
  rfl
 obtain ⟨pp,s,b,w1,h1,ks,v,d,rfl,SH,w0,h0,hd,dz,ht,q⟩:=h;have nd:=sccheckt.nd;refine ⟨_,(@ag _ _ _ ((@aZ _ _ _ _ (@aO _ _ _ (DI∪((pv 0)^^^((pv 1)^^^((pv 2)^^^((pv 3)^^^ab))))) (by intro _; rfl)))<|>(@ag _ _ _ fV)<|>aA)),?_⟩;refine ⟨_,Y,_,Y,_,Y,_,Y,pp,s,b,w1,h1,ks,v,d,Y,SH,w0,h0,hd,dz,λ H1 s1=>⟨_,Y,?_⟩⟩;rw [ht];exact aJ (q _ s1)
end
theorem eQ {d:PyData} {ds:List PyData} (h:aN d=some ds):wt d=wts ds + 1:=by
 cases d <;> simp only [aN,Option.some.injEq,reduceCtorEq] at h
 ·subst h; rw [wt]
 ·subst h; rw [wt]
theorem TrD.many {b:Int}:∀ (t:Tr) (d:PyData) (x y w h:Int),TrD t d->(lvs b t x y w h).length=lvN t/\szT t<=wt d
 | .rest,d,_,_,_,_,e=>by
  have:=eQ (show aN d=some [.str "rest"] from e);have w1:wts [.str "rest"]=5:=∅
  refine ⟨Y,?_⟩;show 1<=wt d;omega
 | .piece i c u v,d,_,_,_,_,e=>by
  have:=eQ (show aN d=some [.str "piece",.int i,.bool c,.int u,.int v] from e);have w1:wts [.str "piece",.int i,.bool c,.int u,.int v]=10:=by
   show wt (.str "piece") + (1 + (1 + (1 + (1 + 0))))=10
   decide +kernel
  refine ⟨Y,?_⟩;show 1<=wt d;omega
 | .cut true p l r,d,x,y,w,h,⟨dl,dr,e,tl,tr⟩=>by
  have h0:=eQ e;have w1:wts [.str (if true=true then "down" else "across"),.int p,dl,dr]=5 + (1 + (wt dl + (wt dr + 0))):=by show wt (.str "down") + (1 + (wt dl + (wt dr + 0)))=_;rw [show wt (.str "down")=5 by decide +kernel]
  have h1:=TrD.many (b:=b) r dr (x + (p + b)) y (w - p - b) h tr;have h2:=TrD.many (b:=b) l dl x y p h tl;rw [lvs,List.length_append,szT,lvN];omega
 | .cut false p l r,d,x,y,w,h,⟨dl,dr,e,tl,tr⟩=>by
  have h0:=eQ e;have w1:wts [.str (if false=true then "down" else "across"),.int p,dl,dr]=7 + (1 + (wt dl + (wt dr + 0))):=by show wt (.str "across") + (1 + (wt dl + (wt dr + 0)))=_;rw [show wt (.str "across")=7 by decide +kernel]
  have h1:=TrD.many (b:=b) r dr x (y + (p + b)) w (h - p - b) tr;have h2:=TrD.many (b:=b) l dl x y w p tl;rw [lvs,List.length_append,szT,lvN];omega
theorem bt (b:Int):∀ (t:Tr) (x y w h:Int),∀f∈lvs b t x y w h,f.t=.rest\/∃i c u v,f.t=.piece i c u v
 | .rest,_,_,_,_,f,hf=>by cases EB.mp hf; exact .inl rfl
 | .piece i c u v,_,_,_,_,f,hf=>by cases EB.mp hf; exact .inr ⟨i,c,u,v,Y⟩
 | .cut true p l r,x,y,w,h,f,hf=>by rw [lvs] at hf;exact (C2.mp hf).elim (bt b r _ _ _ _ f) (bt b l _ _ _ _ f)
 | .cut false p l r,x,y,w,h,f,hf=>by rw [lvs] at hf;exact (C2.mp hf).elim (bt b r _ _ _ _ f) (bt b l _ _ _ _ f)
mutual
theorem Dt.fresh {p q:Addr} {H:Hp} (hq:H q=none):∀ {v:V} {d:PyData},Dt p H v d->Dt q H v d
 | _,_,.non=>.non
 | _,_,.bl b=>.bl b
 | _,_,.int i=>.int i
 | _,_,.str z=>.str z
 | _,_,.lst n h r=>.lst (aq h hq) h (r.fresh hq)
 | _,_,.tup h r=>.tup h (r.fresh hq)
 | _,_,.emp h=>.emp h
theorem Dts.fresh {p q:Addr} {H:Hp} (hq:H q=none):∀ {vs:List V} {ds:List PyData},Dts p H vs ds->Dts q H vs ds
 | _,_,.nil=>.nil
 | _,_,.cons a r=>.cons (a.fresh hq) (r.fresh hq)
end
structure TrH (C pp s:Addr) (b w h:Int) (ks:List Kd) (v:V) (d:PyData) (t:Tr) (H:Hp):Prop where
 sh:ShopAt C H s b ks
 w1:1<=w
 h1:1<=h
 dt:Dt pp H v d
 td:TrD t d
 ok:okT b ks w h t
 wd:wt d<=9000
 ln:lvN t<=4000
theorem TrH.same {C pp s:Addr} {b w h:Int} {ks:List Kd} {v:V} {d:PyData} {t:Tr} {H H':Hp} (x:TrH C pp s b w h ks v d t H) (k:Same H H'):TrH C pp s b w h ks v d t H':=⟨eN k x.sh,x.w1,x.h1,x.dt.same k,x.td,x.ok,x.wd,x.ln⟩
structure Pce where
 k:Nat
 c:Bool
 x:Int
 y:Int
def BM (p:Pce):List V:=[.int p.k,.bl p.c,.int p.x,.int p.y]
def gw (p:Pce):List Int:=[(p.k:Int),if p.c=true then 1 else 0,p.x,p.y]
def lfP (f:Lf):Option Pce:=match f.t with
 | .piece i c u v=>some ⟨i,c,f.x + u,f.y + v⟩
 | _=>none
def pcs (b:Int) (t:Tr) (w h:Int):List Pce:=(lvs b t 0 0 w h).filterMap lfP
def PA (H:Hp) (a:Addr) (p:Pce):Prop:=H a= ~~~(BM p)
def dw (H:Hp) (a:Addr):Pce:=match H a with
 | some (.tup [.int k,.bl c,.int x,.int y])=>⟨k.toNat,c,x,y⟩
 | _=>⟨0,false,0,0⟩
theorem PA.of {H:Hp} {a:Addr} {p:Pce} (h:PA H a p):dw H a=p:=by unfold dw;rw [show H a= ~~~[.int p.k,.bl p.c,.int p.x,.int p.y] from h];show (⟨(p.k:Int).toNat,p.c,p.x,p.y⟩:Pce)=p;rw [Int.toNat_natCast]
theorem PA.map {H:Hp}:∀ {as:List Addr} {ps:List Pce},Paired (PA H) as ps->as.map (dw H)=ps
 | _,_,.nil=>rfl
 | _,_,.cons h r=>by rw [List.map_cons,h.of,PA.map r]
theorem PA.mem {H:Hp}:∀ {as:List Addr} {ps:List Pce},Paired (PA H) as ps->∀a∈as,PA H a (dw H a)
 | _,_,.nil,a,h=>by cases h
 | _,_,.cons h r,a,hm=>by
  rcases List.mem_cons.mp hm with e | e
  ·subst e; rw [h.of]; exact h
  ·exact PA.mem r a e
theorem PA.back {H:Hp}:∀ {as:List Addr},(∀a∈as,PA H a (dw H a))->Paired (PA H) as (as.map (dw H))
 | [],_=>.nil
 | a :: as,h=>.cons (h a B7) (PA.back λ b hb=>h b (B4 _ hb))
theorem PA.keep {H H':Hp} (k:∀a xs,H a= ~~~xs->H' a= ~~~xs) {as:List Addr} {ps:List Pce} (h:Paired (PA H) as ps):Paired (PA H') as ps:=EX h λ a p e=>k _ _ e
section
variable {P:EQ} {w:ES} {K:C4} {mg:Str->Option ET} {base:Heap}
inductive spPieces (C:Addr) (vs:List V) (H:Hp) (Q:VK) (E_:XK):Prop
 | mk (pp s:Addr) (b w h:Int) (ks:List Kd) (v:V) (d:PyData) (t:Tr) (e_1:vs=[.ref s,.int w,.int h,v]) (e_2:TrH C pp s b w h ks v d t H) (e_3:∀ (l:Addr) (as:List Addr) (ps:List Pce) (H':Hp),H l=none->H' l=↥(as.map V.ref)->Paired (PA H') as ps->ps.Perm (pcs b t w h)->(ps.map gw).Pairwise (λ x y=>bz y x=false)->Same H H'->Q (.ref l) H'):spPieces C vs H Q E_
theorem scpieces:FnScope ["shop","wide","high","tree","pieces","x","y","part_wide","part_high","leaf","word","kind","turned","piece_x","piece_y"] ["shop","wide","high","tree"] (defScope dO):=⟨Y,Y,Y,∅,Y,∅,∅⟩
theorem mS {f C wa:Addr} {fd:ER} (F:Fun K "pieces_of" "pieces_of" dO f fd) (B:Blt mg) (Z:TrC K mg wa) (DC:Dn P w K mg base "check_tree" ["shop","wide","high","thing"] 7 (spCheckT C)) (DL:Dn P w K mg base "leaves_of" ["shop","wide","high","tree"] 3 (spLeaves C)):FnOk P w K mg base CX0 8 f fd ["shop","wide","high","tree"] (spPieces C):=by
 refine F.ok scpieces (λ vs H Q E h=>?_) (λ cdv A outer s H vs Q E hr h=>?_)
 ·obtain ⟨pp,s,b,w1,h1,ks,v,d,t,rfl,_⟩:=h
  rfl
 obtain ⟨pp,s,b,w1,h1,ks,v,d,t,rfl,th,q⟩:=h;have nd:=scpieces.nd;obtain ⟨trs,hrs⟩:=Z.rs;refine ⟨_,((@bG _ _ _ _ (DC∪((pv 0)^^^((pv 1)^^^((pv 2)^^^((pv 3)^^^ab))))) Y)<<<((4∣(@br _ _ _ _ ab))<<<((@cy _ _ _ _ _ _ _ _ ED Y (bo (DL∩((pv 0)^^^((pv 1)^^^((pv 2)^^^((pv 3)^^^ab)))))) (aR Y (5•(6•(7•(8•(9•aI)))))) (@ag _ _ _ ((((pv 9)&&&bH&&&ad)<*>gQ<*>(aY (v:=.str "rest") Y hrs ⟨trs,Y⟩))<|>((@be _ _ _ _ _ _ (pv 9) (jU Y (10•(11•(12•(13•(14•aI)))))) Y Y Y)>>>(@bG _ _ _ _ (@fm _ _ _ _ _ _ _ _ _ _ _ _ EN PySem.F.slot_list_append PySem.F.type_list_append dC (pv 4) ((@ay _ _ _ _ _ ((pv 11)^^^((pv 12)^^^(((pv 5)|||aD|||(pv 13))^^^(((pv 6)|||aD|||(pv 14))^^^ab)))))^^^ab) Y Y Y Y Y) Y))<|>aA)) (by intro _; rfl))<<<((@aF _ _ _ _ _ _ _ _ _ bW Y B.sorted PyProof.Rows.boot_sorted ((pv 4)^^^ab) ∅ ∅ Y Y)⁻¹)))),?_⟩;have sz:(40000:Nat)<=sizeLine:=∅
 obtain ⟨m1,m2⟩:=TrD.many (b:=b) t d 0 0 w1 h1 th.td;have wd:=th.wd;have ln:=th.ln;refine ⟨_,Y,_,Y,_,Y,_,Y,pp,s,b,w1,h1,ks,v,d,Y,th.sh,th.w1,th.h1,th.dt,⋯,TrD.good t d w1 h1 th.td th.ok,λ H1 s1=>?_⟩;refine ⟨∅,λ pl hpl=>?_⟩;have s2:Same H1 (upd H1 pl (.lst [])):=EU hpl;have k2:(upd H1 pl (.lst [])) pl=↥[]:=af;generalize upd H1 pl (.lst [])=H2 at s2 k2 ⊢;have s02:=s1.trans s2;have th2:=th.same s02;have fp:H pl=none:=s1.free hpl;have dp:Dt pl H2 v d:=(th.dt.fresh fp).same s02;refine aw (λ σ' H'=>σ'=[↑s,⇑w1,⇑h1,some v,↑pl,none,none,none,none,none,none,none,none,none,none]/\H2=H') (λ R hR=>hR _ _ ⟨rfl,rfl⟩) ?_;rintro _ _ ⟨rfl,rfl⟩;refine aw (λ σ' H'=>(∃v5 v6 v7 v8 v9 v10 v11 v12 v13 v14,σ'=[↑s,⇑w1,⇑h1,some v,↑pl,v5,v6,v7,v8,v9,v10,v11,v12,v13,v14])/\(∃as,H' pl=↥(as.map V.ref)/\Paired (PA H') as (pcs b t w1 h1)/\as.length<=4000)/\Same H H') (λ R hR=>?_) ?_
 ·refine ⟨_,Y,_,Y,_,Y,_,Y,pl,s,b,w1,h1,ks,v,d,t,Y,th2.sh,dp,th2.td,⋯,λ ll us H3 hll l3 pu s23=>?_⟩;have s03:=s02.trans s23;have ul:=EC pu;have npl:ll≠pl:=λ z=>by rw [z,k2] at hll; cases hll
  refine ⟨ll,Y,⟨_,EW l3⟩,eC (xs:=us) (λ i σ' H'=>(∃v5 v6 v7 v8 v9 v10 v11 v12 v13 v14,σ'=[↑s,⇑w1,⇑h1,some v,↑pl,v5,v6,v7,v8,v9,v10,v11,v12,v13,v14])/\(∃as,H' pl=↥(as.map V.ref)/\Paired (PA H') as (((lvs b t 0 0 w1 h1).take i).filterMap lfP))/\H' ll=↥us/\Paired (LfAt pl H2 H') us (lvs b t 0 0 w1 h1)/\But pl H2 H'/\Same H H') ⟨⟨_,_,_,_,_,_,_,_,_,_,Y⟩,⟨[],s23 _ _ k2,.nil⟩,l3,pu,rc s23,s03⟩ (λ i σ H' _ h=>EW h.2.2.1) ?_ ?_⟩
  ·rintro i x σ H4 hi ⟨⟨v5,v6,v7,v8,v9,v10,v11,v12,v13,v14,rfl⟩,⟨as,hp4,pa4⟩,l4,pu4,b4,s4⟩;have hin:i < us.length:=(A6.mp hi).1;obtain ⟨f,hf,a,u,du,rfl,ha,hdu,tdu⟩:=EY pu4 hi;have pal:=EC pa4;have fml:(((lvs b t 0 0 w1 h1).take i).filterMap lfP).length<=i:=C5 (List.length_filterMap_le _ _) (by rw [List.length_take]; omega);have tk:(lvs b t 0 0 w1 h1).take (i + 1)=(lvs b t 0 0 w1 h1).take i ++ [f]:=by rw [List.take_add_one,hf]; rfl
   refine ⟨a,_,Y,EV ha,Y,_,_,Y,_,_,Y,_,_,Y,_,_,Y,_,_,Y,Y,?_⟩;have hdu4:Dt pl H4 u du:=hdu.but ⟨_,k2⟩ b4;rcases bt b t 0 0 w1 h1 f (B5 hf) with et | ⟨ki,c,px,py,et⟩
   ·rw [et] at tdu;obtain ⟨a', xs, rfl, hx, dxs⟩:=hdu4.ref_row (show aN du=some [.str "rest"] from tdu);cases dxs with
    | cons hd0 dxs =>
    cases hd0;cases dxs;refine ⟨_,Y,ixR (Same.refl _) hx (aG (EE _) rfl) ⟨Y,_,Y,?_⟩⟩;refine aJ ⟨⟨_,_,_,_,_,_,_,_,_,_,rfl⟩,⟨as,hp4,?_⟩,l4,pu4,b4,s4⟩;rw [tk,List.filterMap_append,show [f].filterMap lfP=[] by rw [List.filterMap_cons,show lfP f=none by unfold lfP; rw [et]]; rfl,List.append_nil];exact pa4
   ·rw [et] at tdu;obtain ⟨a', xs, rfl, hx, dxs⟩:=hdu4.ref_row (show aN du=some [.str "piece", .int ki, .bool c, .int px, .int py] from tdu);cases dxs with
    | cons hd0 dxs =>
    cases dxs with
    | cons hd1 dxs =>
    cases dxs with
    | cons hd2 dxs =>
    cases dxs with
    | cons hd3 dxs =>
    cases dxs with
    | cons hd4 dxs =>
    cases dxs;cases hd0; cases hd1; cases hd2; cases hd3; cases hd4;refine ⟨_,Y,ixR (Same.refl _) hx (aG (EE _) rfl) ⟨Y,_,Y,?_⟩⟩;refine aS ?_;refine ⟨_,Y,a',_,Y,hx.imp (λ z=>EW z) (λ z=>EV z),Y,_,_,Y,_,_,Y,_,_,Y,_,_,Y,_,_,Y,Y,?_⟩;refine ⟨_,Y,.inl ⟨Y,_,EW hp4⟩,_,Y,_,Y,_,Y,_,Y,_,_,Y,Y,_,Y,_,Y,_,_,Y,Y,zS4,λ tp htp=>?_⟩;have s5:=EU htp (o:=.tup [.int ki,.bl c,.int (f.x + px),.int (f.y + py)]);have k5:(upd H4 tp (.tup [.int ki,.bl c,.int (f.x + px),.int (f.y + py)])) tp= ~~~[.int ki,.bl c,.int (f.x + px),.int (f.y + py)]:=af;rw [show upd H4 tp _=upd H4 tp (.tup [.int ki,.bl c,.int (f.x + px),.int (f.y + py)]) from rfl];generalize upd H4 tp (.tup [.int ki,.bl c,.int (f.x + px),.int (f.y + py)])=H5 at s5 k5 ⊢;have hp5:=s5 _ _ hp4;refine ⟨pl,_,_,Y,Y,hp5,(by rw [List.length_map]; omega),?_⟩;have kt:∀ (a:Addr) (xs:List V),H4 a= ~~~xs->(upd H5 pl (.lst (as.map V.ref ++ [.ref tp]))) a= ~~~xs:=λ a xs e=>by rw [aj (λ z=>by rw [z,hp4] at e; cases e)]; exact s5 _ _ e
    refine ⟨⟨_,_,_,_,_,_,_,_,_,_,Y⟩,⟨as ++ [tp],by rw [af,List.map_append]; rfl,?_⟩,by rw [aj npl]; exact s5 _ _ l4,EX pu4 λ v f h=>h.keep kt,b4.trans (λ cc o n e=>by rw [aj n]; exact s5 _ _ e),λ cc o e=>by rw [aj (λ z=>by rw [z,fp] at e; cases e)]; exact s5 _ _ (s4 _ _ e)⟩;rw [tk,List.filterMap_append,show [f].filterMap lfP=[⟨ki,c,f.x + px,f.y + py⟩] by rw [List.filterMap_cons,show lfP f=some ⟨ki,c,f.x + px,f.y + py⟩ by unfold lfP; rw [et]]; rfl];exact dW (PA.keep kt pa4) (.cons (show _=_ by rw [aj (λ z=>by rw [z,hp5] at k5; cases k5)]; exact k5) .nil)
  ·rintro σ H4 ⟨⟨v5,v6,v7,v8,v9,v10,v11,v12,v13,v14,rfl⟩,⟨as,hp4,pa4⟩,l4,pu4,b4,s4⟩;rw [ul,List.take_length] at pa4;have:=EC pa4;have fml:((lvs b t 0 0 w1 h1).filterMap lfP).length<=(lvs b t 0 0 w1 h1).length:=List.length_filterMap_le _ _;exact hR _ _ ⟨⟨_,_,_,_,_,_,_,_,_,_,rfl⟩,⟨as,hp4,pa4,⋯⟩,s4⟩
 rintro _ H3 ⟨⟨v5,v6,v7,v8,v9,v10,v11,v12,v13,v14,rfl⟩,⟨as,hp3,pa3,al⟩,s3⟩;have mem:=PA.mem pa3;have mp:=PA.map pa3;refine ⟨_,Y,pl,as,[false,true,false,false],λ a=>gw (dw H3 a),Y,EW hp3,⋯,Y,λ a ha=>⟨_,EV (mem a ha),Y⟩,λ l as' hl pa so=>?_⟩;have s4:=EU hl (o:=.lst (as'.map V.ref));refine q l as' (as'.map (dw H3)) _ (s3.free hl) af (PA.keep (λ a xs e=>s4 _ _ e) (PA.back λ a ha=>mem a (pa.mem_iff.mp ha))) ?_ ?_ (s3.trans s4)
 ·rw [<- mp]; exact pa.map _
 ·rw [List.map_map]; exact so
end
theorem pN {X:Cx}:vx X (λ o i H Q=>∃p xs k x,o=.ref p/\i=.int k/\0<=k/\H p=↥xs/\atI xs k=some x/\Q x H):=by
 intro pins s σ H o i ov iv Q I ro ri h;obtain ⟨p,xs,k,x,rfl,rfl,k0,hp,hx,q⟩:=h;cases ro;obtain ⟨t,rfl⟩:=ri;obtain ⟨its,r,pl,hz⟩:=I.list (EW hp);obtain ⟨j,h1,h2,h3,h4,h5⟩:=fE hx;obtain ⟨w,ew,rw'⟩:=r.get h2;have hl:=r.length;have hn:=eg;have hj:k.toNat=j:=by rw [seqIndex_of k0 h5] at h1;exact B8 h1
 exact wpAny_getItem_list pl.isList k0 ⋯ (by rw [hj]; simpa using ew) ⟨x,H,I,rw',q⟩
def bp (ps:List Pce) (n:Nat):List Int:=(List.range n).map λ k=>((ps.filter λ p=>p.k == k).length:Int)
theorem bM (ps:List Pce) (n:Nat):(bp ps n).length=n:=by unfold bp; rw [List.length_map,List.length_range]
theorem eR {ps:List Pce} {n k:Nat} (h:k < n):(bp ps n)[k]? = some ((ps.filter λ p=>p.k == k).length:Int):=by unfold bp;rw [List.getElem?_map,List.getElem?_range h]; rfl
theorem fh {ps qs:List Pce} (h:ps.Perm qs) (n:Nat):bp ps n=bp qs n:=by unfold bp;apply List.map_congr_left;intro k _;rw [(h.filter _).length_eq]
theorem pO {ps:List Pce} {p:Pce} {n:Nat} (h:p.k < n):((bp ps n).map V.int).set p.k (.int (((ps.filter λ q=>q.k == p.k).length:Int) + 1))=(bp (ps ++ [p]) n).map V.int:=by
 apply List.ext_getElem?;intro j;rw [List.getElem?_set]
 by_cases hj:j < n
 ·rw [List.getElem?_map,List.getElem?_map,eR hj,eR hj,List.length_map,bM]
  by_cases e:p.k=j
  ·subst e;rw [if_pos rfl,if_pos h,List.filter_append,List.length_append];simp
  ·rw [if_neg e,List.filter_append,List.length_append];have:([p].filter λ q=>q.k == j)=[]:=by simp [e]
   rw [this]; rfl
 ·have h1:((bp ps n).map V.int)[j]? = none:=C6 (by rw [List.length_map,bM]; omega);have h2:((bp (ps ++ [p]) n).map V.int)[j]? = none:=C6 (by rw [List.length_map,bM]; omega);rw [h1,h2,if_neg ⋯]
theorem gx {b:Int} {ks:List Kd}:∀ (t:Tr) (x y w h:Int),okT b ks w h t->∀f∈lvs b t x y w h,∀i c u v,f.t=.piece i c u v->i < ks.length
 | .rest,_,_,_,_,_,f,hf,i,c,u,v,e=>by cases EB.mp hf; cases e
 | .piece ..,_,_,_,_,⟨k,hk,_⟩,f,hf,i,c,u,v,e=>by cases EB.mp hf;cases e;exact (A6.mp hk).1
 | .cut true p l r,x,y,w,h,⟨_,_,hl,hr⟩,f,hf,i,c,u,v,e=>by rw [lvs] at hf;exact (C2.mp hf).elim (λ z=>gx r _ _ _ _ hr f z i c u v e) (λ z=>gx l _ _ _ _ hl f z i c u v e)
 | .cut false p l r,x,y,w,h,⟨_,_,hl,hr⟩,f,hf,i,c,u,v,e=>by rw [lvs] at hf;exact (C2.mp hf).elim (λ z=>gx r _ _ _ _ hr f z i c u v e) (λ z=>gx l _ _ _ _ hl f z i c u v e)
theorem pP {b:Int} {ks:List Kd} {t:Tr} {w h:Int} (ok:okT b ks w h t) {p:Pce} (hp:p∈pcs b t w h):p.k < ks.length:=by
 obtain ⟨f,hf,e⟩:=List.mem_filterMap.mp hp;rcases bt b t 0 0 w h f hf with et | ⟨i,c,u,v,et⟩
 ·unfold lfP at e; rw [et] at e; cases e
 ·have:=gx t 0 0 w h ok f hf i c u v et;unfold lfP at e; rw [et] at e; cases e; exact this
section
variable {P:EQ} {w:ES} {K:C4} {mg:Str->Option ET} {base:Heap}
inductive spCountsO (C:Addr) (vs:List V) (H:Hp) (Q:VK) (E_:XK):Prop
 | mk (pp s:Addr) (b w h:Int) (ks:List Kd) (v:V) (d:PyData) (t:Tr) (e_1:vs=[.ref s,.int w,.int h,v]) (e_2:TrH C pp s b w h ks v d t H) (e_3:ks.length<=8) (e_4:∀ (l:Addr) (H':Hp),H l=none->H' l=↥((bp (pcs b t w h) ks.length).map V.int)->Same H H'->Q (.ref l) H'):spCountsO C vs H Q E_
inductive spWorthO (C:Addr) (vs:List V) (H:Hp) (Q:VK) (E_:XK):Prop
 | mk (pp s:Addr) (b w h:Int) (ks:List Kd) (v:V) (d:PyData) (t:Tr) (e_1:vs=[.ref s,.int w,.int h,v]) (e_2:TrH C pp s b w h ks v d t H) (e_3:ks.length<=8) (e_4:(∀k∈ks,Good k)) (e_5:∀ (H':Hp),Same H H'->Q (.int (((bp (pcs b t w h) ks.length).zip ks).map λ z=>z.1 * z.2.wo).sum) H'):spWorthO C vs H Q E_
theorem sccountso:FnScope ["shop","wide","high","tree","pieces","counts","kind","turned","x","y"] ["shop","wide","high","tree"] (defScope cK):=⟨Y,Y,Y,∅,Y,∅,∅⟩
theorem kA {f C:Addr} {fd:ER} (F:Fun K "counts_of" "counts_of" cK f fd) (B:Blt mg) (T:ShopTxt K C) (MK:Mn P w K mg base C "kinds" ["self"] 1 (fH C)) (DP:Dn P w K mg base "pieces_of" ["shop","wide","high","tree"] 8 (spPieces C)):FnOk P w K mg base CX0 9 f fd ["shop","wide","high","tree"] (spCountsO C):=by
 refine F.ok sccountso (λ vs H Q E h=>?_) (λ cdv A outer s H vs Q E hr h=>?_)
 ·obtain ⟨pp,s,b,w1,h1,ks,v,d,t,rfl,_⟩:=h
  rfl
 obtain ⟨pp,s,b,w1,h1,ks,v,d,t,rfl,th,k8,q⟩:=h;have nd:=sccountso.nd;refine ⟨_,((4∣(DP∪((pv 0)^^^((pv 1)^^^((pv 2)^^^((pv 3)^^^ab))))))<<<((qQ (i:=5) (own:=["kind"]) (cs:=[]) (cap:=[]) Y nd Y Y Y (bo (iF (pv 0) T.cl MK (hr.mono ∅))) (aP (sc:=defScope cK) (N:=["shop","wide","high","tree","pieces","counts","kind","turned","x","y"]) Y Y ∅) (λ _ _ _ _ _=>ai (i:=0) (by show List.Nodup (["kind"]:List Str) ; decide +kernel) Y (Or.inl Y) (Or.inr Y)) (λ _ _ _ _ _=>bJ) (λ _ _ _ _ _=>ad))<<<((@cy _ _ _ _ _ _ _ _ ED Y (bo (pv 4)) (aR Y (6•(7•(8•(9•aI))))) (@ag _ _ _ (qA (pv 5) (pv 6) pN ad ix eE)) (by intro _; rfl))<<<((pv 5)⁻¹)))),?_⟩;have sz:(40000:Nat)<=sizeLine:=∅
 refine aw (λ σ' H'=>∃pl as ps,σ'=[↑s,⇑w1,⇑h1,some v,↑pl,none,none,none,none,none]/\H' pl=↥(as.map V.ref)/\Paired (PA H') as ps/\ps.Perm (pcs b t w1 h1)/\Same H H') (λ R hR=>?_) ?_
 ·exact ⟨_,Y,_,Y,_,Y,_,Y,pp,s,b,w1,h1,ks,v,d,t,Y,th,λ l as ps H1 hl l1 pa pe so s1=>hR _ _ ⟨l,as,ps,Y,l1,pa,pe,s1⟩⟩
 rintro _ H1 ⟨pl,as,ps,rfl,hp1,pa1,pe,s1⟩;have th1:=th.same s1;refine aw (λ σ' H'=>∃cl,σ'=[↑s,⇑w1,⇑h1,some v,↑pl,↑cl,none,none,none,none]/\H1 cl=none/\H' cl=↥((bp [] ks.length).map V.int)/\Same H1 H') (λ R hR=>?_) ?_
 ·obtain ⟨dx,r,rs,S1,S2,S3⟩:=id th1.sh;refine ⟨_,Y,s,dx,_,Y,S1,(cu _ _ ∅ ∅),s,b,ks,Y,th1.sh,λ l rs' hl tp=>?_⟩;have s2:=EU hl (o:=.lst rs');have k2:(upd H1 l (.lst rs')) l=↥rs':=af;generalize upd H1 l (.lst rs')=H2 at s2 k2 ⊢;have tl:=EC tp;refine ⟨l,Y,⟨_,EW k2⟩,(bi (K:=K) (.inl k2) (λ i ys Hx=>Same H2 Hx/\ys=List.replicate i (.int 0)) (λ i ys Hx _ ⟨sx,_⟩ o e=>sx _ _ e) ⟨Same.refl _,Y⟩ ?_ ?_).1 k2⟩
  ·rintro i x ys Hx hi ⟨sx,rfl⟩;have hin:i < rs'.length:=(A6.mp hi).1;refine ⟨by rw [List.length_replicate]; omega,leS.set rfl,bS ?_⟩;show Nx rs'.length (λ i ys Hx=>Same H2 Hx/\ys=List.replicate i (V.int 0)) i (List.replicate i (V.int 0) ++ [.int 0]) Hx;refine Nx.of hin ?_;exact ⟨sx,(List.replicate_succ' ..).symm⟩
  ·rintro ys Hx ⟨sx,rfl⟩;refine ⟨by rw [List.length_replicate]; omega,λ cl hcl=>hR _ _ ⟨cl,Y,(s2.trans sx).free hcl,?_,(s2.trans sx).trans (EU hcl)⟩⟩;rw [af];congr 2;rw [tl];unfold bp;apply List.ext_getElem
   ·simp
   ·intro j h1 h2;simp
 rintro _ H2 ⟨cl,rfl,hcl,hc2,s2⟩;have fc:H cl=none:=s1.free hcl;have npc:pl≠cl:=λ z=>by rw [<- z,hp1] at hcl; cases hcl
 have pal:=EC pa1;have pa2:Paired (PA H2) as ps:=PA.keep (λ a xs e=>s2 _ _ e) pa1;have hp2:=s2 _ _ hp1;refine aw (λ σ' H'=>(∃v6 v7 v8 v9,σ'=[↑s,⇑w1,⇑h1,some v,↑pl,↑cl,v6,v7,v8,v9])/\H' cl=↥((bp ps ks.length).map V.int)/\Same H H') (λ R hR=>?_) ?_
 ·refine ⟨_,Y,pl,Y,⟨_,EW hp2⟩,eC (xs:=as.map V.ref) (λ i σ' H'=>(∃v6 v7 v8 v9,σ'=[↑s,⇑w1,⇑h1,some v,↑pl,↑cl,v6,v7,v8,v9])/\H' cl=↥((bp (ps.take i) ks.length).map V.int)/\H' pl=↥(as.map V.ref)/\Paired (PA H') as ps/\Same H H') ⟨⟨_,_,_,_,Y⟩,hc2,hp2,pa2,s1.trans s2⟩ (λ i σ H' _ h=>EW h.2.2.1) ?_ ?_⟩
  ·rintro i x σ H3 hi ⟨⟨v6,v7,v8,v9,rfl⟩,hc3,hp3,pa3,s3⟩;rw [List.getElem?_map] at hi;obtain ⟨a,ha,rfl⟩:=Option.map_eq_some_iff.mp hi;obtain ⟨p,hpi,pA⟩:=EY pa3 ha;have hk:=pP th.ok (pe.mem_iff.mp (B5 hpi));have pA:H3 a= ~~~[.int p.k,.bl p.c,.int p.x,.int p.y]:=pA;refine ⟨a,_,Y,EV pA,Y,_,_,Y,_,_,Y,_,_,Y,_,_,Y,Y,?_⟩;have hat:atI ((bp (ps.take i) ks.length).map V.int) (p.k:Int)=⇑(((ps.take i).filter λ q=>q.k == p.k).length:Int):=aG ⋯ (by rw [Int.toNat_natCast,List.getElem?_map,eR hk]; rfl);have hix:ixN ((bp (ps.take i) ks.length).map V.int).length (p.k:Int)=some p.k:=by unfold ixN;rw [if_pos ⋯,List.length_map,bM,if_pos ⋯,Int.toNat_natCast]
   refine ⟨_,Y,_,Y,cl,_,_,_,Y,Y,⋯,hc3,hat,_,_,Y,Y,cl,_,_,p.k,Y,Y,hc3,hix,?_⟩;have kt:∀ (o:HO) (a:Addr) (xs:List V),H3 a= ~~~xs->(upd H3 cl o) a= ~~~xs:=λ o a xs e=>by rw [aj (λ z=>by rw [z,hc3] at e; cases e)]; exact e
   refine ⟨⟨_,_,_,_,Y⟩,?_,by rw [aj npc]; exact hp3,PA.keep (kt _) pa3,λ c o e=>by rw [aj (λ z=>by rw [z,fc] at e; cases e)]; exact s3 _ _ e⟩;rw [af,pO hk,List.take_add_one,hpi]; rfl
  ·rintro σ H3 ⟨⟨v6,v7,v8,v9,rfl⟩,hc3,hp3,pa3,s3⟩;rw [List.length_map,pal,List.take_length] at hc3;exact hR _ _ ⟨⟨_,_,_,_,rfl⟩,hc3,s3⟩
 rintro _ H3 ⟨⟨v6,v7,v8,v9,rfl⟩,hc3,s3⟩;rw [fh pe] at hc3;exact ⟨_,Y,q cl H3 fc hc3 s3⟩
end
section
variable {P:EQ} {w:ES} {K:C4} {mg:Str->Option ET} {base:Heap}
theorem scwortho:FnScope ["shop","wide","high","tree","counts"] ["shop","wide","high","tree"] (defScope di):=⟨Y,Y,Y,∅,Y,∅,∅⟩
theorem mT {f C:Addr} {fd:ER} (F:Fun K "worth_of" "worth_of" di f fd) (B:Blt mg) (T:ShopTxt K C) (MK:Mn P w K mg base C "kinds" ["self"] 1 (fH C)) (DCo:Dn P w K mg base "counts_of" ["shop","wide","high","tree"] 9 (spCountsO C)):FnOk P w K mg base CX0 10 f fd ["shop","wide","high","tree"] (spWorthO C):=by
 refine F.ok scwortho (λ vs H Q E h=>?_) (λ cdv A outer s H vs Q E hr h=>?_)
 ·obtain ⟨pp,s,b,w1,h1,ks,v,d,t,rfl,_⟩:=h
  rfl
 obtain ⟨pp,s,b,w1,h1,ks,v,d,t,rfl,th,k8,gk,q⟩:=h;have nd:=scwortho.nd;refine ⟨_,((4∣(DCo∪((pv 0)^^^((pv 1)^^^((pv 2)^^^((pv 3)^^^ab))))))<<<((@aF _ _ _ _ _ _ _ _ _ (dF Y) Y B.sum PyProof.Rows.boot_sum ((bv (own:=["count","kind"]) (cs:=[]) (cap:=[]) Y (sL Y B.zip ((pv 4)^^^((iF (pv 0) T.cl MK (hr.mono ∅))^^^ab))) (aP (sc:=defScope di) (N:=["shop","wide","high","tree","counts"]) Y Y ∅) (λ _ _ _ _ _=>sP K Y Y (by show List.Nodup (["count","kind"]:List Str) ; decide +kernel) Y Y Y Y) (λ _ _ _ _ _=>bJ) (λ _ _ _ _ _=>((pv 0)|||cg|||(am (r:=rIxT K) ix_tup (pv 1) ad (λ _ _=>Y)))))^^^ab) ∅ ∅ Y Y)⁻¹)),?_⟩;have sz:(40000:Nat)<=sizeLine:=∅
 refine aw (λ σ' H'=>∃cl,σ'=[↑s,⇑w1,⇑h1,some v,↑cl]/\H' cl=↥((bp (pcs b t w1 h1) ks.length).map V.int)/\Same H H') (λ R hR=>?_) ?_
 ·exact ⟨_,Y,_,Y,_,Y,_,Y,pp,s,b,w1,h1,ks,v,d,t,Y,th,k8,λ l H1 hl l1 s1=>hR _ _ ⟨l,Y,l1,s1⟩⟩
 rintro _ H1 ⟨cl,rfl,hc1,s1⟩;have th1:=th.same s1;obtain ⟨dx,r,rs,S1,S2,S3⟩:=id th1.sh;obtain ⟨m1,m2⟩:=TrD.many (b:=b) t d 0 0 w1 h1 th.td;have wd:=th.wd;have ln:=th.ln;have pl54:(pcs b t w1 h1).length<=4000:=C5 (List.length_filterMap_le _ _) ⋯;refine ⟨_,Y,_,Y,s,dx,_,Y,S1,(cu _ _ ∅ ∅),s,b,ks,Y,th1.sh,λ l rs' hl tp=>?_⟩;have s2:=EU hl (o:=.lst rs');have k2:(upd H1 l (.lst rs')) l=↥rs':=af;have tp2:Tups (upd H1 l (.lst rs')) rs' ks:=Tups.keep (λ c xs e=>s2 _ _ e) tp;generalize upd H1 l (.lst rs')=H2 at s2 k2 tp2 ⊢;have tl:=EC tp;have hc2:=s2 _ _ hc1;have e60:(10000:Int) < 10 ^ 60:=∅
 generalize hcn:bp (pcs b t w1 h1) ks.length=cn at *;have cl0:cn.length=ks.length:=by rw [<- hcn,bM]
 have cb:∀ (i:Nat) (c:Int),cn[i]? = some c->0<=c/\c<=4000:=λ i c hi=>by
  have hlt:i < ks.length:=by rw [<- cl0]; exact (A6.mp hi).1
  rw [<- hcn,eR hlt] at hi;cases hi;have:=List.length_filter_le (λ p:Pce=>p.k == i) (pcs b t w1 h1);omega
 refine ⟨cl,l,_,_,Y,hc2,k2,oW (xs:=cn.map V.int) (ys:=rs') (λ i zs H4=>Same H2 H4/\zs=(((cn.zip ks).take i).map λ z=>z.1 * z.2.wo).map V.int) (by rw [List.length_map,cl0]; exact tl.symm) (λ i zs H4 ⟨s4,_⟩=>⟨s4 _ _ hc2,s4 _ _ k2⟩) ⟨Same.refl _,Y⟩ (λ i zs H4 hi ⟨_,e⟩=>by rw [e,List.length_map,List.length_map,List.length_take]; rw [List.length_map] at hi; omega) ?_ ?_⟩
 ·rintro i x y tz zs H4 hx hy htz ⟨s4,rfl⟩;rw [List.getElem?_map] at hx;obtain ⟨c,hc,rfl⟩:=Option.map_eq_some_iff.mp hx;obtain ⟨k,hk,ak,rfl,hak⟩:=EY tp2 hy;have g:=gk k (B5 hk);have hcb:=cb i c hc;have s5:=EU htz (o:=.tup [.int c,.ref ak]);have k5:(upd H4 tz (.tup [.int c,.ref ak])) tz= ~~~[.int c,.ref ak]:=af;generalize upd H4 tz (.tup [.int c,.ref ak])=H5 at s5 k5 ⊢;have ak5:H5 ak= ~~~[.int k.w,.int k.h,.int k.wo,.int k.wa,.bl k.tu]:=s5 _ _ (s4 _ _ hak);refine ⟨tz,_,Y,EV k5,Y,_,_,Y,_,_,Y,Y,kr (leS.set rfl) (leS.set rfl),bS ?_⟩;refine ⟨_,Y,_,Y,ak,_,2,_,Y,Y,EV ak5,Y,_,_,Y,Y,?_,Nx.of (by rw [List.length_map,cl0]; exact (A6.mp hk).1) ⟨s4.trans s5,?_⟩⟩
  ·exact .inl ⟨⋯,⋯⟩
  ·have hzz:(cn.zip ks)[i]? = some (c,k):=by rw [List.getElem?_zip_eq_some]; exact ⟨hc,hk⟩
   rw [List.take_add_one,hzz];simp only [Option.toList_some,List.map_append,List.map_cons,List.map_nil]
 ·rintro zs H4 ⟨s4,rfl⟩;refine ⟨by rw [List.length_map,List.length_map,List.length_take,List.length_zip]; omega,λ p hp=>?_⟩;rw [List.length_map,List.take_of_length_le (by rw [List.length_zip]; omega)];exact ⟨p,_,Y,EW af,q _ (((s1.trans s2).trans s4).trans (EU hp))⟩
end
theorem rD {X:Cx} (K:C4) {x y z u t:Str} {px py pz pu pt pos:Pos} {k:Nat} (hK:X.K=K) (hc:X.calm=true) (hN:X.N.Nodup) (h0:X.N[0]? = some x) (h1:X.N[1]? = some y) (h2:X.N[2]? = some z) (h3:X.N[3]? = some u) (h4:X.N[4]? = some t) (l0:X.env.scope.names.lookup x=some .local) (l1:X.env.scope.names.lookup y=some .local) (l2:X.env.scope.names.lookup z=some .local) (l3:X.env.scope.names.lookup u=some .local) (l4:X.env.scope.names.lookup t=some .local) :
  PG X (.Tuple [.Name x px,.Name y py,.Name z pz,.Name u pu,.Name t pt] k pos) (gTup K 5 (gCons (cC 0) (gCons (cC 1) (gCons (cC 2) (gCons (cC 3) (gCons (cC 4) qz)))))) :=
 hK ▸ aR hc (ah (ai hN h0 (.inl l0) (.inr l0)) (ah (ai hN h1 (.inl l1) (.inr l1)) (ah (ai hN h2 (.inl l2) (.inr l2)) (ah (ai hN h3 (.inl l3) (.inr l3)) (ah (ai hN h4 (.inl l4) (.inr l4)) aI)))))
structure Rst where
 x:Int
 y:Int
 w:Int
 h:Int
def BN (p:Rst):List V:=[.int p.x,.int p.y,.int p.w,.int p.h]
def gy (p:Rst):List Int:=[p.x,p.y,p.w,p.h]
def lfR (f:Lf):Option Rst:=match f.t with
 | .rest=>some ⟨f.x,f.y,f.w,f.h⟩
 | _=>none
def rE (b:Int) (t:Tr) (w h:Int):List Rst:=(lvs b t 0 0 w h).filterMap lfR
def RA (H:Hp) (a:Addr) (p:Rst):Prop:=H a= ~~~(BN p)
def cZ (H:Hp) (a:Addr):Rst:=match H a with
 | some (.tup [.int k,.int c,.int x,.int y])=>⟨k,c,x,y⟩
 | _=>⟨0,0,0,0⟩
theorem RA.of {H:Hp} {a:Addr} {p:Rst} (h:RA H a p):cZ H a=p:=by unfold cZ;rw [show H a= ~~~[.int p.x,.int p.y,.int p.w,.int p.h] from h]
theorem RA.map {H:Hp}:∀ {as:List Addr} {ps:List Rst},Paired (RA H) as ps->as.map (cZ H)=ps
 | _,_,.nil=>rfl
 | _,_,.cons h r=>by rw [List.map_cons,h.of,RA.map r]
theorem RA.mem {H:Hp}:∀ {as:List Addr} {ps:List Rst},Paired (RA H) as ps->∀a∈as,RA H a (cZ H a)
 | _,_,.nil,a,h=>by cases h
 | _,_,.cons h r,a,hm=>by
  rcases List.mem_cons.mp hm with e | e
  ·subst e; rw [h.of]; exact h
  ·exact RA.mem r a e
theorem RA.back {H:Hp}:∀ {as:List Addr},(∀a∈as,RA H a (cZ H a))->Paired (RA H) as (as.map (cZ H))
 | [],_=>.nil
 | a :: as,h=>.cons (h a B7) (RA.back λ b hb=>h b (B4 _ hb))
theorem RA.keep {H H':Hp} (k:∀a xs,H a= ~~~xs->H' a= ~~~xs) {as:List Addr} {ps:List Rst} (h:Paired (RA H) as ps):Paired (RA H') as ps:=EX h λ a p e=>k _ _ e
section
variable {P:EQ} {w:ES} {K:C4} {mg:Str->Option ET} {base:Heap}
inductive spRests (C:Addr) (vs:List V) (H:Hp) (Q:VK) (E_:XK):Prop
 | mk (pp s:Addr) (b w h:Int) (ks:List Kd) (v:V) (d:PyData) (t:Tr) (e_1:vs=[.ref s,.int w,.int h,v]) (e_2:TrH C pp s b w h ks v d t H) (e_3:∀ (l:Addr) (as:List Addr) (ps:List Rst) (H':Hp),H l=none->H' l=↥(as.map V.ref)->Paired (RA H') as ps->ps.Perm (rE b t w h)->(ps.map gy).Pairwise (λ x y=>bz y x=false)->Same H H'->Q (.ref l) H'):spRests C vs H Q E_
theorem scrests:FnScope ["shop","wide","high","tree","leaves"] ["shop","wide","high","tree"] (defScope dh):=⟨Y,Y,Y,∅,Y,∅,∅⟩
theorem pQ {f C wa:Addr} {fd:ER} (F:Fun K "rests_of" "rests_of" dh f fd) (B:Blt mg) (Z:TrC K mg wa) (DC:Dn P w K mg base "check_tree" ["shop","wide","high","thing"] 7 (spCheckT C)) (DL:Dn P w K mg base "leaves_of" ["shop","wide","high","tree"] 3 (spLeaves C)):FnOk P w K mg base CX0 8 f fd ["shop","wide","high","tree"] (spRests C):=by
 refine F.ok scrests (λ vs H Q E h=>?_) (λ cdv A outer s H vs Q E hr h=>?_)
 ·obtain ⟨pp,s,b,w1,h1,ks,v,d,t,rfl,_⟩:=h
  rfl
 obtain ⟨pp,s,b,w1,h1,ks,v,d,t,rfl,th,q⟩:=h;have nd:=scrests.nd;obtain ⟨trs,hrs⟩:=Z.rs;refine ⟨_,((@bG _ _ _ _ (DC∪((pv 0)^^^((pv 1)^^^((pv 2)^^^((pv 3)^^^ab))))) Y)<<<((4∣(DL∩((pv 0)^^^((pv 1)^^^((pv 2)^^^((pv 3)^^^ab))))))<<<((@aF _ _ _ _ _ _ _ _ _ bW Y B.sorted PyProof.Rows.boot_sorted ((bv (own:=["x","y","part_wide","part_high","leaf"]) (cs:=[]) (cap:=[]) Y (bo (pv 4)) (aP (sc:=defScope dh) (N:=["shop","wide","high","tree","leaves"]) Y Y ∅) (λ _ _ _ _ _=>rD K Y Y (by show List.Nodup (["x","y","part_wide","part_high","leaf"]:List Str) ; decide +kernel) Y Y Y Y Y Y Y Y Y Y) (λ _ _ _ _ _=>(eF ((am (r:=rIx K) bH (pv 4) ad (λ _ _=>Y))<*>bA<*>(aY (v:=.str "rest") Y hrs ⟨trs,Y⟩)))) (λ _ _ _ _ _=>(@ay _ _ _ _ _ ((pv 0)^^^((pv 1)^^^((pv 2)^^^((pv 3)^^^ab)))))))^^^ab) ∅ ∅ Y Y)⁻¹))),?_⟩;have sz:(40000:Nat)<=sizeLine:=∅
 obtain ⟨m1,m2⟩:=TrD.many (b:=b) t d 0 0 w1 h1 th.td;have wd:=th.wd;have ln:=th.ln;refine ⟨_,Y,_,Y,_,Y,_,Y,pp,s,b,w1,h1,ks,v,d,Y,th.sh,th.w1,th.h1,th.dt,⋯,TrD.good t d w1 h1 th.td th.ok,λ H1 s1=>?_⟩;have th1:=th.same s1;refine aw (λ σ' H'=>σ'=[↑s,⇑w1,⇑h1,some v,none]/\H1=H') (λ R hR=>hR _ _ ⟨rfl,rfl⟩) ?_;rintro _ _ ⟨rfl,rfl⟩;refine aw (λ σ' H'=>∃ll us,σ'=[↑s,⇑w1,⇑h1,some v,↑ll]/\H' ll=↥us/\Paired (LfAt pp H1 H') us (lvs b t 0 0 w1 h1)/\Same H1 H') (λ R hR=>?_) ?_
 ·exact ⟨_,Y,_,Y,_,Y,_,Y,pp,s,b,w1,h1,ks,v,d,t,Y,th1.sh,th1.dt,th1.td,⋯,λ ll us H3 hll l3 pu s23=>hR _ _ ⟨ll,us,Y,l3,pu,s23⟩⟩
 rintro _ H2 ⟨ll,us,rfl,l2,pu,s2⟩;have ul:=EC pu;have s02:=s1.trans s2;refine ⟨_,Y,ll,Y,⟨_,EW l2⟩,(bi (K:=K) (.inl l2) (λ i ys Hx=>Same H2 Hx/\∃as,ys=as.map V.ref/\Paired (RA Hx) as (((lvs b t 0 0 w1 h1).take i).filterMap lfR)) (λ i ys Hx _ ⟨sx,_⟩ o e=>sx _ _ e) ⟨Same.refl _,[],Y,.nil⟩ ?_ ?_).1 l2⟩
 ·rintro i x ys Hx hi ⟨sx,as,rfl,px⟩;have hin:i < us.length:=(A6.mp hi).1;obtain ⟨f,hf,a,u,du,rfl,ha,hdu,tdu⟩:=EY pu hi;have yl:=EC px;have fml:(((lvs b t 0 0 w1 h1).take i).filterMap lfR).length<=i:=C5 (List.length_filterMap_le _ _) (by rw [List.length_take]; omega);have tk:(lvs b t 0 0 w1 h1).take (i + 1)=(lvs b t 0 0 w1 h1).take i ++ [f]:=by rw [List.take_add_one,hf]; rfl
  have hdx:Dt pp Hx u du:=hdu.same (s2.trans sx);refine ⟨by rw [List.length_map]; omega,a,_,Y,EV (sx _ _ ha),Y,_,_,Y,_,_,Y,_,_,Y,_,_,Y,_,_,Y,Y,kr (kr (kr (kr (leS.set rfl) (leS.set rfl)) (leS.set rfl)) (leS.set rfl)) (leS.set rfl),?_⟩;rcases bt b t 0 0 w1 h1 f (B5 hf) with et | ⟨ki,c,px',py',et⟩
  ·rw [et] at tdu;obtain ⟨a', xs, rfl, hx, dxs⟩:=hdx.ref_row (show aN du=some [.str "rest"] from tdu);cases dxs with
   | cons hd0 dxs =>
   cases hd0;cases dxs;refine ⟨_,Y,ixR (Same.refl _) hx (aG (EE _) rfl) ⟨Y,_,Y,?_⟩⟩;refine aS ⟨_,rfl,_,rfl,_,rfl,_,rfl,zS4,λ tp htp=>Nx.of hin ⟨sx.trans (EU htp),as ++ [tp],by rw [List.map_append]; rfl,?_⟩⟩;rw [tk,List.filterMap_append,show [f].filterMap lfR=[⟨f.x,f.y,f.w,f.h⟩] by rw [List.filterMap_cons,show lfR f=some ⟨f.x,f.y,f.w,f.h⟩ by unfold lfR; rw [et]]; rfl];exact dW (RA.keep (λ a xs e=>EU htp _ _ e) px) (.cons af .nil)
  ·rw [et] at tdu;obtain ⟨a', xs, rfl, hx, dxs⟩:=hdx.ref_row (show aN du=some [.str "piece", .int ki, .bool c, .int px', .int py'] from tdu);cases dxs with
   | cons hd0 dxs =>
   cases hd0;refine ⟨_,Y,ixR (Same.refl _) hx (aG (EE _) rfl) ⟨Y,_,Y,?_⟩⟩;refine aJ (Nx.of hin ⟨sx,as,rfl,?_⟩);rw [tk,List.filterMap_append,show [f].filterMap lfR=[] by rw [List.filterMap_cons,show lfR f=none by unfold lfR; rw [et]]; rfl,List.append_nil];exact px
 ·rintro ys Hx ⟨sx,as,rfl,px⟩;have yl:=EC px;rw [ul,List.take_length] at px yl;have fml:((lvs b t 0 0 w1 h1).filterMap lfR).length<=(lvs b t 0 0 w1 h1).length:=List.length_filterMap_le _ _;refine ⟨by rw [List.length_map]; omega,λ cl hcl=>?_⟩;have s4:=EU hcl (o:=.lst (as.map V.ref));have k4:(upd Hx cl (.lst (as.map V.ref))) cl=↥(as.map V.ref):=af;generalize upd Hx cl (.lst (as.map V.ref))=H4 at s4 k4 ⊢;have pa4:Paired (RA H4) as ((lvs b t 0 0 w1 h1).filterMap lfR):=RA.keep (λ a xs e=>s4 _ _ e) px;have mem:=RA.mem pa4;have mp:=RA.map pa4;refine ⟨cl,as,[false,false,false,false],λ a=>gy (cZ H4 a),Y,EW k4,⋯,Y,λ a ha=>⟨_,EV (mem a ha),Y⟩,λ l as' hl pa so=>?_⟩;have s5:=EU hl (o:=.lst (as'.map V.ref));have s05:=(s02.trans sx).trans s4;refine q l as' (as'.map (cZ H4)) _ (s05.free hl) af (RA.keep (λ a xs e=>s5 _ _ e) (RA.back λ a ha=>mem a (pa.mem_iff.mp ha))) ?_ ?_ (s05.trans s5)
  ·rw [show rE b t w1 h1=as.map (cZ H4) from mp.symm]; exact pa.map _
  ·rw [List.map_map]; exact so
end
def pcA (ks:List Kd) (f:Lf):Int:=match f.t with
 | .piece i c _ _=>(match ks[i]? with
  | some k=>sd1 k c * sd2 k c
  | none=>0)
 | _=>0
def rsA (f:Lf):Int:=match f.t with
 | .rest=>f.w * f.h
 | _=>0
def mgA (ks:List Kd) (f:Lf):Int:=match f.t with
 | .piece _ _ _ _=>f.w * f.h - pcA ks f
 | _=>0
def bm (g:Lf->Int) (fs:List Lf):Int:=(fs.map g).sum
theorem ce (g:Lf->Int) (fs:List Lf) (f:Lf):bm g (fs ++ [f])=bm g fs + g f:=by unfold bm; rw [List.map_append,List.sum_append]; simp
theorem jt (g:Lf->Int) (fs gs:List Lf):bm g (fs ++ gs)=bm g fs + bm g gs:=by unfold bm; rw [List.map_append,List.sum_append]
theorem dR {b:Int} {ks:List Kd} (b0:0<=b):∀ (t:Tr) (x y w h:Int),1<=w->1<=h->okT b ks w h t->∀f∈lvs b t x y w h,1<=f.w/\f.w<=w/\1<=f.h/\f.h<=h/\okT b ks f.w f.h f.t
 | .rest,x,y,w,h,w0,h0,ok,f,hf=>by cases EB.mp hf; exact ⟨w0,EE _,h0,EE _,ok⟩
 | .piece ..,x,y,w,h,w0,h0,ok,f,hf=>by cases EB.mp hf; exact ⟨w0,EE _,h0,EE _,ok⟩
 | .cut true p l r,x,y,w,h,w0,h0,⟨p1,hp,hl,hr⟩,f,hf=>by
  rw [lvs] at hf;rcases C2.mp hf with z | z
  ·have:=dR b0 r _ _ _ _ ⋯ h0 hr f z;exact ⟨this.1,⋯,this.2.2.1,this.2.2.2.1,this.2.2.2.2⟩
  ·have:=dR b0 l _ _ _ _ p1 h0 hl f z;exact ⟨this.1,⋯,this.2.2.1,this.2.2.2.1,this.2.2.2.2⟩
 | .cut false p l r,x,y,w,h,w0,h0,⟨p1,hp,hl,hr⟩,f,hf=>by
  rw [lvs] at hf;rcases C2.mp hf with z | z
  ·have:=dR b0 r _ _ _ _ w0 ⋯ hr f z;exact ⟨this.1,this.2.1,this.2.2.1,⋯,this.2.2.2.2⟩
  ·have:=dR b0 l _ _ _ _ w0 p1 hl f z;exact ⟨this.1,this.2.1,this.2.2.1,⋯,this.2.2.2.2⟩
section
variable {P:EQ} {w:ES} {K:C4} {mg:Str->Option ET} {base:Heap}
inductive spAreas (C:Addr) (vs:List V) (H:Hp) (Q:VK) (E_:XK):Prop
 | mk (pp s:Addr) (b w h:Int) (ks:List Kd) (v:V) (d:PyData) (t:Tr) (e_1:vs=[.ref s,.int w,.int h,v]) (e_2:TrH C pp s b w h ks v d t H) (e_3:0<=b) (e_4:w<=10 ^ 60) (e_5:h<=10 ^ 60) (e_6:(∀k∈ks,Good k)) (e_7:∀ (l:Addr) (A R M:Int) (H':Hp),A=bm (pcA ks) (lvs b t 0 0 w h)->R=bm rsA (lvs b t 0 0 w h)->M=bm (mgA ks) (lvs b t 0 0 w h)->H l=none->H' l= ~~~[.int A,.int R,.int M,.int (w * h - A - R - M)]->Same H H'->Q (.ref l) H'):spAreas C vs H Q E_
theorem scareas:FnScope ["shop","wide","high","tree","pieces","rests","margins","x","y","part_wide","part_high","leaf","cells","piece_wide","piece_high"] ["shop","wide","high","tree"] (defScope eM):=⟨Y,Y,Y,∅,Y,∅,∅⟩
theorem pR {f C wa:Addr} {fd:ER} (F:Fun K "areas_of" "areas_of" eM f fd) (B:Blt mg) (T:ShopTxt K C) (Z:TrC K mg wa) (MS:Mn P w K mg base C "sides" ["self","kind","turned"] 3 (spSides K C)) (DC:Dn P w K mg base "check_tree" ["shop","wide","high","thing"] 7 (spCheckT C)) (DL:Dn P w K mg base "leaves_of" ["shop","wide","high","tree"] 3 (spLeaves C)):FnOk P w K mg base CX0 8 f fd ["shop","wide","high","tree"] (spAreas C):=by
 refine F.ok scareas (λ vs H Q E h=>?_) (λ cdv A outer s H vs Q E hr h=>?_)
 ·obtain ⟨pp,s,b,w1,h1,ks,v,d,t,rfl,_⟩:=h
  rfl
 obtain ⟨pp,s,b,w1,h1,ks,v,d,t,rfl,th,b0,w60,h60,gk,q⟩:=h;have nd:=scareas.nd;obtain ⟨trs,hrs⟩:=Z.rs;refine ⟨_,((@bG _ _ _ _ (DC∪((pv 0)^^^((pv 1)^^^((pv 2)^^^((pv 3)^^^ab))))) Y)<<<((qU (i:=4) (j:=5) (k:=6) nd Y Y Y Y Y Y ad)<<<((@cy _ _ _ _ _ _ _ _ ED Y (bo (DL∩((pv 0)^^^((pv 1)^^^((pv 2)^^^((pv 3)^^^ab)))))) (aR Y (7•(8•(9•(10•(11•aI)))))) ((12∣((pv 9)|||cQ|||(pv 10)))>>>((((pv 11)&&&bH&&&ad)<*>bA<*>(aY (v:=.str "rest") Y hrs ⟨trs,Y⟩))<|>(@ag _ _ _ (jE (i:=5) nd Y (Or.inl Y) (pv 12) ix))<|>((@be _ _ _ _ _ _ (lq (pv 0) T.cl MS (hr.mono ∅) (((pv 11)&&&bH&&&ad)^^^(((pv 11)&&&bH&&&ad)^^^ab))) (aR Y (13•(14•aI))) Y Y Y)<<<((jE (i:=4) nd Y (Or.inl Y) ((pv 13)|||cQ|||(pv 14)) ix)>>>(jE (i:=6) nd Y (Or.inl Y) ((pv 12)|||aW|||((pv 13)|||cQ|||(pv 14))) ix))))) (by intro _; rfl))<<<((@ay _ _ _ _ _ ((pv 4)^^^((pv 5)^^^((pv 6)^^^((((((pv 1)|||cQ|||(pv 2))|||aW|||(pv 4))|||aW|||(pv 5))|||aW|||(pv 6))^^^ab)))))⁻¹)))),?_⟩;have sz:(40000:Nat)<=sizeLine:=∅
 obtain ⟨m1,m2⟩:=TrD.many (b:=b) t d 0 0 w1 h1 th.td;have wd:=th.wd;have ln:=th.ln;refine ⟨_,Y,_,Y,_,Y,_,Y,pp,s,b,w1,h1,ks,v,d,Y,th.sh,th.w1,th.h1,th.dt,⋯,TrD.good t d w1 h1 th.td th.ok,λ H1 s1=>?_⟩;have th1:=th.same s1;refine aw (λ σ' H'=>σ'=[↑s,⇑w1,⇑h1,some v,none,none,none,none,none,none,none,none,none,none,none]/\H1=H') (λ R hR=>hR _ _ ⟨rfl,rfl⟩) ?_;rintro _ _ ⟨rfl,rfl⟩;refine aw (λ σ' H'=>σ'=[↑s,⇑w1,⇑h1,some v,⇑0,⇑0,⇑0,none,none,none,none,none,none,none,none]/\H1=H') (λ R hR=>hR _ _ ⟨rfl,rfl⟩) ?_;rintro _ _ ⟨rfl,rfl⟩;refine aw (λ σ' H'=>(∃v7 v8 v9 v10 v11 v12 v13 v14,σ'=[↑s,⇑w1,⇑h1,some v,⇑(bm (pcA ks) (lvs b t 0 0 w1 h1)),⇑(bm rsA (lvs b t 0 0 w1 h1)),⇑(bm (mgA ks) (lvs b t 0 0 w1 h1)),v7,v8,v9,v10,v11,v12,v13,v14])/\Same H H') (λ R hR=>?_) ?_
 ·refine ⟨_,Y,_,Y,_,Y,_,Y,pp,s,b,w1,h1,ks,v,d,t,Y,th1.sh,th1.dt,th1.td,⋯,λ ll us H3 hll l3 pu s13=>?_⟩;have s03:=s1.trans s13;have ul:=EC pu;refine ⟨ll,Y,⟨_,EW l3⟩,eC (xs:=us) (λ i σ' H'=>(∃v7 v8 v9 v10 v11 v12 v13 v14,σ'=[↑s,⇑w1,⇑h1,some v,⇑(bm (pcA ks) ((lvs b t 0 0 w1 h1).take i)),⇑(bm rsA ((lvs b t 0 0 w1 h1).take i)),⇑(bm (mgA ks) ((lvs b t 0 0 w1 h1).take i)),v7,v8,v9,v10,v11,v12,v13,v14])/\Same H3 H') ⟨⟨_,_,_,_,_,_,_,_,Y⟩,Same.refl _⟩ (λ i σ H' _ h=>EW (h.2 _ _ l3)) ?_ ?_⟩
  ·rintro i x σ H4 hi ⟨⟨v7,v8,v9,v10,v11,v12,v13,v14,rfl⟩,s34⟩;obtain ⟨f,hf,a,u,du,rfl,ha,hdu,tdu⟩:=EY pu hi;have tk:(lvs b t 0 0 w1 h1).take (i + 1)=(lvs b t 0 0 w1 h1).take i ++ [f]:=by rw [List.take_add_one,hf]; rfl
   obtain ⟨fw0,fw1,fh0,fh1,okf⟩:=dR b0 t 0 0 w1 h1 th.w1 th.h1 th.ok f (B5 hf);refine ⟨a,_,Y,EV (s34 _ _ ha),Y,_,_,Y,_,_,Y,_,_,Y,_,_,Y,_,_,Y,Y,?_⟩;refine ⟨_,Y,_,Y,_,_,Y,Y,⟨b60 ⋯ ⋯,b60 ⋯ ⋯⟩,?_⟩;have s04:=s03.trans s34;have hdu4:Dt pp H4 u du:=hdu.same (s13.trans s34);rcases bt b t 0 0 w1 h1 f (B5 hf) with et | ⟨ki,c,px,py,et⟩
   ·rw [et] at tdu;obtain ⟨a', xs, rfl, hx, dxs⟩:=hdu4.ref_row (show aN du=some [.str "rest"] from tdu);cases dxs with
    | cons hd0 dxs =>
    cases hd0;cases dxs;have e1:pcA ks f=0:=by unfold pcA; rw [et]
    have e2:rsA f=f.w * f.h:=by unfold rsA; rw [et]
    have e3:mgA ks f=0:=by unfold mgA; rw [et]
    refine ⟨_,Y,ixR (Same.refl _) hx (aG (EE _) rfl) ⟨Y,_,Y,?_⟩⟩;refine aS ⟨_,rfl,_,rfl,_,_,rfl,rfl,?_⟩;refine ⟨?_,s34⟩;rw [tk,ce,ce,ce,e1,e2,e3,Int.add_zero,Int.add_zero];exact ⟨_,_,_,_,_,_,_,_,Y⟩
   ·rw [et] at tdu okf;obtain ⟨k,hk,hc,x0,y0,hxw,hyh⟩:=okf;have gk1:=gk k (B5 hk);have sw:=gk1.w;have sh:=gk1.h;have sb:1<=sd1 k c/\1<=sd2 k c:=by cases c <;> exact ⟨by assumption,by assumption⟩
    obtain ⟨a', xs, rfl, hx, dxs⟩:=hdu4.ref_row (show aN du=some [.str "piece", .int ki, .bool c, .int px, .int py] from tdu);cases dxs with
    | cons hd0 dxs =>
    cases dxs with
    | cons hd1 dxs =>
    cases dxs with
    | cons hd2 dxs =>
    cases dxs with
    | cons hd3 dxs =>
    cases dxs with
    | cons hd4 dxs =>
    cases dxs;cases hd0; cases hd1; cases hd2; cases hd3; cases hd4;have e1:pcA ks f=sd1 k c * sd2 k c:=by unfold pcA; rw [et]; dsimp only; rw [hk]
    have e2:rsA f=0:=by unfold rsA; rw [et]
    have e3:mgA ks f=f.w * f.h - sd1 k c * sd2 k c:=by unfold mgA; rw [et]; dsimp only; rw [e1]
    refine ⟨_,Y,ixR (Same.refl _) hx (aG (EE _) rfl) ⟨Y,_,Y,?_⟩⟩;refine aJ ?_;have SH4:=eN s04 th.sh;obtain ⟨dx,r,rs,S1,S2,S3⟩:=id SH4;refine ⟨_,Y,s,dx,_,Y,S1,(cu _ _ ∅ ∅),_,Y,ixR (Same.refl _) hx (aG ∅ rfl) ⟨_,Y,ixR (Same.refl _) hx (aG ∅ rfl) ?_⟩⟩;refine ⟨s,b,ks,.int ki,.bl c,_,_,Y,SH4,Ty.int,Ty.bl,fT hk hc,λ i' c' k' p e1' e2' hk' _ hp=>?_⟩;cases e1';cases e2';rw [Int.toNat_natCast,hk] at hk';cases hk';rw [jm];have s5:=EU hp (o:=.tup [.int (sd1 k c),.int (sd2 k c)]);have k5:(upd H4 p (.tup [.int (sd1 k c),.int (sd2 k c)])) p= ~~~[.int (sd1 k c),.int (sd2 k c)]:=af;generalize upd H4 p (.tup [.int (sd1 k c),.int (sd2 k c)])=H5 at s5 k5 ⊢;refine ⟨p,_,Y,EV k5,Y,_,_,Y,_,_,Y,Y,?_⟩;have q1:=b60 (show 0<=sd1 k c by omega) ⋯;have q2:=b60 (show 0<=sd2 k c by omega) ⋯;refine ⟨_,Y,_,Y,_,Y,_,_,Y,Y,⟨q1,q2⟩,_,_,Y,Y,?_⟩;refine ⟨_,Y,_,Y,_,Y,_,Y,_,_,Y,Y,⟨q1,q2⟩,_,_,Y,Y,_,_,Y,Y,?_⟩;refine ⟨?_,s34.trans s5⟩;rw [tk,ce,ce,ce,e1,e2,e3,Int.add_zero];exact ⟨_,_,_,_,_,_,_,_,Y⟩
  ·rintro σ H4 ⟨⟨v7,v8,v9,v10,v11,v12,v13,v14,rfl⟩,s34⟩;rw [ul,List.take_length];exact hR _ _ ⟨⟨_,_,_,_,_,_,_,_,rfl⟩,s03.trans s34⟩
 rintro _ H3 ⟨⟨v7,v8,v9,v10,v11,v12,v13,v14,rfl⟩,s3⟩;obtain ⟨A,hA⟩:∃A,A=bm (pcA ks) (lvs b t 0 0 w1 h1):=⟨_,Y⟩
 obtain ⟨R,hR⟩:∃R,R=bm rsA (lvs b t 0 0 w1 h1):=⟨_,Y⟩
 obtain ⟨M,hM⟩:∃M,M=bm (mgA ks) (lvs b t 0 0 w1 h1):=⟨_,Y⟩
 rw [<- hA,<- hR,<- hM];have w0:=th.w1;have h0:=th.h1;refine ⟨_,Y,_,Y,_,Y,_,Y,_,Y,_,_,Y,Y,⟨b60 ⋯ ⋯,b60 ⋯ ⋯⟩,_,Y,_,_,Y,Y,_,Y,_,_,Y,Y,_,Y,_,_,Y,Y,zS4,λ l hl=>?_⟩;exact q l A R M _ hA hR hM (s3.free hl) af (s3.trans (EU hl))
end
theorem mU (dn:Bool) (p:Int) (l r:Tr):(toD (.cut dn p l r)).depth=max (toD l).depth (toD r).depth + 1/\wt (toD (.cut dn p l r))<=wt (toD l) + wt (toD r) + 9:=by
 constructor
 ·show PyData.depthAll [.str (if dn=true then "down" else "across"),.int p,toD l,toD r] + 1=_;simp only [PyData.depthAll,PyData.depth];omega
 ·show wt (.str (if dn=true then "down" else "across")) + (1 + (wt (toD l) + (wt (toD r) + 0))) + 1<=_;have:wt (.str (if dn=true then "down" else "across"))<=7:=by cases dn <;> decide +kernel
  omega
def gz (dn:Bool) (u s:Int):Nat->Tr
 | 0=>.rest
 | i + 1=>.cut dn (u + s * i) (gz dn u s i) .rest
theorem iO {b u:Int} {ks:List Kd} {dn:Bool} (b0:0<=b) (u0:1<=u):∀ (i:Nat) (w h:Int),(if dn=true then w else h)=u + (b + 1) * i->okT b ks w h (gz dn u (b + 1) i)
 | 0,_,_,_=>trivial
 | i + 1,w,h,hs=>by
  have e:(b + 1) * ((i + 1:Nat):Int)=(b + 1) * (i:Int) + (b + 1):=by rw [Int.natCast_add,Int.mul_add]; simp
  have e0:0<=(b + 1) * (i:Int):=Int.mul_nonneg ⋯ ⋯;rw [e] at hs;cases dn with
  | true =>
   have hs:w=u + ((b + 1) * i + (b + 1)):=hs;exact ⟨⋯,⋯,iO (dn:=true) b0 u0 i _ _ rfl,trivial⟩
  | false =>
   have hs:h=u + ((b + 1) * i + (b + 1)):=hs;exact ⟨⋯,⋯,iO (dn:=false) b0 u0 i _ _ rfl,trivial⟩
theorem rest_m:(toD .rest).depth=1/\wt (toD .rest)=6:=⟨∅,∅⟩
theorem pS (dn:Bool) (u s:Int):∀i:Nat,(toD (gz dn u s i)).depth=i + 1/\wt (toD (gz dn u s i))<=6 + 15 * i/\lvN (gz dn u s i)=i + 1
 | 0=>⟨rest_m.1,Nat.le_of_eq rest_m.2,Y⟩
 | i + 1=>by
  have h:=pS dn u s i;have c:=mU dn (u + s * i) (gz dn u s i) .rest;have r:=rest_m;refine ⟨?_,?_,?_⟩
  ·show (toD (.cut dn (u + s * i) (gz dn u s i) .rest)).depth=_;omega
  ·show wt (toD (.cut dn (u + s * i) (gz dn u s i) .rest))<=_;omega
  ·show lvN (gz dn u s i) + 1=_;omega
section
variable {P:EQ} {w:ES} {K:C4} {mg:Str->Option ET} {base:Heap}
def kB:Sp:=λ vs H Q _=>∃ (p:Addr) (b w h:Int) (dn:Bool),vs=[.ref p,.int b,.int w,.int h,.bl dn]/\0<=b/\b<=3/\PotAt H p/\∀ (v:V) (t:Tr) (H':Hp),TrV H' t v->(∀ks,okT b ks w h t)->(toD t).depth<=4->wt (toD t)<=51->lvN t<=4->PotAt H' p->But p H H'->Q v H'
def gA:Sp:=λ vs H Q _=>∃ (p st l:Addr) (b:Int) (rs:List V) (ks:List Kd) (w h:Int),vs=[.ref p,.ref st,.int w,.int h]/\H st= ~~~[.int b,.ref l]/\H l=↥rs/\l≠p/\Tups H rs ks/\rs.length<=8/\(∀k∈ks,Good k)/\0<=b/\b<=3/\1<=w/\w < 10 ^ 60/\1<=h/\h < 10 ^ 60/\PotAt H p/\∀ (v:V) (t:Tr) (H':Hp),TrV H' t v->okT b ks w h t->(toD t).depth<=4->wt (toD t)<=51->lvN t<=4->PotAt H' p->But p H H'->Q v H'
def gB:Sp:=λ vs H Q _=>∃ (p st l pa:Addr) (b:Int) (rs:List V) (ks:List Kd) (w h:Int) (v:V) (t:Tr),vs=[.ref p,.ref st,.ref pa,v]/\H pa= ~~~[.int w,.int h]/\H st= ~~~[.int b,.ref l]/\H l=↥rs/\l≠p/\Tups H rs ks/\rs.length<=8/\(∀k∈ks,Good k)/\0<=b/\b<=3/\1<=w/\w < 10 ^ 59/\1<=h/\h < 10 ^ 59/\TrV H t v/\okT b ks w h t/\PotAt H p/\∀ (a qa:Addr) (v':V) (t':Tr) (w' h':Int) (H':Hp),H' a= ~~~[.ref qa,v']->H' qa= ~~~[.int w',.int h']->1<=w'->w'<=w + 8->1<=h'->h'<=h + 8->TrV H' t' v'->okT b ks w' h' t'->(toD t').depth<=max (toD t).depth 4 + 1->wt (toD t')<=wt (toD t) + 60->lvN t'<=lvN t + 4->PotAt H' p->But p H H'->Q (.ref a) H'
def PlT (b:Int) (ks:List Kd) (H:Hp) (a:Addr) (w h:Int) (t:Tr):Prop:=∃ (qa:Addr) (v:V),H a= ~~~[.ref qa,v]/\H qa= ~~~[.int w,.int h]/\1<=w/\w<=500/\1<=h/\h<=500/\TrV H t v/\okT b ks w h t/\(toD t).depth<=60/\wt (toD t)<=3371/\lvN t<=225
def kC:Sp:=λ vs H Q _=>∃ (p st l:Addr) (b:Int) (rs:List V) (ks:List Kd),vs=[.ref p,.ref st]/\H st= ~~~[.int b,.ref l]/\H l=↥rs/\l≠p/\Tups H rs ks/\rs.length<=8/\(∀k∈ks,Good k)/\0<=b/\b<=3/\PotAt H p/\∀ (a:Addr) (w h:Int) (t:Tr) (H':Hp),PlT b ks H' a w h t->PotAt H' p->But p H H'->Q (.ref a) H'
theorem sclrow:FnScope ["_law_pot_here","_law_blade","_law_wide","_law_high","_law_down","_law_many","_law_tree","_law_used","_law_k"] ["_law_pot_here","_law_blade","_law_wide","_law_high","_law_down"] (defScope lJ):=⟨Y,Y,Y,∅,Y,∅,∅⟩
theorem rF {f:Addr} {fd:ER} (F:Fun K "_law_row" "_law_row" lJ f fd) (B:Blt mg) (DD:Dn P w K mg base "_law_draw" ["_law_pot_here","_law_many"] 1 (cz)):FnOk P w K mg base CX0 2 f fd ["_law_pot_here","_law_blade","_law_wide","_law_high","_law_down"] (kB):=by
 refine F.ok sclrow (λ vs H Q E h=>?_) (λ cdv A outer s H vs Q E hr h=>?_)
 ·obtain ⟨p,b,w1,h1,dn,rfl,_⟩:=h
  rfl
 obtain ⟨p,b,w1,h1,dn,rfl,b0,b3',pt,q⟩:=h;have nd:=sclrow.nd;refine ⟨_,((5∣(DD∪((pv 0)^^^(ad^^^ab))))<<<(((PW.pt (cB ((pv 5)<*>iX<*>ad) (cf (((@br _ _ _ _ ((pv 3)^^^((pv 2)^^^ab)))&&&ix_list&&&(@bC _ _ _ _ _ _ _ _ _ cD Y B.int PyProof.Rows.boot_int ((pv 4)^^^ab) ∅ ∅ Y Y))<*>iX<*>((pv 5)|||aD|||(((pv 5)|||aW|||ad)|||cg|||(pv 1)))))))<|>((@ay _ _ _ _ _ (bq^^^ab))⁻¹)<|>aA)<<<((6∣(@ay _ _ _ _ _ (bq^^^ab)))<<<((7∣(((@br _ _ _ _ ((pv 3)^^^((pv 2)^^^ab)))&&&ix_list&&&(@bC _ _ _ _ _ _ _ _ _ cD Y B.int PyProof.Rows.boot_int ((pv 4)^^^ab) ∅ ∅ Y Y))|||aW|||(((pv 5)|||aW|||ad)|||cg|||((pv 1)|||aD|||ad))))<<<((@cy _ _ _ _ _ _ _ _ ED Y (dA Y B.range (((pv 5)|||aW|||ad)^^^ab)) (ai (i:=8) nd Y (Or.inl Y)) ((6∣(@ay _ _ _ _ _ (((@br _ _ _ _ (bq^^^(bq^^^ab)))&&&ix_list&&&(@bC _ _ _ _ _ _ _ _ _ cD Y B.int PyProof.Rows.boot_int ((pv 4)^^^ab) ∅ ∅ Y Y))^^^((pv 7)^^^((pv 6)^^^((@ay _ _ _ _ _ (bq^^^ab))^^^ab))))))>>>(7∣(((pv 7)|||aD|||(pv 1))|||aD|||ad))) (by intro _; rfl))<<<((pv 6)⁻¹)))))),?_⟩;have e60:(100:Int) < 10 ^ 60:=∅
 have kT:∀ {Hx Hy:Hp},PotAt Hx p->But p Hx Hy->∀a xs,Hx a= ~~~xs->Hy a= ~~~xs:=λ {Hx Hy} px bx a xs e=>by obtain ⟨_,hp⟩:=dv px;exact bx _ _ (λ z=>by rw [z,hp] at e; cases e) e
 refine aw (λ σ' H'=>∃m:Int,σ'=[↑p,⇑b,⇑w1,⇑h1,some (.bl dn),⇑m,none,none,none]/\0<=m/\m < 5/\PotAt H' p/\But p H H') (λ R hR=>?_) ?_
 ·exact ⟨_,Y,p,5,Y,pt,∅,∅,λ m H1 m0 m1 pt1 b1=>hR _ _ ⟨m,Y,m0,m1,pt1,b1⟩⟩
 rintro _ H1 ⟨m,rfl,m0,m1,pt1,b1⟩;have leaf:∀Hx,But p H Hx->PotAt Hx p->1<=sizeLine/\∀t,Hx t=none->Q (.ref t) (upd Hx t (.tup [.str "rest"])):=λ Hx bx ptx=>⟨∅,λ t ht=>by
  obtain ⟨H3,e3,k3,n3,s3,b3,pt3⟩:=bN (o:=.tup [.str "rest"]) bx ptx ht;rw [show upd Hx t _=H3 from e3];exact q _ .rest H3 ⟨t,rfl,k3⟩ (λ _=>trivial) (by rw [rest_m.1]; decide) (by rw [rest_m.2]; decide) (by show 1<=4; decide) pt3 b3⟩
 obtain ⟨sd,hsd⟩:∃sd,(if dn=true then w1 else h1)=sd:=⟨_,Y⟩
 refine aw (λ σ' H'=>σ'=[↑p,⇑b,⇑w1,⇑h1,some (.bl dn),⇑m,none,none,none]/\2<=m/\m + (m - 1) * b<=sd/\PotAt H' p/\But p H H') (λ R hR=>?_) ?_
 ·refine ⟨_,Y,_,_,Y,Y,_,Y,?_⟩
  by_cases c1:m < 2
  ·rw [decide_eq_true c1];exact aS (aS (leaf _ b1 pt1))
  rw [decide_eq_false c1];refine aJ ⟨_,rfl,_,rfl,zS2,λ l hl=>?_⟩;obtain ⟨H2,e2,k2,n2,s2,b2,pt2⟩:=bN (o:=.lst [.int h1,.int w1]) b1 pt1 hl;rw [show upd H1 l _=H2 from e2];refine ⟨_,Y,.inr ⟨dn,Y,l,_,_,.int sd,Y,Y,EW k2,(by rw [<- hsd]; cases dn <;> rfl),?_⟩⟩;refine ⟨_,Y,_,Y,_,_,Y,Y,_,Y,_,_,Y,Y,.inl ⟨⋯,⋯⟩,_,_,Y,Y,_,_,Y,Y,_,Y,?_⟩
  by_cases c2:sd < m + (m - 1) * b
  ·rw [decide_eq_true c2];exact aS (leaf _ b2 pt2)
  rw [decide_eq_false c2];exact aJ (hR _ _ ⟨rfl,⋯,⋯,pt2,b2⟩)
 clear pt1 b1 H1;rintro _ H1 ⟨rfl,m2,hms,pt1,b1⟩;refine aw (λ σ' H'=>∃v:V,σ'=[↑p,⇑b,⇑w1,⇑h1,some (.bl dn),⇑m,some v,none,none]/\TrV H' .rest v/\PotAt H' p/\But p H H') (λ R hR=>?_) ?_
 ·refine ⟨∅,λ t ht=>?_⟩;obtain ⟨H2,e2,k2,n2,s2,b2,pt2⟩:=bN (o:=.tup [.str "rest"]) b1 pt1 ht;rw [show upd H1 t _=H2 from e2];exact hR _ _ ⟨_,rfl,⟨t,rfl,k2⟩,pt2,b2⟩
 rintro _ H2 ⟨v,rfl,tv,pt2,b2⟩;obtain ⟨u,hu⟩:∃u:Int,sd - (m - 1) * (b + 1)=u:=⟨_,Y⟩
 have em:((m - 1).toNat:Int)=m - 1:=⋯
 have e1:(m - 1) * (b + 1)=(m - 1) * b + (m - 1):=by rw [Int.mul_add]; omega
 have u1:1<=u:=⋯
 refine aw (λ σ' H'=>σ'=[↑p,⇑b,⇑w1,⇑h1,some (.bl dn),⇑m,some v,⇑u,none]/\TrV H' .rest v/\PotAt H' p/\But p H H') (λ R hR=>?_) ?_
 ·refine ⟨_,Y,_,Y,zS2,λ l hl=>?_⟩;obtain ⟨H3,e3,k3,n3,s3,b3,pt3⟩:=bN (o:=.lst [.int h1,.int w1]) b2 pt2 hl;rw [show upd H2 l _=H3 from e3];refine ⟨_,Y,.inr ⟨dn,Y,l,_,_,.int sd,Y,Y,EW k3,(by rw [<- hsd]; cases dn <;> rfl),?_⟩⟩;refine ⟨_,Y,_,_,Y,Y,_,Y,_,_,Y,Y,_,_,Y,Y,.inl ⟨⋯,⋯⟩,_,_,Y,Y,?_⟩;rw [hu];exact hR _ _ ⟨rfl,TrV.keep (λ a xs e=>s3 _ _ e) _ tv,pt3,b3⟩
 rintro _ H3 ⟨rfl,tv3,pt3,b3⟩;refine aw (λ σ' H'=>∃ (v:V) (v7 v8:Option V),σ'=[↑p,⇑b,⇑w1,⇑h1,some (.bl dn),⇑m,some v,v7,v8]/\TrV H' (gz dn u (b + 1) (m - 1).toNat) v/\PotAt H' p/\But p H H') (λ R hR=>?_) ?_
 ·refine ⟨_,Y,_,_,Y,Y,_,Y,⋯,⋯,dB (lo:=0) (n:=(m - 1).toNat) (λ i σ' H'=>∃ (v:V) (v8:Option V),σ'=[↑p,⇑b,⇑w1,⇑h1,some (.bl dn),⇑m,some v,⇑(u + (b + 1) * i),v8]/\TrV H' (gz dn u (b + 1) i) v/\PotAt H' p/\But p H H') ⟨v,none,by simp,tv3,pt3,b3⟩ ?_ (λ σ H1 ⟨v,v8,e,tv,pt1,b1⟩=>hR _ _ ⟨v,_,v8,e,tv,pt1,b1⟩)⟩;rintro i σ H4 hi ⟨v,v8,rfl,tv,pt4,b4⟩;refine ⟨zS2,λ l hl=>?_⟩;obtain ⟨H5,e5,k5,n5,s5,b5,pt5⟩:=bN (o:=.lst [.str "across",.str "down"]) b4 pt4 hl;rw [show upd H4 l _=H5 from e5];refine ⟨_,Y,.inr ⟨dn,Y,l,_,_,.str (if dn=true then "down" else "across"),Y,Y,EW k5,(by cases dn <;> rfl),_,Y,_,Y,∅,λ t ht=>?_⟩⟩;obtain ⟨H6,e6,k6,n6,s6,b6,pt6⟩:=bN (o:=.tup [.str "rest"]) b5 pt5 ht;rw [show upd H5 t _=H6 from e6];refine ⟨zS4,λ c hc=>?_⟩;obtain ⟨H7,e7,k7,n7,s7,b7,pt7⟩:=bN (o:=.tup [.str (if dn=true then "down" else "across"),.int (u + (b + 1) * i),v,.ref t]) b6 pt6 hc;rw [show upd H6 c _=H7 from e7];refine ⟨_,Y,_,Y,_,_,Y,Y,_,_,Y,Y,?_⟩;have ei:u + (b + 1) * (i:Int) + b + 1=u + (b + 1) * ((i + 1:Nat):Int):=by rw [Int.natCast_add,Int.mul_add (b + 1)]; simp; omega
  rw [ei];exact ⟨_,_,Y,⟨c,_,_,Y,k7,TrV.keep (λ a xs e=>s7 _ _ (s6 _ _ (s5 _ _ e))) _ tv,⟨t,Y,s7 _ _ k6⟩⟩,pt7,b7⟩
 rintro _ H4 ⟨v,v7,v8,rfl,tv,pt4,b4⟩;have rm:=pS dn u (b + 1) (m - 1).toNat;exact ⟨_,Y,q v _ H4 tv (λ ks=>iO b0 u1 _ _ _ (by rw [em,hsd,Int.mul_comm]; omega)) ⋯ ⋯ ⋯ pt4 b4⟩
theorem scbeside:FnScope ["_law_pot_here","_law_shop_here","_law_wide","_law_high"] ["_law_pot_here","_law_shop_here","_law_wide","_law_high"] (defScope fR):=⟨Y,Y,Y,∅,Y,∅,∅⟩
theorem mV {f:Addr} {fd:ER} (F:Fun K "_law_beside" "_law_beside" fR f fd) (B:Blt mg) (DD:Dn P w K mg base "_law_draw" ["_law_pot_here","_law_many"] 1 (cz)) (DL:Dn P w K mg base "_law_leaf" ["_law_pot_here","_law_kinds","_law_wide","_law_high"] 2 (spLeafL)) (DR:Dn P w K mg base "_law_row" ["_law_pot_here","_law_blade","_law_wide","_law_high","_law_down"] 2 (kB)):FnOk P w K mg base CX0 3 f fd ["_law_pot_here","_law_shop_here","_law_wide","_law_high"] (gA):=by
 refine F.ok scbeside (λ vs H Q E h=>?_) (λ cdv A outer s H vs Q E hr h=>?_)
 ·obtain ⟨p,st,l,b,rs,ks,w1,h1,rfl,_⟩:=h
  rfl
 obtain ⟨p,st,l,b,rs,ks,w1,h1,rfl,hst,hl0,nlp,tp,r8,gk,b0,b3',w0,w60,h0,h60,pt,q⟩:=h;have nd:=scbeside.nd;refine ⟨_,((((DD∩((pv 0)^^^(ad^^^ab)))<*>bA<*>ad)<|>((DL∪((pv 0)^^^(((pv 1)&&&ix_tup&&&ad)^^^((pv 2)^^^((pv 3)^^^ab)))))⁻¹)<|>aA)<<<((DR∪((pv 0)^^^(((pv 1)&&&ix_tup&&&ad)^^^((pv 2)^^^((pv 3)^^^((@bu _ _ _ _ _ _ _ _ bA (DD∩((pv 0)^^^(ad^^^ab))) ad (az _))^^^ab))))))⁻¹)),?_⟩;have kT:∀ {Hx Hy:Hp},PotAt Hx p->But p Hx Hy->∀a xs,Hx a= ~~~xs->Hy a= ~~~xs:=λ {Hx Hy} px bx a xs e=>by obtain ⟨_,hp⟩:=dv px;exact bx _ _ (λ z=>by rw [z,hp] at e; cases e) e
 refine ⟨_,Y,p,2,Y,pt,∅,∅,λ z H1 z0 z1 pt1 b1=>⟨Y,_,Y,?_⟩⟩;have hst1:=kT pt b1 _ _ hst;refine bU (λ cc=>?_) (λ cc=>?_)
 ·refine ⟨_,Y,_,Y,st,_,1,_,Y,Y,EV hst1,Y,_,Y,_,Y,p,l,rs,ks,w1,h1,Y,nlp,b1 _ _ nlp hl0,bL b1 pt tp,r8,gk,w0,w60,h0,h60,pt1,λ v t H' tv ok wl dl pt' b'=>?_⟩;exact q v t H' tv (ok b) ⋯ ⋯ (by rw [eO t dl]; decide) pt' (b1.trans b')
 ·refine ⟨_,Y,_,Y,st,_,0,_,Y,Y,EV hst1,Y,_,Y,_,Y,_,Y,p,2,Y,pt1,∅,∅,λ z2 H2 z20 z21 pt2 b2=>⟨Y,?_⟩⟩;have b12:=b1.trans b2;exact ⟨p,b,w1,h1,_,Y,b0,b3',pt2,λ v t H' tv ok d1 d2 d3 pt' b'=>q v t H' tv (ok ks) d1 d2 d3 pt' (b12.trans b')⟩
theorem scaround:FnScope ["_law_pot_here","_law_shop_here","_law_sides","_law_tree","_law_wide","_law_high","_law_more","_law_other"] ["_law_pot_here","_law_shop_here","_law_sides","_law_tree"] (defScope fS):=⟨Y,Y,Y,∅,Y,∅,∅⟩
theorem mW {f:Addr} {fd:ER} (F:Fun K "_law_around" "_law_around" fS f fd) (B:Blt mg) (DD:Dn P w K mg base "_law_draw" ["_law_pot_here","_law_many"] 1 (cz)) (DB:Dn P w K mg base "_law_beside" ["_law_pot_here","_law_shop_here","_law_wide","_law_high"] 3 (gA)):FnOk P w K mg base CX0 4 f fd ["_law_pot_here","_law_shop_here","_law_sides","_law_tree"] (gB):=by
 refine F.ok scaround (λ vs H Q E h=>?_) (λ cdv A outer s H vs Q E hr h=>?_)
 ·obtain ⟨p,st,l,pa,b,rs,ks,w1,h1,v,t,rfl,_⟩:=h
  rfl
 obtain ⟨p,st,l,pa,b,rs,ks,w1,h1,v,t,rfl,hpa,hst,hl0,nlp,tp,r8,gk,b0,b3',w0,w59,h0,h59,tv,oth,pt,q⟩:=h;have nd:=scaround.nd;refine ⟨_,((@be _ _ _ _ _ _ (pv 2) (aR Y (4•(5•aI))) Y Y Y)<<<((6∣(ad|||aD|||(DD∩((pv 0)^^^(ad^^^ab)))))<<<((((DD∩((pv 0)^^^(ad^^^ab)))<*>bA<*>ad)<|>((7∣(DB∪((pv 0)^^^((pv 1)^^^((pv 6)^^^((pv 5)^^^ab))))))<<<((((DD∩((pv 0)^^^(ad^^^ab)))<*>bA<*>ad)<|>((@ay _ _ _ _ _ ((@ay _ _ _ _ _ ((((pv 4)|||aD|||((pv 1)&&&ix_tup&&&ad))|||aD|||(pv 6))^^^((pv 5)^^^ab)))^^^((@ay _ _ _ _ _ (bq^^^((pv 4)^^^((pv 3)^^^((pv 7)^^^ab)))))^^^ab)))⁻¹)<|>aA)<<<((@ay _ _ _ _ _ ((@ay _ _ _ _ _ ((((pv 4)|||aD|||((pv 1)&&&ix_tup&&&ad))|||aD|||(pv 6))^^^((pv 5)^^^ab)))^^^((@ay _ _ _ _ _ (bq^^^((pv 6)^^^((pv 7)^^^((pv 3)^^^ab)))))^^^ab)))⁻¹)))<|>aA)<<<((7∣(DB∪((pv 0)^^^((pv 1)^^^((pv 4)^^^((pv 6)^^^ab))))))<<<((((DD∩((pv 0)^^^(ad^^^ab)))<*>bA<*>ad)<|>((@ay _ _ _ _ _ ((@ay _ _ _ _ _ ((pv 4)^^^((((pv 5)|||aD|||((pv 1)&&&ix_tup&&&ad))|||aD|||(pv 6))^^^ab)))^^^((@ay _ _ _ _ _ (bq^^^((pv 5)^^^((pv 3)^^^((pv 7)^^^ab)))))^^^ab)))⁻¹)<|>aA)<<<((@ay _ _ _ _ _ ((@ay _ _ _ _ _ ((pv 4)^^^((((pv 5)|||aD|||((pv 1)&&&ix_tup&&&ad))|||aD|||(pv 6))^^^ab)))^^^((@ay _ _ _ _ _ (bq^^^((pv 6)^^^((pv 7)^^^((pv 3)^^^ab)))))^^^ab)))⁻¹)))))),?_⟩;have e60:(10:Int) ^ 59 + 100 < 10 ^ 60:=∅
 have kT:∀ {Hx Hy:Hp},PotAt Hx p->But p Hx Hy->∀a xs,Hx a= ~~~xs->Hy a= ~~~xs:=λ {Hx Hy} px bx a xs e=>by obtain ⟨_,hp⟩:=dv px;exact bx _ _ (λ z=>by rw [z,hp] at e; cases e) e
 refine aw (λ σ' H'=>σ'=[↑p,↑st,↑pa,some v,⇑w1,⇑h1,none,none]/\H=H') (λ R hR=>?_) ?_
 ·exact ⟨_,Y,pa,_,Y,EV hpa,Y,_,_,Y,_,_,Y,Y,hR _ _ ⟨Y,Y⟩⟩
 rintro _ _ ⟨rfl,rfl⟩;refine aw (λ σ' H'=>∃m:Int,σ'=[↑p,↑st,↑pa,some v,⇑w1,⇑h1,⇑(1 + m),none]/\0<=m/\m < 5/\PotAt H' p/\But p H H') (λ R hR=>?_) ?_
 ·exact ⟨_,Y,p,5,Y,pt,∅,∅,λ m H2 m0 m1 pt2 b2=>⟨_,_,Y,Y,hR _ _ ⟨m,Y,m0,m1,pt2,b2⟩⟩⟩
 rintro _ H2 ⟨m,rfl,m0,m1,pt2,b2⟩;refine aw (λ σ' H'=>σ'=[↑p,↑st,↑pa,some v,⇑w1,⇑h1,⇑(1 + m),none]/\PotAt H' p/\But p H H') (λ R hR=>?_) ?_
 ·refine ⟨_,Y,p,2,Y,pt2,∅,∅,λ z H3 _ _ pt3 b23=>⟨Y,_,Y,?_⟩⟩;have b3:=b2.trans b23;refine bU (λ c0=>?_) (λ c0=>hR _ _ ⟨rfl,pt3,b3⟩);refine aw (λ σ' H'=>∃ (v2:V) (t2:Tr),σ'=[↑p,↑st,↑pa,some v,⇑w1,⇑h1,⇑(1 + m),some v2]/\TrV H' t2 v2/\okT b ks (1 + m) h1 t2/\(toD t2).depth<=4/\wt (toD t2)<=51/\lvN t2<=4/\PotAt H' p/\But p H H') (λ R hR=>?_) ?_
  ·exact ⟨_,Y,_,Y,_,Y,_,Y,p,st,l,b,rs,ks,1 + m,h1,Y,kT pt b3 _ _ hst,b3 _ _ nlp hl0,nlp,bL b3 pt tp,r8,gk,b0,b3',⋯,⋯,h0,⋯,pt3,λ v2 t2 H4 tv2 ok2 d1 d2 d3 pt4 b4=>hR _ _ ⟨v2,t2,Y,tv2,ok2,d1,d2,d3,pt4,b3.trans b4⟩⟩
  rintro _ H4 ⟨v2,t2,rfl,tv2,ok2,d1,d2,d3,pt4,b4⟩;refine ⟨_,Y,p,2,Y,pt4,∅,∅,λ z2 Hx _ _ ptx bx4=>⟨Y,_,Y,?_⟩⟩;have bx:=b4.trans bx4;have tvx:=TrV.keep (kT pt bx) _ tv;have tv2x:=TrV.keep (kT pt4 bx4) _ tv2;refine bU (λ c=>?_) (λ c=>?_)
  ·refine ⟨_,Y,_,Y,st,_,0,_,Y,Y,EV (kT pt bx _ _ hst),Y,_,_,Y,Y,_,Y,_,_,Y,Y,_,Y,zS2,λ c1 hc1=>?_⟩;obtain ⟨H7,e7,k7,n7,s7,b7,pt7⟩:=bN (o:=.tup [.int (w1 + b + (1 + m)),.int (h1)]) bx ptx hc1;rw [show upd Hx c1 _=H7 from e7];refine ⟨_,Y,_,Y,_,Y,zS4,λ c2 hc2=>?_⟩;obtain ⟨H8,e8,k8,n8,s8,b8,pt8⟩:=bN (o:=.tup [.str "down",.int (w1),v,v2]) b7 pt7 hc2;rw [show upd H7 c2 _=H8 from e8];refine ⟨zS2,λ c3 hc3=>?_⟩;obtain ⟨H9,e9,k9,n9,s9,b9,pt9⟩:=bN (o:=.tup [.ref c1,.ref c2]) b8 pt8 hc3;rw [show upd H8 c3 _=H9 from e9];have kx:∀a xs,Hx a= ~~~xs->H9 a= ~~~xs:=λ a xs e=>s9 _ _ (s8 _ _ (s7 _ _ e));have cd:=mU true (w1) t t2;have er:w1 + b + (1 + m) - w1 - b=1 + m:=⋯
   exact q c3 c1 (.ref c2) (.cut true (w1) t t2) _ _ H9 k9 (s9 _ _ (s8 _ _ k7)) ⋯ ⋯ ⋯ ⋯ ⟨c2,_,_,rfl,s9 _ _ k8,TrV.keep kx _ tvx,TrV.keep kx _ tv2x⟩ ⟨⋯,by show _/\_/\okT _ _ (w1 + b + (1 + m) - w1 - b) _ _; rw [er]; exact ⟨⋯,oth,ok2⟩⟩ ⋯ ⋯ (by show lvN t + lvN t2<=_; omega) pt9 b9
  ·refine ⟨_,Y,_,Y,st,_,0,_,Y,Y,EV (kT pt bx _ _ hst),Y,_,_,Y,Y,_,Y,_,_,Y,Y,_,Y,zS2,λ c1 hc1=>?_⟩;obtain ⟨H7,e7,k7,n7,s7,b7,pt7⟩:=bN (o:=.tup [.int (w1 + b + (1 + m)),.int (h1)]) bx ptx hc1;rw [show upd Hx c1 _=H7 from e7];refine ⟨_,Y,_,Y,_,Y,zS4,λ c2 hc2=>?_⟩;obtain ⟨H8,e8,k8,n8,s8,b8,pt8⟩:=bN (o:=.tup [.str "down",.int ((1 + m)),v2,v]) b7 pt7 hc2;rw [show upd H7 c2 _=H8 from e8];refine ⟨zS2,λ c3 hc3=>?_⟩;obtain ⟨H9,e9,k9,n9,s9,b9,pt9⟩:=bN (o:=.tup [.ref c1,.ref c2]) b8 pt8 hc3;rw [show upd H8 c3 _=H9 from e9];have kx:∀a xs,Hx a= ~~~xs->H9 a= ~~~xs:=λ a xs e=>s9 _ _ (s8 _ _ (s7 _ _ e));have cd:=mU true ((1 + m)) t2 t;have er:w1 + b + (1 + m) - (1 + m) - b=w1:=⋯
   exact q c3 c1 (.ref c2) (.cut true ((1 + m)) t2 t) _ _ H9 k9 (s9 _ _ (s8 _ _ k7)) ⋯ ⋯ ⋯ ⋯ ⟨c2,_,_,rfl,s9 _ _ k8,TrV.keep kx _ tv2x,TrV.keep kx _ tvx⟩ ⟨⋯,by show _/\_/\okT _ _ (w1 + b + (1 + m) - (1 + m) - b) _ _; rw [er]; exact ⟨⋯,ok2,oth⟩⟩ ⋯ ⋯ (by show lvN t2 + lvN t<=_; omega) pt9 b9
 rintro _ H3 ⟨rfl,pt3,b3⟩;refine aw (λ σ' H'=>∃ (v2:V) (t2:Tr),σ'=[↑p,↑st,↑pa,some v,⇑w1,⇑h1,⇑(1 + m),some v2]/\TrV H' t2 v2/\okT b ks w1 (1 + m) t2/\(toD t2).depth<=4/\wt (toD t2)<=51/\lvN t2<=4/\PotAt H' p/\But p H H') (λ R hR=>?_) ?_
 ·exact ⟨_,Y,_,Y,_,Y,_,Y,p,st,l,b,rs,ks,w1,1 + m,Y,kT pt b3 _ _ hst,b3 _ _ nlp hl0,nlp,bL b3 pt tp,r8,gk,b0,b3',w0,⋯,⋯,⋯,pt3,λ v2 t2 H4 tv2 ok2 d1 d2 d3 pt4 b4=>hR _ _ ⟨v2,t2,Y,tv2,ok2,d1,d2,d3,pt4,b3.trans b4⟩⟩
 rintro _ H4 ⟨v2,t2,rfl,tv2,ok2,d1,d2,d3,pt4,b4⟩;refine ⟨_,Y,p,2,Y,pt4,∅,∅,λ z2 Hx _ _ ptx bx4=>⟨Y,_,Y,?_⟩⟩;have bx:=b4.trans bx4;have tvx:=TrV.keep (kT pt bx) _ tv;have tv2x:=TrV.keep (kT pt4 bx4) _ tv2;refine bU (λ c=>?_) (λ c=>?_)
 ·refine ⟨_,Y,_,Y,_,Y,st,_,0,_,Y,Y,EV (kT pt bx _ _ hst),Y,_,_,Y,Y,_,Y,_,_,Y,Y,zS2,λ c1 hc1=>?_⟩;obtain ⟨H7,e7,k7,n7,s7,b7,pt7⟩:=bN (o:=.tup [.int (w1),.int (h1 + b + (1 + m))]) bx ptx hc1;rw [show upd Hx c1 _=H7 from e7];refine ⟨_,Y,_,Y,_,Y,zS4,λ c2 hc2=>?_⟩;obtain ⟨H8,e8,k8,n8,s8,b8,pt8⟩:=bN (o:=.tup [.str "across",.int (h1),v,v2]) b7 pt7 hc2;rw [show upd H7 c2 _=H8 from e8];refine ⟨zS2,λ c3 hc3=>?_⟩;obtain ⟨H9,e9,k9,n9,s9,b9,pt9⟩:=bN (o:=.tup [.ref c1,.ref c2]) b8 pt8 hc3;rw [show upd H8 c3 _=H9 from e9];have kx:∀a xs,Hx a= ~~~xs->H9 a= ~~~xs:=λ a xs e=>s9 _ _ (s8 _ _ (s7 _ _ e));have cd:=mU false (h1) t t2;have er:h1 + b + (1 + m) - h1 - b=1 + m:=⋯
  exact q c3 c1 (.ref c2) (.cut false (h1) t t2) _ _ H9 k9 (s9 _ _ (s8 _ _ k7)) ⋯ ⋯ ⋯ ⋯ ⟨c2,_,_,rfl,s9 _ _ k8,TrV.keep kx _ tvx,TrV.keep kx _ tv2x⟩ ⟨⋯,by show _/\_/\okT _ _ _ (h1 + b + (1 + m) - h1 - b) _; rw [er]; exact ⟨⋯,oth,ok2⟩⟩ ⋯ ⋯ (by show lvN t + lvN t2<=_; omega) pt9 b9
 ·refine ⟨_,Y,_,Y,_,Y,st,_,0,_,Y,Y,EV (kT pt bx _ _ hst),Y,_,_,Y,Y,_,Y,_,_,Y,Y,zS2,λ c1 hc1=>?_⟩;obtain ⟨H7,e7,k7,n7,s7,b7,pt7⟩:=bN (o:=.tup [.int (w1),.int (h1 + b + (1 + m))]) bx ptx hc1;rw [show upd Hx c1 _=H7 from e7];refine ⟨_,Y,_,Y,_,Y,zS4,λ c2 hc2=>?_⟩;obtain ⟨H8,e8,k8,n8,s8,b8,pt8⟩:=bN (o:=.tup [.str "across",.int ((1 + m)),v2,v]) b7 pt7 hc2;rw [show upd H7 c2 _=H8 from e8];refine ⟨zS2,λ c3 hc3=>?_⟩;obtain ⟨H9,e9,k9,n9,s9,b9,pt9⟩:=bN (o:=.tup [.ref c1,.ref c2]) b8 pt8 hc3;rw [show upd H8 c3 _=H9 from e9];have kx:∀a xs,Hx a= ~~~xs->H9 a= ~~~xs:=λ a xs e=>s9 _ _ (s8 _ _ (s7 _ _ e));have cd:=mU false ((1 + m)) t2 t;have er:h1 + b + (1 + m) - (1 + m) - b=h1:=⋯
  exact q c3 c1 (.ref c2) (.cut false ((1 + m)) t2 t) _ _ H9 k9 (s9 _ _ (s8 _ _ k7)) ⋯ ⋯ ⋯ ⋯ ⟨c2,_,_,rfl,s9 _ _ k8,TrV.keep kx _ tv2x,TrV.keep kx _ tvx⟩ ⟨⋯,by show _/\_/\okT _ _ _ (h1 + b + (1 + m) - (1 + m) - b) _; rw [er]; exact ⟨⋯,ok2,oth⟩⟩ ⋯ ⋯ (by show lvN t2 + lvN t<=_; omega) pt9 b9
theorem scdeep:FnScope ["_law_pot_here","_law_shop_here","_law_sides","_law_tree","_law_k"] ["_law_pot_here","_law_shop_here"] (defScope lK):=⟨Y,Y,Y,∅,Y,∅,∅⟩
theorem rG {f:Addr} {fd:ER} (F:Fun K "_law_deep" "_law_deep" lK f fd) (B:Blt mg) (DD:Dn P w K mg base "_law_draw" ["_law_pot_here","_law_many"] 1 (cz)) (DL:Dn P w K mg base "_law_leaf" ["_law_pot_here","_law_kinds","_law_wide","_law_high"] 2 (spLeafL)) (DA:Dn P w K mg base "_law_around" ["_law_pot_here","_law_shop_here","_law_sides","_law_tree"] 4 (gB)):FnOk P w K mg base CX0 5 f fd ["_law_pot_here","_law_shop_here"] (kC):=by
 refine F.ok scdeep (λ vs H Q E h=>?_) (λ cdv A outer s H vs Q E hr h=>?_)
 ·obtain ⟨p,st,l,b,rs,ks,rfl,_⟩:=h
  rfl
 obtain ⟨p,st,l,b,rs,ks,rfl,hst,hl0,nlp,tp,r8,gk,b0,b3',pt,q⟩:=h;have nd:=scdeep.nd;refine ⟨_,((2∣(@ay _ _ _ _ _ ((ad|||aD|||(DD∩((pv 0)^^^(ad^^^ab))))^^^((ad|||aD|||(DD∩((pv 0)^^^(ad^^^ab))))^^^ab))))<<<((3∣(DL∩((pv 0)^^^(((pv 1)&&&ix_tup&&&ad)^^^(((pv 2)&&&ix_tup&&&ad)^^^(((pv 2)&&&ix_tup&&&ad)^^^ab))))))<<<((@cy _ _ _ _ _ _ _ _ ED Y (dA Y B.range (((@br _ _ _ _ (ad^^^((ad|||aD|||(DD∩((pv 0)^^^(ad^^^ab))))^^^ab)))&&&ix_list&&&(DD∩((pv 0)^^^(ad^^^ab))))^^^ab)) (ai (i:=4) nd Y (Or.inl Y)) (@ag _ _ _ (@be _ _ _ _ _ _ (DA∪((pv 0)^^^((pv 1)^^^((pv 2)^^^((pv 3)^^^ab))))) (aR Y (2•(3•aI))) Y Y Y)) (by intro _; rfl))<<<((@ay _ _ _ _ _ ((pv 2)^^^((pv 3)^^^ab)))⁻¹)))),?_⟩;have e60:(1000:Int) < 10 ^ 59:=∅
 have e61:(1000:Int) < 10 ^ 60:=∅
 have kT:∀ {Hx Hy:Hp},PotAt Hx p->But p Hx Hy->∀a xs,Hx a= ~~~xs->Hy a= ~~~xs:=λ {Hx Hy} px bx a xs e=>by obtain ⟨_,hp⟩:=dv px;exact bx _ _ (λ z=>by rw [z,hp] at e; cases e) e
 refine aw (λ σ' H'=>∃ (pa:Addr) (w1 h1:Int),σ'=[↑p,↑st,↑pa,none,none]/\H' pa= ~~~[.int w1,.int h1]/\1<=w1/\w1<=6/\1<=h1/\h1<=6/\PotAt H' p/\But p H H') (λ R hR=>?_) ?_
 ·refine ⟨_,Y,p,6,Y,pt,∅,∅,λ r1 H1 r10 r11 pt1 b1=>⟨_,_,Y,Y,_,Y,p,6,Y,pt1,∅,∅,λ r2 H2 r20 r21 pt2 b2=>⟨_,_,Y,Y,zS2,λ pa hpa=>?_⟩⟩⟩;obtain ⟨H3,e3,k3,n3,s3,b3,pt3⟩:=bN (o:=.tup [.int (1 + r1),.int (1 + r2)]) (b1.trans b2) pt2 hpa;rw [show upd H2 pa _=H3 from e3];exact hR _ _ ⟨pa,1 + r1,1 + r2,rfl,k3,⋯,⋯,⋯,⋯,pt3,b3⟩
 rintro _ H1 ⟨pa,w1,h1,rfl,hpa,w0,w6,h0,h6,pt1,b1⟩;refine aw (λ σ' H'=>∃ (pa:Addr) (v:V) (t:Tr) (w1 h1:Int) (v6:Option V),σ'=[↑p,↑st,↑pa,some v,v6]/\H' pa= ~~~[.int w1,.int h1]/\1<=w1/\w1<=6 + 8 * (0:Int)/\1<=h1/\h1<=6 + 8 * (0:Int)/\TrV H' t v/\okT b ks w1 h1 t/\(toD t).depth<=4 + 0/\wt (toD t)<=11 + 60 * 0/\lvN t<=1 + 4 * 0/\PotAt H' p/\But p H H') (λ R hR=>?_) ?_
 ·refine ⟨_,Y,_,Y,st,_,1,_,Y,Y,EV (kT pt b1 _ _ hst),Y,_,Y,pa,_,0,_,Y,Y,EV hpa,Y,_,Y,pa,_,1,_,Y,Y,EV hpa,Y,p,l,rs,ks,w1,h1,Y,nlp,b1 _ _ nlp hl0,bL b1 pt tp,r8,gk,w0,⋯,h0,⋯,pt1,λ v t H2 tv ok wl dl pt2 b2=>?_⟩;exact hR _ _ ⟨pa,v,t,w1,h1,none,rfl,kT pt1 b2 _ _ hpa,w0,⋯,h0,⋯,tv,ok b,⋯,⋯,by rw [eO t dl]; decide,pt2,b1.trans b2⟩
 clear hpa w0 w6 h0 h6 pt1 b1;clear pa w1 h1 H1;rintro _ H1 ⟨pa,v,t,w1,h1,v6,rfl,hpa,w0,w6,h0,h6,tv,oth,dp,wz,sz,pt1,b1⟩;refine aw (λ σ' H'=>∃ (pa:Addr) (v:V) (t:Tr) (w1 h1:Int) (v6:Option V),σ'=[↑p,↑st,↑pa,some v,v6]/\H' pa= ~~~[.int w1,.int h1]/\1<=w1/\w1<=6 + 8 * (56:Int)/\1<=h1/\h1<=6 + 8 * (56:Int)/\TrV H' t v/\okT b ks w1 h1 t/\(toD t).depth<=4 + 56/\wt (toD t)<=11 + 60 * 56/\lvN t<=1 + 4 * 56/\PotAt H' p/\But p H H') (λ R hR=>?_) ?_
 ·refine ⟨_,Y,p,56,Y,pt1,∅,∅,λ r H2 r0 r1 pt2 b2=>⟨_,_,Y,Y,zS2,λ ll hl=>?_⟩⟩;obtain ⟨H3,e3,k3,n3,s3,b3,pt3⟩:=bN (o:=.lst [.int 56,.int (1 + r)]) (b1.trans b2) pt2 hl;rw [show upd H2 ll _=H3 from e3];refine ⟨_,Y,p,2,Y,pt3,∅,∅,λ z H4 z0 z1 pt4 b4=>?_⟩;obtain ⟨j,hj,j1,j2⟩:∃j:Int,atI [V.int 56,V.int (1 + r)] z=⇑j/\1<=j/\j<=56:=by
   rcases (show z=0\/z=1 by omega) with rfl | rfl
   ·exact ⟨56,Y,∅,∅⟩
   ·exact ⟨1 + r,Y,⋯,⋯⟩
  refine ⟨ll,_,_,_,Y,Y,EW (b4 _ _ n3 k3),hj,j,Y,⋯,⋯,dB (lo:=0) (n:=j.toNat) (λ i σ' H'=>∃ (pa:Addr) (v:V) (t:Tr) (w1 h1:Int) (v6:Option V),σ'=[↑p,↑st,↑pa,some v,v6]/\H' pa= ~~~[.int w1,.int h1]/\1<=w1/\w1<=6 + 8 * (i:Int)/\1<=h1/\h1<=6 + 8 * (i:Int)/\TrV H' t v/\okT b ks w1 h1 t/\(toD t).depth<=4 + i/\wt (toD t)<=11 + 60 * i/\lvN t<=1 + 4 * i/\PotAt H' p/\But p H H') ⟨pa,v,t,w1,h1,v6,Y,kT pt3 b4 _ _ (s3 _ _ (kT pt1 b2 _ _ hpa)),w0,⋯,h0,⋯,TrV.keep (λ a xs e=>kT pt3 b4 _ _ (s3 _ _ (kT pt1 b2 _ _ e))) t tv,oth,⋯,⋯,⋯,pt4,b3.trans b4⟩ ?_ ?_⟩
  ·clear hpa w0 w6 h0 h6 tv oth dp sz wz;clear hj hl k3 n3 s3 e3 b3 pt3;rintro i σ H5 hi ⟨pa,v,t,w1,h1,v6,rfl,hpa,w0,w6,h0,h6,tv,oth,dp,wz,sz,pt5,b5⟩;have hi':(i:Int) < 56:=⋯
   refine ⟨_,Y,_,Y,_,Y,_,Y,p,st,l,pa,b,rs,ks,w1,h1,v,t,Y,hpa,kT pt b5 _ _ hst,b5 _ _ nlp hl0,nlp,bL b5 pt tp,r8,gk,b0,b3',w0,⋯,h0,⋯,tv,oth,pt5,λ a qa v' t' w' h' H6 ha hq w0' w6' h0' h6' tv' ok' dp' wz' sz' pt6 b6=>?_⟩;exact ⟨a,_,Y,EV ha,Y,_,_,Y,_,_,Y,Y,qa,v',t',w',h',_,Y,hq,w0',⋯,h0',⋯,tv',ok',⋯,⋯,⋯,pt6,b5.trans b6⟩
  ·rintro σ H5 ⟨pa,v,t,w1,h1,v6,e,hpa,w0,w6,h0,h6,tv,oth,dp,wz,sz,pt5,b5⟩;exact hR _ _ ⟨pa,v,t,w1,h1,v6,e,hpa,w0,⋯,h0,⋯,tv,oth,⋯,⋯,⋯,pt5,b5⟩
 clear hpa w0 w6 h0 h6 tv oth dp sz wz pt1 b1;clear pa v t w1 h1 v6 H1;rintro _ H1 ⟨pa,v,t,w1,h1,v6,rfl,hpa,w0,w6,h0,h6,tv,oth,dp,wz,sz,pt1,b1⟩;refine ⟨_,Y,_,Y,zS2,λ a ha=>?_⟩;obtain ⟨H2,e2,k2,n2,s2,b2,pt2⟩:=bN (o:=.tup [.ref pa,v]) b1 pt1 ha;rw [show upd H1 a _=H2 from e2];exact q a w1 h1 t H2 ⟨pa,v,k2,s2 _ _ hpa,w0,⋯,h0,⋯,TrV.keep (λ a xs e=>s2 _ _ e) t tv,oth,⋯,⋯,⋯⟩ pt2 b2
end
def lvL (b:Int):Tr->Int->Int->Int->Int->List Lf
 | .cut true p l r,x,y,w,h=>lvL b l x y p h ++ lvL b r (x + (p + b)) y (w - (p + b)) h
 | .cut false p l r,x,y,w,h=>lvL b l x y w p ++ lvL b r x (y + (p + b)) w (h - (p + b))
 | .rest,x,y,w,h=>[⟨x,y,w,h,.rest⟩]
 | .piece i c u v,x,y,w,h=>[⟨x,y,w,h,.piece i c u v⟩]
theorem bT (b:Int):∀ (t:Tr) (x y w h:Int),(lvL b t x y w h).Perm (lvs b t x y w h)
 | .rest,_,_,_,_=>List.Perm.refl _
 | .piece ..,_,_,_,_=>List.Perm.refl _
 | .cut true p l r,x,y,w,h=>by rw [lvL,lvs,show w - (p + b)=w - p - b by omega];exact List.perm_append_comm.trans ((bT b r _ _ _ _).append (bT b l _ _ _ _))
 | .cut false p l r,x,y,w,h=>by rw [lvL,lvs,show h - (p + b)=h - p - b by omega];exact List.perm_append_comm.trans ((bT b r _ _ _ _).append (bT b l _ _ _ _))
theorem dS (b:Int):∀ (t:Tr) (x y w h:Int),(lvL b t x y w h).length=lvN t
 | .rest,_,_,_,_=>rfl
 | .piece ..,_,_,_,_=>rfl
 | .cut true p l r,x,y,w,h=>by rw [lvL,List.length_append,dS,dS,lvN]
 | .cut false p l r,x,y,w,h=>by rw [lvL,List.length_append,dS,dS,lvN]
def tkL (b:Int):Tr->Int->Int->Int
 | .cut true p l r,w,h=>tkL b l p h + tkL b r (w - (p + b)) h + b * h
 | .cut false p l r,w,h=>tkL b l w p + tkL b r w (h - (p + b)) + b * w
 | _,_,_=>0
theorem gC (b:Int):∀ (t:Tr) (x y w h:Int),bm (λ f=>f.w * f.h) (lvL b t x y w h) + tkL b t w h=w * h
 | .rest,x,y,w,h=>by show w * h + 0 + 0=w * h; omega
 | .piece i c u v,x,y,w,h=>by show w * h + 0 + 0=w * h; omega
 | .cut true p l r,x,y,w,h=>by
  have a1:=gC b l x y p h;have a2:=gC b r (x + (p + b)) y (w - (p + b)) h;rw [lvL,jt,tkL];have e:w * h=p * h + (w - (p + b)) * h + b * h:=by rw [<- Int.add_mul,<- Int.add_mul];congr 1;omega
  omega
 | .cut false p l r,x,y,w,h=>by
  have a1:=gC b l x y w p;have a2:=gC b r x (y + (p + b)) w (h - (p + b));rw [lvL,jt,tkL];have e:w * h=w * p + w * (h - (p + b)) + b * w:=by rw [Int.mul_comm b w,<- Int.mul_add,<- Int.mul_add];congr 1;omega
  omega
def LA (H:Hp) (a:Addr) (f:Lf):Prop:=∃u,H a= ~~~[.int f.x,.int f.y,.int f.w,.int f.h,u]/\TrV H f.t u
theorem LA.keep {H H':Hp} (k:∀a xs,H a= ~~~xs->H' a= ~~~xs) {as:List Addr} {ls:List Lf} (h:Paired (LA H) as ls):Paired (LA H') as ls:=EX h λ a f ⟨u,e,t⟩=>⟨u,k _ _ e,TrV.keep k _ t⟩
section
variable {P:EQ} {w:ES} {K:C4} {mg:Str->Option ET} {base:Heap}
def fu (n:Nat):Sp:=λ vs H Q _=>∃ (st l:Addr) (b x y w h:Int) (ks:List Kd) (v:V) (t:Tr),vs=[.ref st,.int x,.int y,.int w,.int h,v]/\H st= ~~~[.int b,.ref l]/\0<=b/\b<=3/\1<=w/\w<=500/\1<=h/\h<=500/\TrV H t v/\okT b ks w h t/\(toD t).depth < n/\lvN t<=225 /\
 ∀ (a q:Addr) (as:List Addr) (H':Hp),H' a= ~~~[.ref q,.int (tkL b t w h)]->H' q=↥(as.map V.ref)->Paired (LA H') as (lvL b t x y w h)->Same H H'->Q (.ref a) H'
theorem scleavesl:FnScope ["_law_shop_here","_law_x","_law_y","_law_wide","_law_high","_law_tree","_law_behind","_law_taken","_law_one","_law_other"] ["_law_shop_here","_law_x","_law_y","_law_wide","_law_high","_law_tree"] (defScope dP):=⟨Y,Y,Y,∅,Y,∅,∅⟩
theorem kD {f:Addr} {fd:ER} (F:Fun K "_law_leaves" "_law_leaves" dP f fd) (B:Blt mg) (n:Nat) (DR:Dn P w K mg base "_law_leaves" ["_law_shop_here","_law_x","_law_y","_law_wide","_law_high","_law_tree"] (1 + n) (fu n)):FnOk P w K mg base CX0 (1 + (n + 1)) f fd ["_law_shop_here","_law_x","_law_y","_law_wide","_law_high","_law_tree"] (fu (n + 1)):=by
 refine F.ok scleavesl (λ vs H Q E h=>?_) (λ cdv A outer s H vs Q E hr h=>?_)
 ·obtain ⟨st,l0,b,x,y,w1,h1,ks,v,t,rfl,_⟩:=h
  rfl
 obtain ⟨st,l0,b,x,y,w1,h1,ks,v,t,rfl,hst,b0,b3,w0,w5,h0,h5,tv,okt,hn,hl,q⟩:=h;have nd:=scleavesl.nd;refine ⟨_,(((@aB _ _ _ _ _ _ _ _ gY ((pv 5)&&&ix_tup&&&ad) (@ay _ _ _ _ _ (bq^^^(bq^^^ab))) Y)<|>((@ay _ _ _ _ _ ((@br _ _ _ _ ((@ay _ _ _ _ _ ((pv 1)^^^((pv 2)^^^((pv 3)^^^((pv 4)^^^((pv 5)^^^ab))))))^^^ab))^^^(ad^^^ab)))⁻¹)<|>aA)<<<((6∣(((pv 5)&&&ix_tup&&&ad)|||aD|||((pv 0)&&&ix_tup&&&ad)))<<<(((((pv 5)&&&ix_tup&&&ad)<*>bA<*>bq)<|>((7∣(((pv 0)&&&ix_tup&&&ad)|||cg|||(pv 4)))<<<((8∣(DR∪((pv 0)^^^((pv 1)^^^((pv 2)^^^(((pv 5)&&&ix_tup&&&ad)^^^((pv 4)^^^(((pv 5)&&&ix_tup&&&ad)^^^ab))))))))>>>(9∣(DR∪((pv 0)^^^(((pv 1)|||aD|||(pv 6))^^^((pv 2)^^^(((pv 3)|||aW|||(pv 6))^^^((pv 4)^^^(((pv 5)&&&ix_tup&&&ad)^^^ab))))))))))<|>((7∣(((pv 0)&&&ix_tup&&&ad)|||cg|||(pv 3)))<<<((8∣(DR∪((pv 0)^^^((pv 1)^^^((pv 2)^^^((pv 3)^^^(((pv 5)&&&ix_tup&&&ad)^^^(((pv 5)&&&ix_tup&&&ad)^^^ab))))))))>>>(9∣(DR∪((pv 0)^^^((pv 1)^^^(((pv 2)|||aD|||(pv 6))^^^((pv 3)^^^(((pv 4)|||aW|||(pv 6))^^^(((pv 5)&&&ix_tup&&&ad)^^^ab)))))))))))<<<((@ay _ _ _ _ _ ((((pv 8)&&&ix_tup&&&ad)|||sJ|||((pv 9)&&&ix_tup&&&ad))^^^(((((pv 8)&&&ix_tup&&&ad)|||aD|||((pv 9)&&&ix_tup&&&ad))|||aD|||(pv 7))^^^ab)))⁻¹)))),?_⟩;cases t with
 | rest =>
  obtain ⟨a,rfl,ha⟩:=tv;refine ⟨_,Y,a,_,0,_,Y,Y,EV ha,aG (EE _) rfl,zS2,λ c hc=>?_⟩;obtain ⟨H1, e1, k1, s1⟩:∃H', upd H c (.tup [.str "rest", .str "piece"])=H'/\H' c=some (.tup [.str "rest", .str "piece"])/\Same H H':=⟨_, Y, af, EU hc⟩
  rw [show upd H c _=H1 from e1];refine ⟨c,_,Y,.inr (EV k1),Y,Y,_,Y,?_⟩;rw [show (if false=true then !inV (V.str "rest") [V.str "rest",V.str "piece"] else inV (V.str "rest") [V.str "rest",V.str "piece"])=true from by decide +kernel];refine aS ⟨_,rfl,_,rfl,_,rfl,_,rfl,_,rfl,zS5,λ tp htp=>?_⟩;obtain ⟨H2,e2,k2,s2⟩:∃H',upd H1 tp (.tup [.int x,.int y,.int w1,.int h1,.ref a])=H'/\H' tp= ~~~[.int x,.int y,.int w1,.int h1,.ref a]/\Same H1 H':=⟨_,Y,af,EU htp⟩
  rw [show upd H1 tp _=H2 from e2];refine ⟨zS1,λ ls hls=>?_⟩;obtain ⟨H3,e3,k3,s3⟩:∃H',upd H2 ls (.lst [.ref tp])=H'/\H' ls=↥[.ref tp]/\Same H2 H':=⟨_,Y,af,EU hls⟩
  rw [show upd H2 ls _=H3 from e3];refine ⟨zS2,λ rt hrt=>?_⟩;obtain ⟨H4,e4,k4,s4⟩:∃H',upd H3 rt (.tup [.ref ls,.int 0])=H'/\H' rt= ~~~[.ref ls,.int 0]/\Same H3 H':=⟨_,Y,af,EU hrt⟩
  rw [show upd H3 rt _=H4 from e4];exact q rt ls [tp] H4 k4 (s4 _ _ k3) (.cons ⟨_,s4 _ _ (s3 _ _ k2),⟨a,Y,s4 _ _ (s3 _ _ (s2 _ _ (s1 _ _ ha)))⟩⟩ .nil) (((s1.trans s2).trans s3).trans s4)
 | piece i c0 u0 v0 =>
  obtain ⟨a,rfl,ha⟩:=tv;refine ⟨_,Y,a,_,0,_,Y,Y,EV ha,aG (EE _) rfl,zS2,λ c hc=>?_⟩;obtain ⟨H1, e1, k1, s1⟩:∃H', upd H c (.tup [.str "rest", .str "piece"])=H'/\H' c=some (.tup [.str "rest", .str "piece"])/\Same H H':=⟨_, Y, af, EU hc⟩
  rw [show upd H c _=H1 from e1];refine ⟨c,_,Y,.inr (EV k1),Y,Y,_,Y,?_⟩;rw [show (if false=true then !inV (V.str "piece") [V.str "rest",V.str "piece"] else inV (V.str "piece") [V.str "rest",V.str "piece"])=true from by decide +kernel];refine aS ⟨_,rfl,_,rfl,_,rfl,_,rfl,_,rfl,zS5,λ tp htp=>?_⟩;obtain ⟨H2,e2,k2,s2⟩:∃H',upd H1 tp (.tup [.int x,.int y,.int w1,.int h1,.ref a])=H'/\H' tp= ~~~[.int x,.int y,.int w1,.int h1,.ref a]/\Same H1 H':=⟨_,Y,af,EU htp⟩
  rw [show upd H1 tp _=H2 from e2];refine ⟨zS1,λ ls hls=>?_⟩;obtain ⟨H3,e3,k3,s3⟩:∃H',upd H2 ls (.lst [.ref tp])=H'/\H' ls=↥[.ref tp]/\Same H2 H':=⟨_,Y,af,EU hls⟩
  rw [show upd H2 ls _=H3 from e3];refine ⟨zS2,λ rt hrt=>?_⟩;obtain ⟨H4,e4,k4,s4⟩:∃H',upd H3 rt (.tup [.ref ls,.int 0])=H'/\H' rt= ~~~[.ref ls,.int 0]/\Same H3 H':=⟨_,Y,af,EU hrt⟩
  rw [show upd H3 rt _=H4 from e4];exact q rt ls [tp] H4 k4 (s4 _ _ k3) (.cons ⟨_,s4 _ _ (s3 _ _ k2),⟨a,Y,s4 _ _ (s3 _ _ (s2 _ _ (s1 _ _ ha)))⟩⟩ .nil) (((s1.trans s2).trans s3).trans s4)
 | cut dn p l r =>
  obtain ⟨a,lv,rv,rfl,ha,tl,tr⟩:=tv;have cd:=(mU dn p l r).1;have hlv:lvN l + lvN r<=225:=hl;refine ⟨_,Y,a,_,0,_,Y,Y,EV ha,aG (EE _) rfl,zS2,λ c hc=>?_⟩;obtain ⟨H1, e1, k1, s1⟩:∃H', upd H c (.tup [.str "rest", .str "piece"])=H'/\H' c=some (.tup [.str "rest", .str "piece"])/\Same H H':=⟨_, Y, af, EU hc⟩
  rw [show upd H c _=H1 from e1];refine ⟨c,_,Y,.inr (EV k1),Y,Y,_,Y,?_⟩;rw [show (if false=true then !inV (V.str (if dn=true then ("down" : Str) else "across")) [V.str "rest",V.str "piece"] else inV (V.str (if dn=true then ("down" : Str) else "across")) [V.str "rest",V.str "piece"])=false from by cases dn <;> decide +kernel];refine aJ ?_;have ha1:=s1 _ _ ha;have hst1:=s1 _ _ hst;have tl1:=TrV.keep (λ a xs e=>s1 _ _ e) _ tl;have tr1:=TrV.keep (λ a xs e=>s1 _ _ e) _ tr;refine ⟨_,Y,a,_,1,_,Y,Y,EV ha1,Y,_,Y,st,_,0,_,Y,Y,EV hst1,Y,_,_,Y,Y,?_⟩;refine aw (λ σ' H'=>σ'=[↑st,⇑x,⇑y,⇑w1,⇑h1,↑a,⇑(p + b),none,none,none]/\H1=H') (λ R hR=>hR _ _ ⟨rfl,rfl⟩) ?_;rintro _ _ ⟨rfl,rfl⟩;refine aw (λ σ' H'=>∃ (tk k1 k2:Int) (o1 q1 o2 q2:Addr) (as1 as2:List Addr),σ'=[↑st,⇑x,⇑y,⇑w1,⇑h1,↑a,⇑(p + b),⇑tk,↑o1,↑o2]/\H' o1= ~~~[.ref q1,.int k1]/\H' q1=↥(as1.map V.ref)/\H' o2= ~~~[.ref q2,.int k2]/\H' q2=↥(as2.map V.ref)/\k1 + k2 + tk=tkL b (.cut dn p l r) w1 h1/\Paired (LA H') (as1 ++ as2) (lvL b (.cut dn p l r) x y w1 h1)/\Same H H') (λ R hR=>?_) ?_
  ·refine ⟨_,Y,a,_,0,_,Y,Y,EV ha1,Y,Y,_,Y,?_⟩;cases dn with
   | true =>
    obtain ⟨p1,hp,okl,okr⟩:=okt;have okr:okT b ks (w1 - (p + b)) h1 r:=(show w1 - p - b=w1 - (p + b) by omega) ▸ okr;have hp:p + b < w1:=hp;refine aS ?_;refine ⟨_,Y,st,_,0,_,Y,Y,EV hst1,Y,_,Y,_,_,Y,Y,.inl ⟨⋯,⋯⟩,?_⟩;refine ⟨_,Y,_,Y,_,Y,_,Y,a,_,1,_,Y,Y,EV ha1,Y,_,Y,_,Y,a,_,2,_,Y,Y,EV ha1,Y,st,l0,b,x,y,p,h1,ks,lv,l,Y,hst1,b0,b3,⋯,⋯,⋯,⋯,tl1,okl,⋯,⋯,λ o1 q1 as1 H2 f1 f2 f3 s2=>?_⟩;refine ⟨_,Y,_,Y,_,Y,_,_,Y,Y,_,Y,_,Y,_,Y,_,_,Y,Y,_,Y,_,Y,a,_,3,_,Y,Y,EV (s2 _ _ ha1),Y,st,l0,b,(x + (p + b)),y,(w1 - (p + b)),h1,ks,rv,r,Y,s2 _ _ hst1,b0,b3,⋯,⋯,⋯,⋯,TrV.keep (λ a xs e=>s2 _ _ e) _ tr1,okr,⋯,⋯,λ o2 q2 as2 H3 g1 g2 g3 s3=>?_⟩;exact hR _ _ ⟨_,_,_,o1,q1,o2,q2,as1,as2,rfl,s3 _ _ f1,s3 _ _ f2,g1,g2,rfl,dW (LA.keep (λ a xs e=>s3 _ _ e) f3) g3,(s1.trans s2).trans s3⟩
   | false =>
    obtain ⟨p1,hp,okl,okr⟩:=okt;have okr:okT b ks w1 (h1 - (p + b)) r:=(show h1 - p - b=h1 - (p + b) by omega) ▸ okr;have hp:p + b < h1:=hp;refine aJ ?_;refine ⟨_,Y,st,_,0,_,Y,Y,EV hst1,Y,_,Y,_,_,Y,Y,.inl ⟨⋯,⋯⟩,?_⟩;refine ⟨_,Y,_,Y,_,Y,_,Y,_,Y,a,_,1,_,Y,Y,EV ha1,Y,_,Y,a,_,2,_,Y,Y,EV ha1,Y,st,l0,b,x,y,w1,p,ks,lv,l,Y,hst1,b0,b3,⋯,⋯,⋯,⋯,tl1,okl,⋯,⋯,λ o1 q1 as1 H2 f1 f2 f3 s2=>?_⟩;refine ⟨_,Y,_,Y,_,Y,_,Y,_,_,Y,Y,_,Y,_,Y,_,Y,_,_,Y,Y,_,Y,a,_,3,_,Y,Y,EV (s2 _ _ ha1),Y,st,l0,b,x,(y + (p + b)),w1,(h1 - (p + b)),ks,rv,r,Y,s2 _ _ hst1,b0,b3,⋯,⋯,⋯,⋯,TrV.keep (λ a xs e=>s2 _ _ e) _ tr1,okr,⋯,⋯,λ o2 q2 as2 H3 g1 g2 g3 s3=>?_⟩;exact hR _ _ ⟨_,_,_,o1,q1,o2,q2,as1,as2,rfl,s3 _ _ f1,s3 _ _ f2,g1,g2,rfl,dW (LA.keep (λ a xs e=>s3 _ _ e) f3) g3,(s1.trans s2).trans s3⟩
  rintro _ H2 ⟨tk,k1',k2',o1,q1,o2,q2,as1,as2,rfl,f1,f2,g1,g2,ek,pa,s2⟩;have pl:=EC pa;rw [dS,List.length_append] at pl;have pl':as1.length + as2.length<=225:=by rw [pl]; exact hl
  have sz:(40000:Nat)<=sizeLine:=∅
  refine ⟨_,Y,o1,_,0,_,Y,Y,EV f1,Y,_,Y,o2,_,0,_,Y,Y,EV g1,Y,q1,q2,_,_,Y,Y,f2,g2,(by rw [List.length_map,List.length_map]; omega),λ nl hnl=>?_⟩;obtain ⟨H3,e3,k3,s3⟩:∃H',upd H2 nl (.lst (as1.map V.ref ++ as2.map V.ref))=H'/\H' nl=↥(as1.map V.ref ++ as2.map V.ref)/\Same H2 H':=⟨_,Y,af,EU hnl⟩
  rw [show upd H2 nl _=H3 from e3];refine ⟨_,Y,o1,_,1,_,Y,Y,EV (s3 _ _ f1),Y,_,Y,o2,_,1,_,Y,Y,EV (s3 _ _ g1),Y,_,_,Y,Y,_,Y,_,_,Y,Y,zS2,λ rt hrt=>?_⟩;rw [ek];obtain ⟨H4,e4,k4,s4⟩:∃H',upd H3 rt (.tup [.ref nl,.int (tkL b (.cut dn p l r) w1 h1)])=H'/\H' rt= ~~~[.ref nl,.int (tkL b (.cut dn p l r) w1 h1)]/\Same H3 H':=⟨_,Y,af,EU hrt⟩
  rw [show upd H3 rt _=H4 from e4];exact q rt nl (as1 ++ as2) H4 k4 (by rw [s4 _ _ k3,List.map_append]) (LA.keep (λ a xs e=>s4 _ _ (s3 _ _ e)) pa) ((s2.trans s3).trans s4)
theorem ju {f:Addr} {fd:ER} (F:Fun K "_law_leaves" "_law_leaves" dP f fd):FnOk P w K mg base CX0 1 f fd ["_law_shop_here","_law_x","_law_y","_law_wide","_law_high","_law_tree"] (fu 0):=by
 refine F.ok scleavesl (λ vs H Q E h=>?_) (λ cdv A outer s H vs Q E hr h=>?_)
 ·obtain ⟨st,l0,b,x,y,w1,h1,ks,v,t,rfl,_⟩:=h
  rfl
 ·obtain ⟨_,_,_,_,_,_,_,_,_,t,_,_,_,_,_,_,_,_,_,_,z,_⟩:=h;exact absurd z (Nat.not_lt_zero _)
theorem fv {f:Addr} {fd:ER} (F:Fun K "_law_leaves" "_law_leaves" dP f fd) (B:Blt mg) (mk:∀n,FnOk P w K mg base CX0 (1 + n) f fd ["_law_shop_here","_law_x","_law_y","_law_wide","_law_high","_law_tree"] (fu n)->Dn P w K mg base "_law_leaves" ["_law_shop_here","_law_x","_law_y","_law_wide","_law_high","_law_tree"] (1 + n) (fu n)):∀n,FnOk P w K mg base CX0 (1 + n) f fd ["_law_shop_here","_law_x","_law_y","_law_wide","_law_high","_law_tree"] (fu n)
 | 0=>ju F
 | n + 1=>kD F B n (mk n (fv F B mk n))
end
theorem pT {p q:Pce} (h:gw p=gw q):p=q:=by
 obtain ⟨k,c,x,y⟩:=p;obtain ⟨k',c',x',y'⟩:=q;unfold gw at h;simp only [List.cons.injEq,and_true] at h;obtain ⟨h1,h2,h3,h4⟩:=h;have:k=k':=⋯
 subst this h3 h4;have:c=c':=by cases c <;> cases c' <;> simp_all
 subst this
 rfl
theorem sY {ps qs:List Pce} (h:ps.Perm qs) (h1:(ps.map gw).Pairwise λ x y=>bz y x=false) (h2:(qs.map gw).Pairwise λ x y=>bz y x=false):ps=qs :=
 List.Perm.eq_of_pairwise (le:=λ p q=>bz (gw q) (gw p)=false) (λ p q _ _ a1 a2=>pT (dG _ _ a2 a1)) (List.pairwise_map.mp h1) (List.pairwise_map.mp h2) h
def iP (p:Pce):PyData:=.tuple [.int p.k,.bool p.c,.int p.x,.int p.y]
theorem PA.dat {K:C4} {H:Hp}:∀ {as:List Addr} {ps:List Pce},Paired (PA H) as ps->DatVs K H (as.map V.ref) (ps.map iP)
 | _,_,.nil=>.nil
 | _,_,.cons h r=>.cons (.tup (EV h) (.cons (.int _) (.cons (.bl _) (.cons (.int _) (.cons (.int _) .nil))))) (PA.dat r)
theorem gD:∀ps:List Pce,PyData.canLayAll0 (ps.map iP)=true/\PyData.depthAll (ps.map iP)<=1
 | []=>⟨Y,EH _⟩
 | p :: r=>by obtain ⟨h1,h2⟩:=gD r;refine ⟨by rw [List.map_cons,PyData.canLayAll0,h1]; rfl,?_⟩;rw [List.map_cons,PyData.depthAll];have:(iP p).depth=1:=rfl;omega
def wrt (ps:List Pce) (ks:List Kd):Int:=(((bp ps ks.length).zip ks).map λ z=>z.1 * z.2.wo).sum
theorem pU {f g:Nat->Int}:∀l:List Nat,List.zipWith (· + ·) (l.map f) (l.map g)=l.map λ x=>f x + g x
 | []=>rfl
 | a :: r=>by rw [List.map_cons,List.map_cons,List.zipWith_cons_cons,pU r,List.map_cons]
theorem pV:∀ (ks:List Kd) (c1 c2:List Int),c1.length=ks.length->c2.length=ks.length->(((List.zipWith (· + ·) c1 c2).zip ks).map λ z=>z.1 * z.2.wo).sum=((c1.zip ks).map λ z=>z.1 * z.2.wo).sum + ((c2.zip ks).map λ z=>z.1 * z.2.wo).sum
 | [],[],[],_,_=>rfl
 | [],_ :: _,_,h,_=>by cases h
 | [],[],_ :: _,_,h=>by cases h
 | _ :: _,[],_,h,_=>by cases h
 | _ :: _,_ :: _,[],_,h=>by cases h
 | k :: ks,a :: c1,e :: c2,h1,h2=>by have:=pV ks c1 c2 (by simpa using h1) (by simpa using h2);simp only [List.zipWith_cons_cons,List.zip_cons_cons,List.map_cons,List.sum_cons];rw [this,Int.add_mul];omega
theorem lR (a c:List Pce) (ks:List Kd):wrt (a ++ c) ks=wrt a ks + wrt c ks:=by unfold wrt;rw [<- pV ks _ _ (bM _ _) (bM _ _)];congr 3;unfold bp;rw [pU];apply List.map_congr_left;intro k _;rw [List.filter_append,List.length_append];omega
def woS (ks:List Kd) (p:Pce):Int:=match ks[p.k]? with
 | some k=>k.wo
 | none=>0
theorem jv (q:Nat):∀ (ks:List Kd) (o:Nat),q < o->((((List.range' o ks.length).map λ k=>((if q=k then 1 else 0:Nat):Int)).zip ks).map λ z=>z.1 * z.2.wo).sum=0
 | [],_,_=>rfl
 | k :: ks,o,h=>by have:=jv q ks (o + 1) ⋯;rw [List.length_cons,List.range'_succ,List.map_cons,List.zip_cons_cons,List.map_cons,List.sum_cons,this,if_neg ⋯];simp
theorem lS (q:Nat):∀ (ks:List Kd) (o:Nat),o<=q->q < o + ks.length->((((List.range' o ks.length).map λ k=>((if q=k then 1 else 0:Nat):Int)).zip ks).map λ z=>z.1 * z.2.wo).sum=(match ks[q - o]? with | some k=>k.wo | none=>0)
 | [],o,h1,h2=>by simp at h2; omega
 | k :: ks,o,h1,h2=>by
  rw [List.length_cons,List.range'_succ,List.map_cons,List.zip_cons_cons,List.map_cons,List.sum_cons]
  by_cases e:q=o
  ·subst e;rw [jv q ks (q + 1) ⋯,if_pos rfl,Nat.sub_self];simp
  ·rw [lS q ks (o + 1) ⋯ (by rw [List.length_cons] at h2; omega),if_neg e,show q - o=(q - (o + 1)) + 1 by omega];simp
theorem rH (p:Pce) (ks:List Kd) (h:p.k < ks.length):wrt [p] ks=woS ks p:=by
 unfold wrt woS bp;have:=lS p.k ks 0 (EH _) ⋯;rw [Nat.sub_zero] at this;rw [<- this,List.range_eq_range'];congr 3;apply List.map_congr_left;intro k _
 by_cases e:p.k=k
 ·rw [if_pos e]; simp [e]
 ·rw [if_neg e]; simp [e]
theorem pW (ks:List Kd):∀ps:List Pce,(∀p∈ps,p.k < ks.length)->wrt ps ks=(ps.map (woS ks)).sum
 | [],_=>by
  have e:wrt [] ks=wrt [] ks + wrt [] ks:=by rw [<- lR]; rfl
  show wrt [] ks=0;omega
 | p :: r,h=>by rw [show p :: r=[p] ++ r from rfl,lR,rH p ks (h p List.mem_cons_self),pW ks r λ q hq=>h q (List.mem_cons_of_mem _ hq)];simp
theorem pX {p q:Rst} (h:gy p=gy q):p=q:=by
 obtain ⟨x,y,w,z⟩:=p;obtain ⟨x',y',w',z'⟩:=q;unfold gy at h;simp only [List.cons.injEq,and_true] at h;obtain ⟨h1,h2,h3,h4⟩:=h;subst h1 h2 h3 h4
 rfl
theorem tj {ps qs:List Rst} (h:ps.Perm qs) (h1:(ps.map gy).Pairwise λ x y=>bz y x=false) (h2:(qs.map gy).Pairwise λ x y=>bz y x=false):ps=qs :=
 List.Perm.eq_of_pairwise (le:=λ p q=>bz (gy q) (gy p)=false) (λ p q _ _ a1 a2=>pX (dG _ _ a2 a1)) (List.pairwise_map.mp h1) (List.pairwise_map.mp h2) h
def iQ (p:Rst):PyData:=.tuple [.int p.x,.int p.y,.int p.w,.int p.h]
theorem RA.dat {K:C4} {H:Hp}:∀ {as:List Addr} {ps:List Rst},Paired (RA H) as ps->DatVs K H (as.map V.ref) (ps.map iQ)
 | _,_,.nil=>.nil
 | _,_,.cons h r=>.cons (.tup (EV h) (.cons (.int _) (.cons (.int _) (.cons (.int _) (.cons (.int _) .nil))))) (RA.dat r)
theorem gE:∀ps:List Rst,PyData.canLayAll0 (ps.map iQ)=true/\PyData.depthAll (ps.map iQ)<=1
 | []=>⟨Y,EH _⟩
 | p :: r=>by obtain ⟨h1,h2⟩:=gE r;refine ⟨by rw [List.map_cons,PyData.canLayAll0,h1]; rfl,?_⟩;rw [List.map_cons,PyData.depthAll];have:(iQ p).depth=1:=rfl;omega
def owS (ks:List Kd) (p:Pce):Int:=match ks[p.k]? with
 | some k=>k.w * k.h
 | none=>0
def rsS (r:Rst):Int:=r.w * r.h
theorem gG {α:Type} (F:Lf->Option α) (g:α->Int) (e:Lf->Int) (h:∀f,e f=(F f).elim 0 g):∀ls:List Lf,((ls.filterMap F).map g).sum=bm e ls
 | []=>rfl
 | f :: r=>by
  have ih:=gG F g e h r;have hf:=h f;unfold bm at ih ⊢;rw [List.map_cons,List.sum_cons,List.filterMap_cons];cases c:F f with
  | none =>
   rw [c] at hf;show ((r.filterMap F).map g).sum=_;rw [ih,hf];show _=(0:Int) + _;omega
  | some p =>
   rw [c] at hf;show ((p :: r.filterMap F).map g).sum=_;rw [List.map_cons,List.sum_cons,ih,hf]
   rfl
theorem vU (ks:List Kd) (f:Lf):pcA ks f=(lfP f).elim 0 (owS ks):=by
 unfold pcA lfP;cases e:f.t with
 | piece i c u v =>
  show (match ks[i]? with | some k=>sd1 k c * sd2 k c | none=>0)=(match ks[i]? with | some k=>k.w * k.h | none=>0)
  cases ks[i]? with
  | none=>rfl
  | some k =>
   cases c
   ·rfl
   ·exact Int.mul_comm _ _
 | _=>rfl
theorem vV (f:Lf):rsA f=(lfR f).elim 0 rsS:=by unfold rsA lfR;cases f.t <;> rfl
theorem vW (ks:List Kd):∀ls:List Lf,(∀f∈ls,f.t=.rest\/∃i c u v,f.t=.piece i c u v)->bm (pcA ks) ls + bm rsA ls + bm (mgA ks) ls=bm (λ f=>f.w * f.h) ls
 | [],_=>rfl
 | f :: r,h=>by
  have ih:=vW ks r λ g hg=>h g (B4 _ hg);unfold bm at ih ⊢;simp only [List.map_cons,List.sum_cons];have:pcA ks f + rsA f + mgA ks f=f.w * f.h:=by
   rcases h f B7 with e | ⟨i,c,u,v,e⟩
   ·unfold pcA rsA mgA; rw [e]; dsimp only; omega
   ·have e1:rsA f=0:=by unfold rsA; rw [e]
    have e2:mgA ks f=f.w * f.h - pcA ks f:=by unfold mgA; rw [e]
    omega
  omega
theorem pY {b:Int} {ks:List Kd} {t:Tr} {w h:Int} {ps:List Pce} {qs:List Rst} (hp:ps.Perm (pcs b t w h)) (hq:qs.Perm (rE b t w h)) :
  bm (pcA ks) (lvs b t 0 0 w h)=(ps.map (owS ks)).sum/\bm rsA (lvs b t 0 0 w h)=(qs.map rsS).sum/\(ps.map (owS ks)).sum + (qs.map rsS).sum + bm (mgA ks) (lvs b t 0 0 w h) + tkL b t w h=w * h:=by
 have a1:bm (pcA ks) (lvs b t 0 0 w h)=(ps.map (owS ks)).sum:=by rw [gl (hp.map _)];exact (gG lfP (owS ks) (pcA ks) (vU ks) _).symm
 have a2:bm rsA (lvs b t 0 0 w h)=(qs.map rsS).sum:=by rw [gl (hq.map _)];exact (gG lfR rsS rsA vV _).symm
 have a3:=vW ks (lvs b t 0 0 w h) (bt b t 0 0 w h);have a4:=gC b t 0 0 w h;have a5:bm (λ f=>f.w * f.h) (lvL b t 0 0 w h)=bm (λ f=>f.w * f.h) (lvs b t 0 0 w h):=gl ((bT b t 0 0 w h).map _);exact ⟨a1,a2,⋯⟩
theorem jw (b:Int) (t:Tr) (x y w h:Int):∀f∈lvL b t x y w h,f.t=.rest\/∃i c u v,f.t=.piece i c u v:=λ f hf=>bt b t x y w h f ((bT b t x y w h).mem_iff.mp hf)
def kiP (p:Pce):Int:=p.k
theorem pZ (k:Nat):∀ps:List Pce,(((ps.map kiP).count (k:Int):Nat):Int)=((ps.filter λ p=>p.k == k).length:Int)
 | []=>rfl
 | p :: r=>by
  have ih:=pZ k r;rw [List.map_cons,List.count_cons,List.filter_cons]
  by_cases e:p.k=k
  ·rw [if_pos (by unfold kiP; simp [e]),if_pos (by simp [e]),List.length_cons];omega
  ·rw [if_neg (by unfold kiP; simp; omega),if_neg (by simp [e])];omega
section
variable {P:EQ} {w:ES} {K:C4} {mg:Str->Option ET} {base:Heap}
def kF (C:Addr):Sp:=λ vs H Q _=>∃ (s st l:Addr) (b w h:Int) (rs:List V) (ks:List Kd) (v:V) (t:Tr),vs=[.ref s,.ref st,.int w,.int h,v]/\ShopAt C H s b ks/\H st= ~~~[.int b,.ref l]/\H l=↥rs/\Tups H rs ks/\rs.length<=8/\(∀k∈ks,Good k)/\0<=b/\b<=3/\1<=w/\w<=500/\1<=h/\h<=500/\TrV H t v/\okT b ks w h t/\(toD t).depth<=60/\wt (toD t)<=3371/\lvN t<=225/\∀H',Same H H'->Q (.bl true) H'
theorem scmeasured:FnScope ["_law_shop_here","_law_told","_law_wide","_law_high","_law_tree","_law_leaves_here","_law_taken","_law_pieces","_law_rests","_law_kinds","_law_own","_law_free"] ["_law_shop_here","_law_told","_law_wide","_law_high","_law_tree"] (defScope aX):=⟨Y,Y,Y,∅,Y,∅,∅⟩
theorem jx {f:Addr} {fd:ER} (F:Fun K "_law_measured" "_law_measured" aX f fd) {C:Addr} (B:Blt mg) (DPi:Dn P w K mg base "pieces_of" ["shop","wide","high","tree"] 8 (spPieces C)) (DRe:Dn P w K mg base "rests_of" ["shop","wide","high","tree"] 8 (spRests C)) (DCo:Dn P w K mg base "counts_of" ["shop","wide","high","tree"] 9 (spCountsO C)) (DWo:Dn P w K mg base "worth_of" ["shop","wide","high","tree"] 10 (spWorthO C)) (DAr:Dn P w K mg base "areas_of" ["shop","wide","high","tree"] 8 (spAreas C)) (DLv:Dn P w K mg base "_law_leaves" ["_law_shop_here","_law_x","_law_y","_law_wide","_law_high","_law_tree"] 62 (fu 61)):FnOk P w K mg base CX0 63 f fd ["_law_shop_here","_law_told","_law_wide","_law_high","_law_tree"] (kF C):=by
 refine F.ok scmeasured (λ vs H Q E h=>?_) (λ cdv A outer s H vs Q E hr h=>?_)
 ·obtain ⟨s,st,l,b,w1,h1,rs,ks,v,t,rfl,_⟩:=h
  rfl
 obtain ⟨s,st,l,b,w1,h1,rs,ks,v,t,rfl,sh,hst,hl0,tp,r8,gk,b0,b3,w0,w5,h0,h5,tv,okt,dp,wz,lv,q⟩:=h;have nd:=scmeasured.nd;have hu:=hr.units;refine ⟨_,((@be _ _ _ _ _ _ (DLv∪((pv 1)^^^(ad^^^(ad^^^((pv 2)^^^((pv 3)^^^((pv 4)^^^ab))))))) (aR Y (5•(6•aI))) Y Y Y)<<<((7∣(@aF _ _ _ _ _ _ _ _ _ bW Y B.sorted PyProof.Rows.boot_sorted ((bv (own:=["_law_leaf_here"]) (cs:=[]) (cap:=[]) Y (bo (pv 5)) (aP (sc:=defScope aX) (N:=["_law_shop_here","_law_told","_law_wide","_law_high","_law_tree","_law_leaves_here","_law_taken","_law_pieces","_law_rests","_law_kinds","_law_own","_law_free"]) Y Y ∅) (λ _ _ _ _ _=>ai (i:=0) (by show List.Nodup (["_law_leaf_here"]:List Str) ; decide +kernel) Y (Or.inl Y) (Or.inr Y)) (λ _ _ _ _ _=>(eF ((am (r:=rIxT K) ix_tup (am (r:=rIxT K) ix_tup (pv 0) ad (λ _ _=>Y)) ad (λ _ _=>Y))<*>bA<*>bq))) (λ _ _ _ _ _=>(@ay _ _ _ _ _ ((am (r:=rIxT K) ix_tup (am (r:=rIxT K) ix_tup (pv 0) ad (λ _ _=>Y)) ad (λ _ _=>Y))^^^((am (r:=rIxT K) ix_tup (am (r:=rIxT K) ix_tup (pv 0) ad (λ _ _=>Y)) ad (λ _ _=>Y))^^^(((am (r:=rIxT K) ix_tup (pv 0) ad (λ _ _=>Y))|||aD|||(am (r:=rIxT K) ix_tup (am (r:=rIxT K) ix_tup (pv 0) ad (λ _ _=>Y)) ad (λ _ _=>Y)))^^^(((am (r:=rIxT K) ix_tup (pv 0) ad (λ _ _=>Y))|||aD|||(am (r:=rIxT K) ix_tup (am (r:=rIxT K) ix_tup (pv 0) ad (λ _ _=>Y)) ad (λ _ _=>Y)))^^^ab)))))))^^^ab) ∅ ∅ Y Y))<<<((8∣(@aF _ _ _ _ _ _ _ _ _ bW Y B.sorted PyProof.Rows.boot_sorted ((bv (own:=["_law_leaf_here"]) (cs:=[]) (cap:=[]) Y (bo (pv 5)) (aP (sc:=defScope aX) (N:=["_law_shop_here","_law_told","_law_wide","_law_high","_law_tree","_law_leaves_here","_law_taken","_law_pieces","_law_rests","_law_kinds","_law_own","_law_free"]) Y Y ∅) (λ _ _ _ _ _=>ai (i:=0) (by show List.Nodup (["_law_leaf_here"]:List Str) ; decide +kernel) Y (Or.inl Y) (Or.inr Y)) (λ _ _ _ _ _=>(eF ((am (r:=rIxT K) ix_tup (am (r:=rIxT K) ix_tup (pv 0) ad (λ _ _=>Y)) ad (λ _ _=>Y))<*>bA<*>bq))) (λ _ _ _ _ _=>(oA (r:=vK K) sG (pv 0) qL (qM ad))))^^^ab) ∅ ∅ Y Y))<<<(((PW.pt (cB ((DPi∩((pv 0)^^^((pv 2)^^^((pv 3)^^^((pv 4)^^^ab)))))<*>(jT hu)<*>(pv 7)) (cf ((DRe∩((pv 0)^^^((pv 2)^^^((pv 3)^^^((pv 4)^^^ab)))))<*>(jT hu)<*>(pv 8)))))<|>(bO⁻¹)<|>aA)<<<((@av _ _ 9 _ _ _ _ nd Y (Or.inr Y) (bv (own:=["_law_piece"]) (cs:=[]) (cap:=[]) Y (bo (pv 7)) (aP (sc:=defScope aX) (N:=["_law_shop_here","_law_told","_law_wide","_law_high","_law_tree","_law_leaves_here","_law_taken","_law_pieces","_law_rests","_law_kinds","_law_own","_law_free"]) Y Y ∅) (λ _ _ _ _ _=>ai (i:=0) (by show List.Nodup (["_law_piece"]:List Str) ; decide +kernel) Y (Or.inl Y) (Or.inr Y)) (λ _ _ _ _ _=>bJ) (λ _ _ _ _ _=>(am (r:=rIxT K) ix_tup (pv 0) ad (λ _ _=>Y)))) Y (Or.inl Y))<<<((((DCo∩((pv 0)^^^((pv 2)^^^((pv 3)^^^((pv 4)^^^ab)))))<*>(jT hu)<*>(bv (own:=["_law_number_here"]) (cs:=["_law_kinds"]) (cap:=[9]) Y (dA Y B.range ((@aF _ _ _ _ _ _ _ _ _ aU Y B.len PySem.boot_len (((pv 1)&&&ix_tup&&&ad)^^^ab) ∅ ∅ Y Y)^^^ab)) (aP (sc:=defScope aX) (N:=["_law_shop_here","_law_told","_law_wide","_law_high","_law_tree","_law_leaves_here","_law_taken","_law_pieces","_law_rests","_law_kinds","_law_own","_law_free"]) Y Y ∅) (λ _ _ _ _ _=>ai (i:=0) (by show List.Nodup (["_law_number_here","_law_kinds"]:List Str) ; decide +kernel) Y (Or.inl Y) (Or.inr Y)) (λ _ _ _ _ _=>bJ) (λ _ _ _ _ _=>(mC K Y (pv 1) ((pv 0)^^^ab)))))<|>(bO⁻¹)<|>aA)<<<((((DWo∩((pv 0)^^^((pv 2)^^^((pv 3)^^^((pv 4)^^^ab)))))<*>gQ<*>(@aF _ _ _ _ _ _ _ _ _ (dF Y) Y B.sum PyProof.Rows.boot_sum ((bv (own:=["_law_kind_here"]) (cs:=["_law_told"]) (cap:=[1]) Y (bo (pv 9)) (aP (sc:=defScope aX) (N:=["_law_shop_here","_law_told","_law_wide","_law_high","_law_tree","_law_leaves_here","_law_taken","_law_pieces","_law_rests","_law_kinds","_law_own","_law_free"]) Y Y ∅) (λ _ _ _ _ _=>ai (i:=0) (by show List.Nodup (["_law_kind_here","_law_told"]:List Str) ; decide +kernel) Y (Or.inl Y) (Or.inr Y)) (λ _ _ _ _ _=>bJ) (λ _ _ _ _ _=>(am (r:=rIxT K) ix_tup (am (r:=rIxL K) ix_list (am (r:=rIxT K) ix_tup (pv 1) ad (λ _ _=>Y)) (pv 0) (λ _ _=>Y)) ad (λ _ _=>Y))))^^^ab) ∅ ∅ Y Y))<|>(bO⁻¹)<|>aA)<<<((10∣(@aF _ _ _ _ _ _ _ _ _ (dF Y) Y B.sum PyProof.Rows.boot_sum ((bv (own:=["_law_kind_here"]) (cs:=["_law_told"]) (cap:=[1]) Y (bo (pv 9)) (aP (sc:=defScope aX) (N:=["_law_shop_here","_law_told","_law_wide","_law_high","_law_tree","_law_leaves_here","_law_taken","_law_pieces","_law_rests","_law_kinds","_law_own","_law_free"]) Y Y ∅) (λ _ _ _ _ _=>ai (i:=0) (by show List.Nodup (["_law_kind_here","_law_told"]:List Str) ; decide +kernel) Y (Or.inl Y) (Or.inr Y)) (λ _ _ _ _ _=>bJ) (λ _ _ _ _ _=>((am (r:=rIxT K) ix_tup (am (r:=rIxL K) ix_list (am (r:=rIxT K) ix_tup (pv 1) ad (λ _ _=>Y)) (pv 0) (λ _ _=>Y)) ad (λ _ _=>Y))|||cQ|||(am (r:=rIxT K) ix_tup (am (r:=rIxL K) ix_list (am (r:=rIxT K) ix_tup (pv 1) ad (λ _ _=>Y)) (pv 0) (λ _ _=>Y)) ad (λ _ _=>Y)))))^^^ab) ∅ ∅ Y Y))<<<((11∣(@aF _ _ _ _ _ _ _ _ _ (dF Y) Y B.sum PyProof.Rows.boot_sum ((bv (own:=["_law_rest"]) (cs:=[]) (cap:=[]) Y (bo (pv 8)) (aP (sc:=defScope aX) (N:=["_law_shop_here","_law_told","_law_wide","_law_high","_law_tree","_law_leaves_here","_law_taken","_law_pieces","_law_rests","_law_kinds","_law_own","_law_free"]) Y Y ∅) (λ _ _ _ _ _=>ai (i:=0) (by show List.Nodup (["_law_rest"]:List Str) ; decide +kernel) Y (Or.inl Y) (Or.inr Y)) (λ _ _ _ _ _=>bJ) (λ _ _ _ _ _=>((am (r:=rIxT K) ix_tup (pv 0) ad (λ _ _=>Y))|||cQ|||(am (r:=rIxT K) ix_tup (pv 0) ad (λ _ _=>Y)))))^^^ab) ∅ ∅ Y Y))<<<((@bu _ _ _ _ _ _ _ _ (oM hu) (DAr∩((pv 0)^^^((pv 2)^^^((pv 3)^^^((pv 4)^^^ab))))) (@ay _ _ _ _ _ ((pv 10)^^^((pv 11)^^^((((((pv 2)|||cQ|||(pv 3))|||aW|||(pv 10))|||aW|||(pv 11))|||aW|||(pv 6))^^^((pv 6)^^^ab))))) (az _))⁻¹)))))))))),?_⟩
 have sz:(40000:Nat)<=sizeLine:=∅
 have th:TrH C s s b w1 h1 ks v (toD t) t H:=⟨sh,w0,h0,tv.dt t,TrD.to t,okt,⋯,⋯⟩
 have kl8:ks.length<=8:=by have:=EC tp; omega
 refine aw (λ σ' H'=>∃ (q0:Addr) (as0:List Addr),σ'=[↑s,↑st,⇑w1,⇑h1,some v,↑q0,⇑(tkL b t w1 h1),none,none,none,none,none]/\H' q0=↥(as0.map V.ref)/\Paired (LA H') as0 (lvL b t 0 0 w1 h1)/\Same H H') (λ R hR=>?_) ?_
 ·exact ⟨_,Y,_,Y,_,Y,_,Y,st,l,b,0,0,w1,h1,ks,v,t,Y,hst,b0,b3,w0,w5,h0,h5,tv,okt,⋯,lv,λ a q0 as0 H1 ha hq pa s1=>⟨a,_,Y,EV ha,Y,_,_,Y,_,_,Y,Y,hR _ _ ⟨q0,as0,Y,hq,pa,s1⟩⟩⟩
 rintro _ H1 ⟨q0,as0,rfl,hq1,pa1,s1⟩;have al0:=EC pa1;have lln:=dS b t 0 0 w1 h1;refine aw (λ σ' H'=>∃ (pl:Addr) (as2:List Addr) (ps:List Pce),σ'=[↑s,↑st,⇑w1,⇑h1,some v,↑q0,⇑(tkL b t w1 h1),↑pl,none,none,none,none]/\H' pl=↥(as2.map V.ref)/\Paired (PA H') as2 ps/\ps.Perm (pcs b t w1 h1)/\(ps.map gw).Pairwise (λ x y=>bz y x=false)/\Same H1 H') (λ R hR=>?_) ?_
 ·refine ⟨_,Y,q0,Y,⟨_,EW hq1⟩,(bi (K:=K) (.inl hq1) (λ i ys Hx=>Same H1 Hx/\∃as,ys=as.map V.ref/\Paired (PA Hx) as (((lvL b t 0 0 w1 h1).take i).filterMap lfP)) (λ i ys Hx _ ⟨sx,_⟩ o e=>sx _ _ e) ⟨Same.refl _,[],Y,.nil⟩ ?_ ?_).1 hq1⟩
  ·rintro i x ys Hx hi ⟨sx,as,rfl,px⟩;have hin:i < (as0.map V.ref).length:=(A6.mp hi).1;rw [List.getElem?_map] at hi;obtain ⟨a,ha,rfl⟩:=Option.map_eq_some_iff.mp hi;obtain ⟨f,hf,u,hu,tu⟩:=EY pa1 ha;have hu:=sx _ _ hu;have tu:=TrV.keep (λ a xs e=>sx _ _ e) _ tu;have yl:=EC px;have fml:(((lvL b t 0 0 w1 h1).take i).filterMap lfP).length<=i:=C5 (List.length_filterMap_le _ _) (by rw [List.length_take]; omega);have tk:(lvL b t 0 0 w1 h1).take (i + 1)=(lvL b t 0 0 w1 h1).take i ++ [f]:=by rw [List.take_add_one,hf]; rfl
   refine ⟨by rw [List.length_map]; rw [List.length_map] at hin; omega,leS.set rfl,?_⟩;rcases jw b t 0 0 w1 h1 f (B5 hf) with et | ⟨ki,c,px',py',et⟩
   ·rw [et] at tu;obtain ⟨a',rfl,ha'⟩:=tu;refine ⟨_,Y,a,_,4,_,Y,Y,EV hu,Y,a',_,0,_,Y,Y,EV ha',Y,Y,_,Y,?_⟩;refine aJ (Nx.of hin ⟨sx,as,rfl,?_⟩);rw [tk,List.filterMap_append,show [f].filterMap lfP=[] by rw [List.filterMap_cons,show lfP f=none by unfold lfP; rw [et]]; rfl,List.append_nil];exact px
   ·rw [et] at tu;obtain ⟨a',rfl,ha'⟩:=tu;refine ⟨_,Y,a,_,4,_,Y,Y,EV hu,Y,a',_,0,_,Y,Y,EV ha',Y,Y,_,Y,?_⟩;refine aS ⟨_,rfl,a,_,4,_,rfl,rfl,EV hu,rfl,a',_,1,_,rfl,rfl,EV ha',rfl,_,rfl,a,_,4,_,rfl,rfl,EV hu,rfl,a',_,2,_,rfl,rfl,EV ha',rfl,_,rfl,a,_,0,_,rfl,rfl,EV hu,rfl,_,rfl,a,_,4,_,rfl,rfl,EV hu,rfl,a',_,3,_,rfl,rfl,EV ha',rfl,_,_,rfl,rfl,_,rfl,a,_,1,_,rfl,rfl,EV hu,rfl,_,rfl,a,_,4,_,rfl,rfl,EV hu,rfl,a',_,4,_,rfl,rfl,EV ha',rfl,_,_,rfl,rfl,zS4,λ tp htp=>Nx.of hin ⟨sx.trans (EU htp),as ++ [tp],by rw [List.map_append]; rfl,?_⟩⟩;rw [tk,List.filterMap_append,show [f].filterMap lfP=[⟨ki,c,f.x + px',f.y + py'⟩] by rw [List.filterMap_cons,show lfP f=some ⟨ki,c,f.x + px',f.y + py'⟩ by unfold lfP; rw [et]]; rfl];exact dW (PA.keep (λ a xs e=>EU htp _ _ e) px) (.cons af .nil)
  ·rintro ys Hx ⟨sx,as,rfl,px⟩;have yl:=EC px;rw [List.length_map,al0,List.take_length] at px yl;have fml:((lvL b t 0 0 w1 h1).filterMap lfP).length<=(lvL b t 0 0 w1 h1).length:=List.length_filterMap_le _ _;refine ⟨by rw [List.length_map]; omega,λ cl hcl=>?_⟩;obtain ⟨H4,e4,k4,s4⟩:∃H',upd Hx cl (.lst (as.map V.ref))=H'/\H' cl=↥(as.map V.ref)/\Same Hx H':=⟨_,Y,af,EU hcl⟩
   rw [show upd Hx cl _=H4 from e4];have pa4:Paired (PA H4) as ((lvL b t 0 0 w1 h1).filterMap lfP):=PA.keep (λ a xs e=>s4 _ _ e) px;have mem:=PA.mem pa4;have mp:=PA.map pa4;refine ⟨cl,as,[false,true,false,false],λ a=>gw (dw H4 a),Y,EW k4,⋯,Y,λ a ha=>⟨_,EV (mem a ha),Y⟩,λ l' as' hl' pa so=>?_⟩;have s5:=EU hl' (o:=.lst (as'.map V.ref));refine hR _ _ ⟨l',as',as'.map (dw H4),rfl,af,PA.keep (λ a xs e=>s5 _ _ e) (PA.back λ a ha=>mem a (pa.mem_iff.mp ha)),?_,?_,(sx.trans s4).trans s5⟩
   ·exact (mp ▸ pa.map (dw H4)).trans ((bT b t 0 0 w1 h1).filterMap _)
   ·rw [List.map_map]; exact so
 rintro _ H2 ⟨pl,as2,ps,rfl,hp2,pa2',pp2,so2,s2⟩;have hq2:=s2 _ _ hq1;have pa2:=LA.keep (λ a xs e=>s2 _ _ e) pa1;refine aw (λ σ' H'=>∃ (rl:Addr) (as3:List Addr) (qs:List Rst),σ'=[↑s,↑st,⇑w1,⇑h1,some v,↑q0,⇑(tkL b t w1 h1),↑pl,↑rl,none,none,none]/\H' rl=↥(as3.map V.ref)/\Paired (RA H') as3 qs/\qs.Perm (rE b t w1 h1)/\(qs.map gy).Pairwise (λ x y=>bz y x=false)/\Same H2 H') (λ R hR=>?_) ?_
 ·refine ⟨_,Y,q0,Y,⟨_,EW hq2⟩,(bi (K:=K) (.inl hq2) (λ i ys Hx=>Same H2 Hx/\∃as,ys=as.map V.ref/\Paired (RA Hx) as (((lvL b t 0 0 w1 h1).take i).filterMap lfR)) (λ i ys Hx _ ⟨sx,_⟩ o e=>sx _ _ e) ⟨Same.refl _,[],Y,.nil⟩ ?_ ?_).1 hq2⟩
  ·rintro i x ys Hx hi ⟨sx,as,rfl,px⟩;have hin:i < (as0.map V.ref).length:=(A6.mp hi).1;rw [List.getElem?_map] at hi;obtain ⟨a,ha,rfl⟩:=Option.map_eq_some_iff.mp hi;obtain ⟨f,hf,u,hu,tu⟩:=EY pa2 ha;have hu:=sx _ _ hu;have tu:=TrV.keep (λ a xs e=>sx _ _ e) _ tu;have yl:=EC px;have fml:(((lvL b t 0 0 w1 h1).take i).filterMap lfR).length<=i:=C5 (List.length_filterMap_le _ _) (by rw [List.length_take]; omega);have tk:(lvL b t 0 0 w1 h1).take (i + 1)=(lvL b t 0 0 w1 h1).take i ++ [f]:=by rw [List.take_add_one,hf]; rfl
   refine ⟨by rw [List.length_map]; rw [List.length_map] at hin; omega,leS.set rfl,?_⟩;rcases jw b t 0 0 w1 h1 f (B5 hf) with et | ⟨ki,c,px',py',et⟩
   ·rw [et] at tu;obtain ⟨a',rfl,ha'⟩:=tu;refine ⟨_,Y,a,_,4,_,Y,Y,EV hu,Y,a',_,0,_,Y,Y,EV ha',Y,Y,_,Y,?_⟩;refine aS ⟨_,rfl,_,rfl,a,_,rfl,EV hu,(by show ¬ (HT.sIx 5 0 none=0/\HT.sIx 5 5 (some 4)=5); decide),λ tp htp=>Nx.of hin ⟨sx.trans (EU htp),as ++ [tp],by rw [List.map_append]; rfl,?_⟩⟩;rw [tk,List.filterMap_append,show [f].filterMap lfR=[⟨f.x,f.y,f.w,f.h⟩] by rw [List.filterMap_cons,show lfR f=some ⟨f.x,f.y,f.w,f.h⟩ by unfold lfR; rw [et]]; rfl];exact dW (RA.keep (λ a xs e=>EU htp _ _ e) px) (.cons af .nil)
   ·rw [et] at tu;obtain ⟨a',rfl,ha'⟩:=tu;refine ⟨_,Y,a,_,4,_,Y,Y,EV hu,Y,a',_,0,_,Y,Y,EV ha',Y,Y,_,Y,?_⟩;refine aJ (Nx.of hin ⟨sx,as,rfl,?_⟩);rw [tk,List.filterMap_append,show [f].filterMap lfR=[] by rw [List.filterMap_cons,show lfR f=none by unfold lfR; rw [et]]; rfl,List.append_nil];exact px
  ·rintro ys Hx ⟨sx,as,rfl,px⟩;have yl:=EC px;rw [List.length_map,al0,List.take_length] at px yl;have fml:((lvL b t 0 0 w1 h1).filterMap lfR).length<=(lvL b t 0 0 w1 h1).length:=List.length_filterMap_le _ _;refine ⟨by rw [List.length_map]; omega,λ cl hcl=>?_⟩;obtain ⟨H4,e4,k4,s4⟩:∃H',upd Hx cl (.lst (as.map V.ref))=H'/\H' cl=↥(as.map V.ref)/\Same Hx H':=⟨_,Y,af,EU hcl⟩
   rw [show upd Hx cl _=H4 from e4];have pa4:Paired (RA H4) as ((lvL b t 0 0 w1 h1).filterMap lfR):=RA.keep (λ a xs e=>s4 _ _ e) px;have mem:=RA.mem pa4;have mp:=RA.map pa4;refine ⟨cl,as,[false,false,false,false],λ a=>gy (cZ H4 a),Y,EW k4,⋯,Y,λ a ha=>⟨_,EV (mem a ha),Y⟩,λ l' as' hl' pa so=>?_⟩;have s5:=EU hl' (o:=.lst (as'.map V.ref));refine hR _ _ ⟨l',as',as'.map (cZ H4),rfl,af,RA.keep (λ a xs e=>s5 _ _ e) (RA.back λ a ha=>mem a (pa.mem_iff.mp ha)),?_,?_,(sx.trans s4).trans s5⟩
   ·exact (mp ▸ pa.map (cZ H4)).trans ((bT b t 0 0 w1 h1).filterMap _)
   ·rw [List.map_map]; exact so
 rintro _ H3 ⟨rl,as3,qs,rfl,hr3,ra3,pq3,so3,s3⟩;have s03:=(s1.trans s2).trans s3;have psl:ps.length<=225:=by rw [pp2.length_eq];exact C5 (List.length_filterMap_le _ _) (by rw [(TrD.many (b:=b) t (toD t) 0 0 w1 h1 (TrD.to t)).1]; exact lv)
 have qsl:qs.length<=225:=by rw [pq3.length_eq];exact C5 (List.length_filterMap_le _ _) (by rw [(TrD.many (b:=b) t (toD t) 0 0 w1 h1 (TrD.to t)).1]; exact lv)
 have shp:SeqAt.shaped (.list (ps.map iP))=true:=by obtain ⟨h1',h2'⟩:=gD ps;unfold SeqAt.shaped;rw [PyData.canLay0,h1',PyData.depth,decide_eq_true (show PyData.depthAll (ps.map iP) + 1<=64 by omega)]; rfl
 have shr:SeqAt.shaped (.list (qs.map iQ))=true:=by obtain ⟨h1',h2'⟩:=gE qs;unfold SeqAt.shaped;rw [PyData.canLay0,h1',PyData.depth,decide_eq_true (show PyData.depthAll (qs.map iQ) + 1<=64 by omega)]; rfl
 have pk:∀p∈ps,p.k < ks.length:=λ p hp=>pP okt (pp2.mem_iff.mp hp);have hp3:=s3 _ _ hp2;have pa3:=PA.keep (λ a xs e=>s3 _ _ e) pa2';clear pa2' hp2;refine aw (λ σ' H'=>σ'=[↑s,↑st,⇑w1,⇑h1,some v,↑q0,⇑(tkL b t w1 h1),↑pl,↑rl,none,none,none]/\Same H3 H') (λ R hR=>?_) ?_
 ·refine ⟨_,Y,_,Y,_,Y,_,Y,s,s,b,w1,h1,ks,v,toD t,t,Y,th.same s03,λ l4 as4 ps4 H4 hl4 k4 pa4 pe4 so4 s4=>?_⟩;have ep:ps4=ps:=sY (pe4.trans pp2.symm) so4 so2;subst ep;refine ⟨_,Y,.list (ps4.map iP),.list (ps4.map iP),.lst (EW k4) (PA.dat pa4),.lst (EW (s4 _ _ hp3)) (PA.dat (PA.keep (λ a xs e=>s4 _ _ e) pa3)),shp,shp,_,Y,?_⟩;rw [PySem.SeqAt.eqv_refl _ (show PyData.canLay0 (.list (ps4.map iP))=true from (gD ps4).1)];refine aJ ⟨_,rfl,_,rfl,_,rfl,_,rfl,s,s,b,w1,h1,ks,v,toD t,t,rfl,th.same (s03.trans s4),λ l5 as5 qs5 H5 hl5 k5 ra5 re5 so5 s5=>?_⟩;have eq:qs5=qs:=tj (re5.trans pq3.symm) so5 so3;subst eq;refine ⟨_,Y,.list (qs5.map iQ),.list (qs5.map iQ),.lst (EW k5) (RA.dat ra5),.lst (EW (s5 _ _ (s4 _ _ hr3))) (RA.dat (RA.keep (λ a xs e=>s5 _ _ (s4 _ _ e)) ra3)),shr,shr,_,Y,?_⟩;rw [PySem.SeqAt.eqv_refl _ (show PyData.canLay0 (.list (qs5.map iQ))=true from (gE qs5).1)];exact aJ (hR _ _ ⟨rfl,s4.trans s5⟩)
 rintro _ H4 ⟨rfl,s4⟩;have hp4:=s4 _ _ hp3;have pa4:=PA.keep (λ a xs e=>s4 _ _ e) pa3;have pl4:=EC pa4;refine aw (λ σ' H'=>∃kl:Addr,σ'=[↑s,↑st,⇑w1,⇑h1,some v,↑q0,⇑(tkL b t w1 h1),↑pl,↑rl,↑kl,none,none]/\H' kl=↥((ps.map kiP).map V.int)/\Same H4 H') (λ R hR=>?_) ?_
 ·refine ⟨_,Y,pl,Y,⟨_,EW hp4⟩,(bi (K:=K) (.inl hp4) (λ i ys Hx=>Same H4 Hx/\ys=((ps.take i).map kiP).map V.int) (λ i ys Hx _ ⟨sx,_⟩ o e=>sx _ _ e) ⟨Same.refl _,Y⟩ ?_ ?_).1 hp4⟩
  ·rintro i x ys Hx hi ⟨sx,rfl⟩;have hin:i < (as2.map V.ref).length:=(A6.mp hi).1;rw [List.getElem?_map] at hi;obtain ⟨a,ha,rfl⟩:=Option.map_eq_some_iff.mp hi;obtain ⟨p,hp,pA⟩:=EY pa4 ha;have pA:Hx a= ~~~[.int p.k,.bl p.c,.int p.x,.int p.y]:=sx _ _ pA;have tk:ps.take (i + 1)=ps.take i ++ [p]:=by rw [List.take_add_one,hp]; rfl
   refine ⟨by rw [List.length_map,List.length_map,List.length_take]; omega,leS.set rfl,⟨_,Y,a,_,0,_,Y,Y,EV pA,Y,Nx.of hin ⟨sx,?_⟩⟩⟩;rw [tk,List.map_append,List.map_append]
   rfl
  ·rintro ys Hx ⟨sx,rfl⟩;rw [show (as2.map V.ref).length=ps.length by rw [List.length_map,pl4],List.take_length];refine ⟨by rw [List.length_map,List.length_map]; omega,λ cl hcl=>hR _ _ ⟨cl,Y,af,sx.trans (EU hcl)⟩⟩
 rintro _ H5 ⟨kl,rfl,hk5,s5⟩;have s05:=(s03.trans s4).trans s5;have rsl:=EC tp;have cl0:(bp (pcs b t w1 h1) ks.length).length=ks.length:=bM _ _;refine aw (λ σ' H'=>σ'=[↑s,↑st,⇑w1,⇑h1,some v,↑q0,⇑(tkL b t w1 h1),↑pl,↑rl,↑kl,none,none]/\Same H5 H') (λ R hR=>?_) ?_
 ·refine ⟨_,Y,_,Y,_,Y,_,Y,s,s,b,w1,h1,ks,v,toD t,t,Y,th.same s05,kl8,λ l6 H6 hl6 k6 s6=>?_⟩;have s06:=s05.trans s6;rw [<- fh pp2] at k6;refine ⟨_,Y,st,_,1,_,Y,Y,EV (s06 _ _ hst),Y,l,_,Y,.inl (EW (s06 _ _ hl0)),_,Y,⋯,⋯,oY (lo:=0) (n:=Int.toNat (rs.length:Int)) (λ i ys Hx=>Same H6 Hx/\ys=((bp ps ks.length).take i).map V.int) ⟨Same.refl _,Y⟩ ?_ ?_⟩
  ·rintro i ys Hx hi ⟨sx,rfl⟩;have hik:i < ks.length:=⋯
   refine ⟨by rw [List.length_map,List.length_take]; omega,leS.set rfl,bS ?_⟩;have hkx:=sx _ _ (s6 _ _ hk5);refine ⟨_,Y,.inl ⟨Y,_,EW hkx⟩,_,Y,kl,ps.map kiP,_,Y,Y,hkx,Nx.of hi ⟨sx,?_⟩⟩;rw [List.take_add_one,eR hik,Int.zero_add,pZ];simp only [Option.toList_some,List.map_append,List.map_cons,List.map_nil]
  ·rintro ys Hx ⟨sx,rfl⟩;refine ⟨by rw [List.length_map,List.length_take]; omega,λ ml hml=>?_⟩;rw [List.take_of_length_le (by rw [bM]; omega)];obtain ⟨H7,e7,k7,s7⟩:∃H',upd Hx ml (.lst ((bp ps ks.length).map V.int))=H'/\H' ml=↥((bp ps ks.length).map V.int)/\Same Hx H':=⟨_,Y,af,EU hml⟩
   rw [show upd Hx ml _=H7 from e7];have ilay:∀ns:List Int,PyData.canLayAll0 (ns.map PyData.int)=true/\PyData.depthAll (ns.map PyData.int)=0:=λ ns=>by
    induction ns with
    | nil=>exact ⟨Y,Y⟩
    | cons n r ih =>
     obtain ⟨i1,i2⟩:=ih;refine ⟨by rw [List.map_cons,PyData.canLayAll0,i1]; rfl,?_⟩;rw [List.map_cons,PyData.depthAll,i2]
     rfl
   have shc:SeqAt.shaped (.list ((bp ps ks.length).map PyData.int))=true:=by
    obtain ⟨i1,i2⟩:=ilay (bp ps ks.length);unfold SeqAt.shaped;rw [PyData.canLay0,i1,PyData.depth,i2]
    decide
   refine ⟨.list ((bp ps ks.length).map PyData.int),.list ((bp ps ks.length).map PyData.int),.lst (EW (s7 _ _ (sx _ _ k6))) (sO _),.lst (EW k7) (sO _),shc,shc,_,Y,?_⟩;rw [PySem.SeqAt.eqv_refl _ (show PyData.canLay0 (.list ((bp ps ks.length).map PyData.int))=true from (ilay _).1)];exact aJ (hR _ _ ⟨rfl,(s6.trans sx).trans s7⟩)
 rintro _ H6 ⟨rfl,s6⟩;have s06:=s05.trans s6;have hk6:=s6 _ _ hk5;obtain ⟨W,hW⟩:∃W,W=(ps.map (woS ks)).sum:=⟨_,Y⟩
 refine aw (λ σ' H'=>σ'=[↑s,↑st,⇑w1,⇑h1,some v,↑q0,⇑(tkL b t w1 h1),↑pl,↑rl,↑kl,none,none]/\Same H6 H') (λ R hR=>?_) ?_
 ·refine ⟨_,Y,_,Y,_,Y,_,Y,s,s,b,w1,h1,ks,v,toD t,t,Y,th.same s06,kl8,gk,λ H7 s7=>?_⟩;have e:wrt (pcs b t w1 h1) ks=W:=by rw [hW,<- pW ks ps pk];unfold wrt;rw [fh pp2]
  rw [show (((bp (pcs b t w1 h1) ks.length).zip ks).map λ z=>z.1 * z.2.wo).sum=W from e];have hk7:=s7 _ _ hk6;refine ⟨_,Y,kl,Y,⟨_,EW hk7⟩,(bi (K:=K) (.inl hk7) (λ i ys Hx=>Same H7 Hx/\ys=((ps.take i).map (woS ks)).map V.int) (λ i ys Hx _ ⟨sx,_⟩ o e=>sx _ _ e) ⟨Same.refl _,Y⟩ ?_ ?_).1 hk7⟩
  ·rintro i x ys Hx hi ⟨sx,rfl⟩;have s0x:=(s06.trans s7).trans sx;have hin:i < ((ps.map kiP).map V.int).length:=(A6.mp hi).1;rw [List.getElem?_map,List.getElem?_map] at hi;obtain ⟨z,hz,rfl⟩:=Option.map_eq_some_iff.mp hi;obtain ⟨p,hp,rfl⟩:=Option.map_eq_some_iff.mp hz;have hpk:=pk p (B5 hp);obtain ⟨kv,hkv,ak,rfl,hak⟩:=Paired.getL tp (EJ hpk);have hak:Hx ak=some (.tup [.int ks[p.k].w,.int ks[p.k].h,.int ks[p.k].wo,.int ks[p.k].wa,.bl ks[p.k].tu]):=s0x _ _ hak;have hat:atI rs (kiP p)=↑ak:=aG (by unfold kiP; omega) (by unfold kiP; rw [Int.toNat_natCast]; exact hkv);have hst':=s0x _ _ hst;have hl':=s0x _ _ hl0;refine ⟨by rw [List.length_map,List.length_map,List.length_take]; omega,leS.set rfl,bS ?_⟩;refine ⟨_,Y,st,_,1,_,Y,Y,EV hst',Y,_,Y,l,_,_,_,Y,Y,EW hl',hat,ak,_,2,_,Y,Y,EV hak,Y,Nx.of hin ⟨sx,?_⟩⟩;rw [List.take_add_one,hp];simp only [Option.toList_some,List.map_append,List.map_cons,List.map_nil];unfold woS;rw [List.getElem?_eq_getElem hpk]
  ·rintro ys Hx ⟨sx,rfl⟩;rw [show ((ps.map kiP).map V.int).length=ps.length by rw [List.length_map,List.length_map],List.take_length];refine ⟨by rw [List.length_map,List.length_map]; omega,λ nl hnl=>⟨nl,_,Y,EW af,Y,_,Y,?_⟩⟩;rw [<- hW];show (if (!decide (V.int W=V.int W))=true then _ else _);rw [decide_eq_true (rfl:V.int W=V.int W)];exact aJ (hR _ _ ⟨rfl,(s7.trans sx).trans (EU hnl)⟩)
 rintro _ H7 ⟨rfl,s7⟩;have s07:=s06.trans s7;have hk7:=s7 _ _ hk6;obtain ⟨ow,how⟩:∃W,W=(ps.map (owS ks)).sum:=⟨_,Y⟩
 refine aw (λ σ' H'=>σ'=[↑s,↑st,⇑w1,⇑h1,some v,↑q0,⇑(tkL b t w1 h1),↑pl,↑rl,↑kl,⇑ow,none]/\Same H7 H') (λ R hR=>?_) ?_
 ·refine ⟨_,Y,kl,Y,⟨_,EW hk7⟩,(bi (K:=K) (.inl hk7) (λ i ys Hx=>Same H7 Hx/\ys=((ps.take i).map (owS ks)).map V.int) (λ i ys Hx _ ⟨sx,_⟩ o e=>sx _ _ e) ⟨Same.refl _,Y⟩ ?_ ?_).1 hk7⟩
  ·rintro i x ys Hx hi ⟨sx,rfl⟩;have s0x:=s07.trans sx;have hin:i < ((ps.map kiP).map V.int).length:=(A6.mp hi).1;rw [List.getElem?_map,List.getElem?_map] at hi;obtain ⟨z,hz,rfl⟩:=Option.map_eq_some_iff.mp hi;obtain ⟨p,hp,rfl⟩:=Option.map_eq_some_iff.mp hz;have hpk:=pk p (B5 hp);obtain ⟨kv,hkv,ak,rfl,hak⟩:=Paired.getL tp (EJ hpk);have hak:Hx ak=some (.tup [.int ks[p.k].w,.int ks[p.k].h,.int ks[p.k].wo,.int ks[p.k].wa,.bl ks[p.k].tu]):=s0x _ _ hak;have hat:atI rs (kiP p)=↑ak:=aG (by unfold kiP; omega) (by unfold kiP; rw [Int.toNat_natCast]; exact hkv);have hst':=s0x _ _ hst;have hl':=s0x _ _ hl0;have g:=gk _ (List.getElem_mem hpk);have g1:=g.w;have g2:=g.h;have g3:=g.w';have g4:=g.h';refine ⟨by rw [List.length_map,List.length_map,List.length_take]; omega,leS.set rfl,bS ?_⟩;refine ⟨_,Y,st,_,1,_,Y,Y,EV hst',Y,_,Y,l,_,_,_,Y,Y,EW hl',hat,ak,_,0,_,Y,Y,EV hak,Y,_,Y,st,_,1,_,Y,Y,EV hst',Y,_,Y,l,_,_,_,Y,Y,EW hl',hat,ak,_,1,_,Y,Y,EV hak,Y,_,_,Y,Y,⟨b60 ⋯ ⋯,b60 ⋯ ⋯⟩,Nx.of hin ⟨sx,?_⟩⟩;rw [List.take_add_one,hp];simp only [Option.toList_some,List.map_append,List.map_cons,List.map_nil];unfold owS;rw [List.getElem?_eq_getElem hpk]
  ·rintro ys Hx ⟨sx,rfl⟩;rw [show ((ps.map kiP).map V.int).length=ps.length by rw [List.length_map,List.length_map],List.take_length];refine ⟨by rw [List.length_map,List.length_map]; omega,λ nl hnl=>⟨nl,_,Y,EW af,?_⟩⟩;rw [<- how];exact hR _ _ ⟨rfl,sx.trans (EU hnl)⟩
 rintro _ H8 ⟨rfl,s8⟩;have s38:=((((s4.trans s5).trans s6).trans s7).trans s8)
 have hr8:=s38 _ _ hr3;have ra8:=RA.keep (λ a xs e=>s38 _ _ e) ra3;have ral:=EC ra3;obtain ⟨fr,hfr⟩:∃W,W=(qs.map rsS).sum:=⟨_,Y⟩
 have e60:(500:Int)<=10 ^ 60:=∅
 have qb:∀r∈qs,0<=r.w/\r.w<=10 ^ 60/\0<=r.h/\r.h<=10 ^ 60:=λ r hr=>by
  obtain ⟨f,hf,e⟩:=List.mem_filterMap.mp (pq3.mem_iff.mp hr);have bd:=dR b0 t 0 0 w1 h1 w0 h0 okt f hf;obtain ⟨z1,z2,z3,z4,_⟩:=bd;unfold lfR at e
  split at e
  ·cases e;exact ⟨by dsimp only; omega,by dsimp only; omega,by dsimp only; omega,by dsimp only; omega⟩
  ·cases e
 refine aw (λ σ' H'=>σ'=[↑s,↑st,⇑w1,⇑h1,some v,↑q0,⇑(tkL b t w1 h1),↑pl,↑rl,↑kl,⇑ow,⇑fr]/\Same H8 H') (λ R hR=>?_) ?_
 ·refine ⟨_,Y,rl,Y,⟨_,EW hr8⟩,(bi (K:=K) (.inl hr8) (λ i ys Hx=>Same H8 Hx/\ys=((qs.take i).map rsS).map V.int) (λ i ys Hx _ ⟨sx,_⟩ o e=>sx _ _ e) ⟨Same.refl _,Y⟩ ?_ ?_).1 hr8⟩
  ·rintro i x ys Hx hi ⟨sx,rfl⟩;have hin:i < (as3.map V.ref).length:=(A6.mp hi).1;rw [List.getElem?_map] at hi;obtain ⟨a,ha,rfl⟩:=Option.map_eq_some_iff.mp hi;obtain ⟨p,hp,pA⟩:=EY ra8 ha;have pA:Hx a= ~~~[.int p.x,.int p.y,.int p.w,.int p.h]:=sx _ _ pA;obtain ⟨z1,z2,z3,z4⟩:=qb p (B5 hp);refine ⟨by rw [List.length_map,List.length_map,List.length_take]; omega,leS.set rfl,bS ?_⟩;refine ⟨_,Y,a,_,2,_,Y,Y,EV pA,Y,_,Y,a,_,3,_,Y,Y,EV pA,Y,_,_,Y,Y,⟨b60 z1 z2,b60 z3 z4⟩,Nx.of hin ⟨sx,?_⟩⟩;rw [List.take_add_one,hp];simp only [Option.toList_some,List.map_append,List.map_cons,List.map_nil]
   rfl
  ·rintro ys Hx ⟨sx,rfl⟩;rw [show (as3.map V.ref).length=qs.length by rw [List.length_map,ral],List.take_length];refine ⟨by rw [List.length_map,List.length_map]; omega,λ nl hnl=>⟨nl,_,Y,EW af,?_⟩⟩;rw [<- hfr];exact hR _ _ ⟨rfl,sx.trans (EU hnl)⟩
 rintro _ H9 ⟨rfl,s9⟩;have s09:=(s07.trans s8).trans s9;obtain ⟨ea,er,em⟩:=pY (ks:=ks) pp2 pq3;rw [<- how] at ea em;rw [<- hfr] at er em;refine ⟨_,Y,_,Y,_,Y,_,Y,s,s,b,w1,h1,ks,v,toD t,t,Y,th.same s09,b0,⋯,⋯,gk,λ l10 A R' M H10 hA hR' hM hl10 k10 s10=>?_⟩;rw [hA,hR',hM,ea,er] at k10;obtain ⟨tk,htk⟩:∃tk,tkL b t w1 h1=tk:=⟨_,Y⟩
 rw [htk] at em ⊢;rw [show bm (mgA ks) (lvs b t 0 0 w1 h1)=w1 * h1 - ow - fr - tk by omega,show w1 * h1 - ow - fr - (w1 * h1 - ow - fr - tk)=tk by omega] at k10;refine ⟨_,Y,_,Y,_,Y,_,Y,_,_,Y,Y,⟨b60 ⋯ ⋯,b60 ⋯ ⋯⟩,_,Y,_,_,Y,Y,_,Y,_,_,Y,Y,_,Y,_,_,Y,Y,_,Y,zS4,λ tq htq=>?_⟩;obtain ⟨H11,e11,k11,s11⟩:∃H',upd H10 tq (.tup [.int ow,.int fr,.int (w1 * h1 - ow - fr - tk),.int tk])=H'/\H' tq= ~~~[.int ow,.int fr,.int (w1 * h1 - ow - fr - tk),.int tk]/\Same H10 H':=⟨_,Y,af,EU htq⟩
 rw [show upd H10 tq _=H11 from e11];have da:∀ {Hx:Hp},DatVs K Hx [V.int ow,V.int fr,V.int (w1 * h1 - ow - fr - tk),V.int tk] [.int ow,.int fr,.int (w1 * h1 - ow - fr - tk),.int tk]:=λ {Hx}=>.cons (.int _) (.cons (.int _) (.cons (.int _) (.cons (.int _) .nil)));refine ⟨.tuple [.int ow,.int fr,.int (w1 * h1 - ow - fr - tk),.int tk],.tuple [.int ow,.int fr,.int (w1 * h1 - ow - fr - tk),.int tk],.tup (EV (s11 _ _ k10)) da,.tup (EV k11) da,Y,Y,?_⟩;rw [PySem.SeqAt.eqv_refl _ (show PyData.canLay0 (.tuple [.int ow,.int fr,.int (w1 * h1 - ow - fr - tk),.int tk])=true from rfl)];exact q _ ((s09.trans s10).trans s11)
end
theorem mX {C x dx:Addr} {H:Hp} (hx:H x=none) (hd:H dx=none):Same H (upd (upd H dx (.own x)) x (.ins C dx [])):=λ c o e=>by rw [aj (aq e hx),aj (aq e hd)]; exact e
section
variable {P:EQ} {w:ES} {K:C4} {mg:Str->Option ET} {base:Heap}
def lT (K:C4):Sp:=λ vs H Q _=>∃ (a:Addr) (ns:List Int),vs=[.ref a]/\SqL K H a (ns.map V.int)/\ns.length<=63/\∀H',Q (.bl true) H'
theorem sclaw:FnScope ["_law_script","_law_pot_here","_law_told","_law_shop_here","_law_place","_law_sides","_law_tree","_law_wide","_law_high"] ["_law_script"] (defScope jl):=⟨Y,Y,Y,∅,Y,∅,∅⟩
theorem tm {f C:Addr} {fd:ER} (F:Fun K "law" "law" jl f fd) (B:Blt mg) (DP:Dn P w K mg base "_law_pot" ["_law_script","_law_place"] 1 (oQ K)) (DSh:Dn P w K mg base "_law_shop" ["_law_pot_here"] 4 (spShopL)) (DDe:Dn P w K mg base "_law_deep" ["_law_pot_here","_law_shop_here"] 5 (kC)) (DLs:Dn P w K mg base "_law_listed" ["_law_thing"] 62 (spListed 61)) (DI:Dn P w K mg base "is_tree" ["shop","wide","high","thing"] 6 (spIsTree C)) (DMe:Dn P w K mg base "_law_measured" ["_law_shop_here","_law_told","_law_wide","_law_high","_law_tree"] 63 (kF C)) (DS:Kn P w K mg base "Shop" C ["self","blade","kinds"] 3 (jY C)):FnOk P w K mg base CX0 64 f fd ["_law_script"] (lT K):=by
 refine F.ok sclaw (λ vs H Q E h=>?_) (λ cdv A outer s H vs Q E hr h=>?_)
 ·obtain ⟨a,ns,rfl,_⟩:=h
  rfl
 obtain ⟨a,ns,rfl,hS,h63,q⟩:=h;have nd:=sclaw.nd;have hu:=hr.units;refine ⟨_,((1∣(DP∩((pv 0)^^^(ad^^^ab))))<<<((2∣(DSh∩((pv 1)^^^ab)))<<<((2∣(@ay _ _ _ _ _ ((((pv 2)&&&ix_tup&&&ad)|||eV|||ad)^^^(((pv 2)&&&ix_tup&&&ad)^^^ab))))<<<((3∣(vO DS (hr.mono ∅) Y (((pv 2)&&&ix_tup&&&ad)^^^(((pv 2)&&&ix_tup&&&ad)^^^ab))))<<<((@cy _ _ _ _ _ _ _ _ ED Y (lW Y B.range (ad^^^((@aF _ _ _ _ _ _ _ _ _ (lY Y) Y B.max PyProof.Rows.boot_max (ad^^^((@aF _ _ _ _ _ _ _ _ _ (lZ Y) Y B.min PyProof.Rows.boot_min (ad^^^((@aF _ _ _ _ _ _ _ _ _ aU Y B.len PySem.boot_len ((pv 0)^^^ab) ∅ ∅ Y Y)^^^ab)) ∅ ∅ Y Y)^^^ab)) ∅ ∅ Y Y)^^^ab))) (ai (i:=4) nd Y (Or.inl Y)) ((1∣(DP∩((pv 0)^^^((pv 4)^^^ab))))<<<((@be _ _ _ _ _ _ (DDe∩((pv 1)^^^((pv 2)^^^ab))) (aR Y (5•(6•aI))) Y Y Y)<<<((@be _ _ _ _ _ _ (pv 5) (aR Y (7•(8•aI))) Y Y Y)<<<(((PW.pt (cB ((DI∩((pv 3)^^^((pv 7)^^^((pv 8)^^^((pv 6)^^^ab)))))<*>jh<*>bO) (cf ((DI∩((pv 3)^^^((pv 7)^^^((pv 8)^^^((DLs∩((pv 6)^^^ab))^^^ab)))))<*>jh<*>bO))))<|>(bO⁻¹)<|>aA)>>>((@aZ _ _ _ _ (@aO _ _ _ (DMe∩((pv 3)^^^((pv 2)^^^((pv 7)^^^((pv 8)^^^((pv 6)^^^ab)))))) (by intro _; rfl)))<|>(bO⁻¹)<|>aA))))) (by intro _; rfl))<<<(bO⁻¹)))))),?_⟩;have e60:(100:Int) < 10 ^ 60:=∅
 refine aw (λ σ' H'=>∃p,σ'=[↑a,↑p,none,none,none,none,none,none,none]/\H p=none/\PotAt H' p/\Same H H') (λ R hR=>?_) ?_
 ·exact ⟨_,Y,a,ns,0,Y,hS,∅,∅,h63,λ p H1 hp pt1 s1=>hR _ _ ⟨p,Y,hp,pt1,s1⟩⟩
 rintro _ H1 ⟨p,rfl,hp,pt1,s1⟩;refine aw (λ σ' H'=>∃ (st l:Addr) (b:Int) (rs:List V) (ks:List Kd),σ'=[↑a,↑p,↑st,none,none,none,none,none,none]/\H' st= ~~~[.int b,.ref l]/\H' l=↥rs/\Tups H' rs ks/\(∀k∈ks,Good k)/\1<=rs.length/\rs.length<=8/\Same H H') (λ R hR=>?_) ?_
 ·exact ⟨_,Y,p,Y,pt1,λ t l b rs ks H2 ht hl nlp tp gk r1 r8 b0 pt2 b2=>hR _ _ ⟨t,l,b,rs,ks,Y,ht,hl,tp,gk,r1,r8,But.same ((Pc.Same.but s1).trans b2) hp⟩⟩
 rintro _ H2 ⟨st0,l,b1,rs,ks,rfl,hst0,hl2,tp2,gk,r1,r8,s02⟩;refine aw (λ σ' H'=>∃ (st:Addr) (b:Int),σ'=[↑a,↑p,↑st,none,none,none,none,none,none]/\H' st= ~~~[.int b,.ref l]/\0<=b/\b<=3/\Same H2 H') (λ R hR=>?_) ?_
 ·refine ⟨_,Y,st0,_,0,_,Y,Y,EV hst0,Y,_,_,Y,Y,(by show (0:Int) < 4; decide),_,Y,st0,_,1,_,Y,Y,EV hst0,Y,zS2,λ st hst=>hR _ _ ⟨st,b1 % 4,Y,af,⋯,⋯,EU hst⟩⟩
 rintro _ H3 ⟨st,b,rfl,hst,b0,b3,s23⟩;have hl3:=s23 _ _ hl2;have tp3:Tups H3 rs ks:=Tups.keep (λ c xs e=>s23 _ _ e) tp2;have s03:=s02.trans s23;refine aw (λ σ' H'=>∃sa,σ'=[↑a,↑p,↑st,↑sa,none,none,none,none,none]/\ShopAt C H' sa b ks/\Same H3 H') (λ R hR=>?_) ?_
 ·refine ⟨_,Y,st,_,0,_,Y,Y,EV hst,Y,_,Y,st,_,1,_,Y,Y,EV hst,Y,λ x dx hx hdx ne0=>?_⟩;have sm:Same H3 (upd (upd H3 dx (.own x)) x (.ins C dx [])):=mX hx hdx;refine ⟨x,dx,l,b,rs,ks,Y,af,b0,.inl (sm _ _ hl3),EX (Tups.keep (λ c xs e=>sm _ _ e) tp3) (λ v k h=>.inl h),gk,r1,r8,λ Hb Sb kb=>⟨Y,hR _ _ ⟨x,Y,Sb,λ c o e=>kb c o (aq e hx) (sm _ _ e)⟩⟩⟩
 rintro _ H4 ⟨sa,rfl,sA,s34⟩;have s04:=s03.trans s34;have hst4:=s34 _ _ hst;have hl4:=s34 _ _ hl3;have tp4:Tups H4 rs ks:=Tups.keep (λ c xs e=>s34 _ _ e) tp3;clear hst hl3 tp3 hl2 tp2 pt1 hst0;have ln:(ns.map V.int).length=ns.length:=List.length_map _;refine aw (λ σ' H'=>True) (λ R hR=>?_) (λ σ' H' _=>q _);refine ⟨_,Y,a,_,Y,.inl (s04.seq hS),_,_,Y,_,_,Y,_,_,Y,⟨∅,∅,?_,?_⟩,?_⟩
 ·rw [ln]; split <;> split <;> omega
 ·rw [ln]; split <;> split <;> omega
 generalize hm:(Int.toNat _)=mm;have m13:mm<=20:=by rw [<- hm,ln]; split <;> split <;> omega
 refine dB (n:=mm) (λ i σ' H'=>(∃ (p:Addr) (v4 v5 v6 v7 v8:Option V),σ'=[↑a,↑p,↑st,↑sa,v4,v5,v6,v7,v8])/\Same H4 H') ⟨⟨p,none,none,none,none,none,rfl⟩,Same.refl _⟩ ?_ (λ σ' H' _=>hR _ _ trivial);clear hp;clear p;rintro i _ H5 hi ⟨⟨p0,v4,v5,v6,v7,v8,rfl⟩,s45⟩;have sA5:=eN s45 sA;have hst5:=s45 _ _ hst4;have hl5:=s45 _ _ hl4;have tp5:Tups H5 rs ks:=Tups.keep (λ c xs e=>s45 _ _ e) tp4;refine aw (λ σ' H'=>∃p,σ'=[↑a,↑p,↑st,↑sa,⇑(1 + i),v5,v6,v7,v8]/\H5 p=none/\PotAt H' p/\Same H5 H') (λ R hR=>?_) ?_
 ·exact ⟨_,Y,_,Y,a,ns,_,Y,s45.seq (s04.seq hS),⋯,⋯,h63,λ p H6 hp pt6 s6=>hR _ _ ⟨p,Y,hp,pt6,s6⟩⟩
 rintro _ H6 ⟨p,rfl,hp,pt6,s56⟩;refine aw (λ σ' H'=>∃ (qa:Addr) (w1 h1:Int) (v:V) (t:Tr),σ'=[↑a,↑p,↑st,↑sa,⇑(1 + i),↑qa,some v,v7,v8]/\H' qa= ~~~[.int w1,.int h1]/\1<=w1/\w1<=500/\1<=h1/\h1<=500/\TrV H' t v/\okT b ks w1 h1 t/\(toD t).depth<=60/\wt (toD t)<=3371/\lvN t<=225/\PotAt H' p/\Same H5 H') (λ R hR=>?_) ?_
 ·refine ⟨_,Y,_,Y,p,st,l,b,rs,ks,Y,s56 _ _ hst5,s56 _ _ hl5,aq hl5 hp,Tups.keep (λ c xs e=>s56 _ _ e) tp5,r8,gk,b0,b3,pt6,λ a' w1 h1 t H7 pl pt7 b67=>?_⟩;obtain ⟨qa,v,ha,hq,w0,w5,h0,h5,tv,okt,dp,wz,lv⟩:=pl;exact ⟨a',_,Y,EV ha,Y,_,_,Y,_,_,Y,Y,hR _ _ ⟨qa,w1,h1,v,t,Y,hq,w0,w5,h0,h5,tv,okt,dp,wz,lv,pt7,But.same ((Pc.Same.but s56).trans b67) hp⟩⟩
 rintro _ H7 ⟨qa,w1,h1,v,t,rfl,hq,w0,w5,h0,h5,tv,okt,dp,wz,lv,pt7,s57⟩;refine aw (λ σ' H'=>σ'=[↑a,↑p,↑st,↑sa,⇑(1 + i),↑qa,some v,⇑w1,⇑h1]/\H7=H') (λ R hR=>?_) ?_
 ·exact ⟨_,Y,qa,_,Y,EV hq,Y,_,_,Y,_,_,Y,Y,hR _ _ ⟨Y,Y⟩⟩
 rintro _ _ ⟨rfl,rfl⟩;have sA7:=eN s57 sA5;refine aw (λ σ' H'=>σ'=[↑a,↑p,↑st,↑sa,⇑(1 + i),↑qa,some v,⇑w1,⇑h1]/\Same H7 H') (λ R hR=>?_) ?_
 ·refine ⟨_,Y,_,Y,_,Y,_,Y,p,sa,b,w1,h1,ks,v,toD t,Y,sA7,w0,h0,tv.dt t,⋯,λ H8 s8=>?_⟩;rw [gr t w1 h1 okt];refine ⟨Y,_,Y,_,Y,aJ ?_⟩;refine ⟨_,Y,_,Y,_,Y,_,Y,p,v,toD t,Y,(TrV.dt t tv).same s8,⋯,⋯,dv (pt7.same s8),λ v' H9 hv s9=>?_⟩;refine ⟨p,sa,b,w1,h1,ks,v',lsD (toD t),Y,eN (s8.trans s9) sA7,w0,h0,hv,(by rw [pM]; omega),λ H10 s10=>?_⟩;rw [eP t w1 h1 okt];exact ⟨Y,_,Y,_,Y,aJ (hR _ _ ⟨Y,(s8.trans s9).trans s10⟩)⟩
 rintro _ H8 ⟨rfl,s78⟩;have s58:=s57.trans s78;exact ⟨_,Y,_,Y,_,Y,_,Y,_,Y,sa,st,l,b,w1,h1,rs,ks,v,t,Y,eN s78 sA7,s58 _ _ hst5,s58 _ _ hl5,Tups.keep (λ c xs e=>s58 _ _ e) tp5,r8,gk,b0,b3,w0,w5,h0,h5,TrV.keep (λ a xs e=>s78 _ _ e) _ tv,okt,dp,wz,lv,λ H9 s9=>⟨_,Y,aJ ⟨⟨p,_,_,_,_,_,Y⟩,(s45.trans s58).trans s9⟩⟩⟩
end
theorem BO {α:Type} {us:List α} (h:us.length=1):∃a,us=[a]:=by
 match us,h with
 | [a],_=>exact ⟨a,Y⟩
theorem tw {α:Type} {us:List α} (h:us.length=2):∃a b,us=[a,b]:=by
 match us,h with
 | [a,b],_=>exact ⟨a,b,Y⟩
theorem tD {α:Type} {us:List α} (h:us.length=3):∃a b c,us=[a,b,c]:=by
 match us,h with
 | [a,b,c],_=>exact ⟨a,b,c,Y⟩
theorem BP {α:Type} {us:List α} (h:us.length=4):∃a b c d,us=[a,b,c,d]:=by
 match us,h with
 | [a,b,c,d],_=>exact ⟨a,b,c,d,Y⟩
theorem BQ {α:Type} {us:List α} (h:us.length=5):∃a b c d e,us=[a,b,c,d,e]:=by
 match us,h with
 | [a,b,c,d,e],_=>exact ⟨a,b,c,d,e,Y⟩
abbrev DI (K:C4) (n:Str) (st:Stmt) (f:Addr):Prop:=∃ (od an:Option Addr) (sl:Array (Option ET)) (oc kV dc pm cd ct:ET),PySem.W.nsIn K mainGlobals n=some (↑f)/\K.lookup f=some ⟨oc,od,.func (EF n n (defArgs st) (defBody st) (defScope st) .none kV dc pm an cd ct),sl⟩/\PySem.W.codeIn K cd n=true/\PySem.W.keepIn K (.ref f)=true
abbrev MI (K:C4) (C:Addr) (n q:Str) (st:Stmt) (f:Addr):Prop:=∃ (od an:Option Addr) (sl:Array (Option ET)) (oc kV dc pm cd ct:ET),PySem.W.findIn K (.ref C) n=some (↑f)/\PySem.W.isFn K (.ref f)=true/\K.lookup f=some ⟨oc,od,.func (EF n q (defArgs st) (defBody st) (defScope st) .none kV dc pm an cd ct),sl⟩/\PySem.W.codeIn K cd q=true/\PySem.W.keepIn K (.ref f)=true
theorem diM {K:C4} {n:Str} {st:Stmt} {f:Addr} {od an:Option Addr} {sl:Array (Option ET)} {oc kV dc pm cd ct:ET} (a:PySem.W.nsIn K mainGlobals n=some (↑f)) (l:K.lookup f=some ⟨oc,od,.func (EF n n (defArgs st) (defBody st) (defScope st) .none kV dc pm an cd ct),sl⟩) (c:PySem.W.codeIn K cd n=true) (k:PySem.W.keepIn K (.ref f)=true):DI K n st f:=⟨_,_,_,_,_,_,_,_,_,a,l,c,k⟩
theorem miM {K:C4} {C:Addr} {n q:Str} {st:Stmt} {f:Addr} {od an:Option Addr} {sl:Array (Option ET)} {oc kV dc pm cd ct:ET} (a:PySem.W.findIn K (.ref C) n=some (↑f)) (i:PySem.W.isFn K (.ref f)=true) (l:K.lookup f=some ⟨oc,od,.func (EF n q (defArgs st) (defBody st) (defScope st) .none kV dc pm an cd ct),sl⟩) (c:PySem.W.codeIn K cd q=true) (k:PySem.W.keepIn K (.ref f)=true):MI K C n q st f:=⟨_,_,_,_,_,_,_,_,_,a,i,l,c,k⟩
inductive DE (K:C4) (mg:Str->Option Value) (n:Str) (st:Stmt) (f:Addr) (ps:List Str):Prop
 | mk (fd:ER) (F:Fun K n n st f fd) (b:Binds K fd ps []) (k:PySem.W.keepIn K (.ref f)=true) (q:mg n=↑f):DE K mg n st f ps
theorem diE {K:C4} {h:Heap} {mg:Str->Option ET} {n:Str} {st:Stmt} {f:Addr} (X:K.In h) (G:h.Ns mainGlobals mg) (d:DI K n st f) (ps:List Str) (hb:∀ (kV dc pm:ET) (an:Option Addr) (cd ct:ET) (us:List ET),us.length=ps.length->bindArgs (EF n n (defArgs st) (defBody st) (defScope st) .none kV dc pm an cd ct) ⟨us,[]⟩=pure (ps.zip us)):DE K mg n st f ps:=by obtain ⟨_,_,_,_,_,_,_,_,_,a,l,c,k⟩:=d;have F:=jS (st:=st) l c k;exact ⟨_,F,F.binds hb,k,PySem.W.mg_of X G a⟩
inductive ME (K:C4) (C:Addr) (n q:Str) (st:Stmt) (f:Addr) (ps:List Str):Prop
 | mk (fd:ER) (F:Fun K n q st f fd) (b:Binds K fd ps []) (k:PySem.W.keepIn K (.ref f)=true) (a:PySem.W.findIn K (.ref C) n=some (↑f)) (i:PySem.W.isFn K (.ref f)=true):ME K C n q st f ps
theorem miE {K:C4} {C:Addr} {n q:Str} {st:Stmt} {f:Addr} (d:MI K C n q st f) (ps:List Str) (hb:∀ (kV dc pm:ET) (an:Option Addr) (cd ct:ET) (us:List ET),us.length=ps.length->bindArgs (EF n q (defArgs st) (defBody st) (defScope st) .none kV dc pm an cd ct) ⟨us,[]⟩=pure (ps.zip us)):ME K C n q st f ps:=by obtain ⟨_,_,_,_,_,_,_,_,_,a,i,l,c,k⟩:=d;have F:=jS (st:=st) l c k;exact ⟨_,F,F.binds hb,k,a,i⟩
theorem bd1 {n q:Str} {st:Stmt} {a:Str} (h:∀ (kV dc pm:ET) (an:Option Addr) (cd ct ua:ET),bindArgs (EF n q (defArgs st) (defBody st) (defScope st) .none kV dc pm an cd ct) ⟨[ua],[]⟩=pure [(a,ua)]):∀ (kV dc pm:ET) (an:Option Addr) (cd ct:ET) (us:List ET),us.length=[a].length->bindArgs (EF n q (defArgs st) (defBody st) (defScope st) .none kV dc pm an cd ct) ⟨us,[]⟩=pure ([a].zip us):=by intro _ _ _ _ _ _ us hl;obtain ⟨_,rfl⟩:=BO hl;exact h _ _ _ _ _ _ _
theorem bd2 {n q:Str} {st:Stmt} {a b:Str} (h:∀ (kV dc pm:ET) (an:Option Addr) (cd ct ua ub:ET),bindArgs (EF n q (defArgs st) (defBody st) (defScope st) .none kV dc pm an cd ct) ⟨[ua,ub],[]⟩=pure [(a,ua),(b,ub)]):∀ (kV dc pm:ET) (an:Option Addr) (cd ct:ET) (us:List ET),us.length=[a,b].length->bindArgs (EF n q (defArgs st) (defBody st) (defScope st) .none kV dc pm an cd ct) ⟨us,[]⟩=pure ([a,b].zip us):=by intro _ _ _ _ _ _ us hl;obtain ⟨_,_,rfl⟩:=tw hl;exact h _ _ _ _ _ _ _ _
theorem bd3 {n q:Str} {st:Stmt} {a b c:Str} (h:∀ (kV dc pm:ET) (an:Option Addr) (cd ct ua ub uc:ET),bindArgs (EF n q (defArgs st) (defBody st) (defScope st) .none kV dc pm an cd ct) ⟨[ua,ub,uc],[]⟩=pure [(a,ua),(b,ub),(c,uc)]):∀ (kV dc pm:ET) (an:Option Addr) (cd ct:ET) (us:List ET),us.length=[a,b,c].length->bindArgs (EF n q (defArgs st) (defBody st) (defScope st) .none kV dc pm an cd ct) ⟨us,[]⟩=pure ([a,b,c].zip us):=by intro _ _ _ _ _ _ us hl;obtain ⟨_,_,_,rfl⟩:=tD hl;exact h _ _ _ _ _ _ _ _ _
theorem bd4 {n q:Str} {st:Stmt} {a b c d:Str} (h:∀ (kV dc pm:ET) (an:Option Addr) (cd ct ua ub uc ud:ET),bindArgs (EF n q (defArgs st) (defBody st) (defScope st) .none kV dc pm an cd ct) ⟨[ua,ub,uc,ud],[]⟩=pure [(a,ua),(b,ub),(c,uc),(d,ud)]):∀ (kV dc pm:ET) (an:Option Addr) (cd ct:ET) (us:List ET),us.length=[a,b,c,d].length->bindArgs (EF n q (defArgs st) (defBody st) (defScope st) .none kV dc pm an cd ct) ⟨us,[]⟩=pure ([a,b,c,d].zip us):=by intro _ _ _ _ _ _ us hl;obtain ⟨_,_,_,_,rfl⟩:=BP hl;exact h _ _ _ _ _ _ _ _ _ _
theorem bd5 {n q:Str} {st:Stmt} {a b c d e:Str} (h:∀ (kV dc pm:ET) (an:Option Addr) (cd ct ua ub uc ud ue:ET),bindArgs (EF n q (defArgs st) (defBody st) (defScope st) .none kV dc pm an cd ct) ⟨[ua,ub,uc,ud,ue],[]⟩=pure [(a,ua),(b,ub),(c,uc),(d,ud),(e,ue)]):∀ (kV dc pm:ET) (an:Option Addr) (cd ct:ET) (us:List ET),us.length=[a,b,c,d,e].length->bindArgs (EF n q (defArgs st) (defBody st) (defScope st) .none kV dc pm an cd ct) ⟨us,[]⟩=pure ([a,b,c,d,e].zip us):=by intro _ _ _ _ _ _ us hl;obtain ⟨_,_,_,_,_,rfl⟩:=BQ hl;exact h _ _ _ _ _ _ _ _ _ _ _
theorem lx6 {α:Type} {us:List α} (h:us.length=6):∃a b c d e f,us=[a,b,c,d,e,f]:=by
 match us,h with
 | [a,b,c,d,e,f],_=>exact ⟨a,b,c,d,e,f,Y⟩
theorem bd6 {n q:Str} {st:Stmt} {a b c d e f:Str} (h:∀ (kV dc pm:ET) (an:Option Addr) (cd ct ua ub uc ud ue uf:ET),bindArgs (EF n q (defArgs st) (defBody st) (defScope st) .none kV dc pm an cd ct) ⟨[ua,ub,uc,ud,ue,uf],[]⟩=pure [(a,ua),(b,ub),(c,uc),(d,ud),(e,ue),(f,uf)]):∀ (kV dc pm:ET) (an:Option Addr) (cd ct:ET) (us:List ET),us.length=[a,b,c,d,e,f].length->bindArgs (EF n q (defArgs st) (defBody st) (defScope st) .none kV dc pm an cd ct) ⟨us,[]⟩=pure ([a,b,c,d,e,f].zip us):=by intro _ _ _ _ _ _ us hl;obtain ⟨_,_,_,_,_,_,rfl⟩:=lx6 hl;exact h _ _ _ _ _ _ _ _ _ _ _ _
theorem lx7 {α:Type} {us:List α} (h:us.length=7):∃a b c d e f g,us=[a,b,c,d,e,f,g]:=by
 match us,h with
 | [a,b,c,d,e,f,g],_=>exact ⟨a,b,c,d,e,f,g,Y⟩
theorem bd7 {n q:Str} {st:Stmt} {a b c d e f g:Str} (h:∀ (kV dc pm:ET) (an:Option Addr) (cd ct ua ub uc ud ue uf ug:ET),bindArgs (EF n q (defArgs st) (defBody st) (defScope st) .none kV dc pm an cd ct) ⟨[ua,ub,uc,ud,ue,uf,ug],[]⟩=pure [(a,ua),(b,ub),(c,uc),(d,ud),(e,ue),(f,uf),(g,ug)]):∀ (kV dc pm:ET) (an:Option Addr) (cd ct:ET) (us:List ET),us.length=[a,b,c,d,e,f,g].length->bindArgs (EF n q (defArgs st) (defBody st) (defScope st) .none kV dc pm an cd ct) ⟨us,[]⟩=pure ([a,b,c,d,e,f,g].zip us):=by intro _ _ _ _ _ _ us hl;obtain ⟨_,_,_,_,_,_,_,rfl⟩:=lx7 hl;exact h _ _ _ _ _ _ _ _ _ _ _ _ _
theorem Do {α:Type} {us:List α} (h:us.length=6):∃a b c d e f,us=[a,b,c,d,e,f]:=by
 match us,h with
 | [a,b,c,d,e,f],_=>exact ⟨a,b,c,d,e,f,Y⟩
theorem Dp {α:Type} {us:List α} (h:us.length=7):∃a b c d e f g,us=[a,b,c,d,e,f,g]:=by
 match us,h with
 | [a,b,c,d,e,f,g],_=>exact ⟨a,b,c,d,e,f,g,Y⟩
open PySem.W in
theorem all_mk {l:OpenLaw} {w:ES} {K:Frag} {h:Heap} {mg:Str->Option ET} {fa f0 f1 f2 f3 f4 f5 f6 f7 f8 f9 f10 f11 f12 f13 f14 f15 f16 f17 f18 f19 f20 f21 f22 f23 f24 f25 f26 f27 f28 f29 f30 f31 f32 f33 f34 C fm0 fm1 fm2 fm3 fm4 xWAYS:Addr} (X:K.In h) (G:h.Ns mainGlobals mg) (hfa:mg "law" = ↑fa)
  {tc0:Tok} {tc1:Tok} {tc2:Tok} {tc3:Tok} {tc4:Tok} {tc5:Tok} {tc6:Tok} {tc7:Tok}
  (d0:DI K "is_whole" iL f0)
  (d1:DI K "is_truth" iM f1)
  (d2:DI K "is_row" qY f2)
  (d3:DI K "is_kind" fO f3)
  (d4:DI K "can_lie_turned" fP f4)
  (d5:DI K "check_plate" cw f5)
  (d6:DI K "lies_in" fL f6)
  (d7:DI K "cut_parts" dM f7)
  (d8:DI K "begins_with" cx f8)
  (d9:DI K "is_cut" iN f9)
  (d10:DI K "is_leaf" fM f10)
  (d11:DI K "spots_behind" bX f11)
  (d12:DI K "is_tree" fN f12)
  (d13:DI K "check_tree" cT f13)
  (d14:DI K "leaves_of" dN f14)
  (d15:DI K "pieces_of" dO f15)
  (d16:DI K "counts_of" cK f16)
  (d17:DI K "worth_of" di f17)
  (d18:DI K "rests_of" dh f18)
  (d19:DI K "areas_of" eM f19)
  (d20:DI K "_law_pot" qZ f20)
  (d21:DI K "_law_draw" lF f21)
  (d22:DI K "_law_number" fQ f22)
  (d23:DI K "_law_kind" lG f23)
  (d24:DI K "_law_shop" lH f24)
  (d25:DI K "_law_fitting" dj f25)
  (d26:DI K "_law_leaf" lI f26)
  (d27:DI K "_law_listed" cX f27)
  (d28:DI K "_law_row" lJ f28)
  (d29:DI K "_law_beside" fR f29)
  (d30:DI K "_law_around" fS f30)
  (d31:DI K "_law_deep" lK f31)
  (d32:DI K "_law_leaves" dP f32)
  (d33:DI K "_law_measured" aX f33)
  (d34:DI K "law" jl f34)
  (aC:nsIn K mainGlobals "Shop" = some (↑C))
  (dm0:MI K C "__init__" "Shop.__init__" cL fm0)
  (dm1:MI K C "blade" "Shop.blade" cU fm1)
  (dm2:MI K C "kinds" "Shop.kinds" cV fm2)
  (dm3:MI K C "is_lying" "Shop.is_lying" bY fm3)
  (dm4:MI K C "sides" "Shop.sides" cW fm4)
  (pg:plainGet K C Str.empty=true)
  (hd:hasDictIn K C=true)
  (po:plainOver K C=true)
  (sa:findIn K (.ref C) "__setattr__" = some (some (.builtin "object.__setattr__")))
  (mk:makesIn K C=true)
  (kc:keepIn K (.ref C)=true)
  (n0:findIn K (.ref C) "blade_width" = some none)
  (n1:findIn K (.ref C) "kind_rows" = some none)
  (eWAYS:nsIn K mainGlobals "WAYS" = some (↑xWAYS))
  (lWAYS:∃ (o:Obj) (its:Array ET) (n:Nat),K.lookup xWAYS=some o/\o.cls=.type "tuple" /\ o.data=.seq its n/\its.size<=sizeLine/\Vals [.str "down",.str "across"] its.toList)
  (z0:nsIn K mainGlobals "isinstance" = some none)
  (z1:nsIn K mainGlobals "int" = some none)
  (z2:nsIn K mainGlobals "bool" = some none)
  (z3:nsIn K mainGlobals "list" = some none)
  (z4:nsIn K mainGlobals "tuple" = some none)
  (z5:nsIn K mainGlobals "len" = some none)
  (z6:nsIn K mainGlobals "range" = some none)
  (z7:nsIn K mainGlobals "max" = some none)
  (z8:nsIn K mainGlobals "min" = some none)
  (z9:nsIn K mainGlobals "abs" = some none)
  (z10:nsIn K mainGlobals "divmod" = some none)
  (z11:nsIn K mainGlobals "sum" = some none)
  (z12:nsIn K mainGlobals "sorted" = some none)
  (z13:nsIn K mainGlobals "all" = some none)
  (z14:nsIn K mainGlobals "repr" = some none)
  (z15:nsIn K mainGlobals "zip" = some none)
  (z16:nsIn K mainGlobals "enumerate" = some none)
  (z17:nsIn K mainGlobals "str" = some none)
  (uc0:nsIn K mainGlobals "MOST_KINDS" = some (some (.int 8 tc0)))
  (uc1:nsIn K mainGlobals "THINGS_OF_A_KIND" = some (some (.int 5 tc1)))
  (uc2:nsIn K mainGlobals "DOWN" = some (some (.str "down" tc2)))
  (uc3:nsIn K mainGlobals "REST" = some (some (.str "rest" tc3)))
  (uc4:nsIn K mainGlobals "PIECE" = some (some (.str "piece" tc4)))
  (uc5:nsIn K mainGlobals "THINGS_OF_A_REST" = some (some (.int 1 tc5)))
  (uc6:nsIn K mainGlobals "THINGS_OF_A_PIECE" = some (some (.int 5 tc6)))
  (uc7:nsIn K mainGlobals "THINGS_OF_A_CUT" = some (some (.int 4 tc7))) :
  ∃fd:ER,(∀ (s:EO) (v:ET),BindsTo s fd ⟨[v],[]⟩ [("_law_script",v)])/\∀base:Heap,K.In base->base.Ns mainGlobals mg->FnOk l.prog w K mg base CX0 64 fa fd ["_law_script"] (lT K):=by
 obtain ⟨_,F0,b0,k0,q0⟩:=diE X G d0 ["thing","least"] (bd2 λ _ _ _ _ _ _ _ _=>rfl);obtain ⟨_,F1,b1,k1,q1⟩:=diE X G d1 ["thing"] (bd1 λ _ _ _ _ _ _ _=>rfl);obtain ⟨_,F2,b2,k2,q2⟩:=diE X G d2 ["thing"] (bd1 λ _ _ _ _ _ _ _=>rfl);obtain ⟨_,F3,b3,k3,q3⟩:=diE X G d3 ["thing"] (bd1 λ _ _ _ _ _ _ _=>rfl);obtain ⟨_,F4,b4,k4,q4⟩:=diE X G d4 ["kind"] (bd1 λ _ _ _ _ _ _ _=>rfl);obtain ⟨_,F5,b5,k5,q5⟩:=diE X G d5 ["wide","high"] (bd2 λ _ _ _ _ _ _ _ _=>rfl);obtain ⟨_,F6,b6,k6,q6⟩:=diE X G d6 ["shop","wide","high","kind","turned","x","y"] (bd7 λ _ _ _ _ _ _ _ _ _ _ _ _ _=>rfl);obtain ⟨_,F7,b7,k7,q7⟩:=diE X G d7 ["blade","part","way","p"] (bd4 λ _ _ _ _ _ _ _ _ _ _=>rfl);obtain ⟨_,F8,b8,k8,q8⟩:=diE X G d8 ["thing","word","many"] (bd3 λ _ _ _ _ _ _ _ _ _=>rfl);obtain ⟨_,F9,b9,k9,q9⟩:=diE X G d9 ["blade","spot"] (bd2 λ _ _ _ _ _ _ _ _=>rfl);obtain ⟨_,F10,b10,k10,q10⟩:=diE X G d10 ["shop","spot"] (bd2 λ _ _ _ _ _ _ _ _=>rfl);obtain ⟨_,F11,b11,k11,q11⟩:=diE X G d11 ["blade","spot"] (bd2 λ _ _ _ _ _ _ _ _=>rfl);obtain ⟨_,F12,b12,k12,q12⟩:=diE X G d12 ["shop","wide","high","thing"] (bd4 λ _ _ _ _ _ _ _ _ _ _=>rfl);obtain ⟨_,F13,b13,k13,q13⟩:=diE X G d13 ["shop","wide","high","thing"] (bd4 λ _ _ _ _ _ _ _ _ _ _=>rfl);obtain ⟨_,F14,b14,k14,q14⟩:=diE X G d14 ["shop","wide","high","tree"] (bd4 λ _ _ _ _ _ _ _ _ _ _=>rfl);obtain ⟨_,F15,b15,k15,q15⟩:=diE X G d15 ["shop","wide","high","tree"] (bd4 λ _ _ _ _ _ _ _ _ _ _=>rfl);obtain ⟨_,F16,b16,k16,q16⟩:=diE X G d16 ["shop","wide","high","tree"] (bd4 λ _ _ _ _ _ _ _ _ _ _=>rfl);obtain ⟨_,F17,b17,k17,q17⟩:=diE X G d17 ["shop","wide","high","tree"] (bd4 λ _ _ _ _ _ _ _ _ _ _=>rfl);obtain ⟨_,F18,b18,k18,q18⟩:=diE X G d18 ["shop","wide","high","tree"] (bd4 λ _ _ _ _ _ _ _ _ _ _=>rfl);obtain ⟨_,F19,b19,k19,q19⟩:=diE X G d19 ["shop","wide","high","tree"] (bd4 λ _ _ _ _ _ _ _ _ _ _=>rfl);obtain ⟨_,F20,b20,k20,q20⟩:=diE X G d20 ["_law_script","_law_place"] (bd2 λ _ _ _ _ _ _ _ _=>rfl);obtain ⟨_,F21,b21,k21,q21⟩:=diE X G d21 ["_law_pot_here","_law_many"] (bd2 λ _ _ _ _ _ _ _ _=>rfl);obtain ⟨_,F22,b22,k22,q22⟩:=diE X G d22 ["_law_pot_here","_law_least"] (bd2 λ _ _ _ _ _ _ _ _=>rfl);obtain ⟨_,F23,b23,k23,q23⟩:=diE X G d23 ["_law_pot_here"] (bd1 λ _ _ _ _ _ _ _=>rfl);obtain ⟨_,F24,b24,k24,q24⟩:=diE X G d24 ["_law_pot_here"] (bd1 λ _ _ _ _ _ _ _=>rfl);obtain ⟨_,F25,b25,k25,q25⟩:=diE X G d25 ["_law_kinds","_law_wide","_law_high"] (bd3 λ _ _ _ _ _ _ _ _ _=>rfl);obtain ⟨_,F26,b26,k26,q26⟩:=diE X G d26 ["_law_pot_here","_law_kinds","_law_wide","_law_high"] (bd4 λ _ _ _ _ _ _ _ _ _ _=>rfl);obtain ⟨_,F27,b27,k27,q27⟩:=diE X G d27 ["_law_thing"] (bd1 λ _ _ _ _ _ _ _=>rfl);obtain ⟨_,F28,b28,k28,q28⟩:=diE X G d28 ["_law_pot_here","_law_blade","_law_wide","_law_high","_law_down"] (bd5 λ _ _ _ _ _ _ _ _ _ _ _=>rfl);obtain ⟨_,F29,b29,k29,q29⟩:=diE X G d29 ["_law_pot_here","_law_shop_here","_law_wide","_law_high"] (bd4 λ _ _ _ _ _ _ _ _ _ _=>rfl);obtain ⟨_,F30,b30,k30,q30⟩:=diE X G d30 ["_law_pot_here","_law_shop_here","_law_sides","_law_tree"] (bd4 λ _ _ _ _ _ _ _ _ _ _=>rfl);obtain ⟨_,F31,b31,k31,q31⟩:=diE X G d31 ["_law_pot_here","_law_shop_here"] (bd2 λ _ _ _ _ _ _ _ _=>rfl);obtain ⟨_,F32,b32,k32,q32⟩:=diE X G d32 ["_law_shop_here","_law_x","_law_y","_law_wide","_law_high","_law_tree"] (bd6 λ _ _ _ _ _ _ _ _ _ _ _ _=>rfl);obtain ⟨_,F33,b33,k33,q33⟩:=diE X G d33 ["_law_shop_here","_law_told","_law_wide","_law_high","_law_tree"] (bd5 λ _ _ _ _ _ _ _ _ _ _ _=>rfl);obtain ⟨_,an,_,_,kV,dc,pm,cd,ct,a34,l34,c34,k34⟩:=d34;have F34:=jS (st:=jl) l34 c34 k34;obtain ⟨_,Fm0,bm0,km0,am0,im0⟩:=miE dm0 ["self","blade","kinds"] (bd3 λ _ _ _ _ _ _ _ _ _=>rfl);obtain ⟨_,Fm1,bm1,km1,am1,im1⟩:=miE dm1 ["self"] (bd1 λ _ _ _ _ _ _ _=>rfl);obtain ⟨_,Fm2,bm2,km2,am2,im2⟩:=miE dm2 ["self"] (bd1 λ _ _ _ _ _ _ _=>rfl);obtain ⟨_,Fm3,bm3,km3,am3,im3⟩:=miE dm3 ["self","kind","turned"] (bd3 λ _ _ _ _ _ _ _ _ _=>rfl);obtain ⟨_,Fm4,bm4,km4,am4,im4⟩:=miE dm4 ["self","kind","turned"] (bd3 λ _ _ _ _ _ _ _ _ _=>rfl);have e:=hfa.symm.trans (mg_of X G a34);cases e;have y0:=mg_none_of X G z0
 have y1:=mg_none_of X G z1;have y2:=mg_none_of X G z2;have y3:=mg_none_of X G z3;have y4:=mg_none_of X G z4;have y5:=mg_none_of X G z5;have y6:=mg_none_of X G z6;have y7:=mg_none_of X G z7;have y8:=mg_none_of X G z8;have y9:=mg_none_of X G z9;have y10:=mg_none_of X G z10;have y11:=mg_none_of X G z11;have y12:=mg_none_of X G z12;have y13:=mg_none_of X G z13;have y14:=mg_none_of X G z14;have y15:=mg_none_of X G z15;have y16:=mg_none_of X G z16;have y17:=mg_none_of X G z17;have gWAYS:=mg_of X G eWAYS;have u0:=mg_of X G uc0;have u1:=mg_of X G uc1;have u2:=mg_of X G uc2;have u3:=mg_of X G uc3;have u4:=mg_of X G uc4;have u5:=mg_of X G uc5;have u6:=mg_of X G uc6;have u7:=mg_of X G uc7;have qC:=mg_of X G aC;refine ⟨fnOf "law" "law" (defArgs jl) (defBody jl) (defScope jl) .none kV dc pm an cd ct,λ s v=>.of_eq rfl,λ base _ _=>?_⟩;have B:Blt mg:=⟨y0,y1,y2,y3,y4,y5,y6,y7,y8,y9,y10,y11,y12,y13,y14,y15,y16,⟨_,u0⟩,⟨_,u1⟩⟩
 have T:ShopTxt K C:=⟨⟨pg,hd,po,sa⟩,n0,n1⟩
 have Z:TrC K mg xWAYS:=⟨⟨_,u2⟩,⟨_,u3⟩,⟨_,u4⟩,⟨_,u5⟩,⟨_,u6⟩,⟨_,u7⟩,gWAYS,λ H=>.inr lWAYS⟩
 have D0:Dn l.prog w K mg base "is_whole" ["thing","least"] 1 (cr K):=⟨_,_,pi F0 B,b0,k0,q0⟩
 have D1:Dn l.prog w K mg base "is_truth" ["thing"] 1 (fF K):=⟨_,_,pj F1 B,b1,k1,q1⟩
 have D2:Dn l.prog w K mg base "is_row" ["thing"] 1 (jd K):=⟨_,_,sT F2 B,b2,k2,q2⟩
 have D3:Dn l.prog w K mg base "is_kind" ["thing"] 2 (eI K):=⟨_,_,mD F3 B D0 D1 D2,b3,k3,q3⟩
 have D4:Dn l.prog w K mg base "can_lie_turned" ["kind"] 1 (gj K):=⟨_,_,mE F4,b4,k4,q4⟩
 have MB:Mn l.prog w K mg base C "blade" ["self"] 1 (fG C):=⟨_,_,pq Fm1 T,bm1,⟨am1,im1,km1⟩⟩
 have MK:Mn l.prog w K mg base C "kinds" ["self"] 1 (fH C):=⟨_,_,pC Fm2 T y3,bm2,⟨am2,im2,km2⟩⟩
 have MI:Mn l.prog w K mg base C "is_lying" ["self","kind","turned"] 2 (dE K C):=⟨_,_,ko Fm3 B T D0 D1 D4,bm3,⟨am3,im3,km3⟩⟩
 have MS:Mn l.prog w K mg base C "sides" ["self","kind","turned"] 3 (spSides K C):=⟨_,_,pG Fm4 T MI,bm4,⟨am4,im4,km4⟩⟩
 have DS:Kn l.prog w K mg base "Shop" C ["self","blade","kinds"] 3 (jY C):=⟨_,_,⟨mk,am0,im0,kc⟩,rf Fm0 B T D0 D2 D3,bm0,qC⟩
 have D5:Dn l.prog w K mg base "check_plate" ["wide","high"] 2 (spCP):=⟨_,_,mK F5 D0,b5,k5,q5⟩
 have D6:Dn l.prog w K mg base "lies_in" ["shop","wide","high","kind","turned","x","y"] 4 (spLiesG K C):=⟨_,_,pJ F6 T D0 MI MS,b6,k6,q6⟩
 have D7:Dn l.prog w K mg base "cut_parts" ["blade","part","way","p"] 1 (spParts2):=⟨_,_,mH F7 Z,b7,k7,q7⟩
 have D8:Dn l.prog w K mg base "begins_with" ["thing","word","many"] 2 (spBegins):=⟨_,_,mG F8 B y17 D2,b8,k8,q8⟩
 have D9:Dn l.prog w K mg base "is_cut" ["blade","spot"] 3 (spCut):=⟨_,_,sV F9 Z D8 D0,b9,k9,q9⟩
 have D10:Dn l.prog w K mg base "is_leaf" ["shop","spot"] 5 (spLeaf C):=⟨_,_,rn F10 Z D8 D6,b10,k10,q10⟩
 have D11:Dn l.prog w K mg base "spots_behind" ["blade","spot"] 2 (spBehind):=⟨_,_,mI F11 Z D7,b11,k11,q11⟩
 have D12:Dn l.prog w K mg base "is_tree" ["shop","wide","high","thing"] 6 (spIsTree C):=⟨_,_,mL F12 T MB D5 D9 D10 D11,b12,k12,q12⟩
 have D13:Dn l.prog w K mg base "check_tree" ["shop","wide","high","thing"] 7 (spCheckT C):=⟨_,_,mR F13 D12,b13,k13,q13⟩
 have D14:Dn l.prog w K mg base "leaves_of" ["shop","wide","high","tree"] 3 (spLeaves C):=⟨_,_,mQ F14 T Z MB D11,b14,k14,q14⟩
 have D15:Dn l.prog w K mg base "pieces_of" ["shop","wide","high","tree"] 8 (spPieces C):=⟨_,_,mS F15 B Z D13 D14,b15,k15,q15⟩
 have D16:Dn l.prog w K mg base "counts_of" ["shop","wide","high","tree"] 9 (spCountsO C):=⟨_,_,kA F16 B T MK D15,b16,k16,q16⟩
 have D17:Dn l.prog w K mg base "worth_of" ["shop","wide","high","tree"] 10 (spWorthO C):=⟨_,_,mT F17 B T MK D16,b17,k17,q17⟩
 have D18:Dn l.prog w K mg base "rests_of" ["shop","wide","high","tree"] 8 (spRests C):=⟨_,_,pQ F18 B Z D13 D14,b18,k18,q18⟩
 have D19:Dn l.prog w K mg base "areas_of" ["shop","wide","high","tree"] 8 (spAreas C):=⟨_,_,pR F19 B T Z MS D13 D14,b19,k19,q19⟩
 have D20:Dn l.prog w K mg base "_law_pot" ["_law_script","_law_place"] 1 (oQ K):=⟨_,_,sW F20 B.len B.int,b20,k20,q20⟩
 have D21:Dn l.prog w K mg base "_law_draw" ["_law_pot_here","_law_many"] 1 (cz):=⟨_,_,rp F21,b21,k21,q21⟩
 have D22:Dn l.prog w K mg base "_law_number" ["_law_pot_here","_law_least"] 2 (eH):=⟨_,_,mM F22 D21,b22,k22,q22⟩
 have D23:Dn l.prog w K mg base "_law_kind" ["_law_pot_here"] 3 (jV):=⟨_,_,rq F23 D21 D22 B.int,b23,k23,q23⟩
 have D24:Dn l.prog w K mg base "_law_shop" ["_law_pot_here"] 4 (spShopL):=⟨_,_,rz F24 B D21 D22 D23,b24,k24,q24⟩
 have D25:Dn l.prog w K mg base "_law_fitting" ["_law_kinds","_law_wide","_law_high"] 1 (spFitQ):=⟨_,_,rA F25 B,b25,k25,q25⟩
 have D26:Dn l.prog w K mg base "_law_leaf" ["_law_pot_here","_law_kinds","_law_wide","_law_high"] 2 (spLeafL):=⟨_,_,pL F26 B D21 D25,b26,k26,q26⟩
 have D27:Dn l.prog w K mg base "_law_listed" ["_law_thing"] 62 (spListed 61):=⟨_,_,gv F27 B (λ n h=>⟨_,_,h,b27,k27,q27⟩) 61,b27,k27,q27⟩
 have D28:Dn l.prog w K mg base "_law_row" ["_law_pot_here","_law_blade","_law_wide","_law_high","_law_down"] 2 (kB):=⟨_,_,rF F28 B D21,b28,k28,q28⟩
 have D29:Dn l.prog w K mg base "_law_beside" ["_law_pot_here","_law_shop_here","_law_wide","_law_high"] 3 (gA):=⟨_,_,mV F29 B D21 D26 D28,b29,k29,q29⟩
 have D30:Dn l.prog w K mg base "_law_around" ["_law_pot_here","_law_shop_here","_law_sides","_law_tree"] 4 (gB):=⟨_,_,mW F30 B D21 D29,b30,k30,q30⟩
 have D31:Dn l.prog w K mg base "_law_deep" ["_law_pot_here","_law_shop_here"] 5 (kC):=⟨_,_,rG F31 B D21 D26 D30,b31,k31,q31⟩
 have D32:Dn l.prog w K mg base "_law_leaves" ["_law_shop_here","_law_x","_law_y","_law_wide","_law_high","_law_tree"] 62 (fu 61):=⟨_,_,fv F32 B (λ n h=>⟨_,_,h,b32,k32,q32⟩) 61,b32,k32,q32⟩
 have D33:Dn l.prog w K mg base "_law_measured" ["_law_shop_here","_law_told","_law_wide","_law_high","_law_tree"] 63 (kF C):=⟨_,_,jx F33 B D15 D18 D16 D17 D19 D32,b33,k33,q33⟩
 exact tm F34 B D20 D24 D31 D27 D12 D33 DS
theorem walk {l:PySem.W.OpenLaw} {q:EQ} {loose:List Str} {XP:(Str->Option ET)->Heap->Prop} {YP:ES->Heap->Prop} {d:DefRec} {K:Params->C4} (hn:l.most=some 63) (hdf:d.params.defaults=[])
  (hY:∀ (w:ES) (h:Heap),YP w h->(K w.params).In h)
  (F:∀ (w:ES) (mg:Str->Option ET) (fa:Addr) (h:Heap),(K w.params).In h->h.Ns mainGlobals mg->mg d.name=↑fa ->
   ∃fd:ER,(∀ (s:EO) (u:ET),BindsTo s fd ⟨[u],[]⟩ [("_law_script",u)])/\∀base:Heap,(K w.params).In base->base.Ns mainGlobals mg->FnOk l.prog w (K w.params) mg base CX0 64 fa fd ["_law_script"] (lT (K w.params))) :
  PySem.W.WalkO q loose XP YP l.row.toRowW d [] (λ f vs=>PySem.call f vs) :=
 L2.walk_of (n:=63) (k:=64) (x := "_law_script") (CX:=λ _=>CX0) (sp:=λ w=>lT (K w.params)) hn ∅ hdf ⟨rfl,∅,∅,rfl⟩ hY F (λ _ _ a ns hl _ hS=>⟨a,ns,Y,hS,hl,λ _=>rfl⟩) λ _ _ _ _ _ z=>z
end Pc
namespace Pc
open PySem L2
section
open PySem.W
def kE (P:Params) (n:Str) (t:Nat) (v:ET):DictEntry:=⟨PyData.keyHash P n,.str n t,v⟩
def kO3 (P:Params):Obj:=⟨(.type "dict"),none,(.dict #[kE P "__name__" 165 (.str "law_platecuts_k27_whole_deep_trees" 642),kE P "__doc__" 166 .none,kE P "__package__" 167 .none,kE P "__loader__" 168 (.builtin "__main__.__loader__#opaque"),kE P "__spec__" 169 .none,kE P "__annotations__" 170 (.ref 6),kE P "__builtins__" 171 (.ref 4),kE P "__file__" 173 (.str "/claim/cut.py" 172),kE P "__cached__" 174 .none,kE P "_wall" 193 (.ref 21),kE P "PlateError" 213 (.ref 31),kE P "NoBlade" 229 (.ref 44),kE P "NoKinds" 245 (.ref 56),kE P "NoKind" 261 (.ref 68),kE P "NoLying" 277 (.ref 80),kE P "NoPlate" 293 (.ref 92),kE P "NoTree" 309 (.ref 104),kE P "is_whole" 319 (.ref 113),kE P "is_truth" 326 (.ref 120),kE P "is_row" 333 (.ref 127),kE P "check_plate" 341 (.ref 134),kE P "DOWN" 345 (.str "down" 344),kE P "ACROSS" 347 (.str "across" 346),kE P "WAYS" 348 (.ref 135),kE P "lies_in" 363 (.ref 142),kE P "cut_parts" 375 (.ref 149),kE P "REST" 379 (.str "rest" 378),kE P "PIECE" 381 (.str "piece" 380),kE P "THINGS_OF_A_REST" 383 (.int 1 382),kE P "THINGS_OF_A_PIECE" 385 (.int 5 384),kE P "THINGS_OF_A_CUT" 387 (.int 4 386),kE P "begins_with" 396 (.ref 156),kE P "is_cut" 407 (.ref 163),kE P "is_leaf" 420 (.ref 170),kE P "spots_behind" 444 (.ref 177),kE P "is_tree" 457 (.ref 184),kE P "check_tree" 467 (.ref 191),kE P "leaves_of" 480 (.ref 198),kE P "pieces_of" 503 (.ref 205),kE P "rests_of" 509 (.ref 210),kE P "counts_of" 515 (.ref 215),kE P "worth_of" 521 (.ref 220),kE P "areas_of" 542 (.ref 227),kE P "MOST_KINDS" 546 (.int 8 545),kE P "THINGS_OF_A_KIND" 548 (.int 5 547),kE P "is_kind" 560 (.ref 234),kE P "can_lie_turned" 567 (.ref 241),kE P "Shop" 641 (.ref 296),kE P "_law_pot" 652 (.ref 307),kE P "_law_draw" 661 (.ref 314),kE P "_law_number" 670 (.ref 321),kE P "_law_kind" 679 (.ref 328),kE P "_law_shop" 691 (.ref 335),kE P "_law_fitting" 697 (.ref 340),kE P "_law_leaf" 712 (.ref 347),kE P "_law_listed" 718 (.ref 352),kE P "_law_row" 733 (.ref 359),kE P "_law_beside" 743 (.ref 366),kE P "_law_around" 757 (.ref 373),kE P "_law_deep" 768 (.ref 380),kE P "_law_leaves" 784 (.ref 387),kE P "_law_measured" 790 (.ref 392),kE P "law" 805 (.ref 399)] 63),#[]⟩
def gk0 (x0:Str)(x1:Nat)(x2:Str)(x3 x4 x5 x6 x7 x8 x9 x10 x11 x12 x13:Nat)(P:Params):Obj:=⟨(.type "code"),none,(.fields #[.str x0 x1,.str x2 x3,.str "/claim/cut.py" x4,.int x5 0,.int x6 0,.int 0 0,.int 0 0,.int 3 0,.ref x7,.bool true,.int 181 0,.ref x8,.none,.ref x9,.ref x10,.ref x11,.int x12 0,.int x5 0,.str "/claim/cut.py" x13]),#[]⟩
def BR:=gk0 "_wall" 187 "_wall" 188 189 1 1 15 16 17 18 19 191 192
def gk1 (x0 x1:Str)(x2:Stmt)(x3:Str)(x4 x5:Nat)(P:Params):Obj:=⟨(.type "function"),none,(.func (fnOf x0 x1 (defArgs x2) (defBody x2) (defScope x2) .none .none .none (.str x3 x4) none (.ref x5) .none)),#[]⟩
def BS:=gk1 "_wall" "_wall" vQ "__main__" 164 20
def BU (P:Params):Obj:=⟨(.type "dict"),none,(.dict #[kE P "__module__" 203 (.str "platecuts.errors" 194),kE P "__firstlineno__" 207 (.int 5 206),kE P "__static_attributes__" 208 (.ref 29),kE P "__weakref__" 210 (.ref 32),kE P "__doc__" 211 .none] 3),#[]⟩
def BV (P:Params):Obj:=⟨(.type "type"),none,(.cls ⟨"PlateError",[.type "ValueError"],[.ref 31,.type "ValueError",.type "Exception",.type "BaseException",.type "object"],30,"PlateError",true,[],[.ref 44,.ref 56,.ref 68,.ref 80,.ref 92,.ref 104],false,none,false⟩),#[↑22,none,some (.str "PlateError" 196),some (.str "PlateError" 204),some (.builtin "ValueError.__new__"),some (.bool true)]⟩
def gk2 (x0 x1 x2 x3 x4 x5 x6:Nat)(P:Params):Obj:=⟨(.type "dict"),none,(.dict #[kE P "__module__" x0 (.str "platecuts.errors" 194),kE P "__firstlineno__" x1 (.int x2 x3),kE P "__static_attributes__" x4 (.ref x5),kE P "__doc__" x6 .none] 2),#[]⟩
def BW:=gk2 221 225 7 224 226 42 227
def gk3 (x0:Str)(x1 x2 x3 x4 x5:Nat)(P:Params):Obj:=⟨(.type "type"),none,(.cls ⟨x0,[.ref 31],[.ref x1,.ref 31,.type "ValueError",.type "Exception",.type "BaseException",.type "object"],x2,x0,true,[],[],false,none,false⟩),#[↑x3,none,some (.str x0 x4),some (.str x0 x5),some (.builtin "ValueError.__new__"),some (.bool true)]⟩
def BX:=gk3 "NoBlade" 44 43 35 214 222
def BY:=gk2 237 241 9 240 242 54 243
def BZ:=gk3 "NoKinds" 56 55 47 230 238
def Ca:=gk2 253 257 11 256 258 66 259
def Cb:=gk3 "NoKind" 68 67 59 246 254
def Cc:=gk2 269 273 13 272 274 78 275
def Cd:=gk3 "NoLying" 80 79 71 262 270
def Ce:=gk2 285 289 15 288 290 90 291
def Cf:=gk3 "NoPlate" 92 91 83 278 286
def vX:=gk2 301 305 17 304 306 102 307
def vY:=gk3 "NoTree" 104 103 95 294 302
def vZ:=gk0 "is_whole" 312 "is_whole" 313 314 20 2 107 108 109 110 111 317 318
def wc:=gk1 "is_whole" "is_whole" iL "platecuts.checks" 310 112
def we:=gk0 "is_truth" 320 "is_truth" 321 322 22 1 114 115 116 117 118 324 325
def wf:=gk1 "is_truth" "is_truth" iM "platecuts.checks" 310 119
def wg:=gk0 "is_row" 327 "is_row" 328 329 24 1 121 122 123 124 125 331 332
def wj:=gk1 "is_row" "is_row" qY "platecuts.checks" 310 126
def wk:=gk0 "check_plate" 334 "check_plate" 335 336 26 2 128 129 130 131 132 339 340
def wm:=gk1 "check_plate" "check_plate" cw "platecuts.checks" 310 133
def wn (P:Params):Obj:=⟨(.type "tuple"),none,(.seq #[.str "down" 344,.str "across" 346] 0),#[]⟩
def wr:=gk0 "lies_in" 349 "lies_in" 350 351 33 7 136 137 138 139 140 361 362
def wu:=gk1 "lies_in" "lies_in" fL "platecuts.parts" 342 141
def wv:=gk0 "cut_parts" 364 "cut_parts" 365 366 38 4 143 144 145 146 147 373 374
def ww:=gk1 "cut_parts" "cut_parts" dM "platecuts.parts" 342 148
def wx:=gk0 "begins_with" 388 "begins_with" 389 390 49 3 150 151 152 153 154 394 395
def wA:=gk1 "begins_with" "begins_with" cx "platecuts.trees" 376 155
def wB:=gk0 "is_cut" 397 "is_cut" 398 399 53 2 157 158 159 160 161 405 406
def wC:=gk1 "is_cut" "is_cut" iN "platecuts.trees" 376 162
def wD:=gk0 "is_leaf" 408 "is_leaf" 409 410 60 2 164 165 166 167 168 418 419
def wE:=gk1 "is_leaf" "is_leaf" fM "platecuts.trees" 376 169
def wF:=gk0 "spots_behind" 421 "spots_behind" 422 423 65 2 171 172 173 174 175 442 443
def wG:=gk1 "spots_behind" "spots_behind" bX "platecuts.trees" 376 176
def wH:=gk0 "is_tree" 445 "is_tree" 446 447 72 4 178 179 180 181 182 455 456
def wI:=gk1 "is_tree" "is_tree" fN "platecuts.trees" 376 183
def wJ:=gk0 "check_tree" 458 "check_tree" 459 460 83 4 185 186 187 188 189 465 466
def wK:=gk1 "check_tree" "check_tree" cT "platecuts.trees" 376 190
def wL:=gk0 "leaves_of" 468 "leaves_of" 469 470 86 4 192 193 194 195 196 478 479
def wM:=gk1 "leaves_of" "leaves_of" dN "platecuts.trees" 376 197
def wN:=gk0 "pieces_of" 483 "pieces_of" 484 485 97 4 199 200 201 202 203 501 502
def wO:=gk1 "pieces_of" "pieces_of" dO "platecuts.measures" 481 204
def gk4 (x0:Str)(x1:Nat)(x2:Str)(x3 x4 x5 x6 x7 x8 x9 x10 x11:Nat)(P:Params):Obj:=⟨(.type "code"),none,(.fields #[.str x0 x1,.str x2 x3,.str "/claim/cut.py" x4,.int x5 0,.int x6 0,.int 0 0,.int 0 0,.int 3 0,.ref x7,.bool true,.int 181 0,.ref x8,.none,.none,.none,.ref x9,.int x10 0,.int x5 0,.str "/claim/cut.py" x11]),#[]⟩
def wP:=gk4 "rests_of" 504 "rests_of" 505 506 105 4 206 207 208 507 508
def wQ:=gk1 "rests_of" "rests_of" dh "platecuts.measures" 481 209
def wR:=gk4 "counts_of" 510 "counts_of" 511 512 109 4 211 212 213 513 514
def wS:=gk1 "counts_of" "counts_of" cK "platecuts.measures" 481 214
def wT:=gk4 "worth_of" 516 "worth_of" 517 518 115 4 216 217 218 519 520
def wU:=gk1 "worth_of" "worth_of" di "platecuts.measures" 481 219
def wV:=gk0 "areas_of" 522 "areas_of" 523 524 118 4 221 222 223 224 225 540 541
def wW:=gk1 "areas_of" "areas_of" eM "platecuts.measures" 481 226
def wX:=gk0 "is_kind" 549 "is_kind" 550 551 133 1 228 229 230 231 232 558 559
def wY:=gk1 "is_kind" "is_kind" fO "platecuts.shops" 543 233
def wZ:=gk0 "can_lie_turned" 561 "can_lie_turned" 562 563 140 1 235 236 237 238 239 565 566
def xa:=gk1 "can_lie_turned" "can_lie_turned" fP "platecuts.shops" 543 240
def xb:=gk4 "__init__" 580 "Shop.__init__" 581 582 144 3 249 250 251 583 584
def xc:=gk1 "__init__" "Shop.__init__" cL "platecuts.shops" 543 252
def xf:=gk0 "blade" 586 "Shop.blade" 587 588 155 1 254 255 256 257 258 590 591
def xg:=gk1 "blade" "Shop.blade" cU "platecuts.shops" 543 259
def xh:=gk0 "kinds" 593 "Shop.kinds" 594 595 158 1 261 262 263 264 265 597 598
def xi:=gk1 "kinds" "Shop.kinds" cV "platecuts.shops" 543 266
def xj:=gk4 "wanted" 600 "Shop.wanted" 601 602 161 1 268 269 270 603 604
def xk:=gk1 "wanted" "Shop.wanted" jj "platecuts.shops" 543 271
def xm:=gk0 "lyings" 606 "Shop.lyings" 607 608 164 1 273 274 275 276 277 610 611
def xn:=gk1 "lyings" "Shop.lyings" jk "platecuts.shops" 543 278
def xo:=gk0 "is_lying" 613 "Shop.is_lying" 614 615 167 3 280 281 282 283 284 619 620
def xq:=gk1 "is_lying" "Shop.is_lying" bY "platecuts.shops" 543 285
def xt:=gk0 "sides" 622 "Shop.sides" 623 624 172 3 287 288 289 290 291 629 630
def xu:=gk1 "sides" "Shop.sides" cW "platecuts.shops" 543 292
def xw (P:Params):Obj:=⟨(.type "dict"),none,(.dict #[kE P "__module__" 575 (.str "platecuts.shops" 543),kE P "__firstlineno__" 579 (.int 142 578),kE P "__init__" 585 (.ref 253),kE P "blade" 592 (.ref 260),kE P "kinds" 599 (.ref 267),kE P "wanted" 605 (.ref 272),kE P "lyings" 612 (.ref 279),kE P "is_lying" 621 (.ref 286),kE P "sides" 631 (.ref 293),kE P "__static_attributes__" 634 (.ref 294),kE P "__dict__" 636 (.ref 297),kE P "__weakref__" 638 (.ref 298),kE P "__doc__" 639 .none] 4),#[]⟩
def xx (P:Params):Obj:=⟨(.type "type"),none,(.cls ⟨"Shop",[.type "object"],[.ref 296,.type "object"],295,"Shop",true,[],[],false,none,false⟩),#[none,none,some (.str "Shop" 568),some (.str "Shop" 576),some (.builtin "object.__new__"),some (.bool true)]⟩
def xy:=gk0 "_law_pot" 644 "_law_pot" 645 646 180 2 301 302 303 304 305 650 651
def xz:=gk1 "_law_pot" "_law_pot" qZ "law_platecuts_k27_whole_deep_trees" 642 306
def xA:=gk0 "_law_draw" 653 "_law_draw" 654 655 185 2 308 309 310 311 312 659 660
def xB:=gk1 "_law_draw" "_law_draw" lF "law_platecuts_k27_whole_deep_trees" 642 313
def xC:=gk0 "_law_number" 662 "_law_number" 663 664 192 2 315 316 317 318 319 668 669
def xD:=gk1 "_law_number" "_law_number" fQ "law_platecuts_k27_whole_deep_trees" 642 320
def xE:=gk0 "_law_kind" 671 "_law_kind" 672 673 199 1 322 323 324 325 326 677 678
def xF:=gk1 "_law_kind" "_law_kind" lG "law_platecuts_k27_whole_deep_trees" 642 327
def xG:=gk0 "_law_shop" 680 "_law_shop" 681 682 203 1 329 330 331 332 333 689 690
def xH:=gk1 "_law_shop" "_law_shop" lH "law_platecuts_k27_whole_deep_trees" 642 334
def xI:=gk4 "_law_fitting" 692 "_law_fitting" 693 694 215 3 336 337 338 695 696
def xJ:=gk1 "_law_fitting" "_law_fitting" dj "law_platecuts_k27_whole_deep_trees" 642 339
def xK:=gk0 "_law_leaf" 698 "_law_leaf" 699 700 223 4 341 342 343 344 345 710 711
def xL:=gk1 "_law_leaf" "_law_leaf" lI "law_platecuts_k27_whole_deep_trees" 642 346
def xM:=gk4 "_law_listed" 713 "_law_listed" 714 715 229 1 348 349 350 716 717
def xN:=gk1 "_law_listed" "_law_listed" cX "law_platecuts_k27_whole_deep_trees" 642 351
def xO:=gk0 "_law_row" 719 "_law_row" 720 721 233 5 353 354 355 356 357 731 732
def xP:=gk1 "_law_row" "_law_row" lJ "law_platecuts_k27_whole_deep_trees" 642 358
def xQ:=gk0 "_law_beside" 734 "_law_beside" 735 736 243 4 360 361 362 363 364 741 742
def xR:=gk1 "_law_beside" "_law_beside" fR "law_platecuts_k27_whole_deep_trees" 642 365
def xS:=gk0 "_law_around" 744 "_law_around" 745 746 247 4 367 368 369 370 371 755 756
def xT:=gk1 "_law_around" "_law_around" fS "law_platecuts_k27_whole_deep_trees" 642 372
def xU:=gk0 "_law_deep" 758 "_law_deep" 759 760 259 2 374 375 376 377 378 766 767
def xV:=gk1 "_law_deep" "_law_deep" lK "law_platecuts_k27_whole_deep_trees" 642 379
def xW:=gk0 "_law_leaves" 769 "_law_leaves" 770 771 265 6 381 382 383 384 385 782 783
def xX:=gk1 "_law_leaves" "_law_leaves" dP "law_platecuts_k27_whole_deep_trees" 642 386
def xY:=gk4 "_law_measured" 785 "_law_measured" 786 787 278 5 388 389 390 788 789
def xZ:=gk1 "_law_measured" "_law_measured" aX "law_platecuts_k27_whole_deep_trees" 642 391
def ya:=gk0 "law" 791 "law" 792 793 292 1 393 394 395 396 397 803 804
def yb:=gk1 "law" "law" jl "law_platecuts_k27_whole_deep_trees" 642 398
def kK:Params->Frag:=λ P=>(nat_lit 3,kO3 P) :: (nat_lit 20,BR P) :: (nat_lit 21,BS P) :: (nat_lit 30,BU P) :: (nat_lit 31,BV P) :: (nat_lit 43,BW P) :: (nat_lit 44,BX P) :: (nat_lit 55,BY P) :: (nat_lit 56,BZ P) :: (nat_lit 67,Ca P) :: (nat_lit 68,Cb P) :: (nat_lit 79,Cc P) :: (nat_lit 80,Cd P) :: (nat_lit 91,Ce P) :: (nat_lit 92,Cf P) :: (nat_lit 103,vX P) :: (nat_lit 104,vY P) :: (nat_lit 112,vZ P) :: (nat_lit 113,wc P) :: (nat_lit 119,we P) :: (nat_lit 120,wf P) :: (nat_lit 126,wg P) :: (nat_lit 127,wj P) :: (nat_lit 133,wk P) :: (nat_lit 134,wm P) :: (nat_lit 135,wn P) :: (nat_lit 141,wr P) :: (nat_lit 142,wu P) :: (nat_lit 148,wv P) :: (nat_lit 149,ww P) :: (nat_lit 155,wx P) :: (nat_lit 156,wA P) :: (nat_lit 162,wB P) :: (nat_lit 163,wC P) :: (nat_lit 169,wD P) :: (nat_lit 170,wE P) :: (nat_lit 176,wF P) :: (nat_lit 177,wG P) :: (nat_lit 183,wH P) :: (nat_lit 184,wI P) :: (nat_lit 190,wJ P) :: (nat_lit 191,wK P) :: (nat_lit 197,wL P) :: (nat_lit 198,wM P) :: (nat_lit 204,wN P) :: (nat_lit 205,wO P) :: (nat_lit 209,wP P) :: (nat_lit 210,wQ P) :: (nat_lit 214,wR P) :: (nat_lit 215,wS P) :: (nat_lit 219,wT P) :: (nat_lit 220,wU P) :: (nat_lit 226,wV P) :: (nat_lit 227,wW P) :: (nat_lit 233,wX P) :: (nat_lit 234,wY P) :: (nat_lit 240,wZ P) :: (nat_lit 241,xa P) :: (nat_lit 252,xb P) :: (nat_lit 253,xc P) :: (nat_lit 259,xf P) :: (nat_lit 260,xg P) :: (nat_lit 266,xh P) :: (nat_lit 267,xi P) :: (nat_lit 271,xj P) :: (nat_lit 272,xk P) :: (nat_lit 278,xm P) :: (nat_lit 279,xn P) :: (nat_lit 285,xo P) :: (nat_lit 286,xq P) :: (nat_lit 292,xt P) :: (nat_lit 293,xu P) :: (nat_lit 295,xw P) :: (nat_lit 296,xx P) :: (nat_lit 306,xy P) :: (nat_lit 307,xz P) :: (nat_lit 313,xA P) :: (nat_lit 314,xB P) :: (nat_lit 320,xC P) :: (nat_lit 321,xD P) :: (nat_lit 327,xE P) :: (nat_lit 328,xF P) :: (nat_lit 334,xG P) :: (nat_lit 335,xH P) :: (nat_lit 339,xI P) :: (nat_lit 340,xJ P) :: (nat_lit 346,xK P) :: (nat_lit 347,xL P) :: (nat_lit 351,xM P) :: (nat_lit 352,xN P) :: (nat_lit 358,xO P) :: (nat_lit 359,xP P) :: (nat_lit 365,xQ P) :: (nat_lit 366,xR P) :: (nat_lit 372,xS P) :: (nat_lit 373,xT P) :: (nat_lit 379,xU P) :: (nat_lit 380,xV P) :: (nat_lit 386,xW P) :: (nat_lit 387,xX P) :: (nat_lit 391,xY P) :: (nat_lit 392,xZ P) :: (nat_lit 398,ya P) :: (nat_lit 399,yb P) :: []
end
end Pc
abbrev PySem.W.Fast.tw6896925622005670016:PySem.Program:=PySem.Challenge.pw_platecuts_k27_whole_deep_trees
theorem PySem.W.Fast.te6896925622005670016:PySem.Challenge.pw_platecuts_k27_whole_deep_trees=PySem.W.Fast.tw6896925622005670016:=rfl
namespace Hd
open PySem PySem.W
def S0:Str:="__name__"
def S2:Str:="__doc__"
def S3:Str:="__package__"
def S4:Str:="__loader__"
def S5:Str:="__spec__"
def yc:Str:="__main__"
def yd:Str:="__annotations__"
def ye:Str:="__builtins__"
def yf:Str:="__file__"
def jy:Str:=⟨⟨[47,99,108,97,105,109,47,99,117,116,46,112,121]⟩⟩
def yg:Str:="__cached__"
def Cg:Str:="<module>"
def jz:Str:="platecuts.trees"
def kG:Str:="_wall"
def iR:Str:="PlateError"
def mY:Str:="NoBlade"
def mZ:Str:="NoKinds"
def ng:Str:="NoKind"
def nh:Str:="NoLying"
def ni:Str:="NoPlate"
def nj:Str:="NoTree"
def kH:Str:="is_whole"
def kI:Str:="is_truth"
def kJ:Str:="is_row"
def kL:Str:="check_plate"
def tE:Str:="DOWN"
def tF:Str:="down"
def tG:Str:="ACROSS"
def tH:Str:="across"
def tI:Str:="WAYS"
def kM:Str:="lies_in"
def kN:Str:="cut_parts"
def tJ:Str:="REST"
def yh:Str:="rest"
def tK:Str:="PIECE"
def yi:Str:="piece"
def tL:Str:="THINGS_OF_A_REST"
def tM:Str:="THINGS_OF_A_PIECE"
def tN:Str:="THINGS_OF_A_CUT"
def kO:Str:="begins_with"
def kP:Str:="is_cut"
def kQ:Str:="is_leaf"
def kR:Str:="spots_behind"
def kS:Str:="is_tree"
def Ch:Str:="k"
def qc:Str:="__module__"
def gL:Str:="platecuts.errors"
def yj:Str:="__qualname__"
def qd:Str:="__firstlineno__"
def qe:Str:="__static_attributes__"
def tO:Str:="__weakref__"
def kU:Str:="thing"
def Ci:Str:="least"
def rJ:Str:="platecuts.checks"
def gM:Str:="wide"
def gN:Str:="high"
def rK:Str:="shop"
def qg:Str:="kind"
def rL:Str:="turned"
def qh:Str:="x"
def qi:Str:="y"
def yk:Str:="piece_wide"
def ym:Str:="piece_high"
def yn:Str:="platecuts.parts"
def iS:Str:="blade"
def Cj:Str:="part"
def tP:Str:="way"
def yo:Str:="p"
def yp:Str:="word"
def Ck:Str:="many"
def qj:Str:="spot"
def qk:Str:="tree"
def Cl:Str:="side"
def Cm:Str:="first"
def Cn:Str:="second"
def Co:Str:="wide_ahead"
def Cp:Str:="high_ahead"
def Cq:Str:="wide_behind"
def Cr:Str:="high_behind"
def Cs:Str:="step"
def Ct:Str:="far_x"
def Cu:Str:="far_y"
def yq:Str:="waiting"
def dY:Str:="law_platecuts_k27_whole_deep_trees"
def nk:Str:="check_tree"
def nq:Str:="leaves_of"
def nr:Str:="pieces_of"
def nu:Str:="rests_of"
def nv:Str:="counts_of"
def nw:Str:="worth_of"
def nz:Str:="areas_of"
def yt:Str:="MOST_KINDS"
def yu:Str:="THINGS_OF_A_KIND"
def nA:Str:="is_kind"
def nC:Str:="can_lie_turned"
def jA:Str:="Shop"
def nD:Str:="_law_pot"
def nE:Str:="_law_draw"
def nF:Str:="_law_number"
def nG:Str:="_law_kind"
def nH:Str:="_law_shop"
def nI:Str:="_law_fitting"
def nJ:Str:="_law_leaf"
def nL:Str:="_law_listed"
def nM:Str:="_law_row"
def nN:Str:="_law_beside"
def nO:Str:="_law_around"
def nP:Str:="_law_deep"
def nQ:Str:="_law_leaves"
def nR:Str:="_law_measured"
def ql:Str:="law"
def Cv:Str:="leaves"
def Cw:Str:="pieces"
def yw:Str:="part_wide"
def yx:Str:="part_high"
def yy:Str:="leaf"
def Cy:Str:="piece_x"
def Cz:Str:="piece_y"
def qm:Str:="platecuts.measures"
def CA:Str:="rests"
def CB:Str:="margins"
def CC:Str:="cells"
def CD:Str:="worth"
def nS:Str:="wanted"
def CF:Str:="turns"
def nT:Str:="platecuts.shops"
def qo:Str:="__init__"
def qp:Str:="kinds"
def qq:Str:="lyings"
def qr:Str:="is_lying"
def qt:Str:="sides"
def tQ:Str:="Shop.__init__"
def qu:Str:="self"
def tR:Str:="Shop.blade"
def tS:Str:="Shop.kinds"
def tT:Str:="Shop.wanted"
def tU:Str:="Shop.lyings"
def tV:Str:="Shop.is_lying"
def CG:Str:="row"
def tW:Str:="Shop.sides"
def CI:Str:="blade_width"
def CJ:Str:="kind_rows"
def yz:Str:="__dict__"
def yA:Str:="_law_script"
def yB:Str:="_law_place"
def CK:Str:="_law_cell"
def gO:Str:="_law_pot_here"
def yC:Str:="_law_many"
def CL:Str:="_law_found"
def CM:Str:="_law_least"
def CN:Str:="_law_way"
def jB:Str:="_law_wide"
def jC:Str:="_law_high"
def yD:Str:="_law_blade"
def yE:Str:="_law_kinds"
def tX:Str:="_law_k"
def CO:Str:="_law_some"
def CP:Str:="_law_number_here"
def CQ:Str:="_law_turned"
def CS:Str:="_law_a"
def CT:Str:="_law_b"
def CU:Str:="_law_down"
def qv:Str:="_law_tree"
def CV:Str:="_law_used"
def qw:Str:="_law_shop_here"
def tY:Str:="_law_sides"
def CW:Str:="_law_more"
def yF:Str:="_law_other"
def CY:Str:="_law_x"
def CZ:Str:="_law_y"
def Da:Str:="_law_behind"
def Db:Str:="_law_taken"
def Dc:Str:="_law_one"
def Dd:Str:="_law_told"
abbrev HK:Hook:=kHook Pc.kK [nat_lit 3,nat_lit 20,nat_lit 21,nat_lit 30,nat_lit 31,nat_lit 43,nat_lit 44,nat_lit 55,nat_lit 56,nat_lit 67,nat_lit 68,nat_lit 79,nat_lit 80,nat_lit 91,nat_lit 92,nat_lit 103,nat_lit 104,nat_lit 112,nat_lit 113,nat_lit 119,nat_lit 120,nat_lit 126,nat_lit 127,nat_lit 133,nat_lit 134,nat_lit 135,nat_lit 141,nat_lit 142,nat_lit 148,nat_lit 149,nat_lit 155,nat_lit 156,nat_lit 162,nat_lit 163,nat_lit 169,nat_lit 170,nat_lit 176,nat_lit 177,nat_lit 183,nat_lit 184,nat_lit 190,nat_lit 191,nat_lit 197,nat_lit 198,nat_lit 204,nat_lit 205,nat_lit 209,nat_lit 210,nat_lit 214,nat_lit 215,nat_lit 219,nat_lit 220,nat_lit 226,nat_lit 227,nat_lit 233,nat_lit 234,nat_lit 240,nat_lit 241,nat_lit 252,nat_lit 253,nat_lit 259,nat_lit 260,nat_lit 266,nat_lit 267,nat_lit 271,nat_lit 272,nat_lit 278,nat_lit 279,nat_lit 285,nat_lit 286,nat_lit 292,nat_lit 293,nat_lit 295,nat_lit 296,nat_lit 306,nat_lit 307,nat_lit 313,nat_lit 314,nat_lit 320,nat_lit 321,nat_lit 327,nat_lit 328,nat_lit 334,nat_lit 335,nat_lit 339,nat_lit 340,nat_lit 346,nat_lit 347,nat_lit 351,nat_lit 352,nat_lit 358,nat_lit 359,nat_lit 365,nat_lit 366,nat_lit 372,nat_lit 373,nat_lit 379,nat_lit 380,nat_lit 386,nat_lit 387,nat_lit 391,nat_lit 392,nat_lit 398,nat_lit 399] (λ _=>by kernel_rfl)
abbrev pt:EQ:=PySem.W.Fast.tw6896925622005670016
theorem pt_eq:PySem.Challenge.pw_platecuts_k27_whole_deep_trees=pt:=PySem.W.Fast.te6896925622005670016
def tp (i:Nat):Stmt:=pt.main.body.getD i (.Pass ⟨0,0,0,0⟩)
abbrev f (o:Params->Obj) (l r:Params->BT):Params->BT:=λ P=>.node (o P) (l P) (r P)
abbrev z:Params->BT:=λ _=>.nil
abbrev e (P:Params) (n:Str) (t:Nat) (v:ET):DictEntry:=⟨PyData.keyHash P n,.str n t,v⟩
abbrev m0:Nat:=nat_lit 11
abbrev an:Option ET:=(↑6)
abbrev en:Env:={ scope:=pt.main.scope,locals:=mainNs,globals:=mainNs,cells:=[],code:=(.ref 13),frame:=some 14 }
abbrev cE:Code:=.body (behindTheImports pt) en
abbrev qP:Pos:=⟨0,0,0,0⟩
abbrev B:List Frame:=[topFrame qP]
abbrev L0:=SL.s14018661285674007319x4
abbrev L1:=SL.s11665532747177232413x24
abbrev L2:=SL.s15183661809925369436x15
abbrev L3:=SL.s13915890719876406383x10
abbrev L4:=SL.s13459172003223722735x3
abbrev L5:=SL.s10557405761357834076x3
abbrev L6:=SL.s4233737765568776869x3
abbrev L7:=SL.s2508922471967985374x5
abbrev L8:=SL.s15574269061696679450x3
abbrev L9:=SL.s6016482663378992977x10
abbrev L10:=SL.s5596568736180474577x8
abbrev L11:=SL.s2839554839881490554x3
abbrev L12:=SL.s725004073602090463x7
abbrev L13:=SL.s9436932552931045734x7
abbrev L14:=SL.s2754603736356183583x3
abbrev L15:=SL.s15185746759980889043x6
abbrev L16:=SL.s8192189862530294059x4
abbrev L17:=SL.s7038307821325472102x4
abbrev L18:=SL.s5662562618415449548x6
abbrev L19:=SL.s15281542589158584767x7
abbrev L20:=SL.s17651547275483570877x7
abbrev L21:=SL.s4036449017235975746x7
abbrev L22:=SL.s8879979712987360175x4
abbrev L23:=SL.s1801250619170735830x3
abbrev L24:=SL.s17659931425627118568x2
abbrev L25:=SL.s6063217899685152688x5
abbrev L26:=SL.s8008927332132565319x10
abbrev L27:=SL.s3544116645089599534x10
abbrev L28:=SL.s13761710972054866084x4
abbrev L29:=SL.s12896375587409280029x5
abbrev L30:=SL.s13014049009108672802x3
abbrev L31:=SL.s13935586738268321596x6
abbrev L32:=SL.s8200498257699607233x3
abbrev L33:=SL.s14114244577727609259x3
abbrev L34:=SL.s1499430450269397089x4
abbrev L35:=SL.s8755793994789770505x5
abbrev L36:=SL.s15725212667919936108x3
abbrev L37:=SL.s15791221867095933363x3
abbrev L38:=SL.s81309575031448614x3
abbrev L39:=SL.s8069831620301644142x5
abbrev L40:=SL.s10061844253413749634x4
abbrev L41:=SL.s9496514870978017513x5
abbrev L42:=SL.s8899691144933366716x7
abbrev L43:=SL.s15201008993051130160x6
abbrev L44:=SL.s741896355592496720x3
abbrev L45:=SL.s17925004256654032244x4
abbrev L46:=SL.s11695548795398191787x4
abbrev L47:=SL.s4156966113859768872x10
abbrev L48:=SL.s9501651726347032510x9
abbrev L49:=SL.s15722918466584999320x5
abbrev L50:=SL.s591115383303110208x11
abbrev L51:=SL.s15721156781594690315x7
abbrev L52:=SL.s14340494229221121180x9
abbrev L53:=SL.s13429844117177748173x6
abbrev L54:=SL.s16463266125957815391x5
abbrev L55:=SL.s4922535414793169389x9
abbrev L56:=SL.s8101838861749082086x8
abbrev L57:=SL.s7066276694103001551x3
abbrev L58:=SL.s9222952809800978799x4
abbrev L59:=SL.s462964344163437139x3
abbrev L60:=SL.s2742458400755230247x6
abbrev L61:=SL.s1438033511350832697x5
abbrev L62:=SL.s14365286008749172514x8
abbrev L63:=SL.s3642769012341782148x3
abbrev L64:=SL.s4674234679698826739x5
abbrev L65:=SL.s16656946322747308186x12
abbrev L66:=SL.s10796804682411823810x3
abbrev L67:=SL.s4290257624100764138x5
abbrev L68:=SL.s2766695959194262286x5
abbrev L69:=SL.s17162191345867700912x4
abbrev L70:=SL.s14339709457334898076x3
abbrev L71:=SL.s4278001404047624695x13
abbrev L72:=SL.s6585700554429387442x18
abbrev L73:=SL.s5946037652744460706x9
abbrev L74:=SL.s7410770068591931388x13
abbrev L75:=SL.s11817881795495490833x17
abbrev L76:=SL.s15679963881808890155x10
abbrev L77:=SL.s3871700062485845797x15
abbrev L78:=SL.s7689518266570723881x14
abbrev L79:=SL.s9001593270443806431x14
abbrev L80:=SL.s6882542574934516792x11
abbrev L81:=SL.s14403400214490484960x8
abbrev L82:=SL.s14457978657717015782x11
abbrev L83:=SL.s1753610191782819921x11
abbrev L84:=SL.s14119380538032626715x11
abbrev L85:=SL.s11437920000406562045x9
abbrev L86:=SL.s10852414792293593619x7
abbrev L87:=SL.s14816307405966870543x14
abbrev L88:=SL.s8682627914449686677x12
abbrev L89:=SL.s4428170145600203450x18
abbrev L90:=SL.s5991306692159431302x13
abbrev L91:=SL.s16067994140765818257x11
abbrev L92:=SL.s2327743974964600596x11
abbrev L93:=SL.s2804747833354056582x9
abbrev L94:=SL.s6070975301684473832x10
abbrev L95:=SL.s14270485950484850486x7
abbrev L96:=SL.s12041534306414923332x18
abbrev L97:=SL.s2531307568338490285x13
abbrev L98:=SL.s631175304937289666x17
abbrev L99:=SL.s5144983644357021410x12
abbrev Dq:=SL.s18039099521571816885x18
abbrev Dr:=SL.s6011586214260557989x15
abbrev Ds:=SL.s5430567037509283100x13
abbrev Du:=SL.s8117915138073963741x13
abbrev Dv:=SL.s3423317712779056401x25
abbrev Dw:=SL.s2007317383269046180x15
abbrev Dx:=SL.s17481586968713580700x14
abbrev Dy:=SL.s2450899226349176912x13
abbrev Dz:=SL.s16626165730633575011x14
abbrev DG:=SL.s14288496050688921416x11
abbrev DH:=SL.s5735081916595925998x15
abbrev DJ:=SL.s3865607918536308442x17
abbrev DM:=SL.s13337502604062700212x15
abbrev DO:=SL.s13114017843053701147x15
abbrev DQ:=SL.s17467278006356818441x17
abbrev DV:=SL.s17722149559621369488x16
abbrev DX:=SL.s7855274175708717672x17
abbrev DY:=SL.s13351283678309829046x18
abbrev DZ:=SL.s6668348653404991179x15
abbrev Ea:=SL.s12913350958174193794x18
abbrev Eb:=SL.s16115879512475548326x12
abbrev Ec:=SL.s15920661018069861047x16
abbrev Ed:=SL.s10779130036587390575x21
abbrev Ee:=SL.s7801419657504700863x10
abbrev Ef:=SL.s1688129525768580628x8
abbrev Eg:=SL.s1031832959479892071x19
abbrev Eh:=SL.s8991790508128307865x19
abbrev Ei:=SL.s14539662485746970245x23
abbrev Ej:=SL.s11643622729373238714x14
abbrev Ek:=SL.s3386828779285465597x17
abbrev El:=SL.s13042696260734638735x12
abbrev Em:=SL.s18239426817015966623x15
abbrev En:=SL.s1270395311379034370x22
abbrev Eo:=SL.s10696252587037064777x22
abbrev Ep:=SL.s7852717498200857586x20
abbrev Er:=SL.s6377248116197321094x8
abbrev Es:=SL.s3834378056692298002x18
abbrev Et:=SL.s17586630440231065808x18
abbrev Eu:=SL.s15234114252648025395x21
abbrev Ev:=SL.s8496462677383758984x14
abbrev Ew:=SL.s16789243406116112673x4
abbrev Ex:=SL.s14400166428656793546x20
abbrev Ey:=SL.s5857708277339239366x20
abbrev Ez:=SL.s7804999707787243718x20
abbrev yG:=SL.s7097527257260152453x26
abbrev EA:=SL.s6658869562736209489x6
abbrev tZ:=SL.s5856160107412720595x4
abbrev De:=SL.s658472552662922059x5
abbrev sZ (w:ES) (os:OsState):EO:=⟨boot_heap w.params,Array.mk [],boot_drawn,boot_toks,os⟩
def o11 (P:Params):Obj:=⟨(.type L68),none,(.seq #[] 0),#[]⟩
def o12 (P:Params):Obj:=⟨.none,none,(.fields #[]),#[]⟩
def g0 (x0:Str)(x1 x2 x3:Nat)(P:Params):Obj:=⟨(.type tZ),none,(.fields #[.str x0 x1,.str x0 (x1+1),.str jy (x1+2),.int x2 0,.int 0 0,.int 0 0,.int 0 0,.int 0 0,.ref x3,.bool false,.int 181 0,.ref (x3+1),.none,.none,.none,.none,.int (x1+3) 0,.int x2 0,.str jy (x1+4)]),#[]⟩
def o13:=g0 Cg 182 1 11
def g1 (x0 x1:Nat)(x2:Str)(x3:Nat)(P:Params):Obj:=⟨(.type De),none,.plain,#[↑x0,↑3,↑x1,none,some (.str x2 x3),none,↑0]⟩
def o14:=g1 13 3 yc 164
def hA (P:Params):Heap:=⟨⟨[boot_o_0 P,boot_o_1 P,boot_o_2 P,boot_o_3 P,boot_o_4 P,boot_o_5 P,boot_o_6 P,boot_o_7 P,boot_o_8 P,boot_o_9 P,boot_o_10 P,o11 P,o12 P,o13 P,o14 P]⟩,{ }⟩
abbrev sA (w:ES) (os:OsState):EO:=⟨hA w.params,(Array.mk []),⟨0,0,0,0⟩,187,os⟩
abbrev pA:Pos:=⟨0,0,0,0⟩
theorem pre (w:ES):(λ os=>topGo treeTable pt w m0 an 12 (sZ w os) (topStub pt))=λ os=>some (sA w os,(⟨denote treeTable cE,cE,pA,B⟩:Thread)):=by rw [PySem.W.Fast.te15667345088766844465,PySem.W.Fast.te14364793385576792824,PySem.W.Fast.te11892475500146522536]; kernel_rfl
def tB:Params->BT:=(f boot_o_0 (f boot_o_1 (f boot_o_3 (f boot_o_7 z z) (f o11 z z)) (f boot_o_5 (f boot_o_9 z z) (f o13 z z))) (f boot_o_2 (f boot_o_4 (f boot_o_8 z z) (f o12 z z)) (f boot_o_6 (f boot_o_10 z z) (f o14 z z))))
abbrev sB (w:ES) (os:OsState):SharedT:=⟨tB w.params,15,{ },(Array.mk []),⟨0,0,0,0⟩,187,os⟩
abbrev pB:Pos:=⟨0,0,0,0⟩
theorem blk (w:ES):(λ os=>segRun treeTable pt w m0 an 1 1 (sA w os) ⟨(blockStart (behindTheImports pt) en).wrap (λ _=>doneF .next) deadEnd id id,cE,pA,B⟩)=λ os=>some (.next,(sB w os).abs,cE,pB):=by rw [PySem.W.Fast.te14374325043358763698,PySem.W.Fast.te14364793385576792824,PySem.W.Fast.te1066825118222455980]; kernel_rfl
def Df (P:Params):Obj:=⟨(.type L0),none,(.dict #[e P S0 165 (.str jz 376),e P S2 166 .none,e P S3 167 .none,e P S4 168 (.builtin yG),e P S5 169 .none,e P yd 170 (.ref 6),e P ye 171 (.ref 4),e P yf 173 (.str jy 172),e P yg 174 .none,e P kG 193 (.ref 21),e P iR 213 (.ref 31),e P mY 229 (.ref 44),e P mZ 245 (.ref 56),e P ng 261 (.ref 68),e P nh 277 (.ref 80),e P ni 293 (.ref 92),e P nj 309 (.ref 104),e P kH 319 (.ref 113),e P kI 326 (.ref 120),e P kJ 333 (.ref 127),e P kL 341 (.ref 134),e P tE 345 (.str tF 344),e P tG 347 (.str tH 346),e P tI 348 (.ref 135),e P kM 363 (.ref 142),e P kN 375 (.ref 149),e P tJ 379 (.str yh 378),e P tK 381 (.str yi 380),e P tL 383 (.int 1 382),e P tM 385 (.int 5 384),e P tN 387 (.int 4 386),e P kO 396 (.ref 156),e P kP 407 (.ref 163),e P kQ 420 (.ref 170),e P kR 444 (.ref 177),e P kS 457 (.ref 184)] 36),#[]⟩
def yH (P:Params):Obj:=⟨.none,none,(.fields #[.int 1 0,.int 0 0,.ref 20,.int 5 0,.int 0 0,.ref 27,.int 7 0,.int 0 0,.ref 40,.int 9 0,.int 0 0,.ref 52,.int 11 0,.int 0 0,.ref 64,.int 13 0,.int 0 0,.ref 76,.int 15 0,.int 0 0,.ref 88,.int 17 0,.int 0 0,.ref 100,.int 20 0,.int 0 0,.ref 112,.int 22 0,.int 0 0,.ref 119,.int 24 0,.int 0 0,.ref 126,.int 26 0,.int 0 0,.ref 133,.int 33 0,.int 0 0,.ref 141,.int 38 0,.int 0 0,.ref 148,.int 49 0,.int 0 0,.ref 155,.int 53 0,.int 0 0,.ref 162,.int 60 0,.int 0 0,.ref 169,.int 65 0,.int 0 0,.ref 176,.int 72 0,.int 0 0,.ref 183]),#[]⟩
def g2 (x0:Str)(x1:Nat)(P:Params):Obj:=⟨(.type L68),none,(.seq #[.str x0 x1] 0),#[]⟩
def o17:=g2 Ch 190
def g3 (x0:Str)(x1:Nat)(P:Params):Obj:=⟨.none,none,(.func ⟨x0,x0,L2.defArgs (tp x1),(.stmts (L2.defBody (tp x1))),L2.defScope (tp x1),0,[],.none,.none,.none,.none,none,.none,.none,0⟩),#[]⟩
def o19:=g3 kG 0
def g4 (x0:Str)(x1:Nat)(x2:Str)(x3 x4 x5 x6:Nat)(P:Params):Obj:=⟨(.type tZ),none,(.fields #[.str x0 x1,.str x2 (x1+1),.str jy (x1+2),.int x3 0,.int x4 0,.int 0 0,.int 0 0,.int 3 0,.ref x5,.bool true,.int 181 0,.ref (x5+1),.none,.ref (x5+2),.ref (x5+3),.ref (x5+4),.int x6 0,.int x3 0,.str jy (x6+1)]),#[]⟩
def o20:=g4 kG 187 kG 1 1 15 191
abbrev yI:=SL.s7174869446012820540x8
def g5 (x0:Str)(x1:Nat)(x2:Str)(x3 x4:Nat)(P:Params):Obj:=⟨(.type yI),none,(.func ⟨x0,x0,L2.defArgs (tp x1),(.stmts (L2.defBody (tp x1))),L2.defScope (tp x1),3,[],.none,.none,.none,.str x2 x3,none,.ref x4,.none,0⟩),#[]⟩
def o21:=g5 kG 0 yc 164 20
def o22 (P:Params):Obj:=⟨(.type L68),none,(.seq #[.type L94] 0),#[]⟩
abbrev yJ:=SL.s11030030927630378310x26
abbrev Dg:=SL.s10062305145149207511x16
def o23 (P:Params):Obj:=⟨(.type yJ),none,(.fields #[.builtin Dg,.type L69]),#[]⟩
def g6 (x0:Nat)(x1:Str)(x2 x3:Nat)(P:Params):Obj:=⟨(.type L0),none,(.dict #[e P qc x0 (.str gL 194),e P yj (x0+2) (.str x1 (x0+1)),e P qd (x0+4) (.int x2 (x0+3)),e P qe (x0+5) (.ref x3)] 4),#[]⟩
def o24:=g6 203 iR 5 29
def o27:=g0 iR 198 5 25
def o28:=g1 27 24 gL 194
def o30 (P:Params):Obj:=⟨(.type L0),none,(.dict #[e P qc 203 (.str gL 194),e P qd 207 (.int 5 206),e P qe 208 (.ref 29),e P tO 210 (.ref 32),e P S2 211 .none] 3),#[]⟩
abbrev yK:=SL.s4209523147560561109x18
def o31 (P:Params):Obj:=⟨(.type L69),none,(.cls ⟨iR,[.type L94],[.ref 31,.type L94,.type L73,.type L71,.type L60],30,iR,true,[],[.ref 44,.ref 56,.ref 68,.ref 80,.ref 92,.ref 104],false,none,false⟩),#[↑22,none,some (.str iR 196),some (.str iR 204),some (.builtin yK),some (.bool true)]⟩
abbrev yL:=SL.s14755015743595814543x17
abbrev Dh:=SL.s10220274742760427390x26
def g7 (x0 x1:Nat)(P:Params):Obj:=⟨(.type yL),none,(.fields #[.str tO x0,.ref x1,.builtin Dh,.none]),#[]⟩
def o32:=g7 209 31
def g8 (x0:Nat)(P:Params):Obj:=⟨(.type L67),none,(.fields #[.ref x0,.ref x0,.ref x0]),#[]⟩
def o33:=g8 31
abbrev Di:=SL.s4860613602091757760x24
def g9 (x0:Nat)(P:Params):Obj:=⟨(.type yJ),none,(.fields #[.builtin Di,.ref x0]),#[]⟩
def o34:=g9 31
def o35 (P:Params):Obj:=⟨(.type L68),none,(.seq #[.ref 31] 0),#[]⟩
def o37:=g6 221 mY 7 42
def o40:=g0 mY 216 7 38
def o41:=g1 40 37 gL 194
def g10 (x0 x1 x2:Nat)(P:Params):Obj:=⟨(.type L0),none,(.dict #[e P qc x0 (.str gL 194),e P qd (x0+4) (.int x1 (x0+3)),e P qe (x0+5) (.ref x2),e P S2 (x0+6) .none] 2),#[]⟩
def o43:=g10 221 7 42
def g11 (x0:Str)(x1 x2 x3 x4:Nat)(P:Params):Obj:=⟨(.type L69),none,(.cls ⟨x0,[.ref 31],[.ref x1,.ref 31,.type L94,.type L73,.type L71,.type L60],x2,x0,true,[],[],false,none,false⟩),#[↑x3,none,some (.str x0 x4),some (.str x0 (x4+8)),some (.builtin yK),some (.bool true)]⟩
def o44:=g11 mY 44 43 35 214
def o45:=g8 44
def o46:=g9 44
def o49:=g6 237 mZ 9 54
def o52:=g0 mZ 232 9 50
def o53:=g1 52 49 gL 194
def o55:=g10 237 9 54
def o56:=g11 mZ 56 55 47 230
def o57:=g8 56
def o58:=g9 56
def o61:=g6 253 ng 11 66
def o64:=g0 ng 248 11 62
def o65:=g1 64 61 gL 194
def o67:=g10 253 11 66
def o68:=g11 ng 68 67 59 246
def o69:=g8 68
def o70:=g9 68
def o73:=g6 269 nh 13 78
def o76:=g0 nh 264 13 74
def o77:=g1 76 73 gL 194
def o79:=g10 269 13 78
def o80:=g11 nh 80 79 71 262
def o81:=g8 80
def o82:=g9 80
def o85:=g6 285 ni 15 90
def o88:=g0 ni 280 15 86
def o89:=g1 88 85 gL 194
def o91:=g10 285 15 90
def o92:=g11 ni 92 91 83 278
def o93:=g8 92
def o94:=g9 92
def o97:=g6 301 nj 17 102
def uh:=g0 nj 296 17 98
def ui:=g1 100 97 gL 194
def uj:=g10 301 17 102
def uk:=g11 nj 104 103 95 294
def um:=g8 104
def uo:=g9 104
def g12 (x0:Str)(x1:Nat)(x2:Str)(x3:Nat)(P:Params):Obj:=⟨(.type L68),none,(.seq #[.str x0 x1,.str x2 x3] 0),#[]⟩
def uq:=g12 kU 315 Ci 316
def ur:=g3 kH 10
def ut:=g4 kH 312 kH 20 2 107 317
def uu:=g5 kH 10 rJ 310 112
def uv:=g2 kU 323
def uw:=g3 kI 11
def ux:=g4 kI 320 kI 22 1 114 324
def uy:=g5 kI 11 rJ 310 119
def uz:=g2 kU 330
def uA:=g3 kJ 12
def uB:=g4 kJ 327 kJ 24 1 121 331
def uC:=g5 kJ 12 rJ 310 126
def uD:=g12 gM 337 gN 338
def uE:=g3 kL 13
def uF:=g4 kL 334 kL 26 2 128 339
def uG:=g5 kL 13 rJ 310 133
def uH:=g12 tF 344 tH 346
def g13 (x0:Str)(x1:Nat)(x2 x3 x4 x5 x6 x7 x8 x9:Str)(P:Params):Obj:=⟨(.type L68),none,(.seq #[.str x0 x1,.str x2 (x1+1),.str x3 (x1+2),.str x4 (x1+3),.str x5 (x1+4),.str x6 (x1+5),.str x7 (x1+6),.str x8 (x1+7),.str x9 (x1+8)] 0),#[]⟩
def uI:=g13 rK 352 gM gN qg rL qh qi yk ym
def uJ:=g3 kM 18
def uK:=g4 kM 349 kM 33 7 136 361
def uL:=g5 kM 18 yn 342 141
def g14 (x0:Str)(x1:Nat)(x2 x3 x4 x5 x6:Str)(P:Params):Obj:=⟨(.type L68),none,(.seq #[.str x0 x1,.str x2 (x1+1),.str x3 (x1+2),.str x4 (x1+3),.str x5 (x1+4),.str x6 (x1+5)] 0),#[]⟩
def uM:=g14 iS 367 Cj tP yo gM gN
def uN:=g3 kN 19
def uO:=g4 kN 364 kN 38 4 143 373
def uP:=g5 kN 19 yn 342 148
def g15 (x0:Str)(x1:Nat)(x2 x3:Str)(P:Params):Obj:=⟨(.type L68),none,(.seq #[.str x0 x1,.str x2 (x1+1),.str x3 (x1+2)] 0),#[]⟩
def uQ:=g15 kU 391 yp Ck
def uR:=g3 kO 26
def uS:=g4 kO 388 kO 49 3 150 394
def uT:=g5 kO 26 jz 376 155
def g16 (x0:Str)(x1:Nat)(x2 x3 x4 x5:Str)(P:Params):Obj:=⟨(.type L68),none,(.seq #[.str x0 x1,.str x2 (x1+1),.str x3 (x1+2),.str x4 (x1+3),.str x5 (x1+4)] 0),#[]⟩
def uU:=g16 iS 400 qj qk tP Cl
def uV:=g3 kP 27
def uW:=g4 kP 397 kP 53 2 157 405
def uX:=g5 kP 27 jz 376 162
def g17 (x0:Nat)(x1 x2 x3 x4 x5 x6:Str)(P:Params):Obj:=⟨(.type L68),none,(.seq #[.str rK x0,.str x1 (x0+1),.str x2 (x0+2),.str x3 (x0+3),.str x4 (x0+4),.str x5 (x0+5),.str x6 (x0+6)] 0),#[]⟩
def uY:=g17 411 qj qh qi gM gN qk
def uZ:=g3 kQ 28
def va:=g4 kQ 408 kQ 60 2 164 418
def vb:=g5 kQ 28 jz 376 169
def vc (P:Params):Obj:=⟨(.type L68),none,(.seq #[.str iS 424,.str qj 425,.str qh 426,.str qi 427,.str gM 428,.str gN 429,.str qk 430,.str tP 431,.str yo 432,.str Cm 433,.str Cn 434,.str Co 435,.str Cp 436,.str Cq 437,.str Cr 438,.str Cs 439,.str Ct 440,.str Cu 441] 0),#[]⟩
def vd:=g3 kR 29
def ve:=g4 kR 421 kR 65 2 171 442
def vf:=g5 kR 29 jz 376 176
def vg:=g17 448 gM gN kU iS yq qj
def vh:=g3 kS 30
def vi:=g4 kS 445 kS 72 4 178 455
def vj:=g5 kS 30 jz 376 183
def t0:Params->BT:=(f boot_o_0 (f boot_o_1 (f Df (f boot_o_7 (f o11 (f o31 (f o12 (f uC z z) z) (f o35 (f uU z z) z)) (f o35 (f o79 (f o11 z z) z) (f ur (f vd z z) z))) (f o23 (f o12 (f o35 (f uH z z) z) (f uj (f o11 z z) z)) (f o55 (f o12 (f o12 z z) z) (f ux (f vi z z) z)))) (f o11 (f o19 (f o35 (f o67 (f o11 z z) z) (f o12 (f uX z z) z)) (f o12 (f o35 (f uN z z) z) (f o12 (f o12 z z) z))) (f o27 (f o43 (f o12 (f o11 z z) z) (f o11 (f o11 z z) z)) (f o35 (f o91 (f uS z z) z) (f uz z z))))) (f boot_o_5 (f boot_o_9 (f o17 (f o33 (f o65 (f o12 z z) z) (f o97 (f uV z z) z)) (f o49 (f o81 (f uM z z) z) (f uu (f vf z z) z))) (f o11 (f o41 (f o73 (f o12 z z) z) (f um (f va z z) z)) (f o57 (f o89 (f o11 z z) z) (f o11 z z)))) (f o13 (f o21 (f o37 (f o69 (f uF z z) z) (f ui (f o12 z z) z)) (f o53 (f o85 (f uP z z) z) (f o11 (f o11 z z) z))) (f o11 (f o45 (f o77 (f uK z z) z) (f uq (f vc z z) z)) (f o61 (f o93 (f o11 z z) z) (f uA z z)))))) (f boot_o_2 (f boot_o_4 (f boot_o_8 (f o12 (f o32 (f o64 (f o11 z z) z) (f o23 (f o11 z z) z)) (f o23 (f o80 (f o12 z z) z) (f ut (f ve z z) z))) (f o24 (f o40 (f o23 (f o11 z z) z) (f uk (f uZ z z) z)) (f o56 (f o88 (f uQ z z) z) (f uy (f vj z z) z)))) (f yH (f o20 (f o23 (f o68 (f uE z z) z) (f uh (f o11 z z) z)) (f o52 (f o23 (f uO z z) z) (f uv (f vg z z) z))) (f o28 (f o44 (f o76 (f uJ z z) z) (f o12 (f o12 z z) z)) (f o23 (f o92 (f uT z z) z) (f o11 z z))))) (f boot_o_6 (f boot_o_10 (f o11 (f o34 (f o11 (f uD z z) z) (f o11 (f uW z z) z)) (f o11 (f o82 (f o11 z z) z) (f o11 (f o11 z z) z))) (f o12 (f o11 (f o11 (f uI z z) z) (f uo (f vb z z) z)) (f o58 (f o11 (f uR z z) z) (f o12 z z)))) (f o14 (f o22 (f o11 (f o70 (f uG z z) z) (f o11 (f uY z z) z)) (f o11 (f o11 (f o11 z z) z) (f uw (f vh z z) z))) (f o30 (f o46 (f o11 (f uL z z) z) (f o11 (f o11 z z) z)) (f o11 (f o94 (f o12 z z) z) (f uB z z)))))))
abbrev s0 (w:ES) (os:OsState):SharedT:=⟨t0 w.params,185,{ },(Array.mk []),⟨0,0,0,0⟩,458,os⟩
abbrev p0:Pos:=⟨72,0,82,15⟩
abbrev st0:List Stmt:=(pt.main.body.drop 0).take 31
theorem q0 (w:ES):(λ os=>segRunT treeTable pt w m0 an 1 1976 (sB w os) ⟨(execs st0 en).wrap doneF deadEnd id id,cE,pB,B⟩)=λ os=>some (.next,s0 w os,cE,p0):=by rw [PySem.W.Fast.te10110043849684766642,PySem.W.Fast.te14364793385576792824,PySem.W.Fast.te12563942051412417395]; kernel_rfl
def yM (P:Params):Obj:=⟨(.type L0),none,(.dict #[e P S0 165 (.str dY 642),e P S2 166 .none,e P S3 167 .none,e P S4 168 (.builtin yG),e P S5 169 .none,e P yd 170 (.ref 6),e P ye 171 (.ref 4),e P yf 173 (.str jy 172),e P yg 174 .none,e P kG 193 (.ref 21),e P iR 213 (.ref 31),e P mY 229 (.ref 44),e P mZ 245 (.ref 56),e P ng 261 (.ref 68),e P nh 277 (.ref 80),e P ni 293 (.ref 92),e P nj 309 (.ref 104),e P kH 319 (.ref 113),e P kI 326 (.ref 120),e P kJ 333 (.ref 127),e P kL 341 (.ref 134),e P tE 345 (.str tF 344),e P tG 347 (.str tH 346),e P tI 348 (.ref 135),e P kM 363 (.ref 142),e P kN 375 (.ref 149),e P tJ 379 (.str yh 378),e P tK 381 (.str yi 380),e P tL 383 (.int 1 382),e P tM 385 (.int 5 384),e P tN 387 (.int 4 386),e P kO 396 (.ref 156),e P kP 407 (.ref 163),e P kQ 420 (.ref 170),e P kR 444 (.ref 177),e P kS 457 (.ref 184),e P nk 467 (.ref 191),e P nq 480 (.ref 198),e P nr 503 (.ref 205),e P nu 509 (.ref 210),e P nv 515 (.ref 215),e P nw 521 (.ref 220),e P nz 542 (.ref 227),e P yt 546 (.int 8 545),e P yu 548 (.int 5 547),e P nA 560 (.ref 234),e P nC 567 (.ref 241),e P jA 641 (.ref 296),e P nD 652 (.ref 307),e P nE 661 (.ref 314),e P nF 670 (.ref 321),e P nG 679 (.ref 328),e P nH 691 (.ref 335),e P nI 697 (.ref 340),e P nJ 712 (.ref 347),e P nL 718 (.ref 352),e P nM 733 (.ref 359),e P nN 743 (.ref 366),e P nO 757 (.ref 373),e P nP 768 (.ref 380),e P nQ 784 (.ref 387),e P nR 790 (.ref 392),e P ql 805 (.ref 399)] 63),#[]⟩
def rY (P:Params):Obj:=⟨.none,none,(.fields #[.int 1 0,.int 0 0,.ref 20,.int 5 0,.int 0 0,.ref 27,.int 7 0,.int 0 0,.ref 40,.int 9 0,.int 0 0,.ref 52,.int 11 0,.int 0 0,.ref 64,.int 13 0,.int 0 0,.ref 76,.int 15 0,.int 0 0,.ref 88,.int 17 0,.int 0 0,.ref 100,.int 20 0,.int 0 0,.ref 112,.int 22 0,.int 0 0,.ref 119,.int 24 0,.int 0 0,.ref 126,.int 26 0,.int 0 0,.ref 133,.int 33 0,.int 0 0,.ref 141,.int 38 0,.int 0 0,.ref 148,.int 49 0,.int 0 0,.ref 155,.int 53 0,.int 0 0,.ref 162,.int 60 0,.int 0 0,.ref 169,.int 65 0,.int 0 0,.ref 176,.int 72 0,.int 0 0,.ref 183,.int 83 0,.int 0 0,.ref 190,.int 86 0,.int 0 0,.ref 197,.int 97 0,.int 0 0,.ref 204,.int 105 0,.int 0 0,.ref 209,.int 109 0,.int 0 0,.ref 214,.int 115 0,.int 0 0,.ref 219,.int 118 0,.int 0 0,.ref 226,.int 133 0,.int 0 0,.ref 233,.int 140 0,.int 0 0,.ref 240,.int 142 0,.int 0 0,.ref 247,.int 180 0,.int 0 0,.ref 306,.int 185 0,.int 0 0,.ref 313,.int 192 0,.int 0 0,.ref 320,.int 199 0,.int 0 0,.ref 327,.int 203 0,.int 0 0,.ref 334,.int 215 0,.int 0 0,.ref 339,.int 223 0,.int 0 0,.ref 346,.int 229 0,.int 0 0,.ref 351,.int 233 0,.int 0 0,.ref 358,.int 243 0,.int 0 0,.ref 365,.int 247 0,.int 0 0,.ref 372,.int 259 0,.int 0 0,.ref 379,.int 265 0,.int 0 0,.ref 386,.int 278 0,.int 0 0,.ref 391,.int 292 0,.int 0 0,.ref 398]),#[]⟩
def g18 (x0:Str)(x1:Nat)(x2 x3 x4:Str)(P:Params):Obj:=⟨(.type L68),none,(.seq #[.str x0 x1,.str x2 (x1+1),.str x3 (x1+2),.str x4 (x1+3)] 0),#[]⟩
def yN:=g18 rK 461 gM gN kU
def yO:=g3 nk 31
def yP:=g4 nk 458 nk 83 4 185 465
def yQ:=g5 nk 31 jz 376 190
def yR:=g17 471 gM gN qk Cv yq qj
def yS:=g3 nq 32
def yT:=g4 nq 468 nq 86 4 192 478
def yU:=g5 nq 32 jz 376 197
def g19 (x0:Nat)(x1 x2 x3 x4 x5 x6 x7 x8 x9 x10:Str)(P:Params):Obj:=⟨(.type L68),none,(.seq #[.str rK x0,.str gM (x0+1),.str gN (x0+2),.str qk (x0+3),.str Cw (x0+4),.str x1 (x0+5),.str x2 (x0+6),.str x3 (x0+7),.str x4 (x0+8),.str x5 (x0+9),.str x6 (x0+10),.str x7 (x0+11),.str x8 (x0+12),.str x9 (x0+13),.str x10 (x0+14)] 0),#[]⟩
def yV:=g19 486 qh qi yw yx yy yp qg rL Cy Cz
def yW:=g3 nr 34
def yX:=g4 nr 483 nr 97 4 199 501
def yY:=g5 nr 34 qm 481 204
def yZ:=g3 nu 35
def g20 (x0:Str)(x1:Nat)(x2:Str)(x3 x4 x5:Nat)(P:Params):Obj:=⟨(.type tZ),none,(.fields #[.str x0 x1,.str x2 (x1+1),.str jy (x1+2),.int x3 0,.int x4 0,.int 0 0,.int 0 0,.int 3 0,.ref x5,.bool true,.int 181 0,.ref (x5+1),.none,.none,.none,.ref (x5+2),.int (x1+3) 0,.int x3 0,.str jy (x1+4)]),#[]⟩
def za:=g20 nu 504 nu 105 4 206
def zb:=g5 nu 35 qm 481 209
def zc:=g3 nv 36
def zd:=g20 nv 510 nv 109 4 211
def ze:=g5 nv 36 qm 481 214
def zf:=g3 nw 37
def zg:=g20 nw 516 nw 115 4 216
def zh:=g5 nw 37 qm 481 219
def zi:=g19 525 CA CB qh qi yw yx yy CC yk ym
def zj:=g3 nz 38
def zk:=g4 nz 522 nz 118 4 221 540
def zm:=g5 nz 38 qm 481 226
def zn:=g14 kU 552 gM gN CD nS CF
def zp:=g3 nA 42
def zq:=g4 nA 549 nA 133 1 228 558
def zr:=g5 nA 42 nT 543 233
def zt:=g2 qg 564
def zu:=g3 nC 43
def zw:=g4 nC 561 nC 140 1 235 565
def zx:=g5 nC 43 nT 543 240
def zy (P:Params):Obj:=⟨(.type L0),none,(.dict #[e P qc 575 (.str nT 543),e P yj 577 (.str jA 576),e P qd 579 (.int 142 578),e P qo 585 (.ref 253),e P iS 592 (.ref 260),e P qp 599 (.ref 267),e P nS 605 (.ref 272),e P qq 612 (.ref 279),e P qr 621 (.ref 286),e P qt 631 (.ref 293),e P qe 634 (.ref 294)] 11),#[]⟩
def zA (P:Params):Obj:=⟨.none,none,(.fields #[.int 144 0,.int 4 0,.ref 252,.int 155 0,.int 4 0,.ref 259,.int 158 0,.int 4 0,.ref 266,.int 161 0,.int 4 0,.ref 271,.int 164 0,.int 4 0,.ref 278,.int 167 0,.int 4 0,.ref 285,.int 172 0,.int 4 0,.ref 292]),#[]⟩
def zB:=g0 jA 570 142 245
def zC:=g1 247 244 nT 543
def g21 (x0 x1:Str)(x2:Nat)(P:Params):Obj:=⟨.none,none,(.func ⟨x0,x1,L2.defArgs (L2.inClass (tp 44) x2),(.stmts (L2.defBody (L2.inClass (tp 44) x2))),L2.defScope (L2.inClass (tp 44) x2),0,[],.none,.none,.none,.none,none,.none,.none,0⟩),#[]⟩
def zD:=g21 qo tQ 0
def zE:=g20 qo 580 tQ 144 3 249
def g22 (x0 x1:Str)(x2 x3:Nat)(P:Params):Obj:=⟨(.type yI),none,(.func ⟨x0,x1,L2.defArgs (L2.inClass (tp 44) x2),(.stmts (L2.defBody (L2.inClass (tp 44) x2))),L2.defScope (L2.inClass (tp 44) x2),3,[],.none,.none,.none,.str nT 543,none,.ref x3,.none,0⟩),#[]⟩
def zF:=g22 qo tQ 0 252
def zG:=g2 qu 589
def zH:=g21 iS tR 1
def zI:=g4 iS 586 tR 155 1 254 590
def zJ:=g22 iS tR 1 259
def zK:=g2 qu 596
def zL:=g21 qp tS 2
def zM:=g4 qp 593 tS 158 1 261 597
def zN:=g22 qp tS 2 266
def zO:=g21 nS tT 3
def zP:=g20 nS 600 tT 161 1 268
def zQ:=g22 nS tT 3 271
def zR:=g2 qu 609
def zS:=g21 qq tU 4
def zT:=g4 qq 606 tU 164 1 273 610
def zU:=g22 qq tU 4 278
def zV:=g15 qu 616 qg rL
def zW:=g21 qr tV 5
def zX:=g4 qr 613 tV 167 3 280 619
def zY:=g22 qr tV 5 285
def zZ:=g18 qu 625 qg rL CG
def Aa:=g21 qt tW 6
def Ab:=g4 qt 622 tW 172 3 287 629
def Ac:=g22 qt tW 6 292
def Ad:=g12 CI 632 CJ 633
def Ae (P:Params):Obj:=⟨(.type L0),none,(.dict #[e P qc 575 (.str nT 543),e P qd 579 (.int 142 578),e P qo 585 (.ref 253),e P iS 592 (.ref 260),e P qp 599 (.ref 267),e P nS 605 (.ref 272),e P qq 612 (.ref 279),e P qr 621 (.ref 286),e P qt 631 (.ref 293),e P qe 634 (.ref 294),e P yz 636 (.ref 297),e P tO 638 (.ref 298),e P S2 639 .none] 4),#[]⟩
abbrev Dj:=SL.s11443829558043349243x14
def Af (P:Params):Obj:=⟨(.type L69),none,(.cls ⟨jA,[.type L60],[.ref 296,.type L60],295,jA,true,[],[],false,none,false⟩),#[none,none,some (.str jA 568),some (.str jA 576),some (.builtin Dj),some (.bool true)]⟩
abbrev Dk:=SL.s6511155373996960695x17
abbrev Dl:=SL.s12411053484034534018x21
def Ag (P:Params):Obj:=⟨(.type yL),none,(.fields #[.str yz 635,.ref 296,.builtin Dk,.builtin Dl]),#[]⟩
def Ah:=g7 637 296
def Ai:=g8 296
def Aj:=g9 296
def Ak:=g15 yA 647 yB CK
def Al:=g3 nD 46
def Am:=g4 nD 644 nD 180 2 301 650
def An:=g5 nD 46 dY 642 306
def Ao:=g15 gO 656 yC CL
def Ap:=g3 nE 47
def Aq:=g4 nE 653 nE 185 2 308 659
def Ar:=g5 nE 47 dY 642 313
def As:=g15 gO 665 CM CN
def At:=g3 nF 48
def Au:=g4 nF 662 nF 192 2 315 668
def Av:=g5 nF 48 dY 642 320
def Aw:=g15 gO 674 jB jC
def Ax:=g3 nG 49
def Ay:=g4 nG 671 nG 199 1 322 677
def Az:=g5 nG 49 dY 642 327
def AA:=g14 gO 683 yD yE tX jB jC
def AB:=g3 nH 50
def AC:=g4 nH 680 nH 203 1 329 689
def AD:=g5 nH 50 dY 642 334
def AE:=g3 nI 51
def AF:=g20 nI 692 nI 215 3 336
def AG:=g5 nI 51 dY 642 339
def AH:=g13 gO 701 yE jB jC CO CP CQ CS CT
def AI:=g3 nJ 52
def AJ:=g4 nJ 698 nJ 223 4 341 710
def AK:=g5 nJ 52 dY 642 346
def AL:=g3 nL 53
def AM:=g20 nL 713 nL 229 1 348
def AN:=g5 nL 53 dY 642 351
def AO:=g13 gO 722 yD jB jC CU yC qv CV tX
def AQ:=g3 nM 54
def AR:=g4 nM 719 nM 233 5 353 731
def AS:=g5 nM 54 dY 642 358
def AT:=g18 gO 737 qw jB jC
def AU:=g3 nN 55
def AV:=g4 nN 734 nN 243 4 360 741
def AW:=g5 nN 55 dY 642 365
def AX (P:Params):Obj:=⟨(.type L68),none,(.seq #[.str gO 747,.str qw 748,.str tY 749,.str qv 750,.str jB 751,.str jC 752,.str CW 753,.str yF 754] 0),#[]⟩
def AY:=g3 nO 56
def AZ:=g4 nO 744 nO 247 4 367 755
def Ba:=g5 nO 56 dY 642 372
def Bb:=g16 gO 761 qw tY qv tX
def Bc:=g3 nP 57
def Bd:=g4 nP 758 nP 259 2 374 766
def Be:=g5 nP 57 dY 642 379
def Bf (P:Params):Obj:=⟨(.type L68),none,(.seq #[.str qw 772,.str CY 773,.str CZ 774,.str jB 775,.str jC 776,.str qv 777,.str Da 778,.str Db 779,.str Dc 780,.str yF 781] 0),#[]⟩
def Bg:=g3 nQ 58
def Bh:=g4 nQ 769 nQ 265 6 381 782
def Bi:=g5 nQ 58 dY 642 386
def Bj:=g3 nR 59
def Bk:=g20 nR 785 nR 278 5 388
def Bl:=g5 nR 59 dY 642 391
def Bm:=g13 yA 794 gO Dd qw yB tY qv jB jC
def Bn:=g3 ql 60
def Bo:=g4 ql 791 ql 292 1 393 803
def Bp:=g5 ql 60 dY 642 398
def t1:Params->BT:=(f boot_o_0 (f boot_o_1 (f yM (f boot_o_7 (f o11 (f o31 (f o12 (f uC (f o12 z z) (f Bf z z)) (f yQ (f At z z) z)) (f o35 (f uU (f o11 z z) z) (f zi (f AM z z) z))) (f o35 (f o79 (f o11 (f zP z z) (f Bp z z)) (f o12 (f AD z z) z)) (f ur (f vd (f Ak z z) z) (f zu (f o11 z z) z)))) (f o23 (f o12 (f o35 (f uH (f zK z z) (f Bk z z)) (f o11 (f Ay z z) z)) (f uj (f o11 (f Ae z z) z) (f o11 (f AS z z) z))) (f o55 (f o12 (f o12 (f zU z z) z) (f ze (f AH z z) z)) (f ux (f vi (f o11 z z) z) (f zB (f o12 z z) z))))) (f o11 (f o19 (f o35 (f o67 (f o11 (f zI z z) (f Bi z z)) (f o11 (f o12 z z) z)) (f o12 (f uX (f Aa z z) z) (f zm (f AO z z) z))) (f o12 (f o35 (f uN (f zR z z) z) (f o11 (f AF z z) z)) (f o12 (f o12 (f An z z) z) (f o23 (f AY z z) z)))) (f o27 (f o43 (f o12 (f o11 (f zN z z) (f Bm z z)) (f yW (f AA z z) z)) (f o11 (f o11 (f Ai z z) z) (f o11 (f o11 z z) z))) (f o35 (f o91 (f uS (f o11 z z) z) (f zg (f AK z z) z)) (f uz (f yN (f o11 z z) z) (f zD (f Bd z z) z)))))) (f boot_o_5 (f boot_o_9 (f o17 (f o33 (f o65 (f o12 (f o11 z z) (f Bg z z)) (f o12 (f Av z z) z)) (f o97 (f uV (f zZ z z) z) (f zj (f o11 z z) z))) (f o49 (f o81 (f uM (f o11 z z) z) (f za (f o12 z z) z)) (f uu (f vf (f Al z z) z) (f zx (f AX z z) z)))) (f o11 (f o41 (f o73 (f o12 (f zL z z) (f o11 z z)) (f yV (f o11 z z) z)) (f um (f va (f Ag z z) z) (f zq (f o12 z z) z))) (f o57 (f o89 (f o11 (f o12 z z) z) (f o12 (f AI z z) z)) (f o11 (f o11 (f Aq z z) z) (f o11 (f o11 z z) z))))) (f o13 (f o21 (f o37 (f o69 (f uF (f o11 z z) (f o12 z z)) (f yT (f o11 z z) z)) (f ui (f o12 (f Ac z z) z) (f o12 (f AQ z z) z))) (f o53 (f o85 (f uP (f zS z z) z) (f zc (f o11 z z) z)) (f o11 (f o11 (f o12 z z) z) (f o11 (f Ba z z) z)))) (f o11 (f o45 (f o77 (f uK (f o12 z z) (f Bn z z)) (f yY (f AB z z) z)) (f uq (f vc (f o11 z z) z) (f zt (f AV z z) z))) (f o61 (f o93 (f o11 (f zX z z) z) (f o11 (f o12 z z) z)) (f uA (f yO (f As z z) z) (f zF (f o11 z z) z))))))) (f boot_o_2 (f boot_o_4 (f boot_o_8 (f o12 (f o32 (f o64 (f o11 (f zG z z) (f o11 z z)) (f o11 (f Au z z) z)) (f o23 (f o11 (f o12 z z) z) (f o11 (f AN z z) z))) (f o23 (f o80 (f o12 (f zQ z z) z) (f yZ (f o11 z z) z)) (f ut (f ve (f o11 z z) z) (f zw (f o12 z z) z)))) (f o24 (f o40 (f o23 (f o11 (f o11 z z) (f Bl z z)) (f o12 (f Az z z) z)) (f uk (f uZ (f Af z z) z) (f zp (f o11 z z) z))) (f o56 (f o88 (f uQ (f o11 z z) z) (f o11 (f o11 z z) z)) (f uy (f vj (f Ap z z) z) (f zC (f Bb z z) z))))) (f rY (f o20 (f o23 (f o68 (f uE (f zJ z z) (f o11 z z)) (f yS (f Aw z z) z)) (f uh (f o11 (f Ab z z) z) (f o11 (f o11 z z) z))) (f o52 (f o23 (f uO (f o11 z z) z) (f o12 (f AG z z) z)) (f uv (f vg (f o11 z z) z) (f zy (f AZ z z) z)))) (f o28 (f o44 (f o76 (f uJ (f o11 z z) (f o11 z z)) (f yX (f o11 z z) z)) (f o12 (f o12 (f Aj z z) z) (f o12 (f AU z z) z))) (f o23 (f o92 (f uT (f zW z z) z) (f zh (f o11 z z) z)) (f o11 (f o11 (f o12 z z) z) (f zE (f Be z z) z)))))) (f boot_o_6 (f boot_o_10 (f o11 (f o34 (f o11 (f uD (f zH z z) (f Bh z z)) (f yR (f o11 z z) z)) (f o11 (f uW (f o11 z z) z) (f zk (f o12 z z) z))) (f o11 (f o82 (f o11 (f o12 z z) z) (f zb (f AE z z) z)) (f o11 (f o11 (f Am z z) z) (f o11 (f o11 z z) z)))) (f o12 (f o11 (f o11 (f uI (f zM z z) (f o12 z z)) (f o11 (f o12 z z) z)) (f uo (f vb (f Ah z z) z) (f zr (f AT z z) z))) (f o58 (f o11 (f uR (f zV z z) z) (f zf (f AJ z z) z)) (f o12 (f o12 (f Ar z z) z) (f o12 (f Bc z z) z))))) (f o14 (f o22 (f o11 (f o70 (f uG (f o12 z z) (f Bj z z)) (f yU (f Ax z z) z)) (f o11 (f uY (f Ad z z) z) (f zn (f AR z z) z))) (f o11 (f o11 (f o11 (f zT z z) z) (f zd (f o12 z z) z)) (f uw (f vh (f Ao z z) z) (f zA (f o11 z z) z)))) (f o30 (f o46 (f o11 (f uL (f zO z z) (f Bo z z)) (f o11 (f AC z z) z)) (f o11 (f o11 (f o12 z z) z) (f o11 (f AW z z) z))) (f o11 (f o94 (f o12 (f zY z z) z) (f o12 (f AL z z) z)) (f uB (f yP (f o11 z z) z) (f o11 (f o12 z z) z))))))))
abbrev s1 (w:ES) (os:OsState):SharedT:=⟨t1 w.params,400,{ },(Array.mk []),⟨0,0,0,0⟩,806,os⟩
abbrev p1:Pos:=⟨292,0,305,15⟩
abbrev st1:List Stmt:=(pt.main.body.drop 31).take 30
theorem q1 (w:ES):(λ os=>segRunT treeTable pt w m0 an 1 1233 (s0 w os) ⟨(execs st1 en).wrap doneF deadEnd id id,cE,p0,B⟩)=λ os=>some (.next,s1 w os,cE,p1):=by rw [PySem.W.Fast.te10110043849684766642,PySem.W.Fast.te14364793385576792824,PySem.W.Fast.te12563942051412417395]; kernel_rfl
def hF (P:Params):Heap:=⟨⟨[boot_o_0 P,boot_o_1 P,boot_o_2 P,yM P,boot_o_4 P,boot_o_5 P,boot_o_6 P,boot_o_7 P,boot_o_8 P,boot_o_9 P,boot_o_10 P,o11 P,rY P,o13 P,o14 P,o11 P,o12 P,o17 P,o11 P,o19 P,o20 P,o21 P,o22 P,o23 P,o24 P,o11 P,o12 P,o27 P,o28 P,o11 P,o30 P,o31 P,o32 P,o33 P,o34 P,o35 P,o23 P,o37 P,o11 P,o12 P,o40 P,o41 P,o11 P,o43 P,o44 P,o45 P,o46 P,o35 P,o23 P,o49 P,o11 P,o12 P,o52 P,o53 P,o11 P,o55 P,o56 P,o57 P,o58 P,o35 P,o23 P,o61 P,o11 P,o12 P,o64 P,o65 P,o11 P,o67 P,o68 P,o69 P,o70 P,o35 P,o23 P,o73 P,o11 P,o12 P,o76 P,o77 P,o11 P,o79 P,o80 P,o81 P,o82 P,o35 P,o23 P,o85 P,o11 P,o12 P,o88 P,o89 P,o11 P,o91 P,o92 P,o93 P,o94 P,o35 P,o23 P,o97 P,o11 P,o12 P,uh P,ui P,o11 P,uj P,uk P,um P,uo P,o11 P,o12 P,uq P,o11 P,ur P,ut P,uu P,o11 P,o12 P,uv P,o11 P,uw P,ux P,uy P,o11 P,o12 P,uz P,o11 P,uA P,uB P,uC P,o11 P,o12 P,uD P,o11 P,uE P,uF P,uG P,uH P,o11 P,o12 P,uI P,o11 P,uJ P,uK P,uL P,o11 P,o12 P,uM P,o11 P,uN P,uO P,uP P,o11 P,o12 P,uQ P,o11 P,uR P,uS P,uT P,o11 P,o12 P,uU P,o11 P,uV P,uW P,uX P,o11 P,o12 P,uY P,o11 P,uZ P,va P,vb P,o11 P,o12 P,vc P,o11 P,vd P,ve P,vf P,o11 P,o12 P,vg P,o11 P,vh P,vi P,vj P,o11 P,o12 P,yN P,o11 P,yO P,yP P,yQ P,o11 P,o12 P,yR P,o11 P,yS P,yT P,yU P,o11 P,o12 P,yV P,o11 P,yW P,yX P,yY P,o11 P,o12 P,yZ P,za P,zb P,o11 P,o12 P,zc P,zd P,ze P,o11 P,o12 P,zf P,zg P,zh P,o11 P,o12 P,zi P,o11 P,zj P,zk P,zm P,o11 P,o12 P,zn P,o11 P,zp P,zq P,zr P,o11 P,o12 P,zt P,o11 P,zu P,zw P,zx P,o11 P,o23 P,zy P,o11 P,zA P,zB P,zC P,o11 P,o12 P,zD P,zE P,zF P,o11 P,o12 P,zG P,o11 P,zH P,zI P,zJ P,o11 P,o12 P,zK P,o11 P,zL P,zM P,zN P,o11 P,o12 P,zO P,zP P,zQ P,o11 P,o12 P,zR P,o11 P,zS P,zT P,zU P,o11 P,o12 P,zV P,o11 P,zW P,zX P,zY P,o11 P,o12 P,zZ P,o11 P,Aa P,Ab P,Ac P,Ad P,Ae P,Af P,Ag P,Ah P,Ai P,Aj P,o11 P,o12 P,Ak P,o11 P,Al P,Am P,An P,o11 P,o12 P,Ao P,o11 P,Ap P,Aq P,Ar P,o11 P,o12 P,As P,o11 P,At P,Au P,Av P,o11 P,o12 P,Aw P,o11 P,Ax P,Ay P,Az P,o11 P,o12 P,AA P,o11 P,AB P,AC P,AD P,o11 P,o12 P,AE P,AF P,AG P,o11 P,o12 P,AH P,o11 P,AI P,AJ P,AK P,o11 P,o12 P,AL P,AM P,AN P,o11 P,o12 P,AO P,o11 P,AQ P,AR P,AS P,o11 P,o12 P,AT P,o11 P,AU P,AV P,AW P,o11 P,o12 P,AX P,o11 P,AY P,AZ P,Ba P,o11 P,o12 P,Bb P,o11 P,Bc P,Bd P,Be P,o11 P,o12 P,Bf P,o11 P,Bg P,Bh P,Bi P,o11 P,o12 P,Bj P,Bk P,Bl P,o11 P,o12 P,Bm P,o11 P,Bn P,Bo P,Bp P]⟩,{ }⟩
abbrev sF (w:ES) (os:OsState):EO:=⟨hF w.params,(Array.mk []),⟨0,0,0,0⟩,806,os⟩
theorem fin (w:ES):(λ os=>topRun treeTable pt w m0 an 2 (s1 w os).abs ⟨doneF .next,cE,p1,B⟩)=λ os=>some (sF w os):=by rw [PySem.W.Fast.te14082659384304107361,PySem.W.Fast.te14364793385576792824]; kernel_rfl
theorem rM:behindTheImports pt=st0 ++ (st1 ++ ([])):=by kernel_rfl
abbrev MM:Nat:=12 + (1 + (1976 + (1233 + 2)))
theorem vk (w:ES) (os:OsState):topRun treeTable pt w m0 an MM (sZ w os) (topStub pt)=some (sF w os) :=
 go_top (congrFun (pre w) os) (piece_block (congrFun (blk w) os) (rM ▸ (piece_app (l:=st0) (segRun_of (congrFun (q0 w) os)) (piece_app (l:=st1) (segRun_of (congrFun (q1 w) os)) (piece_nil (congrFun (fin w) os))))))
def loose:List Str:=[kG,iR,mY,mZ,ng,nh,ni,nj,kH,kI,kJ,kL,tE,tG,tI,kM,kN,tJ,tK,tL,tM,tN,kO,kP,kQ,kR,kS,nk,nq,nr,nu,nv,nw,nz,yt,yu,nA,nC,jA,nD,nE,nF,nG,nH,nI,nJ,nL,nM,nN,nO,nP,nQ,nR]
abbrev NN:Nat:=6540
abbrev q:EQ:=view pt [60]
abbrev Xt:EO->Bool:=λ s=>xlAt q [] s && recOk [] s
theorem size (w:ES):((boot_heap w.params).isNs mainGlobals && (Array.mk []:Array GenState).size == 0,(boot_heap w.params).objs.size,(boot_heap w.params).nsMap mainGlobals "__annotations__")=(true,m0,an):=by rw [PySem.W.Fast.te8920871248978507458]; kernel_rfl
theorem Bq (w:ES):(λ os=>((staticsOk (importedModules pt.main.body) (boot_heap w.params) (hF w.params) && namesBound pt (hF w.params) && gensDone (sF w os) && laidKept (boot_heap w.params) (hF w.params)),openSeen q loose (importedModules pt.main.body) Xt true (sF w os),HK.obs (sF w os)))=λ _=>(true,openGood q loose,HK.val w):=by rw [PySem.W.Fast.te4187177175401517315,PySem.W.Fast.te5923862056798008813]; kernel_rfl
theorem left:LeftO pt q loose Xt HK.obs HK.val NN true:=LeftO.of_pieces (boot_open (by kernel_rfl) ∅ (λ s=>rfl)) size vk ∅ Bq
end Hd
open PySem PySem.W PyProof.Rows
set_option maxRecDepth 100000 in
set_option maxHeartbeats 0 in
theorem PySem.Challenge.cw_platecuts_k27_whole_deep_trees_holds : PySem.Challenge.rw_platecuts_k27_whole_deep_trees.Holds := by
 w_on; o_law
 refine holds_open (q:=view PySem.Challenge.pw_platecuts_k27_whole_deep_trees [60]) (loose:=Hd.loose) (Xt:=λ s=>xlAt (view PySem.Challenge.pw_platecuts_k27_whole_deep_trees [60]) [] s && recOk [] s) (XP:=XL (view PySem.Challenge.pw_platecuts_k27_whole_deep_trees [60]) []) (Yf:=Hook.obs Hd.HK) (Ya:=Hook.val Hd.HK) (YP:=InK Pc.kK) (N:=Hd.NN) ?hl (Hook.of Hd.HK) (Hook.keeps Hd.HK) (λ s e=>xl_of s (C7.mp e).1) XL.keeps (by rfl) (by rfl) (by rfl) (λ s e=>recFacts_of (C7.mp e).2) (by rfl) (by first | assumption | decide +kernel) (by decide +kernel) ⟨rfl,rfl,rfl,rfl,rfl,by decide +kernel⟩ ?hw ?hc
 case hl=>exact Hd.pt_eq ▸ Hd.left
 case hw=>w_witness2
 k_fill
 refine Pc.walk (l:=PySem.Challenge.rw_platecuts_k27_whole_deep_trees) rfl rfl (λ w h YY0=>YY0) ?F
 case F =>
  intro w mg fa h KX G hmg;refine' Pc.all_mk KX G hmg ?d0 ?d1 ?d2 ?d3 ?d4 ?d5 ?d6 ?d7 ?d8 ?d9 ?d10 ?d11 ?d12 ?d13 ?d14 ?d15 ?d16 ?d17 ?d18 ?d19 ?d20 ?d21 ?d22 ?d23 ?d24 ?d25 ?d26 ?d27 ?d28 ?d29 ?d30 ?d31 ?d32 ?d33 ?d34 ?aC ?dm0 ?dm1 ?dm2 ?dm3 ?dm4 ?pg ?hd ?po ?sa ?mk ?kc ?n0 ?n1 ?eWAYS ?lWAYS ?z0 ?z1 ?z2 ?z3 ?z4 ?z5 ?z6 ?z7 ?z8 ?z9 ?z10 ?z11 ?z12 ?z13 ?z14 ?z15 ?z16 ?z17 ?uc0 ?uc1 ?uc2 ?uc3 ?uc4 ?uc5 ?uc6 ?uc7
  (case d0 | d1 | d2 | d3 | d4 | d5 | d6 | d7 | d8 | d9 | d10 | d11 | d12 | d13 | d14 | d15 | d16 | d17 | d18 | d19 | d20 | d21 | d22 | d23 | d24 | d25 | d26 | d27 | d28 | d29 | d30 | d31 | d32 | d33 | d34=>refine' Pc.diM ?a ?l ?c ?k; (case a=>k_is); (case l=>k_is); (case c=>k_is); (case k=>k_is))
  (case aC=>k_is)
  (case dm0 | dm1 | dm2 | dm3 | dm4=>refine' Pc.miM ?a ?i ?l ?c ?k; (case a=>k_is); (case i=>k_is); (case l=>k_is); (case c=>k_is); (case k=>k_is))
  (case pg | hd | po | sa | mk | kc | n0 | n1 | eWAYS=>k_is)
  (case lWAYS=>exact ⟨_,_,_,Y,Y,Y,by decide,.cons ⟨_,Y⟩ (.cons ⟨_,Y⟩ .nil)⟩)
  (case z0 | z1 | z2 | z3 | z4 | z5 | z6 | z7 | z8 | z9 | z10 | z11 | z12 | z13 | z14 | z15 | z16 | z17 | uc0 | uc1 | uc2 | uc3 | uc4 | uc5 | uc6 | uc7=>k_is)