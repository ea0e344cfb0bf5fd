import PyProof.Rows.All
import Wide.All
import OpenK.AllK
import Wide.FinOn
import Lean
import PyProof.EqAt
import PyProof.EqKinds
import PyProof.TupleCall
import PyProof.Draws
import PyProof.WalksMore
import PyProof.EnumMake
import PyProof.ReprRoads
import PyProof.Rows.SortWalk
import PyProof.Rows.SumAny
import PyProof.FitsBits
import PyProof.FactsAll.dict_1
import PyProof.FactsAll.subtypes_4
import PyProof.FactsAll.subtypes_1
import PyProof.FactsAll.subtypes_2
import PyProof.Rows.TupDisplay
import PyProof.CallFns
import Wide.Seal
import PySem.Challenge.RW_platecuts_k31_layings_judged
set_option maxRecDepth 100000
set_option maxHeartbeats 0
local macro_rules|`(def $i $s:optDeclSig $v:declVal)=>`(noncomputable def $i $s:optDeclSig $v:declVal)
local macro_rules|`(abbrev $i $s:optDeclSig $v:declVal)=>`(noncomputable abbrev $i $s:optDeclSig $v:declVal)
section
open PySem PySem.W PySem.Spec PyProof PyProof.Rows
abbrev Al:=@Shared
abbrev Am:=@Program
abbrev An:=@FuncData
abbrev Ao:=@World
abbrev Ap:=@Value
abbrev AA:=@wpAny_bind
abbrev AB:=@wpAny_pure
abbrev AC:=@List.mem_append_right
abbrev AD:=@List.getElem?_eq_some_iff
abbrev AE:=@Heap.get?_push_of_some
abbrev AF:=@Heap.get?_push_size
abbrev AG:=@Heap.lt_size
abbrev AH:=@decide_eq_false
abbrev AI:=@Bool.false_ne_true
abbrev AJ:=@Nat.le_refl
abbrev AK:=@List.mem_cons_of_mem
abbrev AL:=@List.mem_of_getElem?
abbrev AM:=@List.mem_append_left
abbrev AN:=@List.mem_cons_self
abbrev AO:=@Option.some.inj
abbrev AQ:=@Nat.ne_of_lt
abbrev AR:=@of_decide_eq_true
abbrev AS:=@Nat.lt_of_lt_of_le
abbrev AT:=@List.mem_append
abbrev AU:=@beq_iff_eq
abbrev AV:=@PySem.W.Frag
abbrev AW:=@Nat.le_trans
abbrev AX:=@Bool.and_eq_true_iff
abbrev AY:=@Nat.lt_irrefl
abbrev AZ:=@List.mem_singleton
abbrev Aa:=@Paired.length
abbrev Ab:=@PassesOwn.never
abbrev Ac:=@PySem.W.fnOf
abbrev Ad:=@False.elim
abbrev Ae:=@Nat.zero_le
abbrev Af:=@Nat.lt_succ_self
abbrev Ag:=@List.getElem?_eq_getElem
abbrev Ah:=@wpAny_truthy_bool
abbrev Ai:=@wpAny_call_entry
abbrev Aj:=@wpAny_newObj_type
abbrev Ak:=@PySem.F.plainAttrs_list
end
theorem zS2:2<=PySem.sizeLine:=by decide
theorem zS4:4<=PySem.sizeLine:=by decide
theorem zS3:3<=PySem.sizeLine:=by decide
theorem zS5:5<=PySem.sizeLine:=by decide
theorem zS1:1<=PySem.sizeLine:=by decide
theorem zS13:13<=PySem.sizeLine:=by decide
theorem zS15:15<=PySem.sizeLine:=by decide
theorem Z{α:Sort _}{a:α}:a=a:=rfl
set_option Elab.async false
set_option linter.all false
namespace L2
open PySem PySem.Spec PyProof.Rows
abbrev Key:=Sum Int Str
def ni:Key->Ap->Bool
 | .inl k,v=>Value.isInt k v
 | .inr x,v=>Value.isStrOf x v
def wS (w:Ao):Key->Int
 | .inl k=>hashInt k
 | .inr x=>hashStr w x
theorem aT:∀ {k:Key} {v:Ap},ni k v=true->(∃i t,k=Sum.inl i/\v=Value.int i t)\/(∃x t,k=Sum.inr x/\v=Value.str x t)
 | .inl i,v,h=>by obtain ⟨t,e⟩:=Value.isInt_shape (k:=i) (v:=v) h;exact .inl ⟨i,t,Z,e⟩
 | .inr x,v,h=>by obtain ⟨t,e⟩:=Value.isStrOf_shape (x:=x) (v:=v) h;exact .inr ⟨x,t,Z,e⟩
theorem nG (a b:Int):decide ((Sum.inl a:Key)=Sum.inl b)=(a == b):=by
 by_cases e:a=b
 ·subst e; simp
 ·have h:¬ (Sum.inl a:Key)=Sum.inl b:=λ q=>e (Sum.inl.inj q);rw [decide_eq_false h];exact (beq_eq_false_iff_ne.mpr e).symm
theorem nH (a b:Str):decide ((Sum.inr a:Key)=Sum.inr b)=decide (a=b):=by
 by_cases e:a=b
 ·subst e; simp
 ·have h:¬ (Sum.inr a:Key)=Sum.inr b:=λ q=>e (Sum.inr.inj q);rw [decide_eq_false h,decide_eq_false e]
theorem nI (a:Int) (b:Str):decide ((Sum.inl a:Key)=Sum.inr b)=false:=AH (λ q=>nomatch q)
theorem nJ (a:Str) (b:Int):decide ((Sum.inr a:Key)=Sum.inl b)=false:=AH (λ q=>nomatch q)
def fg (prog:Am) (w:Ao):PySem.KeyKind prog w Key where
 is:=ni
 hash:=wS w
 inj:=λ v a b ha hb=>by
  rcases aT ha with ⟨i,t,rfl,rfl⟩ | ⟨x,t,rfl,rfl⟩
  ·rcases aT hb with ⟨j,u,rfl,e⟩ | ⟨y,u,rfl,e⟩
   ·injection e with e1 _; rw [e1]
   ·exact nomatch e
  ·rcases aT hb with ⟨j,u,rfl,e⟩ | ⟨y,u,rfl,e⟩
   ·exact nomatch e
   ·injection e with e1 _; rw [e1]
 byValue:=λ k v h=>by rcases aT h with ⟨i,t,rfl,rfl⟩ | ⟨x,t,rfl,rfl⟩ <;> rfl
 pyHash:=λ hv h=>by
  rcases aT hv with ⟨i,t,rfl,rfl⟩ | ⟨x,t,rfl,rfl⟩
  ·exact wpAny_pyHash_int h
  ·exact wpAny_pyHash_str h
 eqBool:=λ hu hv h=>by
  rcases aT hu with ⟨i,t,rfl,rfl⟩ | ⟨x,t,rfl,rfl⟩
  ·rcases aT hv with ⟨j,u,rfl,rfl⟩ | ⟨y,u,rfl,rfl⟩
   ·rw [nG] at h; exact wpAny_eqBool_int h
   ·rw [nI] at h; exact SeqAt.EqAt.int_str i t y u _ _ _ _ h
  ·rcases aT hv with ⟨j,u,rfl,rfl⟩ | ⟨y,u,rfl,rfl⟩
   ·rw [nJ] at h; exact SeqAt.EqAt.str_int x t j u _ _ _ _ h
   ·rw [nH] at h; exact wpAny_eqBool_str h
 «strs» := λ k x t v h=>by
  rcases aT h with ⟨i,u,rfl,e⟩ | ⟨y,u,rfl,e⟩
  ·exact nomatch e
  ·injection e with e1 _
   subst e1;cases v <;> rfl
inductive V where
 | non | bl (b:Bool) | int (i:Int) | str (x:Str) | byt (b:Array UInt8) | flt (b:UInt64) | ref (a:Addr) | ty (n:String)
 deriving DecidableEq
def RelV:V->Ap->Prop
 | .non,u=>u=Value.none
 | .bl b,u=>u=Value.bool b
 | .int i,u=>∃t,u=Value.int i t
 | .str x,u=>∃t,u=Value.str x t
 | .byt b,u=>∃t,u=Value.bytes b t
 | .flt b,u=>∃t,u=Value.float b t
 | .ref a,u=>u=Value.ref a
 | .ty n,u=>u=Value.type n
abbrev Vals:List V->List Ap->Prop:=Paired RelV
theorem Vals.length {xs:List V} {us:List Ap} (r:Vals xs us):xs.length=us.length:=Aa r
theorem Vals.get:∀ {xs:List V} {us:List Ap} {i:Nat} {x:V},Vals xs us->xs[i]? = some x->∃u,us[i]? = some u/\RelV x u
 | _,_,_,_,.nil,e=>by simp at e
 | _,_,0,_,.cons r _,e=>by simp at e; subst e; exact ⟨_,Z,r⟩
 | _,_,i + 1,x,.cons _ t,e=>by obtain ⟨u,h1,h2⟩:=Vals.get (i:=i) (x:=x) t (by simpa using e);exact ⟨u,by simpa using h1,h2⟩
theorem Vals.set {x:V} {u:Ap} (r:RelV x u):∀ {xs:List V} {us:List Ap} (i:Nat),Vals xs us->Vals (xs.set i x) (us.set i u)
 | _,_,_,.nil=>.nil
 | _,_,0,.cons _ t=>.cons r t
 | _,_,i + 1,.cons q t=>.cons q (Vals.set r i t)
theorem Vals.append:∀ {xs ys:List V} {us ws:List Ap},Vals xs us->Vals ys ws->Vals (xs ++ ys) (us ++ ws)
 | _,_,_,_,.nil,s=>s
 | _,_,_,_,.cons r t,s=>.cons r (Vals.append t s)
theorem Vals.take:∀ {xs:List V} {us:List Ap} (n:Nat),Vals xs us->Vals (xs.take n) (us.take n)
 | _,_,0,_=>.nil
 | _,_,_ + 1,.nil=>.nil
 | _,_,n + 1,.cons r t=>.cons r (Vals.take n t)
theorem Vals.drop:∀ {xs:List V} {us:List Ap} (n:Nat),Vals xs us->Vals (xs.drop n) (us.drop n)
 | _,_,0,r=>r
 | _,_,_ + 1,.nil=>.nil
 | _,_,n + 1,.cons _ t=>Vals.drop n t
def RelO:Option V->Option Ap->Prop
 | some v,some u=>RelV v u
 | none,none=>True
 | _,_=>False
def KV {κ:Type}:List (κ×V)->List (κ×Ap)->Prop:=Paired λ (p:κ×V) (q:κ×Ap)=>p.1=q.1/\RelV p.2 q.2
def kV:Key->V
 | .inl i=>.int i
 | .inr x=>.str x
inductive HO where
 | lst (xs:List V)
 | tup (xs:List V)
 | dK (kvs:List (Key×V)) | dT (kvs:List (List Key×V))
 | set (S:Int->Bool) (n:Nat)
 | ins (C dx:Addr) (fs:List (Str×V))
 | own (x:Addr)
 | xd (fs:List (Str×V))
 | met (f x:Addr)
 | rng (lo hi:Int)
 | frz (o:Obj) (u:HO)
 | tbl (ps:Array Ap)
 | ext (φ:Heap->Prop)
abbrev Hp:=Addr->Option HO
def upd (H:Hp) (a:Addr) (o:HO):Hp:=λ b=>if b=a then some o else H b
theorem ag {H:Hp} {a:Addr} {o:HO}:upd H a o a=some o:=by unfold upd; rw [if_pos rfl]
theorem ar {H:Hp} {a b:Addr} {o:HO} (h:b≠a):upd H a o b=H b:=by unfold upd; rw [if_neg h]
theorem ah {H:Hp} {a b:Addr} {o:HO} (h:H a=some o) (h':H b=none):a≠b:=by intro e; subst e; rw [h] at h'; cases h'
section
variable (P:Am) (w:Ao)
def ObjOk (H:Hp) (h:Heap) (a:Addr):HO->Prop
 | .lst xs=>xs.length<=sizeLine/\∃ (its:List Ap) (n:Nat),Vals xs its/\h.get? a=some { cls:=.type "list",data:=.seq its.toArray n }
 | .tup xs=>xs.length<=sizeLine/\∃its:List Ap,Vals xs its/\IsTup h a its.toArray
 | .dK kvs=>kvs.length<=sizeLine/\(a == sysModules)=false/\∃vs,KV kvs vs/\h.DictOf (fg P w) a vs
 | .dT kvs=>kvs.length<=sizeLine/\(a == sysModules)=false/\∃xs:List (List Key×Addr×Ap),
   Paired (λ (p:List Key×V) (q:List Key×Addr×Ap)=>p.1=q.1/\H q.2.1=some (.tup (p.1.map kV))/\RelV p.2 q.2.2) kvs xs /\
   ∃o es ep,h.get? a=some o/\o.ExactDict/\o.data=.dict es ep/\es.toList=xs.map (entryOfKey (tupleKind (fg P w)))/\(xs.map (·.1)).Nodup
 | .set S n=>h.SetOf (intKind P w) a S n
 | .ins C dx fs=>H dx=some (.own a)/\fs.length<=1000/\dx≠a/\h.get? a=some (PySem.W.instObj C dx) /\
   ∃mA,h.Ns1 dx mA/\(∀f,RelO (fs.lookup f) (mA f))/\PySem.Within mA (fs.map (·.1))
 | .own _=>∃o,h.get? a=some o
 | .xd fs=>∃mA,h.Ns1 a mA/\∀f,RelO (fs.lookup f) (mA f)
 | .rng lo hi=>∃t u v,h.get? a=some { cls:=.type "range",data:=.fields #[.int lo t,.int hi u,.int 1 v] }
 | .frz o u=>h.get? a=some o/\ObjOk H h a u
 | .tbl ps=>h.get? a=some { cls:=.none,data:=.fields ps }
 | .met f x=>h.get? a=some (PySem.W.methodObj (.ref f) (.ref x))
 | .ext φ=>φ h/\(∃o,h.get? a=some o)/\∀h1 h2:Heap,φ h1->(∀o,h1.get? a=some o->h2.get? a=some o)->φ h2
def HOk (H:Hp) (h:Heap):Prop:=∀a o,H a=some o->ObjOk P w H h a o
end
section
variable {P:Am} {w:Ao} {H H':Hp} {h h':Heap} {a:Addr} {o:HO}
theorem ObjOk.lt (x:ObjOk P w H h a o):a < h.objs.size:=by
 cases o with
 | lst xs=>obtain ⟨_,_,_,_,e⟩:=x; exact AG e
 | tup xs=>obtain ⟨_,_,_,p⟩:=x; exact p.lt
 | dK kvs=>obtain ⟨_,_,_,_,o,_,_,e,_⟩:=x; exact AG e
 | dT kvs=>obtain ⟨_,_,_,_,o,_,_,e,_⟩:=x; exact AG e
 | set S n=>obtain ⟨o,_,_,_,e,_⟩:=x; exact AG e
 | ins C dx fs=>obtain ⟨_,_,_,e,_⟩:=x; exact AG e
 | own y=>obtain ⟨_,e⟩:=x; exact AG e
 | xd fs=>obtain ⟨_,⟨_,_,_,e,_⟩,_⟩:=x; exact AG e
 | rng lo hi=>obtain ⟨_,_,_,e⟩:=x; exact AG e
 | frz ob u=>obtain ⟨e,_⟩:=x; exact AG e
 | tbl ps=>exact AG (show h.get? a=some _ from x)
 | met f y=>exact AG (show h.get? a=some _ from x)
 | ext φ=>obtain ⟨_,⟨_,e⟩,_⟩:=x; exact AG e
theorem Paired.mapP {α β:Type} {F G:α->β->Prop}:∀ {l₁:List α} {l₂:List β},Paired F l₁ l₂->(∀a b,F a b->G a b)->Paired G l₁ l₂
 | _,_,.nil,_=>.nil
 | _,_,.cons r t,f=>.cons (f _ _ r) (Paired.mapP t f)
abbrev At:=@Paired.mapP
theorem ObjOk.stay (x:ObjOk P w H h a o) (k:∀b u,(b=a\/H b=some (.own a))->h.get? b=some u->h'.get? b=some u)
  (ho:∀b,H b=some (.own a)->H' b=some (.own a)) (ht:∀b xs,H b=some (.tup xs)->H' b=some (.tup xs)):ObjOk P w H' h' a o:=by
 induction o with
 | lst xs=>obtain ⟨z,its,n,r,e⟩:=x; exact ⟨z,its,n,r,k _ _ (.inl rfl) e⟩
 | tup xs=>obtain ⟨z,its,r,ob,e,c⟩:=x; exact ⟨z,its,r,ob,k _ _ (.inl rfl) e,c⟩
 | dK kvs=>obtain ⟨z,y,vs,r,ob,es,ep,e,c⟩:=x; exact ⟨z,y,vs,r,ob,es,ep,k _ _ (.inl rfl) e,c⟩
 | dT kvs =>
  obtain ⟨z,y,xs,r,ob,es,ep,e,c⟩:=x;exact ⟨z,y,xs,At r λ p q z=>⟨z.1,ht _ _ z.2.1,z.2.2⟩,ob,es,ep,k _ _ (.inl rfl) e,c⟩
 | set S n=>obtain ⟨ob,es,ep,t,e,c⟩:=x; exact ⟨ob,es,ep,t,k _ _ (.inl rfl) e,c⟩
 | ins C dx fs =>
  obtain ⟨d,z,ne,e,mA,⟨od,es,ep,e2,c⟩,r⟩:=x;exact ⟨ho _ d,z,ne,k _ _ (.inl rfl) e,mA,⟨od,es,ep,k _ _ (.inr d) e2,c⟩,r⟩
 | own y=>obtain ⟨ob,e⟩:=x; exact ⟨ob,k _ _ (.inl rfl) e⟩
 | xd fs=>obtain ⟨mA,⟨od,es,ep,e,c⟩,r⟩:=x; exact ⟨mA,⟨od,es,ep,k _ _ (.inl rfl) e,c⟩,r⟩
 | rng lo hi=>obtain ⟨t,u,v,e⟩:=x; exact ⟨t,u,v,k _ _ (.inl rfl) e⟩
 | frz ob u ih=>obtain ⟨e,q⟩:=x; exact ⟨k _ _ (.inl rfl) e,ih q⟩
 | tbl ps =>
  have e:h.get? a=some { cls:=.none,data:=.fields ps }:=x;show h'.get? a=some { cls:=.none,data:=.fields ps };exact k a _ (.inl rfl) e
 | met f y =>
  have e:h.get? a=some (PySem.W.methodObj (.ref f) (.ref y)):=x;show h'.get? a=some (PySem.W.methodObj (.ref f) (.ref y));exact k a _ (.inl rfl) e
 | ext φ=>obtain ⟨p,⟨o,e⟩,st⟩:=x; exact ⟨st _ _ p λ o q=>k _ _ (.inl rfl) q,⟨o,k _ _ (.inl rfl) e⟩,st⟩
theorem HOk.lt (x:HOk P w H h) (e:H a=some o):a < h.objs.size:=(x a o e).lt
theorem HOk.fresh (x:HOk P w H h) (e:h.objs.size<=a):H a=none:=by
 cases q:H a with
 | none=>rfl
 | some u=>exact absurd (AS (x.lt q) e) (AY _)
theorem HOk.kept (x:HOk P w H h) (k:∀b u,h.get? b=some u->h'.get? b=some u):HOk P w H h':=λ a o e =>
 (x a o e).stay (λ b u _ q=>k b u q) (λ _ q=>q) λ _ _ q=>q
theorem HOk.laid (x:HOk P w H h) (k:∀b u,h.get? b=some u->h'.get? b=some u) (hp:h.objs.size<=a) (new:ObjOk P w (upd H a o) h' a o):HOk P w (upd H a o) h':=λ b u e=>by
 have hn:=x.fresh hp
 by_cases hb:b=a
 ·subst hb; rw [ag] at e; cases e; exact new
 ·rw [ar hb] at e;exact (x b u e).stay (λ c v _ q=>k c v q) (λ c q=>by rw [ar (ah q hn)]; exact q) λ c xs q=>by rw [ar (ah q hn)]; exact q
end
def Rd (H:Hp) (a:Addr) (u:HO):Prop:=H a=some u\/∃o,H a=some (.frz o u)
theorem Rd.ok {P:Am} {w:Ao} {H:Hp} {h:Heap} {a:Addr} {u:HO} (r:Rd H a u) (x:HOk P w H h):ObjOk P w H h a u:=by
 rcases r with r | ⟨o,r⟩
 ·exact x a u r
 ·obtain ⟨_,q⟩:=x a _ r;exact q
def Mut:Option HO->Prop
 | some (.lst _)=>True
 | some (.dK _)=>True
 | some (.dT _)=>True
 | some (.set _ _)=>True
 | some (.ins _ _ _)=>True
 | some (.ext _)=>True
 | _=>False
section
variable {P:Am} {w:Ao} {H:Hp} {h h':Heap} {x e:Addr} {o':HO}
theorem HOk.write (ok:HOk P w H h) (mu:Mut (H x)) (he:e=x\/H e=some (.own x)) (k:∀b u,b≠e->h.get? b=some u->h'.get? b=some u) (heo:∃u,h'.get? e=some u)
  (new:ObjOk P w (upd H x o') h' x o'):HOk P w (upd H x o') h':=λ b u q=>by
 have nown:∀c y,H c=some (.own y)->c≠x:=λ c y r z=>by subst z; rw [r] at mu; exact mu
 have ntup:∀c xs,H c=some (.tup xs)->c≠x:=λ c xs r z=>by subst z; rw [r] at mu; exact mu
 by_cases hb:b=x
 ·subst hb; rw [ag] at q; cases q; exact new
 ·rw [ar hb] at q
  by_cases hbe:b=e
  ·have q':H b=some (.own x):=by
    rcases he with z | z
    ·exact absurd (hbe.trans z) hb
    ·rw [hbe]; exact z
   rw [q] at q'; cases q';obtain ⟨v,hv⟩:=heo;exact ⟨v,by rw [hbe]; exact hv⟩
  ·refine (ok b u q).stay (λ c v hc r=>k c v ?_ r) (λ c r=>by rw [ar (nown c b r)]; exact r) λ c xs r=>by rw [ar (ntup c xs r)]; exact r
   rcases hc with rfl | hc
   ·exact hbe
   ·rintro rfl;rcases he with z | z
    ·exact nown c b hc z
    ·rw [hc] at z; cases z; exact hb rfl
end
structure Un (fs ex:List Addr) (H H':Hp) (h h':Heap):Prop where
 keep:∀b o,h.get? b=some o->H b=none->b∉fs->b∉ex->h'.get? b=some o
 slot:∀b o,h.get? b=some o->H b=none->b∈fs->b∉ex->∃sl,h'.get? b=some { o with slots:=sl }
 free:∀b o,h.get? b=some o->H b=none->b∉ex->H' b=none
 there:∀b o,h.get? b=some o->b∉ex->∃o',h'.get? b=some o'
 tups:∀b xs,H b=some (.tup xs)->H' b=some (.tup xs)
 frzs:∀b o u,H b=some (.frz o u)->H' b=some (.frz o u)
 tbls:∀b ps,H b=some (.tbl ps)->∃more,H' b=some (.tbl (ps ++ more))
section
variable {fs fs' ex ex':List Addr} {H H1 H2:Hp} {h h1 h2 h':Heap} {a x e:Addr} {o:HO}
theorem Un.any (u:Un fs ex H H1 h h1) {b:Addr} {ob:Obj} (q:h.get? b=some ob) (n:H b=none) (hx:b∉ex):∃sl,h1.get? b=some { ob with slots:=sl }:=by
 by_cases hb:b∈fs
 ·exact u.slot b ob q n hb hx
 ·exact ⟨ob.slots,u.keep b ob q n hb hx⟩
theorem Un.kept (k:∀b u,h.get? b=some u->h'.get? b=some u):Un fs ex H H h h' :=
 ⟨λ b ob q _ _ _=>k b ob q,λ b ob q _ _ _=>⟨ob.slots,k b ob q⟩,λ _ _ _ n _=>n,λ b ob q _=>⟨ob,k b ob q⟩,λ _ _ q=>q,λ _ _ _ q=>q,λ _ ps q=>⟨#[],by rw [q]; simp⟩⟩
theorem Un.refl:Un fs ex H H h h:=Un.kept λ _ _ q=>q
theorem Un.laid (k:∀b u,h.get? b=some u->h'.get? b=some u) (hp:h.objs.size<=a) (hn:H a=none):Un fs ex H (upd H a o) h h' where
 keep:=λ b u q _ _ _=>k b u q
 slot:=λ b u q _ _ _=>⟨u.slots,k b u q⟩
 free:=λ b u q n _=>by rw [ar (Nat.ne_of_lt (Nat.lt_of_lt_of_le (Heap.lt_size q) hp))]; exact n
 there:=λ b u q _=>⟨u,k b u q⟩
 tups:=λ b xs q=>by rw [ar (ah q hn)]; exact q
 frzs:=λ b u xs q=>by rw [ar (ah q hn)]; exact q
 tbls:=λ b ps q=>⟨#[],by rw [ar (ah q hn),q]; simp⟩
theorem Un.write (mu:Mut (H x)) (he:e=x\/H e=some (.own x)) (k:∀b u,b≠e->h.get? b=some u->h'.get? b=some u) (heo:∃u,h'.get? e=some u):Un fs ex H (upd H x o) h h':=by
 have hx:∀b,H b=none->b≠x:=λ b n z=>by subst z; rw [n] at mu; exact mu
 have hb:∀b,H b=none->b≠e:=λ b n z=>by
  subst z;rcases he with r | r
  ·exact hx b n r
  ·rw [n] at r; cases r
 have hm:∀b u,H b=some u->¬ Mut (some u)->b≠x:=λ b u q nm z=>by subst z; rw [q] at mu; exact nm mu
 refine ⟨λ b u q n _ _=>k b u (hb b n) q,λ b u q n _ _=>⟨u.slots,k b u (hb b n) q⟩,λ b u q n _=>by rw [ar (hx b n)]; exact n,λ b u q _=>?_,
  λ b xs q=>by rw [ar (hm b _ q λ z=>z)]; exact q,λ b u xs q=>by rw [ar (hm b _ q λ z=>z)]; exact q,λ b ps q=>⟨#[],by rw [ar (hm b _ q λ z=>z),q]; simp⟩⟩
 by_cases hbe:b=e
 ·subst hbe; exact heo
 ·exact ⟨u,k b u hbe q⟩
end
def trk (h:Heap) (H:Hp):List Addr:=(List.range h.objs.size).filter λ a=>(H a).isSome
def fh (h:Heap) (H:Hp):Heap:=PySem.W.hideAll h (trk h H)
theorem iV (h:Heap) (H:Hp):(fh h H).objs.size=h.objs.size:=PySem.W.hideAll_size _ _
theorem kf {h:Heap} {H:Hp} {b:Addr} {o:Obj} (e:h.get? b=some o) (n:H b=none):(fh h H).get? b=some o :=
 PySem.W.hideAll_get _ e λ hm=>by have q:(H b).isSome=true:=(List.mem_filter.mp hm).2;rw [n] at q; simp at q
theorem lW {h:Heap} {H:Hp} {b:Addr} {o:Obj} (e:(fh h H).get? b=some o):h.get? b=some o/\H b=none:=by
 have e':h.get? b=some o:=PySem.W.of_hideAll (trk h H) e;refine ⟨e',?_⟩;cases q:H b with
 | none=>rfl
 | some x =>
  have hm:b∈trk h H:=List.mem_filter.mpr ⟨List.mem_range.mpr (AG e'),by simp [q]⟩;have z:(fh h H).get? b=none:=PySem.W.hideAll_none (trk h H) hm;rw [z] at e; cases e
def lX (g h:Heap) (L:Addr):List (Addr×Obj):=(List.range h.objs.size).filterMap λ a=>if a=L\/(g.get? a).isSome=true then none else (h.get? a).map λ o=>(a,o)
def cF (g h:Heap) (L d:Addr):List (Addr×Obj):=(lX g h L).filter λ p=>decide (p.1≠d)
structure Mod (K:AV) (mg:Str->Option Value) (base:Heap):Prop where
 kin:K.In base
 glob:base.Ns mainGlobals mg
 blt:∃mb,base.Ns builtinsNs mb/\∀x:Str,x ≠ "__name__" -> mb x=bootBuiltins x
 nolimit:base.NoLimit
/-- the context: a def's body (or a comprehension's block) running. base: fixed through the aE law; s₀,H₀: the entry; outer: the frames whose slots others may change (a def's callers); stack: all frames that run;
   ex: iterators that were made ahead of the entry and are walked here (a comprehension's); fn: the names whose cells were made at the entry (a def: all; a comprehension's block: its own); calm: not within an except suite; pn: pins that every state bears; xe: what is wanted of an exception that leaves the code -/
structure Cx where
 prog:Program
 w:World
 K:AV
 mg:Str->Option Value
 base:Heap
 A:Around
 N:List Str
 s₀:Shared
 H₀:Hp
 env:Env
 outer:List Env
 stack:List Env
 ex:List Addr
 fn:Str->Bool
 calm:Bool
 pn:List (Addr×Obj)
 xe:Ap->Al->Prop
def frs (l:List Env):List Addr:=l.filterMap (·.frame)
abbrev Cx.fs (X:Cx):List Addr:=frs X.outer
def Vis (sc:Scope) (x:Str):Prop:=sc.names.lookup x=some .local\/sc.names.lookup x=some .cell\/sc.names.lookup x=some .free
def Loc (sc:Scope) (x:Str):Prop:=sc.names.lookup x=some .local\/sc.names.lookup x=some .cell
def wT (env:Env) (h:Heap) (m:Str->Option Ap) (x:Str) (u:Ap):Prop :=
 (env.kindOf x=some .local/\m x=some u)\/((env.kindOf x=some .cell\/env.kindOf x=some .free)/\∃c,env.cells.lookup x=some c/\h.IsCell c (some u))
structure Cx.Ok (X:Cx):Prop where
 mod:Mod X.K X.mg X.base
 kind:X.env.scope.kind=.function
 glob:X.env.globals=mainGlobals
 blt:X.env.builtins=builtinsNs
 above:X.s₀.heap.objs.size<=X.env.locals
 inj:∀x y c,X.env.cells.lookup x=some c->X.env.cells.lookup y=some c->x=y
 has:∀x,(X.env.kindOf x=some .cell\/X.env.kindOf x=some .free)->∃c,X.env.cells.lookup x=some c
 cab:∀x c,X.fn x=true->X.env.cells.lookup x=some c->X.s₀.heap.objs.size<=c
 hd:X.calm=true->X.A.handled=none
 frames:X.A.frames=some X.stack
 stk:X.stack=X.outer\/(X.stack=X.env :: X.outer/\X.env.frame=some X.env.locals)
 exf:∀b∈X.ex,b≠X.env.locals/\∀x c,X.env.cells.lookup x=some c->c≠b
 bs:∀b o,X.base.get? b=some o->X.s₀.heap.get? b=some o/\X.H₀ b=none
 bsz:X.base.objs.size<=X.s₀.heap.objs.size
 noex:∀b o,X.base.get? b=some o->b∉X.ex
 exfs:∀b∈X.ex,b∉X.fs
 funs:X.s₀.heap.FunFrames X.base X.outer
 frf:∀b∈X.fs,X.H₀ b=none
structure Inv (X:Cx) (pins:List (Addr×Obj)) (σ:List (Option V)) (H:Hp) (s:Shared):Prop where
 ok:X.Ok
 os:s.os=X.s₀.os
 bare:AllBare s.gens
 base:Un X.fs X.ex X.H₀ H X.s₀.heap s.heap
 loc:∃m,s.heap.Ns X.env.locals m/\∀ (i:Nat) (x:Str) (v:V),X.N[i]? = some x->σ[i]? = some (some v)->Vis X.env.scope x->∃u,RelV v u/\wT X.env s.heap m x u
 cell:∀x c,X.env.cells.lookup x=some c->∃v,s.heap.IsCell c v
 free:H X.env.locals=none
 freeC:∀x c,X.env.cells.lookup x=some c->H c=none
 pin:∀p∈X.pn ++ pins,s.heap.get? p.1=some p.2/\H p.1=none/\p.1≠X.env.locals/\p.1∉X.fs/\∀v,p.2.data≠.cell v
 hok:HOk X.prog X.w H s.heap
 len:σ.length=X.N.length
section
variable {X:Cx} {pins:List (Addr×Obj)} {σ:List (Option V)} {H H':Hp} {s:Al} {h':Heap}
theorem Cx.Ok.nofr (ok:X.Ok) {b:Addr} {o:Obj} (e:X.base.get? b=some o):b∉X.fs:=λ hb=>by have:=(ok.funs.mem hb).1;rw [e] at this; cases this
theorem Inv.bs (I:Inv X pins σ H s):∀b o,X.base.get? b=some o->s.heap.get? b=some o/\H b=none:=λ b o e =>
 ⟨I.base.keep b o (I.ok.bs b o e).1 (I.ok.bs b o e).2 (I.ok.nofr e) (I.ok.noex b o e),I.base.free b o (I.ok.bs b o e).1 (I.ok.bs b o e).2 (I.ok.noex b o e)⟩
theorem Inv.bk (I:Inv X pins σ H s):∀b o,X.base.get? b=some o->s.heap.get? b=some o:=λ b o e=>(I.bs b o e).1
theorem Inv.mod (I:Inv X pins σ H s):Mod X.K X.mg X.base:=I.ok.mod
theorem Inv.kIn (I:Inv X pins σ H s):X.K.In s.heap:=I.ok.mod.kin.keeps I.bk
theorem Inv.fr (I:Inv X pins σ H s):∃m,Fr X.base X.env.locals s.heap m :=
 let ⟨m,hn,_⟩:=I.loc
 ⟨m,hn,I.bk,AW I.ok.bsz I.ok.above⟩
theorem Inv.lt (I:Inv X pins σ H s):X.env.locals < s.heap.objs.size:=let ⟨_,hn,_⟩:=I.loc; hn.lt
theorem Inv.sz (I:Inv X pins σ H s):X.s₀.heap.objs.size<=s.heap.objs.size:=AW I.ok.above (Nat.le_of_lt I.lt)
theorem Inv.nofs (I:Inv X pins σ H s) {a:Addr} (h:s.heap.objs.size<=a):a∉X.fs:=λ hb=>by obtain ⟨_,o,ho,_⟩:=I.ok.funs.mem hb;exact absurd (AS (AG ho) (AW I.sz h)) (AY _)
theorem Inv.cne (I:Inv X pins σ H s):∀x c,X.env.cells.lookup x=some c->c≠X.env.locals:=λ x c e z=>by obtain ⟨v,o,ho,hd⟩:=I.cell x c e;obtain ⟨m,⟨o',es,ep,ho',hd',_⟩,_⟩:=I.loc;rw [z,ho'] at ho; cases ho; rw [hd'] at hd; cases hd
theorem Inv.funs (I:Inv X pins σ H s):s.heap.FunFrames X.base X.outer:=by
 have all:∀ (l:List Env),(∀b∈frs l,b∈X.fs)->X.s₀.heap.FunFrames X.base l->s.heap.FunFrames X.base l:=by
  intro l
  induction l with
  | nil=>intro _ _; trivial
  | cons env r ih =>
   intro hs hl;obtain ⟨hk,⟨L,o,hf,hn,ho,hd⟩,hr⟩:=hl;have hL:L∈X.fs:=hs L (by unfold frs; rw [List.filterMap_cons,hf]; exact List.mem_cons_self);obtain ⟨sl,e⟩:=I.base.slot L o ho (I.ok.frf L hL) hL λ z=>I.ok.exfs L z hL;exact ⟨hk,⟨L,_,hf,hn,e,hd⟩,ih (λ b hb=>hs b (by unfold frs; rw [List.filterMap_cons,hf]; exact List.mem_cons_of_mem _ hb)) hr⟩
 exact all X.outer (λ _ hb=>hb) I.ok.funs
theorem Inv.stack (I:Inv X pins σ H s):s.heap.FunFrames X.base X.stack:=by
 rcases I.ok.stk with e | ⟨e,hf⟩
 ·rw [e]; exact I.funs
 ·rw [e];obtain ⟨m,hn,_⟩:=I.loc;refine .cons (by rw [I.ok.kind]; decide) hf hn ?_ I.funs;exact Heap.get?_none_of_le (AW I.ok.bsz I.ok.above)
theorem Inv.stkSub (I:Inv X pins σ H s):∀b∈frs X.stack,b∈X.env.locals :: X.fs:=λ b hb=>by
 rcases I.ok.stk with e | ⟨e,hf⟩
 ·rw [e] at hb; exact AK _ hb
 ·rw [e] at hb;unfold frs at hb;rw [List.filterMap_cons,hf] at hb;exact hb
theorem Inv.stkFree (I:Inv X pins σ H s):∀b∈frs X.stack,H b=none:=λ b hb=>by
 rcases List.mem_cons.mp (I.stkSub b hb) with e | hb
 ·rw [e]; exact I.free
 ·obtain ⟨_,o,ho,_⟩:=I.ok.funs.mem hb;exact I.base.free b o ho (I.ok.frf b hb) λ z=>I.ok.exfs b z hb
theorem Inv.step {g':Array GenState} {t':Nat} {d':Drawn} {ch:List Addr} (I:Inv X pins σ H s)
  (hch:∀b∈ch,(b∈X.ex\/X.s₀.heap.objs.size<=b)/\b≠X.env.locals/\(∀x c,X.env.cells.lookup x=some c->c≠b)/\∀p∈X.pn ++ pins,p.1≠b)
  (keep:∀b o,b≠X.env.locals->b∉X.fs->b∉ch->s.heap.get? b=some o->H b=none->h'.get? b=some o)
  (slot:∀b o,b≠X.env.locals->b∈X.fs->b∉ch->s.heap.get? b=some o->H b=none->∃sl,h'.get? b=some { o with slots:=sl }) (free:∀b o,b∉ch->s.heap.get? b=some o->H b=none->H' b=none)
  (there:∀b o,b∉ch->s.heap.get? b=some o->∃o',h'.get? b=some o')
  (tups:∀b xs,H b=some (.tup xs)->H' b=some (.tup xs)) (frzs:∀b o u,H b=some (.frz o u)->H' b=some (.frz o u)) (tbls:∀b ps,H b=some (.tbl ps)->∃more,H' b=some (.tbl (ps ++ more)))
  (ns:∀m,s.heap.Ns X.env.locals m->h'.Ns X.env.locals m) (hok:HOk X.prog X.w H' h') (hg:AllBare g') :
  Inv X pins σ H' { s with heap:=h',gens:=g',drawn:=d',toks:=t' }:=by
 have neL:∀b o,X.s₀.heap.get? b=some o->b≠X.env.locals:=λ b o e=>AQ (AS (AG e) I.ok.above);have neC:∀b o,X.s₀.heap.get? b=some o->b∉X.ex->b∉ch:=λ b o e hx hb=>by
  rcases (hch b hb).1 with z | z
  ·exact hx z
  ·exact absurd (AS (AG e) z) (AY _)
 have cellK:∀x c,X.env.cells.lookup x=some c->∀v,s.heap.IsCell c v->h'.IsCell c v:=λ x c e v ⟨o,ho,hd⟩=>by
  have nch:c∉ch:=λ z=>(hch c z).2.2.1 x c e rfl
  by_cases hc:c∈X.fs
  ·obtain ⟨sl,q⟩:=slot c o (I.cne x c e) hc nch ho (I.freeC x c e);exact ⟨_,q,hd⟩
  ·exact ⟨o,keep c o (I.cne x c e) hc nch ho (I.freeC x c e),hd⟩
 refine ⟨I.ok,I.os,hg,⟨λ b o e n hb hx=>?_,λ b o e n hb hx=>?_,λ b o e n hx=>?_,λ b o e hx=>?_,λ b xs e=>tups b xs (I.base.tups b xs e),λ b o xs e=>frzs b o xs (I.base.frzs b o xs e),λ b ps e=>?_⟩,?_,λ x c e=>?_,?_,λ x c e=>?_,λ p hp=>?_,hok,I.len⟩
 ·exact keep b o (neL b o e) hb (neC b o e hx) (I.base.keep b o e n hb hx) (I.base.free b o e n hx)
 ·obtain ⟨sl,e1⟩:=I.base.slot b o e n hb hx;obtain ⟨sl',e2⟩:=slot b _ (neL b o e) hb (neC b o e hx) e1 (I.base.free b o e n hx);exact ⟨sl',e2⟩
 ·obtain ⟨o',e1⟩:=I.base.there b o e hx;exact free b o' (neC b o e hx) e1 (I.base.free b o e n hx)
 ·obtain ⟨o',e1⟩:=I.base.there b o e hx;exact there b o' (neC b o e hx) e1
 ·obtain ⟨m1,e1⟩:=I.base.tbls b ps e;obtain ⟨m2,e2⟩:=tbls b _ e1;exact ⟨m1 ++ m2,by rw [e2,Array.append_assoc]⟩
 ·obtain ⟨m,hn,hl⟩:=I.loc;refine ⟨m,ns m hn,λ i x v e1 e2 e3=>?_⟩;obtain ⟨u,r,l⟩:=hl i x v e1 e2 e3;refine ⟨u,r,?_⟩;rcases l with l | ⟨k,c,e,z⟩
  ·exact .inl l
  ·exact .inr ⟨k,c,e,cellK x c e _ z⟩
 ·obtain ⟨v,z⟩:=I.cell x c e;exact ⟨v,cellK x c e v z⟩
 ·obtain ⟨m,⟨o,_,_,ho,_⟩,_⟩:=I.loc;exact free _ o (λ z=>(hch _ z).2.1 rfl) ho I.free
 ·obtain ⟨v,o,ho,hd⟩:=I.cell x c e;exact free c o (λ z=>(hch c z).2.2.1 x c e rfl) ho (I.freeC x c e)
 ·obtain ⟨e,n,ne,nf,d⟩:=I.pin p hp;have nch:p.1∉ch:=λ z=>(hch p.1 z).2.2.2 p hp rfl;exact ⟨keep p.1 p.2 ne nf nch e n,free p.1 p.2 nch e n,ne,nf,d⟩
theorem Inv.un {t':Nat} (I:Inv X pins σ H s) (u:Un X.fs [] H H' s.heap h') (hok:HOk X.prog X.w H' h'):Inv X pins σ H' { s with heap:=h',toks:=t' }:=by
 obtain ⟨m,⟨o,es,ep,ho,r⟩,_⟩:=id I.loc;obtain ⟨sl,hL⟩:=u.any ho I.free (by simp);exact I.step (g':=s.gens) (d':=s.drawn) (ch:=[]) (λ _ z=>nomatch z) (λ b o _ hb _ e n=>u.keep b o e n hb (by simp)) (λ b o _ hb _ e n=>u.slot b o e n hb (by simp)) (λ b o _ e n=>u.free b o e n (by simp)) (λ b o _ e=>u.there b o e (by simp)) u.tups u.frzs u.tbls (λ m' hm=>by
  obtain ⟨o',es',ep',ho',r'⟩:=hm;rw [ho] at ho'; cases ho';exact ⟨_,es',ep',hL,r'⟩) hok I.bare
theorem Inv.call {g':Array GenState} {t':Nat} {d':Drawn} {ch:List Addr} (I:Inv X pins σ H s) (u:Un (frs X.stack) ch H H' s.heap h') (hok:HOk X.prog X.w H' h') (hg:AllBare g')
  (hch:∀b∈ch,(b∈X.ex\/X.s₀.heap.objs.size<=b)/\b≠X.env.locals/\(∀x c,X.env.cells.lookup x=some c->c≠b)/\∀p∈X.pn ++ pins,p.1≠b) :
  Inv X pins σ H' { s with heap:=h',gens:=g',drawn:=d',toks:=t' }:=by
 obtain ⟨m,⟨o,es,ep,ho,r⟩,_⟩:=id I.loc;obtain ⟨sl,hL⟩:=u.any ho I.free λ z=>(hch _ z).2.1 rfl;exact I.step (ch:=ch) hch (λ b o hL hb hc e n=>u.keep b o e n (λ z=>(List.mem_cons.mp (I.stkSub b z)).elim hL hb) hc) (λ b o _ _ hc e n=>u.any e n hc) (λ b o hc e n=>u.free b o e n hc) (λ b o hc e=>u.there b o e hc) u.tups u.frzs u.tbls (λ m' hm=>by
  obtain ⟨o',es',ep',ho',r'⟩:=hm;rw [ho] at ho'; cases ho';exact ⟨_,es',ep',hL,r'⟩) hok hg
theorem Inv.turned {t':Nat} {it:Addr} (I:Inv X pins σ H s) (k:∀b o,b≠it->s.heap.get? b=some o->h'.get? b=some o) (hn:H it=none) (hL:it≠X.env.locals)
  (h1:it∈X.ex\/X.s₀.heap.objs.size<=it) (h2:∀x c,X.env.cells.lookup x=some c->c≠it) (h3:∀p∈X.pn ++ pins,p.1≠it):Inv X pins σ H { s with heap:=h',toks:=t' }:=by
 have nit:∀b u,H b=some u->b≠it:=λ b u e z=>by rw [z,hn] at e; cases e
 refine I.step (g':=s.gens) (d':=s.drawn) (ch:=[it]) (λ b hb=>?_) (λ b o _ _ hc e _=>k b o (λ z=>hc (by simp [z])) e) (λ b o _ _ hc e _=>⟨o.slots,k b o (λ z=>hc (by simp [z])) e⟩) (λ _ _ _ _ n=>n)
  (λ b o hc e=>⟨o,k b o (λ z=>hc (by simp [z])) e⟩) (λ _ _ e=>e) (λ _ _ _ e=>e) (λ b ps e=>⟨#[],by rw [e]; simp⟩) (λ m hm=>?_) (λ b u e=>?_) I.bare
 ·have e:b=it:=by simpa using hb
  subst e;exact ⟨h1,hL,h2,h3⟩
 ·obtain ⟨o,es,ep,ho,r⟩:=hm;exact ⟨o,es,ep,k _ o (Ne.symm hL) ho,r⟩
 ·refine (I.hok b u e).stay (λ c v hc q=>k c v ?_ q) (λ _ q=>q) λ _ _ q=>q;rcases hc with z | z
  ·rw [z]; exact nit b u e
  ·exact nit c _ z
theorem Inv.tok (I:Inv X pins σ H s) (t:Nat):Inv X pins σ H { s with toks:=t }:=I.un (h':=s.heap) (t':=t) Un.refl I.hok
theorem Inv.kept {t':Nat} (I:Inv X pins σ H s) (k:∀b u,s.heap.get? b=some u->h'.get? b=some u):Inv X pins σ H { s with heap:=h',toks:=t' }:=I.un (Un.kept k) (I.hok.kept k)
theorem Inv.laid {a:Addr} {o:HO} {t':Nat} (I:Inv X pins σ H s) (k:∀b u,s.heap.get? b=some u->h'.get? b=some u) (hp:s.heap.objs.size<=a) (new:ObjOk X.prog X.w (upd H a o) h' a o) :
  Inv X pins σ (upd H a o) { s with heap:=h',toks:=t' }:=I.un (Un.laid k hp (I.hok.fresh hp)) (I.hok.laid k hp new)
theorem Inv.write {x e:Addr} {o:HO} {t':Nat} (I:Inv X pins σ H s) (mu:Mut (H x)) (he:e=x\/H e=some (.own x)) (k:∀b u,b≠e->s.heap.get? b=some u->h'.get? b=some u) (heo:∃u,h'.get? e=some u)
  (new:ObjOk X.prog X.w (upd H x o) h' x o):Inv X pins σ (upd H x o) { s with heap:=h',toks:=t' }:=I.un (Un.write mu he k heo) (I.hok.write mu he k heo new)
theorem Inv.weak {σ':List (Option V)} (I:Inv X pins σ H s) (hl:σ'.length=σ.length) (w:∀ (i:Nat) v,σ'[i]? = some (some v)->σ[i]? = some (some v)):Inv X pins σ' H s :=
 ⟨I.ok,I.os,I.bare,I.base,let ⟨m,hn,hl'⟩:=I.loc; ⟨m,hn,λ i x v e1 e2 e3=>hl' i x v e1 (w i v e2) e3⟩,I.cell,I.free,I.freeC,I.pin,I.hok,hl.trans I.len⟩
theorem Inv.pins_of {pins':List (Addr×Obj)} (I:Inv X pins σ H s) (h:∀p∈pins',s.heap.get? p.1=some p.2/\H p.1=none/\p.1≠X.env.locals/\p.1∉X.fs/\∀v,p.2.data≠.cell v):Inv X pins' σ H s :=
 ⟨I.ok,I.os,I.bare,I.base,I.loc,I.cell,I.free,I.freeC,λ p hp=>(AT.mp hp).elim (λ z=>I.pin p (AM _ z)) (h p),I.hok,I.len⟩
theorem fR {N:List Str} (hN:N.Nodup) {i j:Nat} {x:Str} (a:N[i]? = some x) (b:N[j]? = some x):i=j:=by obtain ⟨h1,e1⟩:=AD.mp a;obtain ⟨h2,e2⟩:=AD.mp b;exact (List.getElem_inj hN).mp (e1.trans e2.symm)
theorem eM {M:Model} {A:Around} {E:Ap->Al->Prop} {i:Nat} {x:Str} {v:V} {u:Ap} {Q:Unit->Al->Prop} (I:Inv X pins σ H s) (hN:X.N.Nodup) (hi:X.N[i]? = some x) (hx:Loc X.env.scope x) (r:RelV v u)
  (h:∀s',Inv X pins (σ.set i (some v)) H s'->(∃a,Heap.SameBut a s.heap s'.heap/\(a=X.env.locals\/X.env.cells.lookup x=some a))->Q () s') (hf:X.fn x=true\/X.env.scope.names.lookup x=some .local:=by first | exact .inl rfl | exact .inr rfl | assumption):wpAny M A (storeName X.env x u) Q E s:=by
 obtain ⟨m,hn,hl⟩:=id I.loc;have hcls:(X.env.scope.kind == .class || (X.env.scope.kind == .module && X.env.locals != X.env.globals))=false:=by rw [I.ok.kind]; rfl
 have hiσ:i < σ.length:=by rw [I.len]; exact (AD.mp hi).1
 have cne:=I.cne;have tracked:∀ {a:Addr} {h':Heap},(∃o,s.heap.get? a=some o/\H a=none)->Heap.SameBut a s.heap h'->HOk X.prog X.w H h':=λ {a h'} ha hs b ob e=>by
  obtain ⟨_,_,hfree⟩:=ha;refine (I.hok b ob e).stay (λ c w' hc q=>(hs.2 c ?_).trans q) (λ _ q=>q) λ _ _ q=>q;rintro rfl;rcases hc with rfl | hc
  ·rw [hfree] at e; cases e
  ·rw [hfree] at hc; cases hc
 rcases hx with hk | hk
 ·refine wpAny_storeName_local hk hn (λ h' hn' hs=>?_) hcls;obtain ⟨oL,_,_,hoL,_⟩:=id hn;refine h _ ⟨I.ok,I.os,I.bare,⟨λ b o e n hb hx=>?_,λ b o e n hb hx=>?_,I.base.free,λ b o e hx=>?_,I.base.tups,I.base.frzs,I.base.tbls⟩,⟨_,hn',λ j y v' e1 e2 e3=>?_⟩,λ y c e=>?_,I.free,I.freeC,λ p hp=>?_,tracked ⟨oL,hoL,I.free⟩ hs,by simpa using I.len⟩ ⟨_,hs,.inl rfl⟩
  ·exact (hs.2 b (AQ (AS (AG e) I.ok.above))).trans (I.base.keep b o e n hb hx)
  ·obtain ⟨sl,e1⟩:=I.base.slot b o e n hb hx;exact ⟨sl,(hs.2 b (AQ (AS (AG e) I.ok.above))).trans e1⟩
  ·obtain ⟨o',e1⟩:=I.base.there b o e hx;exact ⟨o',(hs.2 b (AQ (AS (AG e) I.ok.above))).trans e1⟩
  ·by_cases hj:j=i
   ·subst hj;rw [hi] at e1; cases e1;rw [List.getElem?_set_self hiσ] at e2;cases e2;exact ⟨u,r,.inl ⟨hk,by simp⟩⟩
   ·rw [List.getElem?_set_ne (Ne.symm hj)] at e2;obtain ⟨u',r',q⟩:=hl j y v' e1 e2 e3;refine ⟨u',r',?_⟩;rcases q with ⟨k,e⟩ | ⟨k,c,e,z⟩
    ·refine .inl ⟨k,?_⟩;have:y≠x:=λ e=>hj (fR hN e1 (e ▸ hi));simp [this,e]
    ·exact .inr ⟨k,c,e,z.sameBut hs (cne y c e)⟩
  ·obtain ⟨w',z⟩:=I.cell y c e;exact ⟨w',z.sameBut hs (cne y c e)⟩
  ·obtain ⟨e,n,ne,nf,d⟩:=I.pin p hp;exact ⟨(hs.2 p.1 ne).trans e,n,ne,nf,d⟩
 ·have hfn:X.fn x=true:=by
   rcases hf with z | z
   ·exact z
   ·rw [z] at hk; cases hk
  obtain ⟨c,hc⟩:=I.ok.has x (.inl hk);obtain ⟨w',z⟩:=I.cell x c hc;refine wpAny_storeName_cell I.ok.kind hk hc z (λ h' hc' hs=>?_);obtain ⟨oc,hoc,hocd⟩:=id z;refine h { s with heap:=h' } ⟨I.ok,I.os,I.bare,⟨λ b o e n hb hx=>?_,λ b o e n hb hx=>?_,I.base.free,λ b o e hx=>?_,I.base.tups,I.base.frzs,I.base.tbls⟩,⟨m,hn.sameBut hs (Ne.symm (cne x c hc)),λ j y v' e1 e2 e3=>?_⟩,λ y c' e=>?_,I.free,I.freeC,λ p hp=>?_,tracked ⟨oc,hoc,I.freeC x c hc⟩ hs,by simpa using I.len⟩ ⟨c,hs,.inr hc⟩
  ·exact (hs.2 b (AQ (AS (AG e) (I.ok.cab x c hfn hc)))).trans (I.base.keep b o e n hb hx)
  ·obtain ⟨sl,e1⟩:=I.base.slot b o e n hb hx;exact ⟨sl,(hs.2 b (AQ (AS (AG e) (I.ok.cab x c hfn hc)))).trans e1⟩
  ·obtain ⟨o',e1⟩:=I.base.there b o e hx;exact ⟨o',(hs.2 b (AQ (AS (AG e) (I.ok.cab x c hfn hc)))).trans e1⟩
  ·by_cases hj:j=i
   ·subst hj;rw [hi] at e1; cases e1;rw [List.getElem?_set_self hiσ] at e2;cases e2;exact ⟨u,r,.inr ⟨.inl hk,c,hc,hc'⟩⟩
   ·rw [List.getElem?_set_ne (Ne.symm hj)] at e2;obtain ⟨u',r',q⟩:=hl j y v' e1 e2 e3;refine ⟨u',r',?_⟩;rcases q with q | ⟨k,c',e,z'⟩
    ·exact .inl q
    ·refine .inr ⟨k,c',e,z'.sameBut hs ?_⟩;rintro rfl;exact hj (fR hN e1 (I.ok.inj _ _ _ e hc ▸ hi))
  ·by_cases hcc:c'=c
   ·subst hcc; exact ⟨_,hc'⟩
   ·obtain ⟨w2,z2⟩:=I.cell y c' e;exact ⟨w2,z2.sameBut hs hcc⟩
  ·obtain ⟨e,n,ne,nf,d⟩:=I.pin p hp;refine ⟨(hs.2 p.1 ?_).trans e,n,ne,nf,d⟩;intro q;rw [q,hoc] at e;have q':oc=p.2:=AO e;exact d w' (by rw [<- q']; exact hocd)
theorem cM {M:Model} {A:Around} {E:Ap->Al->Prop} {i:Nat} {x:Str} {v:V} {u:Ap} {Q:Unit->Al->Prop} (I:Inv X pins σ H s) (hN:X.N.Nodup) (hi:X.N[i]? = some x) (hx:Loc X.env.scope x) (r:RelV v u)
  (h:∀s',Inv X pins (σ.set i (some v)) H s'->Q () s') (hf:X.fn x=true\/X.env.scope.names.lookup x=some .local:=by first | exact .inl rfl | exact .inr rfl | assumption):wpAny M A (storeName X.env x u) Q E s :=
 eM I hN hi hx r (λ s' I' _=>h s' I') hf
theorem Inv.call' {s':Al} {ch:List Addr} (I:Inv X pins σ H s) (ho:s'.os=s.os) (u:Un (frs X.stack) ch H H' s.heap s'.heap) (hok:HOk X.prog X.w H' s'.heap) (hg:AllBare s'.gens)
  (hch:∀b∈ch,(b∈X.ex\/X.s₀.heap.objs.size<=b)/\b≠X.env.locals/\(∀x c,X.env.cells.lookup x=some c->c≠b)/\∀p∈X.pn ++ pins,p.1≠b):Inv X pins σ H' s':=by
 obtain ⟨h',g',d',t',o'⟩:=s';have e:o'=s.os:=ho;subst e;exact I.call (g':=g') (t':=t') (d':=d') u hok hg hch
end
abbrev XK:=Value->Option Addr->Hp->Prop
abbrev St:=List (Option V)
abbrev VK:=V->Hp->Prop
abbrev TE:=St->Hp->VK->Prop
abbrev TT:=St->Hp->(Bool->Hp->Prop)->Prop
abbrev TA:=St->Hp->(List V->Hp->Prop)->Prop
structure Ends where
 nx:St->Hp->Prop
 rt:VK
 bk:St->Hp->Prop:=λ _ _=>False
 ct:St->Hp->Prop:=λ _ _=>False
abbrev TS:=Ends->St->Hp->Prop
def EP (X:Cx) (pins:List (Addr×Obj)) (σ:St) (Q:VK) (u:Ap) (s':Al):Prop:=∃v H',Inv X pins σ H' s'/\RelV v u/\Q v H'
def TP (X:Cx) (pins:List (Addr×Obj)) (σ:St) (Q:Bool->Hp->Prop) (b:Bool) (s':Al):Prop:=∃H',Inv X pins σ H' s'/\Q b H'
def AP (X:Cx) (pins:List (Addr×Obj)) (σ:St) (Q:List V->Hp->Prop) (us:List Ap) (s':Al):Prop:=∃vs H',Inv X pins σ H' s'/\Vals vs us/\Q vs H'
def SP (X:Cx) (pins:List (Addr×Obj)) (D:Ends) (f:Flow) (s':Al):Prop :=
 match f with
 | .next=>∃σ' H',Inv X pins σ' H' s'/\D.nx σ' H'
 | .brk=>∃σ' H',Inv X pins σ' H' s'/\D.bk σ' H'
 | .cont=>∃σ' H',Inv X pins σ' H' s'/\D.ct σ' H'
 | .ret u=>∃v σ' H',Inv X pins σ' H' s'/\RelV v u/\D.rt v H'
def PE (X:Cx) (e:Expr) (t:TE):Prop :=
 ∀ (pins:List (Addr×Obj)) (s:Al) (σ:St) (H:Hp) (Q:VK),Inv X pins σ H s->t σ H Q->wpAny (model X.prog X.w) X.A (eval e X.env) (EP X pins σ Q) X.xe s
def PT (X:Cx) (e:Expr) (t:TT):Prop :=
 ∀ (pins:List (Addr×Obj)) (s:Al) (σ:St) (H:Hp) (Q:Bool->Hp->Prop),Inv X pins σ H s->t σ H Q->wpAny (model X.prog X.w) X.A (isTrue e X.env (eval e X.env)) (TP X pins σ Q) X.xe s
def PW (X:Cx) (e:Expr) (t:TT):Prop :=
 ∀ (aE:Sem Ap) (pins:List (Addr×Obj)) (s:Al) (σ:St) (H:Hp) (Q:Bool->Hp->Prop),Inv X pins σ H s->t σ H Q->wpAny (model X.prog X.w) X.A (isTrue e X.env aE) (TP X pins σ Q) X.xe s
theorem PW.pt {X:Cx} {e:Expr} {t:TT} (h:PW X e t):PT X e t:=h _
def PA (X:Cx) (es:List Expr) (t:TA):Prop :=
 ∀ (pos:Pos) (pins:List (Addr×Obj)) (s:Al) (σ:St) (H:Hp) (Q:List V->Hp->Prop),Inv X pins σ H s->t σ H Q->wpAny (model X.prog X.w) X.A (spliced (backTo pos (starEach es X.env))) (AP X pins σ Q) X.xe s
def PS (X:Cx) (st:Stmt) (t:TS):Prop :=
 ∀ (pins:List (Addr×Obj)) (s:Al) (σ:St) (H:Hp) (D:Ends),Inv X pins σ H s->t D σ H->wpAny (model X.prog X.w) X.A (exec st X.env) (SP X pins D) X.xe s
def PSs (X:Cx) (st:List Stmt) (t:TS):Prop :=
 ∀ (pins:List (Addr×Obj)) (s:Al) (σ:St) (H:Hp) (D:Ends),Inv X pins σ H s->t D σ H->wpAny (model X.prog X.w) X.A (execs st X.env) (SP X pins D) X.xe s
theorem thn {α:Type} {t:Sem α} {Q Q':α->Al->Prop} {M:Model} {A:Around} {E:Ap->Al->Prop} {s:Al} (h:wpAny M A t Q E s) (hQ:∀a s,Q a s->Q' a s):wpAny M A t Q' E s:=wpAny_mono h hQ λ _ _ x=>x
section
variable {X:Cx}
theorem bin {a b:Expr} {ta tb:TE} (ha:PE X a ta) (hb:PE X b tb) {pins:List (Addr×Obj)} {s:Al} {σ:St} {H:Hp} {R:V->V->Hp->Prop} (I:Inv X pins σ H s) (h:ta σ H λ x H1=>tb σ H1 λ y H2=>R x y H2)
  {α:Type} {Q:α->Al->Prop} {f:Ap->Ap->Sem α}
  (hf:∀v u s2 x y H2,Inv X pins σ H2 s2->RelV x v->RelV y u->R x y H2->wpAny (model X.prog X.w) X.A (f v u) Q X.xe s2) :
  wpAny (model X.prog X.w) X.A (eval a X.env) (λ v s₁=>wpAny (model X.prog X.w) X.A (eval b X.env) (λ u s₂=>wpAny (model X.prog X.w) X.A (f v u) Q X.xe s₂) X.xe s₁) X.xe s:=by
 refine thn (ha pins s σ H _ I h) λ v s1 ⟨x,H1,I1,r1,q1⟩=>?_;refine thn (hb pins s1 σ H1 _ I1 q1) λ u s2 ⟨y,H2,I2,r2,q2⟩=>?_;exact hf v u s2 x y H2 I2 r1 r2 q2
inductive tVar (i:Nat) (σ:St) (H:Hp) (Q:VK):Prop
 | mk (v:V) (e_0:σ[i]? = some (some v)) (e_1:Q v H):tVar i σ H Q
def tC (v:V):TE:=λ _ H Q=>Q v H
theorem nL {i:Nat} {x:Str} {pos:Pos} (hN:X.N[i]? = some x) (hv:Vis X.env.scope x) (hd:(x == ("__debug__" : Str))=false:=by decide) (hcd:(x == ("__classdict__" : Str))=false:=by decide):PE X (.Name x pos) (tVar i):=by
 intro pins s σ H Q I h;obtain ⟨v,e,h⟩:=h;obtain ⟨m,hn,hl⟩:=I.loc;obtain ⟨u,r,l⟩:=hl i x v hN e hv;have fin:EP X pins σ Q u s:=⟨v,H,I,r,h⟩
 rcases l with ⟨hk,hm⟩ | ⟨hk,c,hc,hcell⟩
 ·exact wpAny_Name (wpAny_loadName_local I.ok.kind hk hn hm fin) hd
 ·rcases hk with hk | hk
  ·exact wpAny_Name (wpAny_loadName_cell I.ok.kind hk hc hcell fin) hd
  ·exact wpAny_Name (wpAny_loadName_free I.ok.kind hk hc hcell fin hcd) hd
theorem ad {i j pos}:PE X (.Constant (.int i) j pos) (tC (.int i)):=λ _ _ _ H _ I h=>wpAny_Constant_int ⟨.int i,H,I.tok _,⟨_,rfl⟩,h⟩
theorem aX {b j pos}:PE X (.Constant (.bool b) j pos) (tC (.bl b)):=λ _ _ _ H _ I h=>Constant_bool ⟨.bl b,H,I,rfl,h⟩
theorem nM {j pos}:PE X (.Constant .none j pos) (tC .non):=λ _ _ _ H _ I h=>Constant_none ⟨.non,H,I,rfl,h⟩
theorem gy {x j pos}:PE X (.Constant (.str x) j pos) (tC (.str x)):=λ _ _ _ H _ I h=>Calls.Constant_str ⟨.str x,H,I.tok _,⟨_,Z⟩,h⟩
def Gl (X:Cx) (x:Str):Prop:=X.env.kindOf x=some .globalImplicit
theorem fi {E:Ap->Al->Prop} {pins:List (Addr×Obj)} {s:Al} {σ:St} {H:Hp} {x:Str} {u:Ap} {pos:Pos} {Q:Ap->Al->Prop} (I:Inv X pins σ H s) (hg:Gl X x) (hm:X.mg x=some u) (h:Q u s)
  (hd:(x == ("__debug__" : Str))=false:=by decide):wpAny (model X.prog X.w) X.A (eval (.Name x pos) X.env) Q E s :=
 Calls.Name_function_global I.ok.kind hg (Calls.loadGlobal_global (by rw [I.ok.glob]; exact I.mod.glob.keeps I.bk) hm h) hd
theorem dX {E:Ap->Al->Prop} {pins:List (Addr×Obj)} {s:Al} {σ:St} {H:Hp} {x:Str} {u:Ap} {pos:Pos} {Q:Ap->Al->Prop} (I:Inv X pins σ H s) (hg:Gl X x) (hm:X.mg x=none) (hv:bootBuiltins x=some u) (h:Q u s)
  (hn:x ≠ "__name__" := by decide) (hd:(x == ("__debug__" : Str))=false:=by decide):wpAny (model X.prog X.w) X.A (eval (.Name x pos) X.env) Q E s:=by
 obtain ⟨mb,h1,h2⟩:=I.mod.blt;exact Calls.Name_function_global I.ok.kind hg (Calls.loadGlobal_builtin (by rw [I.ok.glob]; exact I.mod.glob.keeps I.bk) hm (by rw [I.ok.blt]; exact h1.keeps I.bk) ((h2 x hn).trans hv) h) hd
theorem fj {x:Str} {v:V} {u:Ap} {pos:Pos} (hg:Gl X x) (hm:X.mg x=some u) (r:RelV v u) (hd:(x == ("__debug__" : Str))=false:=by decide):PE X (.Name x pos) (tC v) :=
 λ _ _ _ H _ I h=>fi I hg hm ⟨v,H,I,r,h⟩ hd
theorem bc {x:Str} {v:V} {u:Ap} {pos:Pos} (hg:Gl X x) (hm:X.mg x=none) (hv:bootBuiltins x=some u) (r:RelV v u) (hn:x ≠ "__name__" := by decide) (hd:(x == ("__debug__" : Str))=false:=by decide):PE X (.Name x pos) (tC v) :=
 λ _ _ _ H _ I h=>dX I hg hm hv ⟨v,H,I,r,h⟩ hn hd
variable {a b:Expr} {ta tb:TE} {pos:Pos}
def PC (X:Cx) (op:CmpOp) (a b:Expr) (t:TE):Prop :=
 ∀ (pins:List (Addr×Obj)) (s:Al) (σ:St) (H:Hp) (Q:VK),Inv X pins σ H s->t σ H Q ->
  wpAny (model X.prog X.w) X.A (eval a X.env) (λ v s₁=>wpAny (model X.prog X.w) X.A (eval b X.env) (λ u s₂=>wpAny (model X.prog X.w) X.A (compareOp op v u) (EP X pins σ Q) X.xe s₂) X.xe s₁) X.xe s
inductive IsB (x:V) (Q:Bool->Prop):Prop
 | mk (c:Bool) (e:x=.bl c) (q:Q c):IsB x Q
def tB (t:TE):TT:=λ σ H Q=>t σ H λ x H1=>IsB x λ c=>Q c H1
theorem wU {op:CmpOp} {t:TE} (h:PC X op a b t) (h1:behindInMarks op b=false:=by first | exact nobehind _ (by decide) (by decide) | rfl):PT X (.Compare a [op] [b] pos) (tB t):=by intro pins s σ H Q I hw;refine wpAny_isTrue_Compare1 (thn (h pins s σ H _ I hw) λ v s1 h1=>thn h1 λ u s2 h2=>thn h2 λ c s3 ⟨x,H1,I1,r1,q1⟩=>?_) h1;obtain ⟨d,rfl,q⟩:=q1;cases r1;exact Ah ⟨H1,I1,q⟩
theorem aB {e:Expr} {t:TE} (h:PE X e t) (he:∀aE,isTrue e X.env aE=(do let v<-aE; standAt e.pos; holding [v] (truthy v)):=by intro _; rfl):PT X e (tB t):=by intro pins s σ H Q I hw;refine isTrue_plain (thn (h pins s σ H _ I hw) λ v s1 ⟨x,H1,I1,r1,q1⟩=>?_) (he _);obtain ⟨d,rfl,q⟩:=q1;cases r1;exact Ah ⟨H1,I1,q⟩
variable {tA tB':TT} {cF:List Expr}
def wV (t u:TT):TT:=λ σ H Q=>t σ H λ c H1=>if c=true then u σ H1 Q else Q false H1
def tOr (t u:TT):TT:=λ σ H Q=>t σ H λ c H1=>if c=true then Q true H1 else u σ H1 Q
def qd (t:TT):TT:=λ σ H Q=>t σ H λ c H1=>Q (!c) H1
theorem fk (ha:PT X a tA):PW X (.BoolOp .And [a] pos) tA:=by
 intro wh pins s σ H Q I h;refine isTrue_and (thn (ha pins s σ H Q I h) λ c s1 e=>?_);cases c with
 | true=>exact isTrue_and_nil e
 | false=>exact e
theorem bd (ha:PT X a tA):PW X (.BoolOp .Or [a] pos) tA:=by
 intro wh pins s σ H Q I h;refine isTrue_or (thn (ha pins s σ H Q I h) λ c s1 e=>?_);cases c with
 | false=>exact isTrue_or_nil e
 | true=>exact e
theorem gz (ha:PT X a tA) (hb:PW X (.BoolOp .And (b :: cF) pos) tB'):PW X (.BoolOp .And (a :: b :: cF) pos) (wV tA tB'):=by
 intro wh pins s σ H Q I h;refine isTrue_and (thn (ha pins s σ H _ I h) λ c s1 ⟨H1,I1,q1⟩=>?_);cases c with
 | true=>exact hb wh pins s1 σ H1 Q I1 q1
 | false=>exact ⟨H1,I1,q1⟩
theorem bg (ha:PT X a tA) (hb:PW X (.BoolOp .Or (b :: cF) pos) tB'):PW X (.BoolOp .Or (a :: b :: cF) pos) (tOr tA tB'):=by
 intro wh pins s σ H Q I h;refine isTrue_or (thn (ha pins s σ H _ I h) λ c s1 ⟨H1,I1,q1⟩=>?_);cases c with
 | true=>exact ⟨H1,I1,q1⟩
 | false=>exact hb wh pins s1 σ H1 Q I1 q1
theorem aF (ha:PT X a tA):PT X (.UnaryOp .Not a pos) (qd tA):=by intro pins s σ H Q I h;exact isTrue_not (ha pins s σ H (λ c H1=>Q (!c) H1) I h)
def qe (ta tb:TE):TE:=λ σ H Q=>ta σ H λ x H1=>IsB x λ c=>if c=true then tb σ H1 Q else Q (.bl false) H1
def wW (ta tb:TE):TE:=λ σ H Q=>ta σ H λ x H1=>IsB x λ c=>if c=true then Q (.bl true) H1 else tb σ H1 Q
def qg (ta:TE):TE:=λ σ H Q=>ta σ H λ x H1=>IsB x λ c=>Q (.bl (!c)) H1
theorem bU {op} {t:TE} (h:PE X a t):PE X (.BoolOp op [a] pos) t:=λ pins s σ H Q I hw=>BoolOp_one (h pins s σ H Q I hw)
theorem bH (ha:PE X a ta) (hb:PE X (.BoolOp .And (b :: cF) pos) tb):PE X (.BoolOp .And (a :: b :: cF) pos) (qe ta tb):=by
 intro pins s σ H Q I h;refine BoolOp_and (thn (ha pins s σ H _ I h) λ v s1 ⟨x,H1,I1,r1,q1⟩=>?_);obtain ⟨c,rfl,q1⟩:=q1;cases r1;refine Ah ?_;cases c with
 | true=>exact hb pins s1 σ H1 Q I1 q1
 | false=>exact ⟨.bl false,H1,I1,Z,q1⟩
theorem iw (ha:PE X a ta) (hb:PE X (.BoolOp .Or (b :: cF) pos) tb):PE X (.BoolOp .Or (a :: b :: cF) pos) (wW ta tb):=by
 intro pins s σ H Q I h;refine BoolOp_or (thn (ha pins s σ H _ I h) λ v s1 ⟨x,H1,I1,r1,q1⟩=>?_);obtain ⟨c,rfl,q1⟩:=q1;cases r1;refine Ah ?_;cases c with
 | false=>exact hb pins s1 σ H1 Q I1 q1
 | true=>exact ⟨.bl true,H1,I1,Z,q1⟩
theorem fm (ha:PE X a ta):PE X (.UnaryOp .Not a pos) (qg ta):=by intro pins s σ H Q I h;refine UnaryOp_ (thn (ha pins s σ H _ I h) λ v s1 ⟨x,H1,I1,r1,q1⟩=>?_);obtain ⟨c,rfl,q1⟩:=q1;cases r1;exact not_of (Ah ⟨.bl (!c),H1,I1,rfl,q1⟩)
end
def SqL (K:AV) (H:Hp) (a:Addr) (xs:List V):Prop :=
 Rd H a (.lst xs) \/
  ∃ (o:Obj) (its:Array Ap) (n:Nat),K.lookup a=some o/\o.cls=.type "list" /\ o.dict=none/\o.data=.seq its n/\its.size<=sizeLine/\Vals xs its.toList
def SqT (K:AV) (H:Hp) (a:Addr) (xs:List V):Prop :=
 Rd H a (.tup xs) \/
  ∃ (o:Obj) (its:Array Ap) (n:Nat),K.lookup a=some o/\o.cls=.type "tuple" /\ o.data=.seq its n/\its.size<=sizeLine/\Vals xs its.toList
def wX:Ap->Option V
 | .none=>some .non
 | .bool b=>some (.bl b)
 | .int i _=>some (.int i)
 | .str x _=>some (.str x)
 | .bytes b _=>some (.byt b)
 | .float b _=>some (.flt b)
 | .ref a=>some (.ref a)
 | .type n=>some (.ty n)
 | _=>none
theorem RelV.abs {x:V} {u:Ap} (r:RelV x u):wX u=some x:=by
 cases x with
 | non=>cases r; rfl
 | bl _=>cases r; rfl
 | int _=>obtain ⟨t,rfl⟩:=r; rfl
 | str _=>obtain ⟨t,rfl⟩:=r; rfl
 | byt _=>obtain ⟨t,rfl⟩:=r; rfl
 | flt _=>obtain ⟨t,rfl⟩:=r; rfl
 | ref _=>cases r; rfl
 | ty _=>cases r; rfl
theorem RelV.inj {x y:V} {u:Ap} (r:RelV x u) (q:RelV y u):x=y:=AO (r.abs.symm.trans q.abs)
theorem Vals.inj:∀ {xs ys:List V} {us:List Ap},Vals xs us->Vals ys us->xs=ys
 | _,_,_,.nil,.nil=>rfl
 | _,_,_,.cons r t,.cons r' t'=>by rw [r.inj r',Vals.inj t t']
section
variable {X:Cx} {pins:List (Addr×Obj)} {σ:St} {H:Hp} {s:Al} {a:Addr} {xs ys:List V}
theorem SqL.of {K:AV} (h:H a=some (.lst xs)):SqL K H a xs:=.inl (.inl h)
abbrev As:=@SqL.of
theorem SqT.of {K:AV} (h:H a=some (.tup xs)):SqT K H a xs:=.inl (.inl h)
abbrev Ar:=@SqT.of
theorem Inv.list (I:Inv X pins σ H s) (h:SqL X.K H a xs):∃its:List Ap,Vals xs its/\PlainL s.heap a its.toArray/\xs.length<=sizeLine:=by
 rcases h with h | ⟨o,its,n,hk,hc,hd,hs,hz,r⟩
 ·obtain ⟨z,its,n,r,e⟩:=h.ok I.hok;exact ⟨its,r,⟨_,n,e,Z,Z,Z⟩,z⟩
 ·refine ⟨its.toList,r,⟨o,n,I.kIn a o hk,hc,hd,by simpa using hs⟩,?_⟩;have e:=r.length;simp only [Array.length_toList] at e;omega
theorem Inv.tuple (I:Inv X pins σ H s) (h:SqT X.K H a xs):∃its:List Ap,Vals xs its/\IsTup s.heap a its.toArray/\xs.length<=sizeLine:=by
 rcases h with h | ⟨o,its,n,hk,hc,hs,hz,r⟩
 ·obtain ⟨z,its,r,p⟩:=h.ok I.hok;exact ⟨its,r,p,z⟩
 ·refine ⟨its.toList,r,⟨o,I.kIn a o hk,hc,n,by simpa using hs⟩,?_⟩;have e:=r.length;simp only [Array.length_toList] at e;omega
theorem Inv.list_inj (I:Inv X pins σ H s) (h:SqL X.K H a xs) (h':SqL X.K H a ys):xs=ys:=by
 obtain ⟨its,r,⟨o,n,e,_,_,d⟩,_⟩:=I.list h;obtain ⟨its',r',⟨o',n',e',_,_,d'⟩,_⟩:=I.list h';rw [e] at e'; cases e';rw [d] at d';injection d' with d1 _
 have:its=its':=by simpa using congrArg Array.toList d1
 subst this;exact r.inj r'
theorem Inv.tuple_inj (I:Inv X pins σ H s) (h:SqT X.K H a xs) (h':SqT X.K H a ys):xs=ys:=by
 obtain ⟨its,r,⟨o,e,_,n,d⟩,_⟩:=I.tuple h;obtain ⟨its',r',⟨o',e',_,n',d'⟩,_⟩:=I.tuple h';rw [e] at e'; cases e';rw [d] at d';injection d' with d1 _
 have:its=its':=by simpa using congrArg Array.toList d1
 subst this;exact r.inj r'
end
abbrev Cx.wish (X:Cx) (E:Ap->Al->Prop):Cx:={ X with xe:=E }
abbrev Cx.nox (X:Cx):Cx:=X.wish λ _ _=>False
theorem Cx.Ok.wish {X:Cx} (ok:X.Ok) (E:Ap->Al->Prop):(X.wish E).Ok :=
 ⟨ok.mod,ok.kind,ok.glob,ok.blt,ok.above,ok.inj,ok.has,ok.cab,ok.hd,ok.frames,ok.stk,ok.exf,ok.bs,ok.bsz,ok.noex,ok.exfs,ok.funs,ok.frf⟩
theorem Cx.Ok.unwish {X:Cx} {E:Ap->Al->Prop} (ok:(X.wish E).Ok):X.Ok :=
 ⟨ok.mod,ok.kind,ok.glob,ok.blt,ok.above,ok.inj,ok.has,ok.cab,ok.hd,ok.frames,ok.stk,ok.exf,ok.bs,ok.bsz,ok.noex,ok.exfs,ok.funs,ok.frf⟩
section
variable {X:Cx} {pins:List (Addr×Obj)} {σ:St} {H:Hp} {s:Al} {E:Ap->Al->Prop}
theorem Inv.wish (I:Inv X pins σ H s) (E:Ap->Al->Prop):Inv (X.wish E) pins σ H s:=⟨I.ok.wish E,I.os,I.bare,I.base,I.loc,I.cell,I.free,I.freeC,I.pin,I.hok,I.len⟩
theorem Inv.unwish (I:Inv (X.wish E) pins σ H s):Inv X pins σ H s:=⟨I.ok.unwish,I.os,I.bare,I.base,I.loc,I.cell,I.free,I.freeC,I.pin,I.hok,I.len⟩
theorem SP.unwish {D:Ends} {f:Flow} {s':Al} (h:SP (X.wish E) pins D f s'):SP X pins D f s':=by
 cases f with
 | next=>obtain ⟨σ',H',I,q⟩:=h; exact ⟨σ',H',I.unwish,q⟩
 | brk=>obtain ⟨σ',H',I,q⟩:=h; exact ⟨σ',H',I.unwish,q⟩
 | cont=>obtain ⟨σ',H',I,q⟩:=h; exact ⟨σ',H',I.unwish,q⟩
 | ret u=>obtain ⟨v,σ',H',I,r,q⟩:=h; exact ⟨v,σ',H',I.unwish,r,q⟩
theorem PSs.nox {st:List Stmt} {t:TS} (h:PSs X.nox st t):PSs X st t:=λ pins s σ H D I hw =>
 wpAny_mono (h pins s σ H D (I.wish _) hw) (λ _ _ q=>q.unwish) λ _ _ z=>Ad z
end
section
variable {X:Cx} {st:Stmt} {cF:List Stmt} {t u:TS} {e:Expr} {te:TE} {pos:Pos}
def qh:TS:=λ D σ H=>D.nx σ H
def qi (t u:TS):TS:=λ D σ H=>t { D with nx:=u D } σ H
theorem ax:PSs X [] qh:=λ _ _ σ H _ I h=>wpAny_execs_nil ⟨σ,H,I,h⟩
theorem ae (h1:PS X st t) (h2:PSs X cF u):PSs X (st :: cF) (qi t u):=by
 intro pins s σ H D I h;refine wpAny_execs_cons (thn (h1 pins s σ H { D with nx:=u D } I h) λ f s1 q=>?_);cases f with
 | next =>
  obtain ⟨σ',H',I',q⟩:=q;exact h2 pins s1 σ' H' D I' q
 | ret v=>exact q
 | brk=>exact q
 | cont=>exact q
theorem af (h1:PS X st t):PSs X [st] t:=by
 intro pins s σ H D I h;refine wpAny_execs_cons (thn (h1 pins s σ H D I h) λ f s1 q=>?_);cases f with
 | next=>exact wpAny_execs_nil q
 | ret v=>exact q
 | brk=>exact q
 | cont=>exact q
theorem Inv.quiet {pins:List (Addr×Obj)} {σ:St} {H:Hp} {s:Al} (I:Inv X pins σ H s):interactive X.env=false:=by simp [interactive,I.ok.kind]
def qj (te:TE):TS:=λ D σ H=>te σ H λ _ H1=>D.nx σ H1
theorem bV (he:PE X e te) (hs:swapsWith e none pos.line X.env=pure false:=by rfl):PS X (.Expr e pos) (qj te):=by intro pins s σ H D I h;exact wpAny_Expr_any (thn (he pins s σ H _ I h) λ v s1 ⟨x,H1,I1,r1,q1⟩=>⟨σ,H1,I1,q1⟩) I.quiet hs
def qk (te:TE):TS:=λ D σ H=>te σ H D.rt
theorem au (he:PE X e te):PS X (.Return (some e) pos) (qk te):=by intro pins s σ H D I h;exact wpAny_Return_some (thn (he pins s σ H _ I h) λ v s1 ⟨x,H1,I1,r1,q1⟩=>⟨x,σ,H1,I1,r1,q1⟩)
def wY (c:TT) (t u:TS):TS:=λ D σ H=>c σ H λ b H1=>if b=true then t D σ H1 else u D σ H1
theorem aK {c:Expr} {a b:List Stmt} {tc:TT} (hc:PT X c tc) (ha:PSs X a t) (hb:PSs X b u):PS X (.If c a b pos) (wY tc t u):=by
 intro pins s σ H D I h;refine wpAny_If (thn (hc pins s σ H _ I h) λ d s1 ⟨H1,I1,q1⟩=>?_);cases d with
 | true=>exact ha pins s1 σ H1 D I1 q1
 | false=>exact hb pins s1 σ H1 D I1 q1
def kg:TS:=λ _ _ _=>False
theorem fS:PS X st kg:=λ _ _ _ _ _ _ h=>h.elim
theorem cY {sts:List Stmt}:PSs X sts kg:=λ _ _ _ _ _ _ h=>h.elim
end
abbrev TG:=V->St->Hp->(St->Hp->Prop)->Prop
abbrev TGs:=List V->St->Hp->(St->Hp->Prop)->Prop
def PG (X:Cx) (target:Expr) (t:TG):Prop :=
 ∀ (pins:List (Addr×Obj)) (s:Al) (σ:St) (H:Hp) (v:V) (u:Ap) (Q:St->Hp->Prop),Inv X pins σ H s->RelV v u->t v σ H Q ->
  wpAny (model X.prog X.w) X.A (assign target X.env u) (λ _ s'=>∃σ' H',Inv X pins σ' H' s'/\Q σ' H') X.xe s
def PGs (X:Cx) (ts:List Expr) (t:TGs):Prop :=
 ∀ (pins:List (Addr×Obj)) (s:Al) (σ:St) (H:Hp) (vs:List V) (us:List Ap) (Q:St->Hp->Prop),Inv X pins σ H s->Vals vs us->t vs σ H Q ->
  wpAny (model X.prog X.w) X.A (assignInOrder ((assignEach ts X.env).map (·.2)) us) (λ _ s'=>∃σ' H',Inv X pins σ' H' s'/\Q σ' H') X.xe s
abbrev nN:=V->V->V->Hp->(Hp->Prop)->Prop
def qm (X:Cx) (t:nN):Prop :=
 ∀ (pins:List (Addr×Obj)) (s:Al) (σ:St) (H:Hp) (o i v:V) (ov iv u:Ap) (Q:Hp->Prop),Inv X pins σ H s->RelV o ov->RelV i iv->RelV v u->t o i v H Q ->
  wpAny (model X.prog X.w) X.A (setItem ov iv u) (λ _ s'=>∃H',Inv X pins σ H' s'/\Q H') X.xe s
section
variable {X:Cx} {pos:Pos}
def kh (i:Nat):TG:=λ v σ H Q=>Q (σ.set i (some v)) H
theorem ay {i:Nat} {x:Str} (hN:X.N.Nodup) (hi:X.N[i]? = some x) (hx:Loc X.env.scope x) (hf:X.fn x=true\/X.env.scope.names.lookup x=some .local:=by first | exact .inl rfl | exact .inr rfl | assumption):PG X (.Name x pos) (kh i):=by intro pins s σ H v u Q I r h;exact wpAny_assign_Name (cM I hN hi hx r (λ s' I'=>⟨_,H,I',h⟩) hf)
def wZ:TGs:=λ vs σ H Q=>vs=[]/\Q σ H
inductive gCons (t:TG) (u:TGs) (vs:List V) (σ:St) (H:Hp) (Q:St->Hp->Prop):Prop
 | mk (v:V) (r:List V) (e_0:vs=v :: r) (e_1:t v σ H λ σ' H'=>u r σ' H' Q):gCons t u vs σ H Q
theorem br:PGs X [] wZ:=by intro pins s σ H vs us Q I r h;obtain ⟨e,h⟩:=h;subst e;cases r;exact assignInOrder_nil ⟨σ,H,I,h⟩
theorem az {e:Expr} {es:List Expr} {t:TG} {u:TGs} (h1:PG X e t) (h2:PGs X es u)
  (hs:(assignEach (e :: es) X.env).map (·.2)=assign e X.env :: (assignEach es X.env).map (·.2):=by rfl):PGs X (e :: es) (gCons t u):=by
 intro pins s σ H vs us Q I r h;obtain ⟨v,vr,e1,h⟩:=h;subst e1;cases r with
 | cons r rr =>
  rw [hs];refine assignInOrder_cons (thn (h1 pins s σ H _ _ _ I r h) λ _ s1 ⟨σ1,H1,I1,q1⟩=>?_);exact h2 pins s1 σ1 H1 _ _ Q I1 rr q1
inductive gTup (K:AV) (n:Nat) (t:TGs) (v:V) (σ:St) (H:Hp) (Q:St->Hp->Prop):Prop
 | mk (a:Addr) (xs:List V) (e_0:v=.ref a) (e_1:SqT K H a xs) (e_2:xs.length=n) (e_3:t xs σ H Q):gTup K n t v σ H Q
theorem bW {es:List Expr} {k:Nat} {t:TGs} {n:Nat} (hc:X.calm=true) (h:PGs X es t)
  (hn:(assignEach es X.env).length=n:=by rfl) (hst:(assignEach es X.env).findIdx? (·.1)=none:=by rfl):PG X (.Tuple es k pos) (gTup X.K n t):=by
 intro pins s σ H v u Q I r hw;obtain ⟨a,xs,e1,hq,hl,hw⟩:=hw;subst e1;cases r;obtain ⟨its,rv,ht,hz⟩:=I.tuple hq;refine assign_Tuple_tuple (I.ok.hd hc) ht (by simp [hn,<- hl,rv.length]) hst λ h' hx=>?_;have I1:Inv X pins σ H { s with heap:=h' }:=I.kept (t':=s.toks) λ b o e=>hx b o (AQ (AG e)) e;exact h pins _ σ H xs _ Q I1 (by simpa using rv) hw
def xa (to ti:TE) (t:nN):TG:=λ v σ H Q=>to σ H λ o H1=>ti σ H1 λ i H2=>t o i v H2 λ H3=>Q σ H3
theorem gA {o i:Expr} {to ti:TE} {t:nN} (ho:PE X o to) (hi:PE X i ti) (hs:qm X t)
  (ha:∀v,assign (.Subscript o i pos) X.env v=(do
   let ov<-holding [v] (eval o X.env)
   let iv<-holding [v,ov] (eval i X.env)
   standAt pos
   holding [v,ov,iv] (setItem ov iv v)
   release [v,ov,iv] []):=by intro _; rfl):PG X (.Subscript o i pos) (xa to ti t):=by
 intro pins s σ H v u Q I r h;rw [ha];refine AA (wpAny_holding (thn (ho pins s σ H _ I h) λ ov s1 ⟨x,H1,I1,r1,q1⟩=>?_));refine AA (wpAny_holding (thn (hi pins s1 σ H1 _ I1 q1) λ iv s2 ⟨y,H2,I2,r2,q2⟩=>?_));refine AA (wpAny_standAt (AA (wpAny_holding (thn (hs pins s2 σ H2 x y v ov iv u _ I2 r1 r2 r q2) λ _ s3 ⟨H3,I3,q3⟩=>?_))));exact wpAny_release ⟨σ,H3,I3,q3⟩
def nO (te:TE) (g:TG):TS:=λ D σ H=>te σ H λ x H1=>g x σ H1 D.nx
theorem bX {tg e:Expr} {te:TE} {g:TG} (he:PE X e te) (hg:PG X tg g) (hs:swapsWithSole [tg] e pos.line X.env=pure false:=by rfl) (hw:swappedStores [tg] e X.env=pure none:=by rfl)
  (h1:(assignEach [tg] X.env).map (·.2)=[assign tg X.env]:=by rfl):PS X (.Assign [tg] e pos) (nO te g):=by
 intro pins s σ H D I h;refine wpAny_Assign_stores (thn (he pins s σ H _ I h) λ v s1 ⟨x,H1,I1,r1,q1⟩=>?_) hs hw;rw [h1];exact thn (hg pins s1 σ H1 x v _ I1 r1 q1) λ _ s2 q=>q
theorem aD {i:Nat} {x:Str} {e:Expr} {te:TE} {pos':Pos} (hN:X.N.Nodup) (hi:X.N[i]? = some x) (hx:Loc X.env.scope x) (he:PE X e te) (hs:swapsWith e (some (.Name x pos')) pos.line X.env=pure false:=by rfl) (hf:X.fn x=true\/X.env.scope.names.lookup x=some .local:=by first | exact .inl rfl | exact .inr rfl | assumption) :
  PS X (.Assign [.Name x pos'] e pos) (nO te (kh i)):=by
 intro pins s σ H D I h;refine wpAny_Assign_Name (thn (he pins s σ H _ I h) λ v s1 ⟨y,H1,I1,r1,q1⟩=>?_) hs;exact cM I1 hN hi hx r1 (λ s2 I2=>⟨_,H1,I2,q1⟩) hf
def xb (i j:Nat) (ta:TA):TS:=λ D σ H=>ta σ H λ vs H1=>∃v w,vs=[v,w]/\D.nx ((σ.set i (some v)).set j (some w)) H1
theorem nP {i j:Nat} {x y:Str} {a b:Expr} {ta:TA} {px py pt:Pos} {kt k2 pt2} (hc:X.calm=true) (hN:X.N.Nodup) (hi:X.N[i]? = some x) (hj:X.N[j]? = some y) (hij:i≠j)
  (hx:X.env.scope.names.lookup x=some .local) (hy:X.env.scope.names.lookup y=some .local) (ha:PA X [a,b] ta)
  (hw:swappedStores [.Tuple [.Name x px,.Name y py] kt pt] (.Tuple [a,b] k2 pt2) X.env=pure (some [x,y]))
  (hs:swapsWithSole [.Tuple [.Name x px,.Name y py] kt pt] (.Tuple [a,b] k2 pt2) pos.line X.env=pure false:=by rfl) :
  PS X (.Assign [.Tuple [.Name x px,.Name y py] kt pt] (.Tuple [a,b] k2 pt2) pos) (xb i j ta):=by
 intro pins s σ H D I h;rw [exec_Assign_arm];refine AA (wpAny_standAt ?_);rw [hs];refine AA (AB ?_);rw [if_neg (by decide)];refine AA (Tuple_ (thn (ha _ pins s σ H _ I h) λ us s1 ⟨vs,H1,I1,r1,q1⟩=>?_));obtain ⟨v,w,e1,q1⟩:=q1;subst e1;obtain ⟨u1,u2,rfl,rv,rw'⟩:∃u1 u2,us=[u1,u2]/\RelV v u1/\RelV w u2:=by
  cases r1 with
  | cons p q =>
   cases q with
   | cons p' q' =>
    cases q';exact ⟨_,_,Z,p,p'⟩
 refine Aj ?_ zS2;have I2:Inv X pins σ H1 { s1 with heap:=s1.heap.push { cls:=.type "tuple", data:=.seq [u1, u2].toArray } }:=I1.kept (t':=s1.toks) λ b o e=>AE _ e;rw [hw];refine AA (AB ?_);show wpAny (model X.prog X.w) X.A (do rule "assign.swapped-stores"; let items<-unpackItems (.ref s1.heap.objs.size) 2 none; assignInOrder [λ v=>bindName X.env y v,λ v=>bindName X.env x v] items.reverse; pure Flow.next) _ _ _;refine AA (wpAny_rule (AA (unpackItems_tuple (items:=#[u1,u2]) (I.ok.hd hc) (IsTup.new s1.heap _) λ h' hx'=>?_)));have I3:=I2.kept (h':=h') (t':=s1.toks) λ b o e=>hx' b o (AQ (AG e)) e;show wpAny _ _ (assignInOrder [λ v=>bindName X.env y v,λ v=>bindName X.env x v] [u2,u1] >>= λ _=>pure Flow.next) _ _ _;refine AA (assignInOrder_cons (wpAny_bindName (cM I3 hN hj (.inl hy) rw' (λ s2 I4=>?_) (.inr hy))));refine assignInOrder_cons (wpAny_bindName (cM I4 hN hi (.inl hx) rv (λ s3 I5=>assignInOrder_nil (AB ?_)) (.inr hx)));rw [List.set_comm _ _ (Ne.symm hij)] at I5;exact ⟨_,H1,I5,q1⟩
end
structure It where
 go:Nat->Hp->Prop
 yld:Nat->Hp->V->Hp->Prop
 stop:Nat->Hp->Prop
def cZ (X:Cx) (pins:List (Addr×Obj)) (H:Hp) (b:Addr):Prop :=
 H b=none/\b≠X.env.locals/\b∉X.fs/\(b∈X.ex\/X.s₀.heap.objs.size<=b)/\(∀x c,X.env.cells.lookup x=some c->c≠b)/\∀p∈X.pn ++ pins,p.1≠b
theorem Inv.fpOk {X:Cx} {pins:List (Addr×Obj)} {σ:St} {H H':Hp} {s:Al} {b:Addr} (I:Inv X pins σ H s) (hb:s.heap.objs.size<=b) (hn:H' b=none):cZ X pins H' b:=by
 refine ⟨hn,Nat.ne_of_gt (AS I.lt hb),I.nofs hb,.inr (AW I.sz hb),λ x c e z=>?_,λ p hp z=>?_⟩
 ·obtain ⟨v,q⟩:=I.cell x c e;exact absurd (AS q.lt (by rw [z]; exact hb)) (AY _)
 ·exact absurd (AS (AG (I.pin p hp).1) (by rw [z]; exact hb)) (AY _)
structure Turn (P:Program) (w:World) (K:AV) (tg:Expr) (J:It) (fp:List Addr) (it:Addr) (tn:Nat->Heap->Prop):Prop where
 mem:it∈fp
 obj:∀i h,tn i h->∀b∈fp,∃o,h.get? b=some o/\∀v,o.data≠.cell v
 keep:∀i h h',tn i h->(∀b∈fp,∀o,h.get? b=some o->h'.get? b=some o)->tn i h'
 item:∀ (X:Cx),X.prog=P->X.w=w->X.K=K->X.calm=true->∀ (i:Nat) (pins:List (Addr×Obj)) (s:Al) (σ:St) (H:Hp) (E:Ap->Al->Prop),Inv X pins σ H s->(∀b∈fp,cZ X pins H b)->tn i s.heap->J.go i H ->
  wpAny (model P w) X.A (pyNext (.ref it)) (λ r s1=>∃u,r=some u /\
   wpAny (model P w) X.A (letOwnedTupleGo tg (.ref it) u) (λ _ s2=>∃x H',Inv X pins σ H' s2/\RelV x u/\J.yld i H x H'/\tn (i + 1) s2.heap/\∀b∈fp,H' b=none) E s1) E s
 done:∀ (X:Cx),X.prog=P->X.w=w->X.K=K->X.calm=true->∀ (i:Nat) (pins:List (Addr×Obj)) (s:Al) (σ:St) (H:Hp) (E:Ap->Al->Prop),Inv X pins σ H s->(∀b∈fp,cZ X pins H b)->tn i s.heap->J.stop i H ->
  wpAny (model P w) X.A (pyNext (.ref it)) (λ r s1=>r=none/\Inv X pins σ H s1) E s
 self:∀ (A:Around) (i:Nat) (s:Al) (Q:Ap->Al->Prop) (E:Ap->Al->Prop),tn i s.heap->Q (.ref it) s->wpAny (model P w) A (pyIter (.ref it)) Q E s
abbrev TI:=St->Hp->(It->Hp->Prop)->Prop
def PIE (X:Cx) (pins:List (Addr×Obj)) (σ:St) (tg:Expr) (R:It->Hp->Prop) (itv:Ap) (s2:Al):Prop :=
 ∃ (it:Addr) (fp:List Addr) (tn:Nat->Heap->Prop) (J:It) (H':Hp),itv=.ref it/\Inv X pins σ H' s2/\Turn X.prog X.w X.K tg J fp it tn/\tn 0 s2.heap/\(∀b∈fp,cZ X pins H' b)/\R J H'
def PI (X:Cx) (tg iter:Expr) (wi:TI):Prop :=
 ∀ (pins:List (Addr×Obj)) (s:Al) (σ:St) (H:Hp) (R:It->Hp->Prop),Inv X pins σ H s->wi σ H R ->
  wpAny (model X.prog X.w) X.A (eval iter X.env) (λ v s1=>wpAny (model X.prog X.w) X.A (pyIter v) (PIE X pins σ tg R) X.xe s1) X.xe s
theorem ki {M:Model} {A:Around} {E:Ap->Al->Prop} {s:Al} {tg:Expr} {it:Addr} {u:Ap} {o:Obj} {n:String} {vs:Array Ap} {Q:Unit->Al->Prop} (ho:s.heap.get? it=some o) (hc:o.cls=.type n) (hd:o.data=.fields vs)
    (hn:["enumerate","zip","dict_itemiterator","dict_reverseitemiterator","odict_iterator","itertools.zip_longest","itertools.pairwise"].contains n=false) (hQ:Q () s):wpAny M A (letOwnedTupleGo tg (.ref it) u) Q E s:=by
  unfold letOwnedTupleGo;cases tg <;> first
    | exact AB hQ
    | (cases u <;> first
        | exact AB hQ
        | (refine AA (wpAny_load ho ?_)
           rw [hc,hd];show wpAny M A (if (["enumerate","zip","dict_itemiterator","dict_reverseitemiterator","odict_iterator","itertools.zip_longest","itertools.pairwise"].contains n && vs[0]? == some (rawInt _))=true then _ else _) Q E s;rw [if_neg (by intro h; rw [hn,Bool.false_and] at h; cases h)];exact AB hQ))
def Itl (K:AV) (a:Addr):It :=
 ⟨λ i H=>∃xs x,SqL K H a xs/\xs[i]? = some x,λ i H x H'=>H'=H/\∀xs,SqL K H a xs->xs[i]? = some x,λ i H=>∃xs,SqL K H a xs/\xs.length<=i⟩
def Itt (K:AV) (a:Addr):It :=
 ⟨λ i H=>∃xs x,SqT K H a xs/\xs[i]? = some x,λ i H x H'=>H'=H/\∀xs,SqT K H a xs->xs[i]? = some x,λ i H=>∃xs,SqT K H a xs/\xs.length<=i⟩
def Itr (lo:Int) (n:Nat):It:=⟨λ i _=>i < n,λ i H x H'=>H'=H/\x=.int (lo + i),λ i _=>n<=i⟩
theorem iW {P:Am} {w:Ao} {K:AV} {tg:Expr} (a it:Addr):Turn P w K tg (Itl K a) [it] it (λ i h=>h.IsListIter it a i) where
 mem:=by simp
 obj:=λ i h st b hb=>by
  have e:b=it:=by simpa using hb
  subst e;obtain ⟨o,e,c,d⟩:=st;exact ⟨o,e,λ v z=>by rw [d] at z; cases z⟩
 keep:=λ i h h' st k=>st.at λ o e=>k it (by simp) o e
 item:=by intro X hP hw hK hc i pins s σ H E I hf st hg;subst hP hw hK;obtain ⟨xs,x,hq,hx⟩:=hg;obtain ⟨its,rv,p,hz⟩:=I.list hq;obtain ⟨u,hu,ru⟩:=rv.get hx;obtain ⟨f0,f1,f2,f3,f4,f5⟩:=hf it (by simp);refine wpAny_pyNext_list_item st p.isList (x:=u) (by simpa using hu) λ h' st' sb=>?_;have I1:Inv X pins σ H { s with heap:=h' }:=I.turned (t':=s.toks) (λ b o hb e=>(sb.2 b hb).trans e) f0 f1 f3 f4 f5;obtain ⟨o,e,c,d⟩:=id st';exact ⟨u,Z,ki (s:={ s with heap:=h' }) e c d (by decide) ⟨x,H,I1,ru,⟨Z,λ ys hy=>by rw [I.list_inj hy hq]; exact hx⟩,st',λ b hb=>(hf b hb).1⟩⟩
 done:=by intro X hP hw hK hc i pins s σ H E I hf st hg;subst hP hw hK;obtain ⟨xs,hq,hx⟩:=hg;obtain ⟨its,rv,p,hz⟩:=I.list hq;obtain ⟨f0,f1,f2,f3,f4,f5⟩:=hf it (by simp);have hl:=rv.length;exact wpAny_pyNext_list_end (I.ok.hd hc) st p.isList (by simp; omega) λ h' eb=>⟨Z,I.turned (t':=s.toks) (λ b o hb e=>eb b o hb e) f0 f1 f3 f4 f5⟩
 self:=λ _ _ _ _ _ st h=>wpAny_pyIter_listiter st h
theorem gB {P:Am} {w:Ao} {K:AV} {tg:Expr} (a it:Addr):Turn P w K tg (Itt K a) [it] it (λ i h=>h.IsTupleIter it a i) where
 mem:=by simp
 obj:=λ i h st b hb=>by
  have e:b=it:=by simpa using hb
  subst e;obtain ⟨o,e,c,d⟩:=st;exact ⟨o,e,λ v z=>by rw [d] at z; cases z⟩
 keep:=λ i h h' st k=>st.at λ o e=>k it (by simp) o e
 item:=by intro X hP hw hK hc i pins s σ H E I hf st hg;subst hP hw hK;obtain ⟨xs,x,hq,hx⟩:=hg;obtain ⟨its,rv,p,hz⟩:=I.tuple hq;obtain ⟨u,hu,ru⟩:=rv.get hx;obtain ⟨f0,f1,f2,f3,f4,f5⟩:=hf it (by simp);refine wpAny_pyNext_tuple_item st (show s.heap.IsTuple a its.toArray from p) (x:=u) (by simpa using hu) λ h' st' sb=>?_;have I1:Inv X pins σ H { s with heap:=h' }:=I.turned (t':=s.toks) (λ b o hb e=>(sb.2 b hb).trans e) f0 f1 f3 f4 f5;obtain ⟨o,e,c,d⟩:=id st';exact ⟨u,Z,ki (s:={ s with heap:=h' }) e c d (by decide) ⟨x,H,I1,ru,⟨Z,λ ys hy=>by rw [I.tuple_inj hy hq]; exact hx⟩,st',λ b hb=>(hf b hb).1⟩⟩
 done:=by intro X hP hw hK hc i pins s σ H E I hf st hg;subst hP hw hK;obtain ⟨xs,hq,hx⟩:=hg;obtain ⟨its,rv,p,hz⟩:=I.tuple hq;obtain ⟨f0,f1,f2,f3,f4,f5⟩:=hf it (by simp);have hl:=rv.length;exact wpAny_pyNext_tuple_end (I.ok.hd hc) st (show s.heap.IsTuple a its.toArray from p) (by simp; omega) λ h' eb=>⟨Z,I.turned (t':=s.toks) (λ b o hb e=>eb b o hb e) f0 f1 f3 f4 f5⟩
 self:=λ _ _ _ _ _ st h=>wpAny_pyIter_tupleiter st h
theorem gC {P:Am} {w:Ao} {K:AV} {tg:Expr} (it:Addr) (lo:Int) (n:Nat):Turn P w K tg (Itr lo n) [it] it (λ i h=>IsRangeIter h it (lo + (i:Nat) * 1) ((n:Int) - (i:Nat)) 1) where
 mem:=by simp
 obj:=λ i h st b hb=>by
  have e:b=it:=by simpa using hb
  subst e;exact ⟨_,st,λ v z=>by
   have z':Data.fields _=Data.cell v:=z;cases z'⟩
 keep:=λ i h h' st k=>k it (by simp) _ st
 item:=by intro X hP hw hK hc i pins s σ H E I hf st hg;subst hP hw hK;obtain ⟨f0,f1,f2,f3,f4,f5⟩:=hf it (by simp);have W:=Walks.range (prog:=X.prog) (w:=X.w) (I.ok.hd hc) it lo 1 n;refine W.item i s _ _ hg st λ v h' tk hv st' kk=>?_;obtain ⟨t,rfl⟩:=hv;have I1:Inv X pins σ H { s with heap:=h',toks:=tk }:=I.turned (λ b o hb e=>kk b o (by simpa using hb) e) f0 f1 f3 f4 f5;refine ⟨_, Z, ki (s:={ s with heap:=h', toks:=tk }) (n := "range_iterator") st' rfl rfl (by decide) ⟨.int (lo + i), H, I1, ⟨t, ?_⟩, ⟨Z, Z⟩, st', λ b hb=>(hf b hb).1⟩⟩;rw [Int.mul_one]
 done:=by intro X hP hw hK hc i pins s σ H E I hf st hg;subst hP hw hK;obtain ⟨f0,f1,f2,f3,f4,f5⟩:=hf it (by simp);exact wpAny_pyNext_range_end (I.ok.hd hc) st (by have:n<=i:=hg; omega) λ h' eb=>⟨Z,I.turned (t':=s.toks) (λ b o hb e=>eb b o hb e) f0 f1 f3 f4 f5⟩
 self:=λ _ _ _ _ _ st h=>wpAny_pyIter_rangeiter st h
section
variable {X:Cx} {tg:Expr}
inductive iListA (K:AV) (R:It->Hp->Prop) (x:V) (H1:Hp):Prop
 | mk (a:Addr) (e_0:x=.ref a) (e_1:(∃xs,SqL K H1 a xs)) (e_2:R (Itl K a) H1):iListA K R x H1
def nj (K:AV) (tl:TE):TI:=λ σ H R=>tl σ H λ x H1=>iListA K R x H1
inductive iTupA (K:AV) (R:It->Hp->Prop) (x:V) (H1:Hp):Prop
 | mk (a:Addr) (e_0:x=.ref a) (e_1:(∃xs,SqT K H1 a xs)) (e_2:R (Itt K a) H1):iTupA K R x H1
def qo (K:AV) (tl:TE):TI:=λ σ H R=>tl σ H λ x H1=>iTupA K R x H1
theorem dF {l:Expr} {tl:TE} (hl:PE X l tl):PI X tg l (nj X.K tl):=by
 intro pins s σ H R I h;refine thn (hl pins s σ H _ I h) λ v s1 ⟨x,H1,I1,r1,q1⟩=>?_;obtain ⟨a,e,⟨xs,hq⟩,q⟩:=q1;subst e;cases r1;obtain ⟨its,rv,p,hz⟩:=I1.list hq;refine wpAny_pyIter_list p.isList ?_;refine ⟨s1.heap.objs.size,[s1.heap.objs.size],_,_,H1,Z,I1.kept (t':=s1.toks) λ b o e=>AE _ e,iW a _,⟨_,AF _ rfl,Z,Z⟩,λ b hb=>?_,q⟩;have e:b=s1.heap.objs.size:=by simpa using hb
 subst e;exact I1.fpOk (AJ _) (I1.hok.fresh (AJ _))
theorem nQ {l:Expr} {tl:TE} (hl:PE X l tl):PI X tg l (qo X.K tl):=by
 intro pins s σ H R I h;refine thn (hl pins s σ H _ I h) λ v s1 ⟨x,H1,I1,r1,q1⟩=>?_;obtain ⟨a,e,⟨xs,hq⟩,q⟩:=q1;subst e;cases r1;obtain ⟨its,rv,p,hz⟩:=I1.tuple hq;refine wpAny_pyIter_tuple (show s1.heap.IsTuple a its.toArray from p) ?_;refine ⟨s1.heap.objs.size,[s1.heap.objs.size],_,_,H1,Z,I1.kept (t':=s1.toks) λ b o e=>AE _ e,gB a _,⟨_,AF _ rfl,Z,Z⟩,λ b hb=>?_,q⟩;have e:b=s1.heap.objs.size:=by simpa using hb
 subst e;exact I1.fpOk (AJ _) (I1.hok.fresh (AJ _))
theorem kj {pins:List (Addr×Obj)} {σ:St} {H:Hp} {s:Al} {R:It->Hp->Prop} {E:Ap->Al->Prop} {lo hi:Int} {t u v:Tok} {tk:Nat} (I:Inv X pins σ H s) (h1:-(2 ^ 62)<=lo) (h2:lo < 2 ^ 62) (h3:-(2 ^ 62)<=hi) (h4:hi < 2 ^ 62)
  (q:R (Itr lo (hi - lo).toNat) H):wpAny (model X.prog X.w) X.A (pyIter (.ref s.heap.objs.size)) (PIE X pins σ tg R) E { s with heap:=s.heap.push { cls:=.type "range",data:=.fields #[.int lo t,.int hi u,.int 1 v] },toks:=tk }:=by
 refine wpAny_pyIter_range (IsRange.new ..) (small_one h1 h2 h3 h4) ?_;have I1:Inv X pins σ H { s with heap:=s.heap.push { cls:=.type "range",data:=.fields #[.int lo t,.int hi u,.int 1 v] },toks:=tk }:=I.kept λ b o e=>AE _ e;refine ⟨(s.heap.push { cls:=.type "range",data:=.fields #[.int lo t,.int hi u,.int 1 v] }).objs.size,[(s.heap.push { cls:=.type "range",data:=.fields #[.int lo t,.int hi u,.int 1 v] }).objs.size],_,_,H,Z,
  I1.kept (t':=tk) λ b o e=>AE _ e,gC _ lo (hi - lo).toNat,?_,λ b hb=>?_,q⟩
 ·have e1:lo + ((0:Nat):Int) * 1=lo:=by simp
  have e2:(((hi - lo).toNat:Nat):Int) - ((0:Nat):Int)=Builtin.Range.rangeSize lo hi 1:=by rw [rangeSize_one]; split <;> omega
  show IsRangeIter _ _ (lo + ((0:Nat):Int) * 1) ((((hi - lo).toNat:Nat):Int) - ((0:Nat):Int)) 1;rw [e1,e2];exact AF _ rfl
 ·have e:b=(s.heap.push { cls:=.type "range",data:=.fields #[.int lo t,.int hi u,.int 1 v] }).objs.size:=by simpa using hb
  subst e;exact I1.fpOk (AJ _) (I1.hok.fresh (AJ _))
def qp (ta:TA):TI:=λ σ H R=>ta σ H λ vs H1=>∃j:Int,vs=[.int j]/\-(2 ^ 62)<=j/\j < 2 ^ 62/\R (Itr 0 j.toNat) H1
theorem cy {a:Expr} {ta:TA} {p pos:Pos} (hg:Gl X "range") (hm:X.mg "range" = none) (ha:PA X [a] ta) (hs:starEach [a] X.env=[(false,eval a X.env)]:=by rfl):PI X tg (.Call (.Name "range" p) [a] [] pos) (qp ta):=by
 intro pins s σ H R I h;refine Call_ (dX I hg hm boot_range (PyProof.Rows.callWith_type1 (thn (ha pos pins s σ H _ I h) λ us s1 ⟨vs,H1,I1,r1,q1⟩=>?_) hs rfl));obtain ⟨j,e,q1,q2,q⟩:=q1;subst e;cases r1 with
 | cons r rr =>
  cases rr;obtain ⟨t,rfl⟩:=r;exact call_range_1 (kj I1 (by omega) (by omega) q1 q2 (by simpa using q))
def qq (wi:TI) (g:TG) (tb:TS):TS:=λ D σ H=>wi σ H λ J H1=>∃W:Nat->Nat->St->Hp->Prop,(∃m,W 0 m σ H1)/\∀i m σ H,W i m σ H ->
 (J.stop i H/\D.nx σ H)\/(J.go i H/\∃N:St->Hp->Prop,(∀σ' H',N σ' H'->∃m',m' < m/\W (i + 1) m' σ' H')/\∀x H',J.yld i H x H'->g x σ H' λ σ2 H2=>tb { D with nx:=N,ct:=N,bk:=D.nx } σ2 H2)
def fq (fp:List Addr) (h:Heap):List (Addr×Obj):=fp.filterMap λ b=>(h.get? b).map λ o=>(b,o)
theorem bp {fp:List Addr} {h:Heap} {b:Addr} {o:Obj} (hb:b∈fp) (e:h.get? b=some o):(b,o)∈fq fp h:=List.mem_filterMap.mpr ⟨b,hb,by rw [e]; rfl⟩
theorem iX {fp:List Addr} {h:Heap} {p:Addr×Obj} (hp:p∈fq fp h):p.1∈fp/\h.get? p.1=some p.2:=by
 obtain ⟨b,hb,e⟩:=List.mem_filterMap.mp hp;cases q:h.get? b with
 | none=>rw [q] at e; cases e
 | some o =>
  rw [q] at e;have e':(b,o)=p:=AO e;subst e';exact ⟨hb,q⟩
theorem Inv.pinned {pins:List (Addr×Obj)} {σ:St} {H:Hp} {s:Al} {fp:List Addr} (I:Inv X pins σ H s) (hf:∀b∈fp,cZ X pins H b) (ho:∀b∈fp,∃o,s.heap.get? b=some o/\∀v,o.data≠.cell v):Inv X (pins ++ fq fp s.heap) σ H s :=
 I.pins_of λ p hp=>(AT.mp hp).elim (λ z=>I.pin p (AC _ z)) λ z=>by obtain ⟨hb,e⟩:=iX z;obtain ⟨f0,f1,f2,_⟩:=hf p.1 hb;obtain ⟨o,e',d⟩:=ho p.1 hb;rw [e] at e'; cases e';exact ⟨e,f0,f1,f2,d⟩
theorem Inv.unpinned {pins pl:List (Addr×Obj)} {σ:St} {H:Hp} {s:Al} (I:Inv X (pins ++ pl) σ H s):Inv X pins σ H s:=I.pins_of λ p hp=>I.pin p (AC _ (AM _ hp))
theorem bN {iter:Expr} {body:List Stmt} {wi:TI} {g:TG} {tb:TS} {pos:Pos} (hp:PassesOwn (model X.prog X.w) X.A X.env X.xe) (hc:X.calm=true) (hi:PI X tg iter wi) (hg:PG X tg g) (hb:PSs X body tb)
  (hs:∀x,foldedSetIterable iter X.env x=pure x:=by intro _; rfl):PS X (.For tg iter body [] pos) (qq wi g tb):=by
 intro pins s σ H D I h;refine wpAny_For (thn (hi pins s σ H _ I h) λ v s1 h1=>thn h1 λ itv s2 h2=>?_) hs;obtain ⟨it,fp,tn,J,H2,e,I2,T,st2,f2,W,⟨m0,w0⟩,turn⟩:=h2;subst e;have stat:∀ {H':Hp},(∀b∈fp,H' b=none)->∀b∈fp,cZ X pins H' b:=λ hn b hb=>⟨hn b hb,(f2 b hb).2⟩
 refine codeAny_forLoop_any (λ n s'=>∃i σ' H',Inv X pins σ' H' s'/\tn i s'.heap/\(∀b∈fp,H' b=none)/\W i n σ' H') ?_ m0 ⟨0,σ,H2,I2,st2,λ b hb=>(f2 b hb).1,w0⟩;rintro n s3 ⟨i,σ3,H3,I3,st3,fr3,w3⟩;rcases turn i n σ3 H3 w3 with ⟨stop,qn⟩ | ⟨go,N,hN,step⟩
 ·refine wpAny_passesOwn hp (thn (T.done X rfl rfl rfl hc i pins s3 σ3 H3 X.xe I3 (stat fr3) st3 stop) λ r s4 ⟨hr,I4⟩=>?_);subst hr;exact wpAny_execs_nil ⟨σ3,H3,I4,qn⟩
 ·refine wpAny_passesOwn hp (thn (T.item X rfl rfl rfl hc i pins s3 σ3 H3 X.xe I3 (stat fr3) st3 go) λ r s4 ⟨u,hr,h4⟩=>?_);subst hr;refine wpAny_passesOwn hp (thn h4 λ _ s5 ⟨x,H5,I5,r5,y5,st5,fr5⟩=>?_);have I5':=I5.pinned (stat fr5) (T.obj _ _ st5);refine wpAny_passesOwn hp (thn (hg _ s5 σ3 H5 x u _ I5' r5 (step x H5 y5)) λ _ s6 ⟨σ6,H6,I6,q6⟩=>?_);refine wpAny_passesOwn hp (thn (hb _ s6 σ6 H6 _ I6 q6) λ f s7 q7=>?_);have again:∀ {σ7:St} {H7:Hp},Inv X (pins ++ fq fp s5.heap) σ7 H7 s7->N σ7 H7->∃m,m < n/\∃i σ' H',Inv X pins σ' H' s7/\tn i s7.heap/\(∀b∈fp,H' b=none)/\W i m σ' H':=λ {σ7 H7} I7 n7=>by obtain ⟨m',hm,w7⟩:=hN σ7 H7 n7;refine ⟨m',hm,i + 1,σ7,H7,I7.unpinned,T.keep _ _ _ st5 λ b hb o e=>(I7.pin (b,o) (AC _ (AC _ (bp hb e)))).1,λ b hb=>?_,w7⟩;obtain ⟨o,e,d⟩:=T.obj _ _ st5 b hb;exact (I7.pin (b,o) (AC _ (AC _ (bp hb e)))).2.1
  cases f with
  | next=>obtain ⟨σ7,H7,I7,n7⟩:=q7; exact again I7 n7
  | cont=>obtain ⟨σ7,H7,I7,n7⟩:=q7; exact again I7 n7
  | brk=>obtain ⟨σ7,H7,I7,q7⟩:=q7; exact ⟨σ7,H7,I7.unpinned,q7⟩
  | ret v=>obtain ⟨x7,σ7,H7,I7,r7,q7⟩:=q7; exact ⟨x7,σ7,H7,I7.unpinned,r7,q7⟩
end
theorem dY {K:AV} {a:Addr} {xs:List V} {g:TG} {tb:TS} {D:Ends} {σ:St} {H:Hp} (Pv:Nat->St->Hp->Prop) (h0:Pv 0 σ H) (hl:∀i σ H,i<=xs.length->Pv i σ H->SqL K H a xs)
  (hs:∀i x σ H,xs[i]? = some x->Pv i σ H->g x σ H λ σ2 H2=>tb { D with nx:=Pv (i + 1),ct:=Pv (i + 1),bk:=D.nx } σ2 H2) (hd:∀σ H,Pv xs.length σ H->D.nx σ H) :
  ∃W:Nat->Nat->St->Hp->Prop,(∃m,W 0 m σ H)/\∀i m σ H,W i m σ H ->
   ((Itl K a).stop i H/\D.nx σ H)\/((Itl K a).go i H/\∃N:St->Hp->Prop,(∀σ' H',N σ' H'->∃m',m' < m/\W (i + 1) m' σ' H')/\∀x H',(Itl K a).yld i H x H'->g x σ H' λ σ2 H2=>tb { D with nx:=N,ct:=N,bk:=D.nx } σ2 H2):=by
 refine ⟨λ i m σ H=>m=xs.length - i/\i<=xs.length/\Pv i σ H,⟨xs.length,by simp,Ae _,h0⟩,?_⟩;rintro i m σ H ⟨rfl,hi,p⟩;have q:=hl i σ H hi p
 by_cases hlt:i < xs.length
 ·refine .inr ⟨⟨xs,xs[i],q,by simp [hlt]⟩,Pv (i + 1),λ σ' H' p'=>⟨xs.length - (i + 1),by omega,Z,hlt,p'⟩,λ x H' y=>?_⟩;obtain ⟨e,y⟩:=y;subst e;exact hs i x σ _ (y xs q) p
 ·have e:i=xs.length:=by omega
  subst e;exact .inl ⟨⟨xs,q,AJ _⟩,hd σ H p⟩
theorem lY {K:AV} {a:Addr} {xs:List V} {g:TG} {tb:TS} {D:Ends} {σ:St} {H:Hp} (Pv:Nat->St->Hp->Prop) (h0:Pv 0 σ H) (hl:∀i σ H,i<=xs.length->Pv i σ H->SqT K H a xs)
  (hs:∀i x σ H,xs[i]? = some x->Pv i σ H->g x σ H λ σ2 H2=>tb { D with nx:=Pv (i + 1),ct:=Pv (i + 1),bk:=D.nx } σ2 H2) (hd:∀σ H,Pv xs.length σ H->D.nx σ H) :
  ∃W:Nat->Nat->St->Hp->Prop,(∃m,W 0 m σ H)/\∀i m σ H,W i m σ H ->
   ((Itt K a).stop i H/\D.nx σ H)\/((Itt K a).go i H/\∃N:St->Hp->Prop,(∀σ' H',N σ' H'->∃m',m' < m/\W (i + 1) m' σ' H')/\∀x H',(Itt K a).yld i H x H'->g x σ H' λ σ2 H2=>tb { D with nx:=N,ct:=N,bk:=D.nx } σ2 H2):=by
 refine ⟨λ i m σ H=>m=xs.length - i/\i<=xs.length/\Pv i σ H,⟨xs.length,by simp,Ae _,h0⟩,?_⟩;rintro i m σ H ⟨rfl,hi,p⟩;have q:=hl i σ H hi p
 by_cases hlt:i < xs.length
 ·refine .inr ⟨⟨xs,xs[i],q,by simp [hlt]⟩,Pv (i + 1),λ σ' H' p'=>⟨xs.length - (i + 1),by omega,Z,hlt,p'⟩,λ x H' y=>?_⟩;obtain ⟨e,y⟩:=y;subst e;exact hs i x σ _ (y xs q) p
 ·have e:i=xs.length:=by omega
  subst e;exact .inl ⟨⟨xs,q,AJ _⟩,hd σ H p⟩
theorem cz {lo:Int} {n:Nat} {g:TG} {tb:TS} {D:Ends} {σ:St} {H:Hp} (Pv:Nat->St->Hp->Prop) (h0:Pv 0 σ H)
  (hs:∀i σ H,i < n->Pv i σ H->g (.int (lo + i)) σ H λ σ2 H2=>tb { D with nx:=Pv (i + 1),ct:=Pv (i + 1),bk:=D.nx } σ2 H2) (hd:∀σ H,Pv n σ H->D.nx σ H) :
  ∃W:Nat->Nat->St->Hp->Prop,(∃m,W 0 m σ H)/\∀i m σ H,W i m σ H ->
   ((Itr lo n).stop i H/\D.nx σ H)\/((Itr lo n).go i H/\∃N:St->Hp->Prop,(∀σ' H',N σ' H'->∃m',m' < m/\W (i + 1) m' σ' H')/\∀x H',(Itr lo n).yld i H x H'->g x σ H' λ σ2 H2=>tb { D with nx:=N,ct:=N,bk:=D.nx } σ2 H2):=by
 refine ⟨λ i m σ H=>m=n - i/\i<=n/\Pv i σ H,⟨n,by simp,Ae _,h0⟩,?_⟩;rintro i m σ H ⟨rfl,hi,p⟩
 by_cases hlt:i < n
 ·refine .inr ⟨hlt,Pv (i + 1),λ σ' H' p'=>⟨n - (i + 1),by omega,Z,hlt,p'⟩,λ x H' y=>?_⟩;obtain ⟨e,y⟩:=y;subst e y;exact hs i σ _ hlt p
 ·have e:i=n:=by omega
  subst e;exact .inl ⟨AJ _,hd σ H p⟩
abbrev R2:=V->V->Hp->VK->Prop
def OpR (X:Cx) (f:Ap->Ap->Sem Ap) (r:R2):Prop :=
 ∀ (pins:List (Addr×Obj)) (s:Al) (σ:St) (H:Hp) (x y:V) (v u:Ap) (Q:VK),Inv X pins σ H s->RelV x v->RelV y u->r x y H Q ->
  wpAny (model X.prog X.w) X.A (f v u) (EP X pins σ Q) X.xe s
def UnR (X:Cx) (f:Ap->Sem Ap) (r:V->Hp->VK->Prop):Prop :=
 ∀ (pins:List (Addr×Obj)) (s:Al) (σ:St) (H:Hp) (x:V) (v:Ap) (Q:VK),Inv X pins σ H s->RelV x v->r x H Q ->
  wpAny (model X.prog X.w) X.A (f v) (EP X pins σ Q) X.xe s
def bQ (X:Cx) (f:Ap) (r:List V->Hp->VK->Prop):Prop :=
 ∀ (pins:List (Addr×Obj)) (s:Al) (σ:St) (H:Hp) (xs:List V) (us:List Ap) (Q:VK),Inv X pins σ H s->Vals xs us->r xs H Q ->
  wpAny (model X.prog X.w) X.A (call f us) (EP X pins σ Q) X.xe s
def tOp (r:R2) (ta tb:TE):TE:=λ σ H Q=>ta σ H λ x H1=>tb σ H1 λ y H2=>r x y H2 Q
def tUn (r:V->Hp->VK->Prop) (ta:TE):TE:=λ σ H Q=>ta σ H λ x H1=>r x H1 Q
inductive rI (C:Int->Int->Prop) (g:Int->Int->V) (x:V) (y:V) (H:Hp) (Q:VK):Prop
 | mk (i:Int) (j:Int) (e_0:x=.int i) (e_1:y=.int j) (e_2:C i j) (e_3:Q (g i j) H):rI C g x y H Q
inductive rI0 (g:Int->Int->V) (x:V) (y:V) (H:Hp) (Q:VK):Prop
 | mk (i:Int) (j:Int) (e_0:x=.int i) (e_1:y=.int j) (e_2:Q (g i j) H):rI0 g x y H Q
def rU (g:Int->V):V->Hp->VK->Prop:=λ x H Q=>∃i,x=.int i/\Q (g i) H
section
variable {X:Cx} {a b c:Expr} {ta tb tc:TE} {pos:Pos}
theorem nR (ha:PE X a ta) (hb:PE X b tb) {pins:List (Addr×Obj)} {s:Al} {σ:St} {H:Hp} {R:V->V->Hp->Prop} (I:Inv X pins σ H s)
  (h:ta σ H λ x H1=>tb σ H1 λ y H2=>R x y H2) {Q:Ap->Al->Prop} {f:Ap->Ap->Sem Ap}
  (hf:∀v u s2 x y H2,Inv X pins σ H2 s2->RelV x v->RelV y u->R x y H2->wpAny (model X.prog X.w) X.A (f v u) Q X.xe s2) :
  wpAny (model X.prog X.w) X.A (eval a X.env) (λ v s₁=>wpAny (model X.prog X.w) X.A (eval b X.env) (λ u s₂=>wpAny (model X.prog X.w) X.A (f v u) Q X.xe s₂) X.xe s₁) X.xe s:=by
 refine thn (ha pins s σ H _ I h) λ v s1 ⟨x,H1,I1,r1,q1⟩=>?_;refine thn (hb pins s1 σ H1 _ I1 q1) λ u s2 ⟨y,H2,I2,r2,q2⟩=>?_;exact hf v u s2 x y H2 I2 r1 r2 q2
theorem av {op:Operator} {r:R2} (ho:OpR X (binaryOp op) r) (ha:PE X a ta) (hb:PE X b tb):PE X (.BinOp a op b pos) (tOp r ta tb):=by intro pins s σ H Q I h;exact wpAny_BinOp (nR ha hb I h λ v u s2 x y H2 I2 rx ry q=>ho pins s2 σ H2 x y v u Q I2 rx ry q)
theorem nq {op:UnaryOp} {r:V->Hp->VK->Prop} (ho:UnR X (unaryOp op) r) (ha:PE X a ta):PE X (.UnaryOp op a pos) (tUn r ta):=by intro pins s σ H Q I h;exact UnaryOp_ (thn (ha pins s σ H _ I h) λ v s1 ⟨x,H1,I1,r1,q1⟩=>ho pins s1 σ H1 x v Q I1 r1 q1)
theorem opI {f:Ap->Ap->Sem Ap} {C:Int->Int->Prop} {g:Int->Int->Int}
  (rule:∀ (i j:Int) (t u:Tok) (s:Al) (Q:Ap->Al->Prop) (E:Ap->Al->Prop),C i j->Q (.int (g i j) s.toks) { s with toks:=s.toks + 1 }->wpAny (model X.prog X.w) X.A (f (.int i t) (.int j u)) Q E s) :
  OpR X f (rI C λ i j=>.int (g i j)):=by
 intro pins s σ H x y v u Q I rx ry h;obtain ⟨i,j,rfl,rfl,hc,q⟩:=h;obtain ⟨t,rfl⟩:=rx;obtain ⟨t',rfl⟩:=ry;exact rule i j t t' s _ _ hc ⟨.int (g i j),H,I.tok _,⟨_,rfl⟩,q⟩
theorem qr {f:Ap->Ap->Sem Ap} {g:Int->Int->Int}
  (rule:∀ (i j:Int) (t u:Tok) (s:Al) (Q:Ap->Al->Prop) (E:Ap->Al->Prop),Q (.int (g i j) s.toks) { s with toks:=s.toks + 1 }->wpAny (model X.prog X.w) X.A (f (.int i t) (.int j u)) Q E s) :
  OpR X f (rI0 λ i j=>.int (g i j)):=by
 intro pins s σ H x y v u Q I rx ry h;obtain ⟨i,j,rfl,rfl,q⟩:=h;obtain ⟨t,rfl⟩:=rx;obtain ⟨t',rfl⟩:=ry;exact rule i j t t' s _ _ ⟨.int (g i j),H,I.tok _,⟨_,rfl⟩,q⟩
theorem lZ {f:Ap->Ap->Sem Ap} {g:Int->Int->Bool}
  (rule:∀ (i j:Int) (t u:Tok) (s:Al) (Q:Ap->Al->Prop) (E:Ap->Al->Prop),Q (.bool (g i j)) s->wpAny (model X.prog X.w) X.A (f (.int i t) (.int j u)) Q E s) :
  OpR X f (rI0 λ i j=>.bl (g i j)):=by
 intro pins s σ H x y v u Q I rx ry h;obtain ⟨i,j,rfl,rfl,q⟩:=h;obtain ⟨t,rfl⟩:=rx;obtain ⟨t',rfl⟩:=ry;exact rule i j t t' s _ _ ⟨.bl (g i j),H,I,rfl,q⟩
def xc (i j:Int):Prop:=0<=j/\j<=1000000/\i.natAbs < 2 ^ 64
def CMul (i j:Int):Prop:=(-(2 ^ 64) < i/\i < 2 ^ 64)\/(-(2 ^ 64) < j/\j < 2 ^ 64)
theorem CMul.ok {i j:Int} (h:CMul i j):IntMulOk i j:=by
 rcases h with ⟨h1,h2⟩ | ⟨h1,h2⟩
 ·exact .of_left (intBits_le_64 h1 h2)
 ·exact .of_right (intBits_le_64 h1 h2)
theorem aM:OpR X (binaryOp .Add) (rI0 λ i j=>.int (i + j)):=qr λ _ _ _ _ _ _ _ q=>add_int q
theorem de:OpR X (binaryOp .Sub) (rI0 λ i j=>.int (i - j)):=qr λ _ _ _ _ _ _ _ q=>sub_int q
theorem cI:OpR X (binaryOp .Mult) (rI CMul λ i j=>.int (i * j)):=opI λ _ _ _ _ _ _ _ hc q=>mul_int q hc.ok
theorem cJ:OpR X (binaryOp .Mod) (rI (λ _ j=>0 < j) λ i j=>.int (i % j)):=opI λ i j _ _ _ _ _ hc q=>by have h1:(0:Int) < j:=hc;exact mod_int' (by omega) (by rw [Int.fmod_eq_emod_of_nonneg i (by omega)]; exact q)
theorem cm:OpR X (binaryOp .Pow) (rI xc λ i j=>.int (i ^ j.toNat)):=opI λ _ _ _ _ _ _ _ hc q=>pow_int_small hc.1 hc.2.1 hc.2.2 q
theorem unI {f:Ap->Sem Ap} {g:Int->Int}
  (rule:∀ (i:Int) (t:Tok) (s:Al) (Q:Ap->Al->Prop) (E:Ap->Al->Prop),Q (.int (g i) s.toks) { s with toks:=s.toks + 1 }->wpAny (model X.prog X.w) X.A (f (.int i t)) Q E s) :
  UnR X f (rU λ i=>.int (g i)):=by
 intro pins s σ H x v Q I rx h;obtain ⟨i,rfl,q⟩:=h;obtain ⟨t,rfl⟩:=rx;exact rule i t s _ _ ⟨.int (g i),H,I.tok _,⟨_,rfl⟩,q⟩
theorem km:UnR X (unaryOp .USub) (rU λ i=>.int (-i)):=unI λ _ _ _ _ _ q=>neg_int q
end
def qt:V->V->Bool
 | .non,.non=>true | .non,.int _=>true | .int _,.non=>true | .non,.bl _=>true | .bl _,.non=>true | .non,.str _=>true | .str _,.non=>true
 | .int _,.int _=>true | .bl _,.bl _=>true | .str _,.str _=>true | .byt _,.byt _=>true
 | .int _,.str _=>true | .str _,.int _=>true | .bl _,.str _=>true | .str _,.bl _=>true
 | _,_=>false
def rEq:R2:=λ x y H Q=>qt x y=true/\Q (.bl (decide (x=y))) H
def rNe:R2:=λ x y H Q=>qt x y=true/\Q (.bl (!decide (x=y))) H
theorem ft {i j:Int}:decide (V.int i=V.int j)=(i == j):=by rw [Bool.eq_iff_iff];simp
theorem kn {i j:Bool}:decide (V.bl i=V.bl j)=(i == j):=by rw [Bool.eq_iff_iff];simp
theorem iy {i j:Str}:decide (V.str i=V.str j)=(i == j):=by rw [Bool.eq_iff_iff];simp
theorem iz {i j:Array UInt8}:decide (V.byt i=V.byt j)=(i.toList == j.toList):=by rw [Bool.eq_iff_iff];cases i;cases j;simp
section
variable {X:Cx} {a b c:Expr} {ta tb tc:TE} {pos:Pos}
theorem aG {pins:List (Addr×Obj)} {σ:St} {H:Hp} {s:Al} {Q:VK} {k k':Bool} (I:Inv X pins σ H s) (q:Q (.bl k) H) (e:k=k'):EP X pins σ Q (.bool k') s:=by subst e;exact ⟨.bl k,H,I,Z,q⟩
theorem cH:OpR X (compareOp .Eq) rEq:=by
 intro pins s σ H x y v u Q I rx ry h;obtain ⟨hs,q⟩:=h;cases x with
 | non =>
  cases rx;cases y with
  | non=>cases ry; exact PySem.EqNone.eq_none_none (aG I q (by simp))
  | bl j=>cases ry; exact PySem.EqNone.eq_none_bool (aG I q (by simp))
  | int j=>obtain ⟨t',rfl⟩:=ry; exact PySem.EqNone.eq_none_int (aG I q (by simp))
  | str j=>obtain ⟨t',rfl⟩:=ry; exact PySem.EqNone.eq_none_str (aG I q (by simp))
  | _=>exact absurd (show false=true from hs) AI
 | bl i =>
  cases rx;cases y with
  | non=>cases ry; exact PySem.EqNone.eq_bool_none (aG I q (by simp))
  | bl j=>cases ry; exact eq_bool (aG I q kn)
  | str j=>obtain ⟨t',rfl⟩:=ry; exact PySem.EqMixed.eq_bool_str (aG I q (by simp))
  | _=>exact absurd (show false=true from hs) AI
 | int i =>
  obtain ⟨t,rfl⟩:=rx;cases y with
  | non=>cases ry; exact PySem.EqNone.eq_int_none (aG I q (by simp))
  | int j=>obtain ⟨t',rfl⟩:=ry; exact eq_int (aG I q ft)
  | str j=>obtain ⟨t',rfl⟩:=ry; exact PySem.EqMixed.eq_int_str (aG I q (by simp))
  | _=>exact absurd (show false=true from hs) AI
 | str i =>
  obtain ⟨t,rfl⟩:=rx;cases y with
  | non=>cases ry; exact PySem.EqNone.eq_str_none (aG I q (by simp))
  | bl j=>cases ry; exact PySem.EqMixed.eq_str_bool (aG I q (by simp))
  | int j=>obtain ⟨t',rfl⟩:=ry; exact PySem.EqMixed.eq_str_int (aG I q (by simp))
  | str j=>obtain ⟨t',rfl⟩:=ry; exact eq_str (aG I q iy)
  | _=>exact absurd (show false=true from hs) AI
 | byt i =>
  obtain ⟨t,rfl⟩:=rx;cases y with
  | byt j=>obtain ⟨t',rfl⟩:=ry; exact PySem.W.eq_bytes (aG I q iz)
  | _=>exact absurd (show false=true from hs) AI
 | _=>cases y <;> exact absurd (show false=true from hs) AI
theorem dZ:OpR X (compareOp .NotEq) rNe:=by
 intro pins s σ H x y v u Q I rx ry h;obtain ⟨hs,q⟩:=h;cases x with
 | non =>
  cases rx;cases y with
  | non=>cases ry; exact PySem.EqNone.ne_none_none (aG I q (by simp))
  | bl j=>cases ry; exact PySem.EqNone.ne_none_bool (aG I q (by simp))
  | int j=>obtain ⟨t',rfl⟩:=ry; exact PySem.EqNone.ne_none_int (aG I q (by simp))
  | str j=>obtain ⟨t',rfl⟩:=ry; exact PySem.EqNone.ne_none_str (aG I q (by simp))
  | _=>exact absurd (show false=true from hs) AI
 | bl i =>
  cases rx;cases y with
  | non=>cases ry; exact PySem.EqNone.ne_bool_none (aG I q (by simp))
  | bl j=>cases ry; exact ne_bool (aG I q (congrArg not kn))
  | str j=>obtain ⟨t',rfl⟩:=ry; exact PySem.EqMixed.ne_bool_str (aG I q (by simp))
  | _=>exact absurd (show false=true from hs) AI
 | int i =>
  obtain ⟨t,rfl⟩:=rx;cases y with
  | non=>cases ry; exact PySem.EqNone.ne_int_none (aG I q (by simp))
  | int j=>obtain ⟨t',rfl⟩:=ry; exact ne_int (aG I q (congrArg not ft))
  | str j=>obtain ⟨t',rfl⟩:=ry; exact PySem.EqMixed.ne_int_str (aG I q (by simp))
  | _=>exact absurd (show false=true from hs) AI
 | str i =>
  obtain ⟨t,rfl⟩:=rx;cases y with
  | non=>cases ry; exact PySem.EqNone.ne_str_none (aG I q (by simp))
  | bl j=>cases ry; exact PySem.EqMixed.ne_str_bool (aG I q (by simp))
  | int j=>obtain ⟨t',rfl⟩:=ry; exact PySem.EqMixed.ne_str_int (aG I q (by simp))
  | str j=>obtain ⟨t',rfl⟩:=ry; exact ne_str (aG I q (congrArg not iy))
  | _=>exact absurd (show false=true from hs) AI
 | byt i =>
  obtain ⟨t,rfl⟩:=rx;cases y with
  | byt j=>obtain ⟨t',rfl⟩:=ry; exact PySem.W.ne_bytes (aG I q (congrArg not iz))
  | _=>exact absurd (show false=true from hs) AI
 | _=>cases y <;> exact absurd (show false=true from hs) AI
theorem iA:OpR X (compareOp .Lt) (rI0 λ i j=>.bl (decide (i < j))):=lZ λ _ _ _ _ _ _ _ q=>lt_int q
theorem dy:OpR X (compareOp .LtE) (rI0 λ i j=>.bl (decide (i<=j))):=lZ λ _ _ _ _ _ _ _ q=>le_int q
theorem iB:OpR X (compareOp .Gt) (rI0 λ i j=>.bl (decide (j < i))):=lZ λ _ _ _ _ _ _ _ q=>gt_int q
theorem kq:OpR X (compareOp .GtE) (rI0 λ i j=>.bl (decide (j<=i))):=lZ λ _ _ _ _ _ _ _ q=>ge_int q
theorem aA (b:Expr) {op:CmpOp} (h:op≠.In:=by decide) (h2:op≠.NotIn:=by decide):behindInMarks op b=false:=by
 have e1:(op == CmpOp.In)=false:=by cases op <;> first | rfl | exact absurd rfl h
 have e2:(op == CmpOp.NotIn)=false:=by cases op <;> first | rfl | exact absurd rfl h2
 cases b <;> simp [behindInMarks,e1,e2]
theorem aY {op:CmpOp} {r:R2} (ho:OpR X (compareOp op) r) (ha:PE X a ta) (hb:PE X b tb) (hm:behindInMarks op b=false):PE X (.Compare a [op] [b] pos) (tOp r ta tb):=by intro pins s σ H Q I h;exact wpAny_Compare1 (nR ha hb I h λ v u s2 x y H2 I2 rx ry q=>ho pins s2 σ H2 x y v u Q I2 rx ry q) hm
def nr (t:TE):TT:=λ σ H Q=>t σ H λ x H'=>IsB x λ k=>Q k H'
theorem aH {op:CmpOp} {r:R2} (ho:OpR X (compareOp op) r) (ha:PE X a ta) (hb:PE X b tb) (hm:behindInMarks op b=false):PT X (.Compare a [op] [b] pos) (nr (tOp r ta tb)):=by
 intro pins s σ H Q I h;refine wpAny_isTrue_Compare1 (thn (ha pins s σ H _ I h) λ v s1 ⟨x,H1,I1,r1,q1⟩=>thn (hb pins s1 σ H1 _ I1 q1) λ u s2 ⟨y,H2,I2,r2,q2⟩ =>
  thn (ho pins s2 σ H2 x y v u _ I2 r1 r2 q2) λ c s3 ⟨z,H3,I3,r3,k,e,q3⟩=>?_) hm
 subst e;cases r3;exact Ah ⟨H3,I3,q3⟩
def nS (r r':R2) (ta tb tc:TE):TE:=λ σ H Q=>ta σ H λ x H1=>tb σ H1 λ y H2=>r x y H2 λ z H3=>∃k,z=.bl k /\
 (if k=true then tc σ H3 λ w' H4=>r' y w' H4 Q else Q (.bl false) H3)
theorem ku {op op':CmpOp} {r r':R2} (ho:OpR X (compareOp op) r) (ho':OpR X (compareOp op') r') (ha:PE X a ta) (hb:PE X b tb) (hc:PE X c tc)
  (hm:lastMarks [op,op'] [b,c]=false:=by with_unfolding_all rfl):PT X (.Compare a [op,op'] [b,c] pos) (nr (nS r r' ta tb tc)):=by
 intro pins s σ H Q I h;refine isTrue_chain (thn (ha pins s σ H _ I h) λ v s1 ⟨x,H1,I1,r1,q1⟩=>test_link (thn (hb pins s1 σ H1 _ I1 q1) λ u s2 ⟨y,H2,I2,r2,q2⟩ =>
  thn (ho pins s2 σ H2 x y v u _ I2 r1 r2 q2) λ d s3 ⟨z,H3,I3,r3,k,e,q3⟩=>?_)) hm
 subst e;cases r3;refine Ah ?_;cases k with
 | false =>
  obtain ⟨k',e',q'⟩:=q3;cases e';exact ite_ff ⟨H3,I3,q'⟩
 | true =>
  refine ite_tt (test_last (thn (hc pins s3 σ H3 _ I3 q3) λ w' s4 ⟨z',H4,I4,r4,q4⟩=>thn (ho' pins s4 σ H4 y z' u w' _ I4 r2 r4 q4) λ d' s5 ⟨z2,H5,I5,r5,k2,e2,q5⟩=>?_));subst e2;cases r5;exact Ah ⟨H5,I5,q5⟩
theorem ed:(sizeLine:Nat) < 2 ^ 63:=by rw [sizeLine_eq]; decide
theorem dz {x:V} {us:List Ap} (r:Vals [x] us):∃u,us=[u]/\RelV x u:=by
 cases r with
 | cons r1 r2=>cases r2; exact ⟨_,Z,r1⟩
theorem nu {x y:V} {us:List Ap} (r:Vals [x,y] us):∃u w',us=[u,w']/\RelV x u/\RelV y w':=by
 cases r with
 | cons r1 r2 =>
  cases r2 with
  | cons r3 r4=>cases r4; exact ⟨_,_,Z,r1,r3⟩
theorem fT:bQ X (.builtin "abs") (λ xs H Q=>∃i,xs=[.int i]/\Q (.int (if i < 0 then -i else i)) H):=by intro pins s σ H xs us Q I r h;obtain ⟨i,rfl,q⟩:=h;obtain ⟨u,rfl,t,rfl⟩:=dz r;exact call_abs_int λ u tk=>⟨.int (if i < 0 then -i else i),H,I.tok _,⟨_,Z⟩,q⟩
theorem eN (hc:X.calm=true):bQ X (.builtin "max") (λ xs H Q=>∃i j,xs=[.int i,.int j]/\Q (.int (if j > i then j else i)) H):=by
 intro pins s σ H xs us Q I r h;obtain ⟨i,j,rfl,q⟩:=h;obtain ⟨u,w',rfl,⟨t,rfl⟩,⟨t',rfl⟩⟩:=nu r;refine max_two_ints (I.ok.hd hc) λ h' tk k=>⟨_,H,I.kept k,?_,q⟩
 by_cases hj:j > i
 ·rw [if_pos hj,if_pos hj]; exact ⟨_,Z⟩
 ·rw [if_neg hj,if_neg hj]; exact ⟨_,Z⟩
theorem iY (hc:X.calm=true):bQ X (.builtin "min") (λ xs H Q=>∃i j,xs=[.int i,.int j]/\Q (.int (if j < i then j else i)) H):=by
 intro pins s σ H xs us Q I r h;obtain ⟨i,j,rfl,q⟩:=h;obtain ⟨u,w',rfl,⟨t,rfl⟩,⟨t',rfl⟩⟩:=nu r;refine min_two_ints (I.ok.hd hc) λ h' tk k=>⟨_,H,I.kept k,?_,q⟩
 by_cases hj:j < i
 ·rw [if_pos hj,if_pos hj]; exact ⟨_,Z⟩
 ·rw [if_neg hj,if_neg hj]; exact ⟨_,Z⟩
theorem eO:bQ X (.type "int") (λ xs H Q=>(∃i,xs=[.int i]/\Q (.int i) H)\/∃k,xs=[.bl k]/\Q (.int (if k then 1 else 0)) H):=by
 intro pins s σ H xs us Q I r h;rcases h with ⟨i,rfl,q⟩ | ⟨k,rfl,q⟩
 ·obtain ⟨u,rfl,t,rfl⟩:=dz r;exact call_int_int ⟨.int i,H,I,⟨_,rfl⟩,q⟩
 ·obtain ⟨u,rfl,r1⟩:=dz r;cases r1;exact call_int_bool ⟨.int (if k then 1 else 0),H,I.tok _,⟨_,rfl⟩,q⟩
end
structure ObjM (h:Heap) (x dx C:Addr) (mA:Str->Option Value):Prop where
 obj:h.get? x=some (PySem.W.instObj C dx)
 ns:h.Ns1 dx mA
 ne:dx≠x
theorem iZ {h:Heap} {dx:Addr} {mA:Str->Option Ap} (n:h.Ns1 dx mA):∃od,h.get? dx=some od/\∀name,PySem.W.lookIn name od=some (mA name):=by
 obtain ⟨o,es,ep,ho,hd,hk,_,hm⟩:=n;refine ⟨o,ho,λ name=>?_⟩;have e:=hm name;unfold nsFind findBy at e;rw [<- Array.find?_toList] at e;unfold PySem.W.lookIn;rw [hd];dsimp only
 split
 ·rename_i y q
  rw [q] at e;exact congrArg some e
 ·rename_i q
  rw [q] at e;have a:es.toList.any (·.refKey)=false:=by rw [List.any_eq_false];intro y hy;obtain ⟨z,t,hkey⟩:=hk y (Array.mem_toList_iff.mp hy);simp [DictEntry.refKey,hkey]
  have a':¬ es.toList.any (·.refKey)=true:=by rw [a]; exact AI
  rw [if_neg a'];exact congrArg some e
theorem ObjM.look {h:Heap} {x dx C:Addr} {mA:Str->Option Ap} (I:ObjM h x dx C mA):∃od,PySem.W.InstAt h x (PySem.W.instObj C dx) C (some od)/\∀name,PySem.W.lookIn name od=some (mA name) :=
 let ⟨od,ho,hl⟩:=iZ I.ns
 ⟨od,⟨I.obj,rfl,rfl,ho⟩,hl⟩
section
variable {prog:Am} {w:Ao} {A:Around} {E:Ap->Al->Prop} {s:Al} {K:AV} {x dx C f:Addr} {mA:Str->Option Ap} {name:Str} {v:Ap}
theorem ma {expr:Bool} {Q:Ap->Al->Prop} (X:K.In s.heap) (I:ObjM s.heap x dx C mA) (hg:PySem.W.plainGet K C name=true) (hh:PySem.W.hasDictIn K C=true)
  (ha:PySem.W.findIn K (.ref C) name=some none) (hv:mA name=some v) (hv':PySem.W.handedIn v=true) (h:Q v { s with toks:=s.toks + 1 }) :
  wpAny (model prog w) A (getAttr (.ref x) name expr) Q E s:=by
 obtain ⟨od,J,hl⟩:=I.look;exact PySem.W.get_value X J (PySem.W.plainGet_of hg).1 (PySem.W.findObj_own hh ha rfl (by rw [hl,hv])) hv' h
theorem ky {pl:Sem Bool} {Q:Ap×List Ap->Al->Prop} (X:K.In s.heap) (I:ObjM s.heap x dx C mA) (hg:PySem.W.plainGet K C name=true)
  (hf:PySem.W.findIn K (.ref C) name=some (some (.ref f))) (ht:PySem.W.isFn K (.ref f)=true) (hv:mA name=none) (h:Q (.ref f,[.ref x]) s) :
  wpAny (model prog w) A (getMethod (.ref x) name pl) Q E s:=by
 obtain ⟨od,J,hl⟩:=I.look;exact PySem.W.method_fn X J (PySem.W.plainGet_of hg).1 (PySem.W.plainGet_of hg).2 hf (AU.mp ht) (by show (PySem.W.lookIn name od).map (·.isSome)=some false; rw [hl,hv]; rfl) h
theorem md {ns:List Str} {Q:Unit->Al->Prop} (X:K.In s.heap) (I:ObjM s.heap x dx C mA)
  (hs:PySem.W.findIn K (.ref C) "__setattr__" = some (some (.builtin "object.__setattr__"))) (hp:PySem.W.plainOver K C=true) (ht:PySem.W.takerIn K C name=some none) (hh:PySem.W.hasDictIn K C=true)
  (hw:PySem.Within mA ns) (hsz:ns.length<=sizeLine)
  (h:∀h',ObjM h' x dx C (λ y=>if y=name then some v else mA y)->Heap.SameBut dx s.heap h'->Q () { s with heap:=h',toks:=s.toks + 2 }) :
  wpAny (model prog w) A (setAttr (.ref x) name v) Q E s:=by
 obtain ⟨od,J,hl⟩:=I.look;refine PySem.W.set_plain X J hs (PySem.W.osa_open (s:={ s with toks:=s.toks + 1 }) (r:=none) X J hp ht λ b=>?_);obtain ⟨cd,hc,hd'⟩:=PySem.W.any_some hh;have hx:s.heap.get? x=some ⟨.ref C,some dx,.plain,#[]⟩:=I.obj;refine AA (AB (AA (AA (wpAny_loadPart hx (AA (PySem.W.Looks.here (s:={ s with toks:=s.toks + 1 }) (PySem.W.looks_clsIn X hc) ?_))))));rw [hd'];refine AB (a:=some dx) (AA (AB (AA ?_)));refine wpAny_nsSet1 (s:={ s with toks:=s.toks + 1 }) I.ns λ h' hn2 hs2=>?_;obtain ⟨oD,esD,epD,hoD,hdD,hcD⟩:=hn2.count (PySem.Within.cons name v hw);refine AA (wpAny_lookBehind hoD (by rw [hdD]; exact pastItsLine_dict (AW hcD (by rw [List.length_cons]; omega))) ?_);exact AB (h _ ⟨(hs2.2 _ (Ne.symm I.ne)).trans I.obj,hn2,I.ne⟩ hs2)
theorem kA {R:Result->Al->Prop} {vs:List Ap} {kw:List (Str×Ap)} (X:K.In s.heap) (hm:PySem.W.makesIn K C=true)
  (hi:PySem.W.findIn K (.ref C) "__init__" = some (some (.ref f))) (hf:PySem.W.typeIn K (.ref f)=some (.type "function"))
  (h:codeAny (model prog w) (A.under (.builtin "type.__call__" ⟨.ref C :: vs,kw⟩)) (.call (.ref f) ⟨.ref (s.heap.objs.size + 1) :: vs,kw⟩) (PySem.W.InitBack (s.heap.objs.size + 1) R)
   { s with heap:=(s.heap.push PySem.W.emptyDict).push (PySem.W.instObj C s.heap.objs.size) }) :
  codeAny (model prog w) A (.call (.ref C) ⟨vs,kw⟩) R s:=by
 obtain ⟨hh,g,d,t,os⟩:=s;exact PySem.W.make_core (PySem.W.makes_of X hm) (PySem.W.looks_findIn X hi) (λ self=>PySem.W.bind_fn X self hf) (.inl rfl) h
end
def bK (f:Str) (v:V):List (Str×V)->List (Str×V)
 | []=>[(f,v)]
 | (g,x) :: r=>if g=f then (g,v) :: r else (g,x) :: bK f v r
theorem bv (f g:Str) (v:V):∀fs:List (Str×V),(bK f v fs).lookup g=if g=f then some v else fs.lookup g
 | []=>by
  show List.lookup g [(f,v)]=_
  by_cases h:g=f
  ·have hb:(g == f)=true:=AU.mpr h;simp only [List.lookup,hb,if_pos h]
  ·have hb:(g == f)=false:=beq_eq_false_iff_ne.mpr h;simp only [List.lookup,hb,if_neg h]
 | (k,x) :: r=>by
  have ih:=bv f g v r;rw [show bK f v ((k,x) :: r)=(if k=f then (k,v) :: r else (k,x) :: bK f v r) from rfl]
  by_cases hk:k=f
  ·rw [if_pos hk]
   by_cases h:g=k
   ·have hb:(g == k)=true:=AU.mpr h;simp only [List.lookup,hb,if_pos (h.trans hk)]
   ·have hb:(g == k)=false:=beq_eq_false_iff_ne.mpr h;simp only [List.lookup,hb,if_neg (λ e:g=f=>h (e.trans hk.symm))]
  ·rw [if_neg hk]
   by_cases h:g=k
   ·have hb:(g == k)=true:=AU.mpr h;simp only [List.lookup,hb,if_neg (λ e:g=f=>hk (h.symm.trans e))]
   ·have hb:(g == k)=false:=beq_eq_false_iff_ne.mpr h;simp only [List.lookup,hb];exact ih
theorem df (f:Str) (v:V):∀fs:List (Str×V),f∈(bK f v fs).map (·.1)/\∀g,g∈fs.map (·.1)->g∈(bK f v fs).map (·.1)
 | []=>⟨by simp [bK],λ g h=>by simp at h⟩
 | (k,x) :: r=>by
  obtain ⟨i1,i2⟩:=df f v r;rw [show bK f v ((k,x) :: r)=(if k=f then (k,v) :: r else (k,x) :: bK f v r) from rfl]
  by_cases hk:k=f
  ·rw [if_pos hk];subst hk;exact ⟨by simp,λ g h=>by simpa using h⟩
  ·rw [if_neg hk];refine ⟨?_,λ g h=>?_⟩
   ·rw [List.map_cons];exact AK _ i1
   ·rw [List.map_cons] at h ⊢;rcases List.mem_cons.mp h with e | e
    ·exact List.mem_cons.mpr (.inl e)
    ·exact AK _ (i2 g e)
theorem cn (f:Str) (v:V):∀fs:List (Str×V),(bK f v fs).length<=fs.length + 1
 | []=>by simp [bK]
 | (k,x) :: r=>by
  have ih:=cn f v r;rw [show bK f v ((k,x) :: r)=(if k=f then (k,v) :: r else (k,x) :: bK f v r) from rfl]
  by_cases hk:k=f
  ·rw [if_pos hk,List.length_cons,List.length_cons]; omega
  ·rw [if_neg hk,List.length_cons,List.length_cons]; omega
theorem RelO.some_of {v:V} {o:Option Ap} (r:RelO (some v) o):∃u,o=some u/\RelV v u:=by
 cases o with
 | none=>exact (show False from r).elim
 | some u=>exact ⟨u,Z,r⟩
theorem RelO.none_of {o:Option Ap} (r:RelO none o):o=none:=by
 cases o with
 | none=>rfl
 | some u=>exact (show False from r).elim
theorem ja {v:V} {u:Ap} (r:RelV v u):PySem.W.handedIn u=true:=by
 cases v with
 | non=>cases (show u=Value.none from r); rfl
 | bl b=>cases (show u=Value.bool b from r); rfl
 | int i=>obtain ⟨t,e⟩:=(show ∃t,u=Value.int i t from r); cases e; rfl
 | str x=>obtain ⟨t,e⟩:=(show ∃t,u=Value.str x t from r); cases e; rfl
 | byt b=>obtain ⟨t,e⟩:=(show ∃t,u=Value.bytes b t from r); cases e; rfl
 | flt b=>obtain ⟨t,e⟩:=(show ∃t,u=Value.float b t from r); cases e; rfl
 | ref a=>cases (show u=Value.ref a from r); rfl
 | ty n=>cases (show u=Value.type n from r); rfl
section
variable {P:Am} {w:Ao} {H H':Hp} {h h':Heap} {a C dx:Addr} {fs fs':List (Str×V)}
theorem cN (hok:HOk P w H h) (e:H a=some (.ins C dx fs)):∃mA,ObjM h a dx C mA/\(∀f,RelO (fs.lookup f) (mA f))/\PySem.Within mA (fs.map (·.1))/\fs.length<=1000/\H dx=some (.own a):=by
 obtain ⟨d,z,ne,ob,mA,n,r,q⟩:=(show ObjOk P w H h a (.ins C dx fs) from hok a _ e)
 exact ⟨mA,⟨ob,n,ne⟩,r,q,z,d⟩
end
structure Cls (K:AV) (C:Addr):Prop where
 pg:PySem.W.plainGet K C Str.empty=true
 hd:PySem.W.hasDictIn K C=true
 po:PySem.W.plainOver K C=true
 sa:PySem.W.findIn K (.ref C) "__setattr__" = some (some (.builtin "object.__setattr__"))
theorem Cls.get {K:AV} {C:Addr} (c:Cls K C) (f:Str):PySem.W.plainGet K C f=true:=c.pg
def NoAttr (K:AV) (C:Addr) (f:Str):Prop:=PySem.W.findIn K (.ref C) f=some none
theorem NoAttr.taker {K:AV} {C:Addr} {f:Str} (n:NoAttr K C f):PySem.W.takerIn K C f=some none:=by
 unfold PySem.W.takerIn;rw [show PySem.W.findIn K (.ref C) f=some none from n]
 rfl
structure Con (K:AV) (C:Addr) (f:Str) (v:V) (u:Value):Prop where
 at_:PySem.W.findIn K (.ref C) f=some (some u)
 rel:RelV v u
 get:PySem.W.specialIn K u "__get__" = some none
 cp:PySem.W.copiedNames.contains f=false
structure Meth (K:AV) (C:Addr) (m:Str) (f:Addr):Prop where
 at_:PySem.W.findIn K (.ref C) m=some (some (.ref f))
 fn:PySem.W.isFn K (.ref f)=true
 kp:PySem.W.keepIn K (.ref f)=true
section
variable {X:Cx} {pins:List (Addr×Obj)} {σ:St} {H:Hp} {s:Al} {a C dx:Addr} {fs:List (Str×V)} {f:Str} {v:V} {A:Around} {E:Ap->Al->Prop}
theorem gD {b:Bool} {Q:Ap->Al->Prop} (I:Inv X pins σ H s) (e:H a=some (.ins C dx fs)) (c:Cls X.K C) (n:NoAttr X.K C f) (l:fs.lookup f=some v)
  (h:∀u s',Inv X pins σ H s'->RelV v u->Q u s'):wpAny (model X.prog X.w) A (getAttr (.ref a) f b) Q E s:=by
 obtain ⟨mA,O,r,_,_,_⟩:=cN I.hok e;obtain ⟨u,hu,ru⟩:=RelO.some_of (v:=v) (o:=mA f) (by rw [<- l]; exact r f);exact ma I.kIn O (c.get f) c.hd n hu (ja ru) (h u _ (I.tok _) ru)
theorem ee {m:Str} {g:Addr} {pl:Sem Bool} {Q:Ap×List Ap->Al->Prop} (I:Inv X pins σ H s) (e:H a=some (.ins C dx fs)) (c:Cls X.K C) (k:Meth X.K C m g) (l:fs.lookup m=none)
  (h:Q (.ref g,[.ref a]) s):wpAny (model X.prog X.w) A (getMethod (.ref a) m pl) Q E s:=by
 obtain ⟨mA,O,r,_,_,_⟩:=cN I.hok e;have hn:mA m=none:=RelO.none_of (by rw [<- l]; exact r m);exact ky I.kIn O (c.get m) k.at_ k.fn hn h
theorem gE {y:V} {u:Ap} {Q:Unit->Al->Prop} (I:Inv X pins σ H s) (e:H a=some (.ins C dx fs)) (c:Cls X.K C) (n:NoAttr X.K C f) (hl:fs.length < 1000) (ry:RelV y u)
  (h:∀s',Inv X pins σ (upd H a (.ins C dx (bK f y fs))) s'->Q () s'):wpAny (model X.prog X.w) A (setAttr (.ref a) f u) Q E s:=by
 obtain ⟨mA,O,r,wi,_,ho⟩:=cN I.hok e;have hz:(fs.map (·.1)).length<=sizeLine:=by rw [List.length_map,sizeLine_eq]; omega
 refine md I.kIn O c.sa c.po n.taker c.hd wi hz λ h' O' sb=>h _ ?_;have hd:∃o,h'.get? dx=some o:=let ⟨o,_,_,e',_⟩:=O'.ns; ⟨o,e'⟩
 refine I.write (x:=a) (e:=dx) (by rw [e]; exact True.intro) (.inr ho) (λ b q hb z=>(sb.2 b hb).trans z) hd ?_;refine ⟨by rw [ar O.ne]; exact ho,?_,O.ne,O'.obj,_,O'.ns,λ g=>?_,λ g hg=>?_⟩
 ·have:=cn f y fs; omega
 ·show RelO ((bK f y fs).lookup g) (if g=f then some u else mA g);rw [bv]
  by_cases q:g=f
  ·rw [if_pos q,if_pos q]; exact ry
  ·rw [if_neg q,if_neg q]; exact r g
 ·by_cases q:g=f
  ·rw [q]; exact (df f y fs).1
  ·refine (df f y fs).2 g (wi g λ z=>hg ?_);show (if g=f then some u else mA g)=none;rw [if_neg q]; exact z
theorem Inv.made (I:Inv X pins σ H s):Inv X pins σ (upd (upd H s.heap.objs.size (.own (s.heap.objs.size + 1))) (s.heap.objs.size + 1) (.ins C s.heap.objs.size []))
  { s with heap:=(s.heap.push PySem.W.emptyDict).push (PySem.W.instObj C s.heap.objs.size) }:=by
 have e1:(s.heap.push PySem.W.emptyDict).get? s.heap.objs.size=some PySem.W.emptyDict:=AF s.heap rfl;have e2:((s.heap.push PySem.W.emptyDict).push (PySem.W.instObj C s.heap.objs.size)).get? (s.heap.objs.size + 1)=some (PySem.W.instObj C s.heap.objs.size):=by have:=AF (s.heap.push PySem.W.emptyDict) (o:=PySem.W.instObj C s.heap.objs.size) rfl;rwa [Heap.size_push] at this
 have e3:(s.heap.push PySem.W.emptyDict).Ns s.heap.objs.size (λ _=>none):=⟨PySem.W.emptyDict,#[],_,e1,Z,(λ e he=>absurd he (by simp)),λ _=>rfl⟩
 have I1:=I.laid (a:=s.heap.objs.size) (o:=.own (s.heap.objs.size + 1)) (h':=s.heap.push PySem.W.emptyDict) (t':=s.toks) (λ b u q=>AE _ q) (AJ _) ⟨_,e1⟩;refine I1.laid (a:=s.heap.objs.size + 1) (o:=.ins C s.heap.objs.size []) (t':=s.toks) (λ b u q=>AE _ q) (Nat.le_of_eq (Heap.size_push _ _)) ?_;have ne:s.heap.objs.size≠s.heap.objs.size + 1:=AQ (Af _);refine ⟨by rw [ar ne,ag],Ae _,ne,e2,λ _=>none,(Heap.Ns1.of_empty e3).at λ o q=>AE _ q,λ _=>True.intro,λ y hy=>absurd rfl hy⟩
theorem me {prog:Am} {w:Ao} {env:Env} {e:Expr} {f:Str} {pos:Pos} {s:Al} {Q:Ap->Al->Prop} (hb:attributeBase e f env (eval e env)=eval e env)
  (h:wpAny (model prog w) A (eval e env) (λ o s₁=>wpAny (model prog w) A (getAttr o f true) Q E s₁) E s):wpAny (model prog w) A (eval (.Attribute e f pos) env) Q E s :=
 Attribute_any_ h (by rw [arm_eval_Attribute,hb])
end
def xf (K:AV) (ta:TE) (f:Str):TE:=λ σ H Q=>ta σ H λ x H1=>∃a C dx fs v,x=.ref a/\H1 a=some (.ins C dx fs)/\Cls K C/\NoAttr K C f/\fs.lookup f=some v/\Q v H1
def qu (K:AV) (ta tv:TE) (f:Str):TS:=λ D σ H=>tv σ H λ y H1=>ta σ H1 λ x H2=>∃a C dx fs,x=.ref a/\H2 a=some (.ins C dx fs)/\Cls K C/\NoAttr K C f/\fs.length < 1000 /\
 D.nx σ (upd H2 a (.ins C dx (bK f y fs)))
section
variable {X:Cx} {o e value:Expr} {f:Str} {pos pos' tpos:Pos} {ta tv:TE}
theorem gF (he:PE X e ta) (hb:attributeBase e f X.env (eval e X.env)=eval e X.env):PE X (.Attribute e f pos) (xf X.K ta f):=by intro pins s σ H Q I h;refine me hb (thn (he pins s σ H _ I h) λ u s1 ⟨x,H1,I1,rx,a,C,dx,fs,v,ex,ea,c,n,l,q⟩=>?_);subst ex;obtain rfl:u=Value.ref a:=rx;exact gD I1 ea c n l λ u' s2 I2 ru=>⟨v,H1,I2,ru,q⟩
theorem kB (ha:PE X o ta) (hv:PE X value tv) (hs:swapsWith value (some (.Attribute o f pos')) pos.line X.env=pure false):PS X (.Assign [.Attribute o f pos'] value pos) (qu X.K ta tv f):=by intro pins s σ H D I h;refine plainObj_wpAny_Assign_Attribute (thn (hv pins s σ H _ I h) λ u s1 ⟨y,H1,I1,ry,q⟩=>thn (ha pins s1 σ H1 _ I1 q) λ ov s2 ⟨x,H2,I2,rx,a,C,dx,fs,ex,ea,c,n,l,q2⟩=>?_) hs;subst ex;obtain rfl:ov=Value.ref a:=rx;exact gE I2 ea c n l ry λ s3 I3=>⟨σ,_,I3,q2⟩
theorem nv {pl:Sem Bool} {m:Str} {apos:Pos} {args:List Expr} {pins:List (Addr×Obj)} {s:Al} {σ:St} {H:Hp} {Q:Ap->Al->Prop} {te:TE} (he:PE X e te) (I:Inv X pins σ H s)
  (h:te σ H λ x H1=>∃a C dx fs g,x=.ref a/\H1 a=some (.ins C dx fs)/\Cls X.K C/\Meth X.K C m g/\fs.lookup m=none /\
   ∀s1,Inv X pins σ H1 s1->wpAny (model X.prog X.w) X.A (callWith pos (.ref g) [.ref a] (backTo pos (starEach args X.env)) (backToKw pos (keywordEach [] X.env))) Q X.xe s1)
  (ht:eval (.Call (.Attribute e m apos) args [] pos) X.env=(do
   let ov<-eval e X.env
   standAt apos.atName
   let (f,first)<-holding [ov] (getMethod ov m pl)
   callWith pos f first (backTo pos (starEach args X.env)) (backToKw pos (keywordEach [] X.env)))) :
  wpAny (model X.prog X.w) X.A (eval (.Call (.Attribute e m apos) args [] pos) X.env) Q X.xe s:=by
 refine PySem.W.methodCall_KW (pl:=pl) (thn (he pins s σ H _ I h) λ u s1 ⟨x,H1,I1,rx,a,C,dx,fs,g,ex,ea,c,k,l,q⟩=>?_) ht;subst ex;obtain rfl:u=Value.ref a:=rx;exact ee I1 ea c k l (q s1 I1)
end
section
variable {X:Cx} {pins:List (Addr×Obj)} {σ:St} {H:Hp} {s:Al} {A:Around} {E:Ap->Al->Prop} {Q:Ap->Al->Prop} {c:Ap} {b:Bool}
inductive TyOf (K:AV) (H:Hp):V->Value->Prop where
 | non:TyOf K H .non (.type "NoneType")
 | bl (x:Bool):TyOf K H (.bl x) (.type "bool")
 | int (i:Int):TyOf K H (.int i) (.type "int")
 | str (x:Str):TyOf K H (.str x) (.type "str")
 | flt (x:UInt64):TyOf K H (.flt x) (.type "float")
 | lst {a:Addr} {xs:List V} (e:H a=some (.lst xs)):TyOf K H (.ref a) (.type "list")
 | frz {a:Addr} {o:Obj} {xs:List V} (e:H a=some (.frz o (.lst xs))):TyOf K H (.ref a) (.type "list")
 | tup {a:Addr} {xs:List V} (e:H a=some (.tup xs)):TyOf K H (.ref a) (.type "tuple")
 | dK {a:Addr} {kvs:List (Key×V)} (e:H a=some (.dK kvs)):TyOf K H (.ref a) (.type "dict")
 | dT {a:Addr} {kvs:List (List Key×V)} (e:H a=some (.dT kvs)):TyOf K H (.ref a) (.type "dict")
 | ext {a:Addr} {φ:Heap->Prop} (e:H a=some (.ext φ)) (c:∀h,φ h->∃o,h.get? a=some o/\o.cls=.type "dict"):TyOf K H (.ref a) (.type "dict")
 | ins {a C dx:Addr} {fs:List (Str×V)} (e:H a=some (.ins C dx fs)) (cl:Cls K C) (ha:PySem.W.findIn K (.ref C) "__class__" = some (some (.builtin "object.__class__")))
   (hn:PySem.W.specialIn K (.builtin "object.__class__") "__get__" = some (some (.builtin "getset_descriptor.__get__"))) (htk:PySem.W.takesIn K (.builtin "object.__class__")=some true)
   (hm:PySem.W.mroIn K C (.type "object")=some true):TyOf K H (.ref a) (.ref C)
theorem jb {x:V} {u t:Ap} (I:Inv X pins σ H s) (rx:RelV x u) (ty:TyOf X.K H x t) (e:PySem.W.kitOne X.K t c=some b) (h:∀tk,Q (.bool b) { s with toks:=tk }) :
  wpAny (model X.prog X.w) A (call (.builtin "isinstance") [u,c]) Q E s:=by
 cases ty with
 | non=>cases (show u=Value.none from rx); exact PySem.W.kia_one PySem.W.kitx_none I.kIn True.intro e (λ z=>nomatch z) h
 | bl y=>cases (show u=Value.bool y from rx); exact PySem.W.kia_one PySem.W.kitx_bool I.kIn True.intro e (λ z=>nomatch z) h
 | int i=>obtain ⟨t,q⟩:=(show ∃t,u=Value.int i t from rx); cases q; exact PySem.W.kia_one PySem.W.kitx_int I.kIn True.intro e (λ z=>nomatch z) h
 | str y=>obtain ⟨t,q⟩:=(show ∃t,u=Value.str y t from rx); cases q; exact PySem.W.kia_one PySem.W.kitx_str I.kIn True.intro e (λ z=>nomatch z) h
 | flt y=>obtain ⟨t,q⟩:=(show ∃t,u=Value.float y t from rx); cases q; exact PySem.W.kia_one PySem.W.kitx_float I.kIn True.intro e (λ z=>nomatch z) h
 | @lst a xs ea =>
  cases (show u=Value.ref a from rx);obtain ⟨_,_,n,_,h1⟩:=(show ObjOk X.prog X.w H s.heap a (.lst xs) from I.hok a _ ea)
  exact PySem.W.kia_one PySem.W.kitx_list I.kIn ⟨_,h1,Z⟩ e (λ z=>nomatch z) h
 | @frz a ob xs ea =>
  cases (show u=Value.ref a from rx);obtain ⟨_,_,_,n,_,h1⟩:=(show ObjOk X.prog X.w H s.heap a (.frz ob (.lst xs)) from I.hok a _ ea)
  exact PySem.W.kia_one PySem.W.kitx_list I.kIn ⟨_,h1,Z⟩ e (λ z=>nomatch z) h
 | @tup a xs ea =>
  cases (show u=Value.ref a from rx);obtain ⟨_,_,_,p⟩:=(show ObjOk X.prog X.w H s.heap a (.tup xs) from I.hok a _ ea)
  obtain ⟨o,h1,h2,_⟩:=p;exact PySem.W.kia_one PySem.W.kitx_tuple I.kIn ⟨o,h1,h2⟩ e (λ z=>nomatch z) h
 | @dK a kvs ea =>
  cases (show u=Value.ref a from rx);obtain ⟨_,_,vs,_,p⟩:=(show ObjOk X.prog X.w H s.heap a (.dK kvs) from I.hok a _ ea)
  obtain ⟨o,es,ep,h1,h2,_⟩:=p;exact PySem.W.kia_one PySem.W.kitx_dict I.kIn ⟨o,h1,h2.1⟩ e (λ z=>nomatch z) h
 | @dT a kvs ea =>
  cases (show u=Value.ref a from rx);obtain ⟨_,_,xs,_,o,es,ep,h1,h2,_⟩:=(show ObjOk X.prog X.w H s.heap a (.dT kvs) from I.hok a _ ea)
  exact PySem.W.kia_one PySem.W.kitx_dict I.kIn ⟨o,h1,h2.1⟩ e (λ z=>nomatch z) h
 | @ext a φ ea c =>
  cases (show u=Value.ref a from rx);obtain ⟨p,_,_⟩:=(show ObjOk X.prog X.w H s.heap a (.ext φ) from I.hok a _ ea)
  obtain ⟨o,h1,h2⟩:=c _ p;exact PySem.W.kia_one PySem.W.kitx_dict I.kIn ⟨o,h1,h2⟩ e (λ z=>nomatch z) h
 | @ins a C dx fs ea cl ha hn htk hm =>
  cases (show u=Value.ref a from rx);obtain ⟨mA,O,_⟩:=cN I.hok ea;obtain ⟨od,J,_⟩:=O.look;exact PySem.W.kia_one (PySem.W.kitx_own (cl.get _) cl.hd ha hn htk hm) I.kIn J e (λ z=>nomatch z) h
end
structure Room (k:Nat) (A:Around):Prop where
 hd:A.handled=none
 dp:A.depth + 3 * k + 5 < recursionLimit
 un:A.units + 16 * k + 200 < cLine
 gd:A.guards=some []
theorem Room.mono {j k:Nat} {A:Around} (r:Room k A) (h:j<=k):Room j A:=⟨r.hd,by have:=r.dp; omega,by have:=r.un; omega,r.gd⟩
theorem Room.deeper {k:Nat} {A:Around} (r:Room (k + 1) A) (env:Env):Room k (A.deeper env) :=
 ⟨r.hd,by have:=r.dp; show A.depth + 1 + 3 * k + 5 < _; omega,by have:=r.un; show A.units + 3 + 16 * k + 200 < _; omega,r.gd⟩
theorem gG {A:Around} {C:Addr} {us:List Ap} {kw:List (Str×Ap)}:(A.under (.builtin "type.__call__" ⟨.ref C :: us,kw⟩)).depth=A.depth + 1:=by first | rfl | simp [Around.under,Code.weight,Code.isCreation,Code.isGuard,Code.isCaller,Code.frames,Code.isFrame,guardIds]
theorem gH {A:Around} {C:Addr} {us:List Ap} {kw:List (Str×Ap)}:(A.under (.builtin "type.__call__" ⟨.ref C :: us,kw⟩)).units=A.units + 1:=by first | rfl | simp [Around.under,Code.cUnits,Code.frames,Code.isFrame]
theorem fU {A:Around} {C:Addr} {us:List Ap} {kw:List (Str×Ap)}:(A.under (.builtin "type.__call__" ⟨.ref C :: us,kw⟩)).guards=A.guards:=by
 have e:Code.guards (.builtin "type.__call__" ⟨.ref C :: us,kw⟩)=[]:=by
  have:(Code.builtin "type.__call__" ⟨.ref C :: us,kw⟩).isGuard=false:=by show guardIds.contains "type.__call__" = false; decide +kernel
  simp [Code.guards,this]
 unfold Around.under;dsimp only;rw [e]
 rfl
theorem Room.make {k:Nat} {A:Around} (r:Room (k + 1) A) (C:Addr) (us:List Ap) (kw:List (Str×Ap)):Room k (A.under (.builtin "type.__call__" ⟨.ref C :: us,kw⟩)) :=
 ⟨r.hd,by have:=r.dp; rw [gG]; omega,by have:=r.un; rw [gH]; omega,by rw [fU]; exact r.gd⟩
theorem Room.depth {k:Nat} {A:Around} (r:Room k A):A.depth < recursionLimit:=by have:=r.dp; omega
theorem Room.units {k:Nat} {A:Around} (r:Room k A):A.units + 64 < cLine:=by have:=r.un; omega
def mf:TA:=λ _ H Q=>Q [] H
def iC (ta:TE) (tr:TA):TA:=λ σ H Q=>ta σ H λ x H1=>tr σ H1 λ xs H2=>Q (x :: xs) H2
section
variable {X:Cx} {e:Expr} {es:List Expr} {te:TE} {t:TA} {pos:Pos}
theorem ab:PA X [] mf:=λ _ _ _ _ H Q I h=>Calls.spliced_nil ⟨[],H,I,.nil,h⟩
theorem aa (ha:PE X e te) (hr:PA X es t) (hs:starEach (e :: es) X.env=(false,eval e X.env) :: starEach es X.env:=by rfl):PA X (e :: es) (iC te t):=by intro pos pins s σ H Q I h;rw [hs];show wpAny _ _ (spliced ((false,eval e X.env) :: backTo pos (starEach es X.env))) _ _ s;refine Calls.spliced_cons (thn (ha pins s σ H _ I h) λ u s1 ⟨x,H1,I1,r1,q1⟩=>?_);exact thn (hr pos pins s1 σ H1 _ I1 q1) λ us s2 ⟨xs,H2,I2,r2,q2⟩=>⟨x :: xs,H2,I2,.cons r1 r2,q2⟩
def xg (t:TA):TE:=λ σ H Q=>t σ H λ xs H1=>xs.length<=sizeLine/\∀p,H1 p=none->Q (.ref p) (upd H1 p (.tup xs))
def xh (t:TA):TE:=λ σ H Q=>t σ H λ xs H1=>xs.length<=sizeLine/\∀p,H1 p=none->Q (.ref p) (upd H1 p (.lst xs))
theorem aR {x1} (h:PA X es t):PE X (.Tuple es x1 pos) (xg t):=by intro pins s σ H Q I hq;refine wpAny_Tuple_spliced (thn (h pos pins s σ H _ I hq) λ us s1 ⟨xs,H1,I1,r,z,q⟩=>⟨by rw [<- r.length]; exact z,?_⟩);have hf:H1 s1.heap.objs.size=none:=I1.hok.fresh (AJ _);refine ⟨.ref s1.heap.objs.size,upd H1 s1.heap.objs.size (.tup xs),I1.laid (t':=s1.toks) (λ b u e=>AE _ e) (AJ _) ?_,Z,q _ hf⟩;exact ⟨z,us,r,⟨_,AF _ rfl,Z,_,Z⟩⟩
theorem aN (h:PA X es t):PE X (.List es pos) (xh t):=by intro pins s σ H Q I hq;refine wpAny_List_spliced (thn (h pos pins s σ H _ I hq) λ us s1 ⟨xs,H1,I1,r,z,q⟩=>⟨by rw [<- r.length]; exact z,?_⟩);have hf:H1 s1.heap.objs.size=none:=I1.hok.fresh (AJ _);refine ⟨.ref s1.heap.objs.size,upd H1 s1.heap.objs.size (.lst xs),I1.laid (t':=s1.toks) (λ b u e=>AE _ e) (AJ _) ?_,Z,q _ hf⟩;exact ⟨z,us,0,r,AF _ rfl⟩
end
abbrev Sp:=List V->Hp->VK->XK->Prop
abbrev CXT:=List Env->Hp->Al->XK->Ap->Al->Prop
structure Env0 (P:Program) (w:World) (K:AV) (mg:Str->Option Value) (base:Heap) (A:Around) (outer:List Env) (s:Shared) (H:Hp):Prop where
 frames:A.frames=some outer
 mod:Mod K mg base
 bs:∀b o,base.get? b=some o->s.heap.get? b=some o/\H b=none
 bsz:base.objs.size<=s.heap.objs.size
 funs:s.heap.FunFrames base outer
 frf:∀b∈frs outer,H b=none
 hok:HOk P w H s.heap
 bare:AllBare s.gens
def CE (outer:List Env) (P:Am) (w:Ao) (H:Hp) (s:Al) (Q:VK) (u:Ap) (s':Al):Prop :=
 ∃v H',s'.os=s.os/\AllBare s'.gens/\Un (frs outer) [] H H' s.heap s'.heap/\HOk P w H' s'.heap/\RelV v u/\Q v H'
def CR (CX:CXT) (outer:List Env) (P:Am) (w:Ao) (H:Hp) (s:Al) (Q:VK) (E:XK) (r:Result) (s':Al):Prop :=
 match r with
 | .ok (.ret u)=>CE outer P w H s Q u s'
 | .ok _=>False
 | .error e=>CX outer H s E e s'
structure FnOk (P:Program) (w:World) (K:AV) (mg:Str->Option Value) (base:Heap) (CX:CXT) (k:Nat) (f:Addr) (fd:FuncData) (ps:List Str) (sp:Sp):Prop where
 len:∀vs H Q E,sp vs H Q E->vs.length=ps.length
 run:∀ (A:Around) (outer:List Env) (s:Al) (H:Hp) (args:Args) (us:List Ap) (vs:List V) (Q:VK) (E:XK),Room k A->Env0 P w K mg base A outer s H->BindsTo s fd args (ps.zip us)->Vals vs us->sp vs H Q E ->
  codeAny (model P w) A (.call (.ref f) args) (CR CX outer P w H s Q E) s
theorem Env0.make {P:Am} {w:Ao} {K:AV} {mg:Str->Option Ap} {base:Heap} {A:Around} {outer:List Env} {s:Al} {H:Hp} (e:Env0 P w K mg base A outer s H) (C:Addr) (us:List Ap) (kw:List (Str×Ap)) :
  Env0 P w K mg base (A.under (.builtin "type.__call__" ⟨.ref C :: us,kw⟩)) outer s H:=⟨by first | exact e.frames | (simpa [Around.under,Code.envs,Code.isFrame,pushEnvs] using e.frames),e.mod,e.bs,e.bsz,e.funs,e.frf,e.hok,e.bare⟩
section
variable {X:Cx} {pins:List (Addr×Obj)} {σ:St} {H:Hp} {s s':Al}
theorem Inv.env0 (I:Inv X pins σ H s):Env0 X.prog X.w X.K X.mg X.base X.A X.stack s H :=
 ⟨I.ok.frames,I.ok.mod,I.bs,AW I.ok.bsz I.sz,I.stack,I.stkFree,I.hok,I.bare⟩
theorem Inv.after {Q:VK} {u:Ap} (I:Inv X pins σ H s) (h:CE X.stack X.prog X.w H s Q u s'):EP X pins σ Q u s':=by obtain ⟨v,H',os,bare,un,hok,r,q⟩:=h;obtain ⟨hh,g,d,t,os'⟩:=s';obtain rfl:os'=s.os:=os;exact ⟨v,H',I.call (h':=hh) (g':=g) (d':=d) (t':=t) (ch:=[]) un hok bare (λ b z=>absurd z (by simp)),r,q⟩
end
def kC (sp:Sp) (dvs:List V) (E:XK) (t:TA):TE:=λ σ H Q=>t σ H λ vs H1=>sp (vs ++ dvs) H1 Q E
def nw (C:Addr) (m:Str) (sp:Sp) (dvs:List V) (E:XK) (ta:TE) (t:TA):TE:=λ σ H Q=>ta σ H λ x H1=>∃a dx fs,x=.ref a/\H1 a=some (.ins C dx fs)/\fs.lookup m=none /\
 t σ H1 λ vs H2=>sp (x :: (vs ++ dvs)) H2 Q E
def ny (C:Addr) (sp:Sp) (dvs:List V) (E:XK) (t:TA):TE:=λ σ H Q=>t σ H λ vs H1=>∀x dx,H1 x=none->H1 dx=none->dx≠x ->
 sp (.ref x :: (vs ++ dvs)) (upd (upd H1 dx (.own x)) x (.ins C dx [])) (λ v H2=>v=.non/\Q (.ref x) H2) E
def Binds (K:AV) (fd:An) (ps:List Str) (ds:List Ap):Prop :=
 ∀ (s:Al) (us:List Ap),K.In s.heap->(us ++ ds).length=ps.length->BindsTo s fd ⟨us,[]⟩ (ps.zip (us ++ ds))
theorem Binds.all {K:AV} {fd:An} {ps:List Str} (h:∀us:List Ap,us.length=ps.length->bindArgs fd ⟨us,[]⟩=pure (ps.zip us)):Binds K fd ps []:=λ s us _ hl=>by rw [List.append_nil] at hl ⊢;exact .of_eq (h us hl)
def dg (CX:CXT) (X:Cx) (E:XK):Prop:=∀ (pins:List (Addr×Obj)) (σ:St) (H:Hp) (s:Al) (e:Ap) (s':Al),Inv X pins σ H s->CX X.stack H s E e s'->X.xe e s'
section
variable {X:Cx} {CX:CXT} {k:Nat} {f C:Addr} {fd:An} {ps:List Str} {sp:Sp} {dvs:List V} {ds:List Ap} {E:XK} {x m:Str} {p pos apos:Pos} {e o:Expr} {es:List Expr} {ta:TE} {t:TA}
theorem kD {pins:List (Addr×Obj)} {σ:St} {H:Hp} {s:Al} {Q:VK} {us:List Ap} {vs:List V} (F:FnOk X.prog X.w X.K X.mg X.base CX k f fd ps sp) (hr:Room k X.A) (hb:Binds X.K fd ps ds) (hd:Vals dvs ds) (hx:dg CX X E)
  (I:Inv X pins σ H s) (r:Vals vs us) (h:sp (vs ++ dvs) H Q E):wpAny (model X.prog X.w) X.A (call (.ref f) us) (EP X pins σ Q) X.xe s:=by
 have r2:Vals (vs ++ dvs) (us ++ ds):=r.append hd;have hl:(us ++ ds).length=ps.length:=by rw [<- r2.length]; exact F.len _ _ _ _ h
 refine wpAny_call (codeAny_mono (F.run X.A X.stack s H ⟨us,[]⟩ (us ++ ds) (vs ++ dvs) Q E hr I.env0 (hb s us I.kIn hl) r2 h) λ r s' hq=>?_);cases r with
 | error e=>exact hx pins σ H s e s' I hq
 | ok fl =>
  cases fl with
  | ret u=>exact I.after hq
  | next=>exact Ad hq
  | brk=>exact Ad hq
  | cont=>exact Ad hq
theorem mh (F:FnOk X.prog X.w X.K X.mg X.base CX k f fd ps sp) (hr:Room k X.A) (hg:Gl X x) (hm:X.mg x=some (.ref f)) (hk:PySem.W.keepIn X.K (.ref f)=true) (hb:Binds X.K fd ps ds) (hd:Vals dvs ds) (hx:dg CX X E)
  (ha:PA X (e :: es) t) (hdb:(x == ("__debug__" : Str))=false:=by decide) (he:starEach (e :: es) X.env=(false,eval e X.env) :: starEach es X.env:=by rfl) (hpl:(backTo pos (starEach es X.env)).any (·.1)=false:=by rfl) :
  PE X (.Call (.Name x p) (e :: es) [] pos) (kC sp dvs E t):=by
 intro pins s σ H Q I h;refine wpAny_Call_Name_kw (fi I hg hm ?_ hdb);refine PySem.W.callWith_K (h₀:=X.base) I.ok.mod.kin hk (thn (ha pos pins s σ H _ I h) λ us s1 ⟨vs,H1,I1,r,q⟩=>⟨I1.kIn,?_⟩) he hpl;exact kD F hr hb hd hx I1 r q
theorem mi {pl:Sem Bool} (he:PE X o ta) (c:Cls X.K C) (hm:Meth X.K C m f) (F:FnOk X.prog X.w X.K X.mg X.base CX k f fd ps sp) (hr:Room k X.A) (hb:Binds X.K fd ps ds) (hd:Vals dvs ds) (hx:dg CX X E) (ha:PA X (e :: es) t)
  (hst:starEach (e :: es) X.env=(false,eval e X.env) :: starEach es X.env:=by rfl) (hpl:(backTo pos (starEach es X.env)).any (·.1)=false:=by rfl)
  (ht:eval (.Call (.Attribute o m apos) (e :: es) [] pos) X.env=(do
   let ov<-eval o X.env
   standAt apos.atName
   let (f,first)<-holding [ov] (getMethod ov m pl)
   callWith pos f first (backTo pos (starEach (e :: es) X.env)) (backToKw pos (keywordEach [] X.env))):=by rfl) :
  PE X (.Call (.Attribute o m apos) (e :: es) [] pos) (nw C m sp dvs E ta t):=by
 intro pins s σ H Q I h;refine PySem.W.methodCall_KW (pl:=pl) (thn (he pins s σ H _ I h) λ u s1 ⟨x,H1,I1,rx,a,dx,fs,ex,ea,l,q⟩=>?_) ht;subst ex;obtain rfl:u=Value.ref a:=rx;refine ee I1 ea c hm l ?_;refine PySem.W.callWith_K (first:=[.ref a]) (h₀:=X.base) I.ok.mod.kin hm.kp (thn (ha pos pins s1 σ H1 _ I1 q) λ us s2 ⟨vs,H2,I2,r,q2⟩=>⟨I2.kIn,?_⟩) hst hpl;exact kD (us:=.ref a :: us) (vs:=.ref a :: vs) F hr hb hd hx I2 (.cons rfl r) q2
structure Mk (K:AV) (C f:Addr):Prop where
 makes:PySem.W.makesIn K C=true
 init:PySem.W.findIn K (.ref C) "__init__" = some (some (.ref f))
 fn:PySem.W.isFn K (.ref f)=true
 kp:PySem.W.keepIn K (.ref C)=true
theorem kF {pins:List (Addr×Obj)} {σ:St} {H:Hp} {s:Al} {Q:VK} {us:List Ap} {vs:List V} (M:Mk X.K C f) (F:FnOk X.prog X.w X.K X.mg X.base CX k f fd ps sp) (hr:Room (k + 1) X.A) (hb:Binds X.K fd ps ds) (hd:Vals dvs ds)
  (hx:dg CX X E) (I:Inv X pins σ H s) (r:Vals vs us)
  (h:∀x dx,H x=none->H dx=none->dx≠x->sp (.ref x :: (vs ++ dvs)) (upd (upd H dx (.own x)) x (.ins C dx [])) (λ v H2=>v=.non/\Q (.ref x) H2) E) :
  wpAny (model X.prog X.w) X.A (call (.ref C) us) (EP X pins σ Q) X.xe s:=by
 have hq:=h (s.heap.objs.size + 1) s.heap.objs.size (I.hok.fresh (Nat.le_succ _)) (I.hok.fresh (AJ _)) (AQ (Af _));have I2:=Inv.made (C:=C) I;have r2:Vals (V.ref (s.heap.objs.size + 1) :: (vs ++ dvs)) (Value.ref (s.heap.objs.size + 1) :: (us ++ ds)):=.cons rfl (r.append hd);have hl:(Value.ref (s.heap.objs.size + 1) :: us ++ ds).length=ps.length:=by have e:=r2.length;rw [F.len _ _ _ _ hq] at e;exact e.symm
 refine wpAny_call (kA (f:=f) I.kIn M.makes M.init (AU.mp M.fn) (codeAny_mono (F.run _ X.stack _ _ ⟨Value.ref (s.heap.objs.size + 1) :: us,[]⟩ (Value.ref (s.heap.objs.size + 1) :: (us ++ ds)) _ _ E (hr.make C us [])
  (I2.env0.make C us []) (hb _ (Value.ref (s.heap.objs.size + 1) :: us) I2.kIn hl) r2 hq) λ r s' hq'=>?_))
 cases r with
 | error e=>exact hx pins σ _ _ e s' I2 hq'
 | ok fl =>
  cases fl with
  | ret u =>
   obtain ⟨v,H',I3,rv,ev,q3⟩:=I2.after hq';subst ev;exact ⟨rv,⟨V.ref (s.heap.objs.size + 1),H',I3,Z,q3⟩⟩
  | next=>exact Ad hq'
  | brk=>exact Ad hq'
  | cont=>exact Ad hq'
theorem mj (M:Mk X.K C f) (F:FnOk X.prog X.w X.K X.mg X.base CX k f fd ps sp) (hr:Room (k + 1) X.A) (hg:Gl X x) (hm:X.mg x=some (.ref C)) (hb:Binds X.K fd ps ds) (hd:Vals dvs ds) (hx:dg CX X E)
  (ha:PA X (e :: es) t) (hdb:(x == ("__debug__" : Str))=false:=by decide) (he:starEach (e :: es) X.env=(false,eval e X.env) :: starEach es X.env:=by rfl) (hpl:(backTo pos (starEach es X.env)).any (·.1)=false:=by rfl) :
  PE X (.Call (.Name x p) (e :: es) [] pos) (ny C sp dvs E t):=by
 intro pins s σ H Q I h;refine wpAny_Call_Name_kw (fi I hg hm ?_ hdb);refine PySem.W.callWith_K (h₀:=X.base) I.ok.mod.kin M.kp (thn (ha pos pins s σ H _ I h) λ us s1 ⟨vs,H1,I1,r,q⟩=>⟨I1.kIn,?_⟩) he hpl;exact kF M F hr hb hd hx I1 r q
end
section
variable {X:Cx} {CX:CXT} {k:Nat} {f C:Addr} {fd:An} {ps ks:List Str} {sp:Sp} {E:XK} {x m:Str} {p pos apos kpos:Pos} {e o:Expr} {es:List Expr} {kws:List Keyword} {te ta:TE} {t tk:TA} {nm:Option Str}
structure KBinds (K:AV) (fd:FuncData) (ps ks:List Str) (g:List Value->List Value->List Value) (gV:List V->List V->List V):Prop where
 to:∀ (s:Al) (us ws:List Ap),K.In s.heap->(g us ws).length=ps.length->BindsTo s fd ⟨us,ks.zip ws⟩ (ps.zip (g us ws))
 rel:∀ {vs:List V} {us:List Ap} {zs:List V} {ws:List Ap},Vals vs us->Vals zs ws->Vals (gV vs zs) (g us ws)
variable {g:List Ap->List Ap->List Ap} {gV:List V->List V->List V}
end
structure FnScope (N P:List Str) (sc:Scope):Prop where
 kind:sc.kind=.function
 co:sc.isCoroutine=false
 gen:sc.isGenerator=false
 nd:N.Nodup
 pre:N.take P.length=P
 par:∀x∈P,sc.names.lookup x=some .local\/sc.names.lookup x=some .cell
 nofree:∀y∈sc.names,y.2≠.free
theorem eQ {kindOf:Str->Option NameKind} {x:Str}:∀ {binds:List (Str×Ap)} {m:Str->Option Ap},(∀v,(x,v)∉binds)->bindL kindOf binds m x=m x
 | [],_,_=>rfl
 | (n,v) :: r,m,h=>by
  unfold bindL;rw [eQ λ w hw=>h w (List.mem_cons_of_mem _ hw)]
  split
  ·have:x≠n:=by rintro rfl; exact h v AN
   simp [this]
  ·rfl
theorem eR {kindOf:Str->Option NameKind} {x:Str}:∀ {binds:List (Str×Ap)} {m:Str->Option Ap},(∀v,(x,v)∉binds)->bindC kindOf binds m x=m x
 | [],_,_=>rfl
 | (n,v) :: r,m,h=>by
  unfold bindC;rw [eR λ w hw=>h w (List.mem_cons_of_mem _ hw)]
  split
  ·rfl
  ·have:x≠n:=by rintro rfl; exact h v AN
   simp [this]
theorem eS {kindOf:Str->Option NameKind} {x:Str} {v:Ap}:∀ {P:List Str} {vs:List Ap} {i:Nat} {m:Str->Option Ap},P.Nodup->P[i]? = some x->vs[i]? = some v->kindOf x=some .local ->
  bindL kindOf (P.zip vs) m x=some v
 | [],_,_,_,_,h,_,_=>by simp at h
 | _ :: _,[],_,_,_,_,h,_=>by simp at h
 | p :: P,w :: vs,0,m,nd,h1,h2,hk=>by simp at h1 h2; subst h1; subst h2;show bindL kindOf ((p,w) :: P.zip vs) m p=_;unfold bindL;rw [eQ λ v hv=>(List.nodup_cons.mp nd).1 (List.of_mem_zip hv).1,if_pos hk];simp
 | p :: P,w :: vs,i + 1,m,nd,h1,h2,hk=>by show bindL kindOf ((p,w) :: P.zip vs) m x=_;unfold bindL;exact eS (i:=i) (List.nodup_cons.mp nd).2 (by simpa using h1) (by simpa using h2) hk
theorem eT {kindOf:Str->Option NameKind} {x:Str} {v:Ap}:∀ {P:List Str} {vs:List Ap} {i:Nat} {m:Str->Option Ap},P.Nodup->P[i]? = some x->vs[i]? = some v->kindOf x≠some .local ->
  bindC kindOf (P.zip vs) m x=some v
 | [],_,_,_,_,h,_,_=>by simp at h
 | _ :: _,[],_,_,_,_,h,_=>by simp at h
 | p :: P,w :: vs,0,m,nd,h1,h2,hk=>by simp at h1 h2; subst h1; subst h2;show bindC kindOf ((p,w) :: P.zip vs) m p=_;unfold bindC;rw [eR λ v hv=>(List.nodup_cons.mp nd).1 (List.of_mem_zip hv).1,if_neg hk];simp
 | p :: P,w :: vs,i + 1,m,nd,h1,h2,hk=>by show bindC kindOf ((p,w) :: P.zip vs) m x=_;unfold bindC;exact eT (i:=i) (List.nodup_cons.mp nd).2 (by simpa using h1) (by simpa using h2) hk
def dA (N:List Str) (vs:List V):St:=vs.map some ++ List.replicate (N.length - vs.length) none
def jc (CX:CXT) (P:Am) (w:Ao) (K:AV) (mg:Str->Option Ap) (base:Heap) (N:List Str) (qual:Str) (scope:Scope) (f:Addr) (cd:Ap) (A:Around) (outer:List Env) (s:Al) (H:Hp) (E:XK):Cx where
 prog:=P
 w:=w
 K:=K
 mg:=mg
 base:=base
 A:=A.deeper (envOfC qual scope s.heap.objs.size f cd)
 N:=N
 s₀:=s
 H₀:=H
 env:=envOfC qual scope s.heap.objs.size f cd
 outer:=outer
 stack:=envOfC qual scope s.heap.objs.size f cd :: outer
 ex:=[]
 calm:=true
 fn:=λ _=>true
 pn:=[]
 xe:=λ e s'=>wpAny (model P w) (A.deeper (envOfC qual scope s.heap.objs.size f cd)) (leaving (envOfC qual scope s.heap.objs.size f cd) e) (λ _ s''=>CX outer H s E e s'') (λ e' s''=>CX outer H s E e' s'') s'
theorem fV {sc:Scope} {n:Nat} {x:Str} (h:sc.names.lookup x=some .cell):∃c,(cellsFrom n sc.names []).lookup x=some c:=by have q:=PySem.W.cellsFrom_some sc.names n [] (.inl h);exact Option.isSome_iff_exists.mp q
theorem jd {CX:CXT} {P:Am} {w:Ao} {K:AV} {mg:Str->Option Ap} {base:Heap} {N ps:List Str} {qual:Str} {scope:Scope} {f:Addr} {cd:Ap} {A:Around} {outer:List Env} {s s1:Al} {H:Hp} {E:XK} {us:List Ap} {vs:List V}
  (S:FnScope N ps scope) (hd:A.handled=none) (e0:Env0 P w K mg base A outer s H) (hl:vs.length=ps.length) (r:Vals vs us)
  (x:InCallC s s.heap.objs.size (bindL (envOfC qual scope s.heap.objs.size f cd).kindOf (ps.zip us) λ _=>none) (cellsFrom (s.heap.objs.size + 1) scope.names []) (bindC (envOfC qual scope s.heap.objs.size f cd).kindOf (ps.zip us) λ _=>none) s1) :
  Inv (jc CX P w K mg base N qual scope f cd A outer s H E) [] (dA N vs) H s1:=by
 have hpl:ps.length<=N.length:=by have:=congrArg List.length S.pre; rw [List.length_take] at this; omega
 obtain ⟨h1,tk,rfl,hk⟩:=x.done;have noA:∀b:Addr,b∉(jc CX P w K mg base N qual scope f cd A outer s H E).ex:=λ b z=>absurd (show b∈([]:List Addr) from z) (by simp);refine ⟨⟨e0.mod,S.kind,Z,Z,AJ _,λ y z c h1 h2=>?_,λ y hy=>?_,λ y c _ h=>?_,λ _=>hd,Around.frames_deeper e0.frames,.inr ⟨Z,Z⟩,λ b z=>absurd z (noA b),e0.bs,e0.bsz,λ b _ _=>noA b,λ b z=>absurd z (noA b),e0.funs,e0.frf⟩,
  rfl,e0.bare,Un.kept hk,⟨_,x.toInCall.ns,λ i y v h1 h2 h3=>?_⟩,λ y c h=>⟨_,x.cell y c h⟩,e0.hok.fresh (AJ _),λ y c h=>?_,λ p hp=>absurd (show p∈([]:List (Addr×Obj)) from hp) (by simp),e0.hok.kept hk,?_⟩
 ·exact name_of_addr x.apart (PySem.mem_of_lookup h1) (PySem.mem_of_lookup h2)
 ·have hy:scope.names.lookup y=some .cell\/scope.names.lookup y=some .free:=hy;rcases hy with hy | hy
  ·exact fV hy
  ·exact absurd rfl (S.nofree _ (PySem.mem_of_lookup hy))
 ·exact Nat.le_of_lt (x.above y c (PySem.mem_of_lookup h))
 ·have hi:i < vs.length:=by
   unfold dA at h2
   by_cases hi:i < vs.length
   ·exact hi
   ·rw [List.getElem?_append_right (by simpa using hi)] at h2;rw [List.getElem?_replicate] at h2
    split at h2 <;> cases h2
  have ha:vs[i]? = some v:=by
   unfold dA at h2;rw [List.getElem?_append_left (by simpa using hi),List.getElem?_map] at h2;cases e:vs[i]? with
   | none=>rw [e] at h2; cases h2
   | some a=>rw [e] at h2; cases h2; rfl
  obtain ⟨u,hu,rv⟩:=r.get ha;have hp:ps[i]? = some y:=by rw [<- S.pre,List.getElem?_take_of_lt (by omega)]; exact h1
  have ndP:ps.Nodup:=by rw [<- S.pre]; exact S.nd.sublist (List.take_sublist _ _)
  refine ⟨u,rv,?_⟩;rcases S.par y (AL hp) with k | k
  ·exact .inl ⟨k,eS ndP hp hu k⟩
  ·obtain ⟨c,e⟩:=fV (n:=s.heap.objs.size + 1) k;refine .inr ⟨.inl k,c,e,?_⟩;have q:=x.cell y c e;rw [eT ndP hp hu (by show scope.names.lookup y≠_; rw [k]; decide)] at q;exact q
 ·exact e0.hok.fresh (Nat.le_of_lt (x.above y c (PySem.mem_of_lookup h)))
 ·unfold dA;show _=N.length;rw [List.length_append,List.length_map,List.length_replicate];omega
theorem qv {CX:CXT} {P:Am} {w:Ao} {K:AV} {mg:Str->Option Ap} {base:Heap} {k:Nat} {f:Addr} {name qual:Str} {params:Arguments} {body:List Stmt} {scope:Scope} {dV kV doc pm cdv ct oc:Ap} {an od:Option Addr}
  {osl:Array (Option Ap)} {N ps:List Str} {sp:Sp} (lk:K.lookup f=some ⟨oc,od,.func (Ac name qual params body scope dV kV doc pm an cdv ct),osl⟩) (hcd:PySem.W.codeIn K cdv qual=true) (S:FnScope N ps scope)
  (len:∀vs H Q E,sp vs H Q E->vs.length=ps.length)
  (hbody:∀ (A:Around) (outer:List Env) (s:Al) (H:Hp) (vs:List V) (Q:VK) (E:XK),Room k (A.deeper (envOfC qual scope s.heap.objs.size f cdv))->sp vs H Q E ->
   ∃t,PSs (jc CX P w K mg base N qual scope f cdv A outer s H E) body t/\t { nx:=λ _ H'=>Q .non H',rt:=Q } (dA N vs) H) :
  FnOk P w K mg base CX (k + 1) f (Ac name qual params body scope dV kV doc pm an cdv ct) ps sp:=by
 refine ⟨len,λ A outer s H args us vs Q E hr e0 hb r hsp=>?_⟩;have hl:=len _ _ _ _ hsp;have KX:K.In s.heap:=e0.mod.kin.keeps λ b o e=>(e0.bs b o e).1;have lim:s.heap.NoLimit:=e0.mod.nolimit.keeps λ b o e=>(e0.bs b o e).1;have hkind:∀y∈ps.zip us,scope.names.lookup y.1=some .local\/(scope.names.lookup y.1=some .cell/\((cellsFrom (s.heap.objs.size + 1) scope.names []).lookup y.1).isSome=true):=λ ⟨n,v⟩ hy=>by
  rcases S.par n (List.of_mem_zip hy).1 with q | q
  ·exact .inl q
  ·exact .inr ⟨q,PySem.W.cellsFrom_some _ _ _ (.inl q)⟩
 refine codeAny_call_function hr.depth (KX _ _ lk) rfl S.co S.gen rfl (PySem.W.codeRec_of KX hcd) (hb _ _ _ _ ?_);refine wpAny_newFunctionEnv_cells S.kind hkind λ env he s1 x=>?_;subst he;refine ⟨lim.keeps x.toInCall.keep,codeAny_func ?_⟩;obtain ⟨t,ht,hq⟩:=hbody A outer s H vs Q E (hr.deeper _) hsp;have I:Inv (jc CX P w K mg base N qual scope f cdv A outer s H E) [] (dA N vs) H s1:=jd S hr.hd e0 hl r x;refine wpAny_mono (ht [] s1 (dA N vs) H _ I hq) (λ fl s' hs=>?_) λ e s' hs=>hs;have fin:∀ {σ':St} {H':Hp} {v:V} {u:Ap},Inv (jc CX P w K mg base N qual scope f cdv A outer s H E) [] σ' H' s'->RelV v u->Q v H'->CE outer P w H s Q u s' :=
  λ {σ' H' v u} J rv q=>⟨v,H',J.os,J.bare,J.base,J.hok,rv,q⟩
 cases fl with
 | ret u =>
  obtain ⟨v,σ',H',J,rv,q⟩:=hs;exact fin J rv q
 | next =>
  obtain ⟨σ',H',J,q⟩:=hs;exact fin (v:=V.non) (u:=Value.none) J rfl q
 | brk =>
  obtain ⟨_,_,_,q⟩:=hs;exact Ad q
 | cont =>
  obtain ⟨_,_,_,q⟩:=hs;exact Ad q
section
variable {X:Cx} {x:Str} {p pos:Pos} {e:Expr} {es:List Expr} {t:TA} {id T:String} {r:List V->Hp->VK->Prop}
def tCB (r:List V->Hp->VK->Prop) (t:TA):TE:=λ σ H Q=>t σ H λ vs H1=>r vs H1 Q
theorem aw (hc:bQ X (.builtin id) r) (hg:Gl X x) (hm:X.mg x=none) (hv:bootBuiltins x=some (.builtin id)) (ha:PA X (e :: es) t) (hn:x ≠ "__name__" := by decide) (hdb:(x == ("__debug__" : Str))=false:=by decide)
  (he:starEach (e :: es) X.env=(false,eval e X.env) :: starEach es X.env:=by rfl) (hpl:(backTo pos (starEach es X.env)).any (·.1)=false:=by rfl):PE X (.Call (.Name x p) (e :: es) [] pos) (tCB r t):=by
 intro pins s σ H Q I h;refine wpAny_Call_Name_kw (dX I hg hm hv ?_ hn hdb);exact PyProof.Rows.callWith_builtin1 (thn (ha pos pins s σ H _ I h) λ us s1 ⟨vs,H1,I1,r1,q1⟩=>hc pins s1 σ H1 vs us Q I1 r1 q1) he hpl
theorem aW (hc:bQ X (.type T) r) (hg:Gl X x) (hm:X.mg x=none) (hv:bootBuiltins x=some (.type T)) (ha:PA X (e :: es) t) (hn:x ≠ "__name__" := by decide) (hdb:(x == ("__debug__" : Str))=false:=by decide)
  (he:starEach (e :: es) X.env=(false,eval e X.env) :: starEach es X.env:=by rfl) (hpl:(backTo pos (starEach es X.env)).any (·.1)=false:=by rfl):PE X (.Call (.Name x p) (e :: es) [] pos) (tCB r t):=by
 intro pins s σ H Q I h;refine wpAny_Call_Name_kw (dX I hg hm hv ?_ hn hdb);exact PyProof.Rows.callWith_type1 (thn (ha pos pins s σ H _ I h) λ us s1 ⟨vs,H1,I1,r1,q1⟩=>hc pins s1 σ H1 vs us Q I1 r1 q1) he hpl
end
end L2
namespace HT
open PySem PyProof.Rows
section
variable {prog:Am} {w:Ao} {A:Around} {E:Ap->Al->Prop} {s:Al}
theorem cat_tup {t b:Addr} {vs ws:List Ap} {Q:Ap->Al->Prop} (ht:IsTup s.heap t vs.toArray) (hb:IsTup s.heap b ws.toArray) (hv:vs≠[])
  (h1:ws=[]->Q (.ref t) s) (h2:ws≠[]->Q (.ref s.heap.objs.size) { s with heap:=s.heap.push { cls:=.type "tuple",data:=.seq (vs ++ ws).toArray } })
  (hsz:vs.length + ws.length<=sizeLine):wpAny (model prog w) A (binaryOp .Add (.ref t) (.ref b)) Q E s:=by
 obtain ⟨⟨cls,dd,data,sl⟩,ho,hc,n,hd⟩:=id ht;obtain ⟨⟨cls2,dd2,data2,sl2⟩,ho2,hc2,n2,hd2⟩:=id hb;simp only at hc hd hc2 hd2;subst hc hd hc2 hd2;have e:vs.toArray ++ ws.toArray=(vs ++ ws).toArray:=by simp
 by_cases hw:ws=[]
 ·exact concat_meets ⟨_,ho,rfl⟩ ⟨_,ho2,rfl⟩ noFill_tuple_add seq_tuple_add PySem.F.slot_tuple_add PySem.F.entry_tuple_add (PySem.F.args_tuple_add_2 _ _)
   (tuple_addW1 t b vs.toArray ws.toArray n n2 dd dd2 sl sl2 (by simpa using hv) (by simp [hw])) ⟨ho,ho2,h1 hw⟩
 ·refine concat_meets ⟨_,ho,rfl⟩ ⟨_,ho2,rfl⟩ noFill_tuple_add seq_tuple_add PySem.F.slot_tuple_add PySem.F.entry_tuple_add (PySem.F.args_tuple_add_2 _ _)
   (tuple_addW2 t b vs.toArray ws.toArray n n2 dd dd2 sl sl2 (by simpa using hv) (by simpa using hw) (by rw [List.size_toArray,List.size_toArray]; exact hsz)) ⟨ho,ho2,?_⟩
  rw [e];exact h2 hw
def sIx (n d:Nat):Option Int->Nat
 | none=>d
 | some v=>if v < 0 then (v + (n:Int)).toNat else min v.toNat n
theorem sIx_none (n d:Nat):sIx n d none=d:=rfl
theorem sIx_nat (n d k:Nat):sIx n d (some (k:Int))=min k n:=by show (if (k:Int) < 0 then ((k:Int) + (n:Int)).toNat else min (k:Int).toNat n)=min k n;rw [if_neg (by omega),Int.toNat_natCast]
theorem nT (n d:Nat) (hd:d<=n) (o:Option Int):sIx n d o<=n:=by
 cases o with
 | none=>exact hd
 | some v =>
  show (if v < 0 then (v + (n:Int)).toNat else min v.toNat n)<=n
  by_cases hv:v < 0
  ·rw [if_pos hv]; omega
  ·rw [if_neg hv]; exact Nat.min_le_right _ _
theorem iD (v:Int) (n d:Nat):(if v < 0 then max (v + (n:Int)) 0 else min v (n:Int))=((sIx n d (some v):Nat):Int):=by
 show (if v < 0 then max (v + (n:Int)) 0 else min v (n:Int))=(((if v < 0 then (v + (n:Int)).toNat else min v.toNat n):Nat):Int)
 by_cases hv:v < 0
 ·simp only [if_pos hv]; omega
 ·simp only [if_neg hv]; omega
theorem gI (lo hi:Option Int) (n:Nat):Builtin.Slice.sliceAdjust lo hi 1 (n:Int)=(((sIx n 0 lo:Nat):Int),((sIx n n hi:Nat):Int)):=by
 have h1:¬ ((1:Int) < 0):=by omega
 unfold Builtin.Slice.sliceAdjust;simp only [h1,if_false];refine Prod.ext ?_ ?_
 ·cases lo with
  | none=>rfl
  | some v=>exact iD v n 0
 ·cases hi with
  | none=>rfl
  | some v=>exact iD v n n
theorem gJ (i j:Nat):Builtin.Slice.slicePlaces (i:Int) (j:Int) 1=j - i:=by
 unfold Builtin.Slice.slicePlaces;have h1:(1:Int) > 0:=by omega
 simp only [h1,if_true,Int.ediv_one]
 split <;> omega
theorem ef {v:Ap} {o:Option Int} {Q:Option Int->Al->Prop} (p:IsPart v o) (h:Q o s):wpAny (model prog w) A (Builtin.Slice.slicePartIndex v) Q E s:=by
 cases p with
 | none=>exact slicePart_none h
 | int i t=>exact slicePart_int h
theorem dh {sl:Addr} {vl vu:Ap} {lo hi:Option Int} {n:Nat} {Q:Int×Int×Nat->Al->Prop} (hs:s.heap.IsSliceOf sl vl vu .none) (pl:IsPart vl lo) (pu:IsPart vu hi)
  (h:Q (((sIx n 0 lo:Nat):Int),1,sIx n n hi - sIx n 0 lo) s):wpAny (model prog w) A (Builtin.Slice.sliceApplied (.ref sl) (pure (n:Int))) Q E s:=by
 obtain ⟨os,hos,hcs,hds⟩:=id hs;unfold Builtin.Slice.sliceApplied Builtin.Slice.sliceFields;refine AA (AA (wpAny_field hos hds (x:=vl) rfl (AA (wpAny_field hos hds (x:=vu) rfl (AA (wpAny_field hos hds (x:=.none) rfl (AB ?_)))))));refine AA (slicePart_none ?_);show wpAny _ _ (if ((1:Int) == 0)=true then _ else _) _ _ s;rw [if_neg (by decide)];refine AA (ef pl (AA (ef pu (AA (AB ?_)))));show wpAny _ _ (match Builtin.Slice.sliceAdjust lo hi 1 (n:Int) with | (lo,hi)=>pure (lo,(1:Int),Builtin.Slice.slicePlaces lo hi 1)) _ _ s;rw [gI lo hi n];show wpAny _ _ (pure (((sIx n 0 lo:Nat):Int),(1:Int),Builtin.Slice.slicePlaces ((sIx n 0 lo:Nat):Int) ((sIx n n hi:Nat):Int) 1)) _ _ s;rw [gJ];exact AB h
theorem kG (xs:Array Ap) (i k:Nat):((List.range k).filterMap λ (m:Nat)=>xs[((i:Int) + (m:Int) * 1).toNat]?).toArray=((xs.toList.drop i).take k).toArray:=by
 have e:(λ (m:Nat)=>xs[((i:Int) + (m:Int) * 1).toNat]?)=λ m=>xs[i + m]? := by
  funext m
  have:((i:Int) + (m:Int) * 1).toNat=i + m:=by omega
  rw [this]
 rw [e];have:=pick_run xs i k;rw [List.filterMap_map] at this;have e2:((λ x=>xs[x]?)∘λ x=>i + x)=λ m=>xs[i + m]? := rfl;rw [e2] at this;rw [this]
theorem getItem_tuple_cut {t sl:Addr} {items:Array Ap} {vl vu:Ap} {lo hi:Option Int} {Q:Ap->Al->Prop} (ht:IsTup s.heap t items) (hs:s.heap.IsSliceOf sl vl vu .none) (pl:IsPart vl lo) (pu:IsPart vu hi)
  (hw:¬ (sIx items.size 0 lo=0/\sIx items.size items.size hi=items.size))
  (h:Q (.ref s.heap.objs.size) { s with heap:=s.heap.push { cls:=.type "tuple",data:=.seq ((items.toList.drop (sIx items.size 0 lo)).take (sIx items.size items.size hi - sIx items.size 0 lo)).toArray } })
  (hsz:items.size<=sizeLine):wpAny (model prog w) A (getItem (.ref t) (.ref sl)) Q E s:=by
 have htake:sizeOk (.seq ((items.toList.drop (sIx items.size 0 lo)).take (sIx items.size items.size hi - sIx items.size 0 lo)).toArray):=by show ((items.toList.drop (sIx items.size 0 lo)).take (sIx items.size items.size hi - sIx items.size 0 lo)).toArray.size<=sizeLine;rw [List.size_toArray,List.length_take,List.length_drop,Array.length_toList];omega
 have hj:sIx items.size items.size hi<=items.size:=nT _ _ (AJ _) hi;obtain ⟨os,hos,hcs,hds⟩:=id hs;have hTs:s.TypeIs (.ref sl) "slice" := ⟨os,hos,hcs⟩
 unfold getItem
 try with_reducible refine wpAny_holding ?_
 first | refine AA (AB ?_) | skip
 refine AA (wpAny_sequenceKey ht.typeIs (by decide) ?_);refine AA (wpAny_callSpecial?_slot (name:=Str.ofString "__getitem__") ht.typeIs PyProof.Rows.slot_tuple_getitem
  (Ai PyProof.Rows.slot_tuple_getitem ht.typeIs entry_tuple_getitem ?_ (args_tuple_getitem _ _)))
 show wpAny _ _ (Builtin.Tuple.tupleItemsOf (.ref t) >>= _) _ _ s;refine AA (tupleItemsOf_ ht ?_);refine AA (wpAny_typeOf hTs ?_);rw [if_pos (by decide)];refine AA (dh hs pl pu ?_);have hno:¬ ((((sIx items.size 0 lo:Nat):Int) == 0 && (1:Int) == 1 && (sIx items.size items.size hi - sIx items.size 0 lo) == items.size)=true):=by intro q;rw [Bool.and_eq_true,Bool.and_eq_true] at q;have q1:((sIx items.size 0 lo:Nat):Int)=0:=eq_of_beq q.1.1;have q2:sIx items.size items.size hi - sIx items.size 0 lo=items.size:=eq_of_beq q.2;exact hw ⟨by omega,by omega⟩
 show wpAny _ _ (if (((sIx items.size 0 lo:Nat):Int) == 0 && (1:Int) == 1 && (sIx items.size items.size hi - sIx items.size 0 lo) == items.size)=true then _ else _) _ _ s;rw [if_neg hno,kG]
 first
  | exact AA (m:=Builtin.Tuple.tupleExact _) (Aj (AB ⟨_,rfl,AB h⟩) htake)
  | exact AA (m:=Builtin.Tuple.tupleExact _) (Aj (AA (AB (AB ⟨_,rfl,AB h⟩))) htake)
  | exact AA (AA (m:=Builtin.Tuple.tupleExact _) (Aj (AB (AB ⟨_,rfl,AB h⟩)) htake))
  | exact AA (AA (m:=Builtin.Tuple.tupleExact _) (Aj (AB ⟨_,rfl,AB h⟩) htake))
end
end HT
namespace L2
open PySem PySem.Spec PyProof.Rows
abbrev TO:=St->Hp->(Option Int->Hp->Prop)->Prop
def PO (X:Cx) (e:Option Expr) (t:TO):Prop :=
 ∀ (pins:List (Addr×Obj)) (s:Al) (σ:St) (H:Hp) (Q:Option Int->Hp->Prop),Inv X pins σ H s->t σ H Q ->
  wpAny (model X.prog X.w) X.A (evalPart e X.env) (λ u s'=>∃o H',Inv X pins σ H' s'/\IsPart u o/\Q o H') X.xe s
def ml:TO:=λ _ H Q=>Q none H
def qw (t:TE):TO:=λ σ H Q=>t σ H λ x H1=>∃i,x=.int i/\Q (some i) H1
section
variable {X:Cx} {e:Expr} {te:TE} {lo hi:Option Expr} {tl th:TO} {pos p2:Pos}
theorem bz:PO X none ml:=by intro pins s σ H Q I h;rw [evalPart_none];exact AB ⟨none,H,I,.none,h⟩
theorem bA (h:PE X e te):PO X (some e) (qw te):=by intro pins s σ H Q I hw;rw [evalPart_some];refine thn (h pins s σ H _ I hw) λ u s1 ⟨x,H1,I1,r1,q1⟩=>?_;obtain ⟨i,rfl,q⟩:=q1;obtain ⟨t,rfl⟩:=r1;exact ⟨some i,H1,I1,.int i t,q⟩
def SlR (X:Cx) (r:V->Option Int->Option Int->Hp->VK->Prop):Prop :=
 ∀ (pins:List (Addr×Obj)) (s:Al) (σ:St) (H:Hp) (x:V) (v vl vu:Ap) (lo hi:Option Int) (sl:Addr) (Q:VK),Inv X pins σ H s->RelV x v->s.heap.IsSliceOf sl vl vu .none->IsPart vl lo->IsPart vu hi->r x lo hi H Q ->
  ∃T id,typeLookup (.type T) "__getitem__" = pure (some (.builtin id))/\s.TypeIs v T/\wpAny (model X.prog X.w) X.A (getItem v (.ref sl)) (EP X pins σ Q) X.xe s
theorem SlR.or {r r':V->Option Int->Option Int->Hp->VK->Prop} (h:SlR X r) (h':SlR X r'):SlR X (λ x lo hi H Q=>r x lo hi H Q\/r' x lo hi H Q):=by
 intro pins s σ H x v vl vu lo hi sl Q I rx hs pl pu q;rcases q with q | q
 ·exact h pins s σ H x v vl vu lo hi sl Q I rx hs pl pu q
 ·exact h' pins s σ H x v vl vu lo hi sl Q I rx hs pl pu q
def tSl (r:V->Option Int->Option Int->Hp->VK->Prop) (te:TE) (tl th:TO):TE:=λ σ H Q=>te σ H λ x H1=>tl σ H1 λ l H2=>th σ H2 λ u H3=>r x l u H3 Q
theorem bj {r:V->Option Int->Option Int->Hp->VK->Prop} (hr:SlR X r) (he:PE X e te) (hl:PO X lo tl) (hu:PO X hi th):PE X (.Subscript e (.Slice lo hi none p2) pos) (tSl r te tl th):=by intro pins s σ H Q I h;refine Subscript_ (thn (he pins s σ H _ I h) λ v s1 ⟨x,H1,I1,r1,q1⟩=>?_);refine wpAny_Slice (thn (hl pins s1 σ H1 _ I1 q1) λ vl s2 ⟨l,H2,I2,pl,q2⟩=>thn (hu pins s2 σ H2 _ I2 q2) λ vu s3 ⟨u,H3,I3,pu,q3⟩=>?_);rw [evalPart_none];refine AB ?_;have I4:Inv X pins σ H3 { s3 with heap:=s3.heap.push { cls:=.type "slice", data:=.fields #[vl, vu, .none] } }:=I3.kept (t':=s3.toks) λ b ob q=>AE _ q;obtain ⟨T,id,hT,ht,hg⟩:=hr pins { s3 with heap:=s3.heap.push { cls:=.type "slice",data:=.fields #[vl,vu,.none] } } σ H3 x v vl vu l u s3.heap.objs.size Q I4 r1 (Heap.IsSliceOf.new ..) pl pu q3;show wpAny (model X.prog X.w) X.A (subscriptTail e (.Slice lo hi none p2) v (.ref s3.heap.objs.size)) (EP X pins σ Q) X.xe { s3 with heap:=s3.heap.push { cls:=.type "slice",data:=.fields #[vl,vu,.none] } };exact tail_any (ops:=[.ref s3.heap.objs.size,v]) ht hT hg (by with_unfolding_all rfl)
def bR (xs:List V) (lo hi:Option Int):List V:=(xs.drop (HT.sIx xs.length 0 lo)).take (HT.sIx xs.length xs.length hi - HT.sIx xs.length 0 lo)
theorem dB (xs:List V) (lo hi:Option Int):(bR xs lo hi).length<=xs.length:=by unfold bR;rw [List.length_take,List.length_drop];omega
def xi (K:AV):V->Option Int->Option Int->Hp->VK->Prop:=λ x lo hi H Q=>∃a xs,x=.ref a/\SqT K H a xs /\
 ¬ (HT.sIx xs.length 0 lo=0/\HT.sIx xs.length xs.length hi=xs.length)/\∀p,H p=none->Q (.ref p) (upd H p (.tup (bR xs lo hi)))
theorem di:SlR X (xi X.K):=by
 intro pins s σ H x v vl vu lo hi sl Q I rx hs pl pu h;obtain ⟨a,xs,rfl,hx,hw,q⟩:=h;cases rx;obtain ⟨its,r,ht,hz⟩:=I.tuple hx;have hlen:its.toArray.size=xs.length:=by rw [List.size_toArray]; exact r.length.symm
 refine ⟨"tuple",_,PyProof.Rows.slot_tuple_getitem.lookup,ht.typeIs,?_⟩;refine HT.getItem_tuple_cut ht hs pl pu (by rw [hlen]; exact hw) ?_ (by rw [hlen]; exact hz);rw [hlen];refine ⟨.ref s.heap.objs.size,_,I.laid (t':=s.toks) (o:=.tup (bR xs lo hi)) (λ b ob q=>AE _ q) (AJ _) ?_,Z,q _ (I.hok.fresh (AJ _))⟩;exact ⟨AW (dB xs lo hi) hz,_,(r.drop (HT.sIx xs.length 0 lo)).take (HT.sIx xs.length xs.length hi - HT.sIx xs.length 0 lo),IsTup.new _ _⟩
def qx (K:AV):R2:=λ x y H Q=>∃a b xs ys,x=.ref a/\y=.ref b/\SqT K H a xs/\SqT K H b ys/\xs≠[]/\xs.length + ys.length<=sizeLine /\
 (ys=[]->Q (.ref a) H)/\(ys≠[]->∀p,H p=none->Q (.ref p) (upd H p (.tup (xs ++ ys))))
theorem Vals.nil_iff {xs:List V} {us:List Ap} (r:Vals xs us):us=[]↔xs=[]:=by
 cases r with
 | nil=>simp
 | cons _ _=>simp
theorem mn:OpR X (binaryOp .Add) (qx X.K):=by intro pins s σ H x y v u Q I rx ry h;obtain ⟨a,b,xs,ys,rfl,rfl,ha,hb,hx,hz,q1,q2⟩:=h;cases rx;cases ry;obtain ⟨its,r1,p1,_⟩:=I.tuple ha;obtain ⟨its2,r2,p2,_⟩:=I.tuple hb;refine HT.cat_tup p1 p2 (λ z=>hx (r1.nil_iff.mp z)) (λ z=>⟨.ref a,H,I,Z,q1 (r2.nil_iff.mp z)⟩) (λ z=>?_) (by rw [<- r1.length,<- r2.length]; exact hz);refine ⟨.ref s.heap.objs.size,_,I.laid (t':=s.toks) (o:=.tup (xs ++ ys)) (λ b ob q=>AE _ q) (AJ _) ?_,Z,q2 (λ w=>z (r2.nil_iff.mpr w)) _ (I.hok.fresh (AJ _))⟩;exact ⟨by rw [List.length_append]; exact hz,_,r1.append r2,IsTup.new _ _⟩
end
def ixN (n:Nat) (i:Int):Option Nat:=if 0<=i then (if i < n then some i.toNat else none) else if -(n:Int)<=i then some (i + n).toNat else none
def atI {α:Type} (xs:List α) (i:Int):Option α:=(ixN xs.length i).bind λ j=>xs[j]?
theorem iE {n:Nat} {i:Int} {j:Nat} (h:ixN n i=some j):seqIndex? i n=some j/\j < n/\-(n:Int)<=i/\i < n:=by
 unfold ixN at h
 by_cases h0:0<=i
 ·rw [if_pos h0] at h
  by_cases h1:i < n
  ·rw [if_pos h1] at h;have e:i.toNat=j:=AO h;exact ⟨by rw [seqIndex_of h0 h1,e],by omega,by omega,h1⟩
  ·rw [if_neg h1] at h; cases h
 ·rw [if_neg h0] at h
  by_cases h1:-(n:Int)<=i
  ·rw [if_pos h1] at h;have e:(i + n).toNat=j:=AO h;exact ⟨by rw [seqIndex_neg (by omega) h1,e],by omega,h1,by omega⟩
  ·rw [if_neg h1] at h; cases h
theorem fu {α:Type} {xs:List α} {i:Int} {v:α} (h:atI xs i=some v):∃j,seqIndex? i xs.length=some j/\xs[j]? = some v/\j < xs.length/\-(xs.length:Int)<=i/\i < xs.length:=by
 unfold atI at h;cases e:ixN xs.length i with
 | none=>rw [e] at h; cases h
 | some j =>
  rw [e] at h;obtain ⟨h1,h2,h3,h4⟩:=iE e;exact ⟨j,h1,h,h2,h3,h4⟩
theorem mq {α:Type} {xs:List α} {j:Nat} {v:α} (h:xs[j]? = some v):atI xs (j:Int)=some v:=by
 have hj:j < xs.length:=(AD.mp h).1;have e:ixN xs.length (j:Int)=some j:=by unfold ixN;rw [if_pos (by omega),if_pos (by omega)]; simp
 unfold atI; rw [e]; exact h
def mr (b:Expr):Prop:=∀o i,subscripted b false o i=operate [o,i] (getItem o i)
def IxR (X:Cx) (r:R2):Prop :=
 ∀ (value slice:Expr) (pins:List (Addr×Obj)) (s:Al) (σ:St) (H:Hp) (x y:V) (v u:Ap) (Q:VK),Inv X pins σ H s->RelV x v->RelV y u->r x y H Q ->
  subscripted slice false v u=operate [v,u] (getItem v u)->wpAny (model X.prog X.w) X.A (subscriptTail value slice v u) (EP X pins σ Q) X.xe s
def MtR (X:Cx) (id:String) (r:V->List V->Hp->VK->Prop):Prop :=
 ∀ (pins:List (Addr×Obj)) (s:Al) (σ:St) (H:Hp) (x:V) (xs:List V) (v:Ap) (us:List Ap) (Q:VK),Inv X pins σ H s->RelV x v->Vals xs us->r x xs H Q ->
  wpAny (model X.prog X.w) X.A (call (.builtin id) (v :: us)) (EP X pins σ Q) X.xe s
section
variable {X:Cx} {a b:Expr} {ta tb:TE} {pos:Pos}
theorem IxR.or {r r':R2} (h:IxR X r) (h':IxR X r'):IxR X (λ x y H Q=>r x y H Q\/r' x y H Q):=by
 intro value slice pins s σ H x y v u Q I rx ry q hs;rcases q with q | q
 ·exact h value slice pins s σ H x y v u Q I rx ry q hs
 ·exact h' value slice pins s σ H x y v u Q I rx ry q hs
theorem am {r:R2} (hr:IxR X r) (ha:PE X a ta) (hb:PE X b tb) (hs:mr b):PE X (.Subscript a b pos) (tOp r ta tb):=by intro pins s σ H Q I h;exact Subscript_ (nR ha hb I h λ v u s2 x y H2 I2 rx ry q=>hr a b pins s2 σ H2 x y v u Q I2 rx ry q (hs _ _))
inductive rIxL (K:AV) (x:V) (y:V) (H:Hp) (Q:VK):Prop
 | mk (p:Addr) (xs:List V) (i:Int) (v:V) (e_0:x=.ref p) (e_1:y=.int i) (e_2:SqL K H p xs) (e_3:atI xs i=some v) (e_4:Q v H):rIxL K x y H Q
inductive rIxT (K:AV) (x:V) (y:V) (H:Hp) (Q:VK):Prop
 | mk (p:Addr) (xs:List V) (i:Int) (v:V) (e_0:x=.ref p) (e_1:y=.int i) (e_2:SqT K H p xs) (e_3:atI xs i=some v) (e_4:Q v H):rIxT K x y H Q
def qy:R2:=λ x y H Q=>∃z i c,x=.str z/\y=.int i/\z.length<=sizeLine/\atI z.cps.toList i=some c/\Q (.str ⟨#[c]⟩) H
theorem ix_list:IxR X (rIxL X.K):=by
 intro value slice pins s σ H x y v u Q I rx ry h hs;obtain ⟨p,xs,i,z,rfl,rfl,hq,he,q⟩:=h;cases rx;obtain ⟨t,rfl⟩:=ry;obtain ⟨its,r,pl,hz⟩:=I.list hq;obtain ⟨j,h1,h2,h3,h4,h5⟩:=fu he;obtain ⟨w,ew,rw'⟩:=r.get h2;have hl:=r.length;have hn:=ed;have fin:EP X pins σ Q w s:=⟨z,H,I,rw',q⟩
 by_cases h0:0<=i
 ·have hj:i.toNat=j:=by rw [seqIndex_of h0 h5] at h1;exact AO h1
  exact item_listR pl.isList h0 (by omega) (by rw [hj]; simpa using ew) fin hs
 ·have hj:(i + (its.toArray.size:Int)).toNat=j:=by rw [seqIndex_neg (by omega) h4] at h1;rw [List.size_toArray,<- hl];exact AO h1
  exact subscriptTail_builtinR (x:=w) pl.isList.typeIs slot_list_getitem.lookup
   (wpAny_getItem_list_neg (Q:=λ r s'=>r=w/\EP X pins σ Q r s') pl.isList (by omega) (by rw [List.size_toArray] <;> omega) (by omega) (by rw [hj]; simpa using ew) ⟨rfl,fin⟩) hs
theorem ix_tup:IxR X (rIxT X.K):=by
 intro value slice pins s σ H x y v u Q I rx ry h hs;obtain ⟨p,xs,i,z,rfl,rfl,hq,he,q⟩:=h;cases rx;obtain ⟨t,rfl⟩:=ry;obtain ⟨its,r,pl,hz⟩:=I.tuple hq;obtain ⟨j,h1,h2,h3,h4,h5⟩:=fu he;obtain ⟨w,ew,rw'⟩:=r.get h2;have hl:=r.length;have hn:=ed;have fin:EP X pins σ Q w s:=⟨z,H,I,rw',q⟩
 exact subscriptTail_builtinR (x:=w) pl.typeIs slot_tuple_getitem.lookup
  (getItem_tuple (j:=j) (Q:=λ r s'=>r=w/\EP X pins σ Q r s') pl (by omega) (by omega) (by rw [List.size_toArray,<- hl]; exact h1) (by simpa using ew) ⟨rfl,fin⟩) hs
theorem nU:IxR X qy:=by
 intro value slice pins s σ H x y v u Q I rx ry h hs;obtain ⟨z,i,c,rfl,rfl,hz,he,q⟩:=h;obtain ⟨t,rfl⟩:=rx;obtain ⟨t',rfl⟩:=ry;obtain ⟨j,h1,h2,h3,h4,h5⟩:=fu he;have hl:z.cps.toList.length=z.length:=by simp [Str.length]
 rw [hl] at h1 h4 h5;have hn:=ed;exact tail_any (typeIs_str s z t) slot_str_getitem.lookup (getItem_str (c:=c) (by
  have e1:decide (i < -(2 ^ 63:Int))=false:=AH (by omega);have e2:decide (i≥2 ^ 63)=false:=AH (by omega);rw [e1,e2,Bool.or_false]) (by rw [h1]; simpa using h2) ⟨.str ⟨#[c]⟩,H,I.tok _,⟨_,rfl⟩,q⟩) hs
def rIx (K:AV):R2:=λ x y H Q=>rIxL K x y H Q\/rIxT K x y H Q\/qy x y H Q
theorem bm:IxR X (rIx X.K):=ix_list.or (ix_tup.or nU)
theorem gK (its:List Ap) (n j:Nat) (u:Ap):Obj.mapSeq (·.setIfInBounds j u) { cls:=.type "list",data:=.seq its.toArray n }={ cls:=.type "list",data:=.seq (its.set j u).toArray n }:=by simp [Obj.mapSeq]
theorem Inv.lst {pins:List (Addr×Obj)} {σ:St} {H:Hp} {s:Al} {p:Addr} {xs:List V} (I:Inv X pins σ H s) (h:H p=some (.lst xs)) :
  ∃ (its:List Ap) (n:Nat),Vals xs its/\s.heap.get? p=some { cls:=.type "list",data:=.seq its.toArray n }/\xs.length<=sizeLine:=by
 obtain ⟨z,its,n,r,e⟩:=I.hok p _ h;exact ⟨its,n,r,e,z⟩
theorem Inv.lstUpd {pins:List (Addr×Obj)} {σ:St} {H:Hp} {s:Al} {p:Addr} {xs ys:List V} {its its':List Ap} {n n':Nat} {f:Obj->Obj} (I:Inv X pins σ H s) (h:H p=some (.lst xs))
  (ho:s.heap.get? p=some { cls:=.type "list", data:=.seq its.toArray n }) (hf:f { cls:=.type "list", data:=.seq its.toArray n }={ cls:=.type "list", data:=.seq its'.toArray n' }) (r:Vals ys its') (hz:ys.length<=sizeLine) (t:Nat) :
  Inv X pins σ (upd H p (.lst ys)) { s with heap:=s.heap.update p f,toks:=t }:=by
 have e:(s.heap.update p f).get? p=some { cls:=.type "list", data:=.seq its'.toArray n' }:=by rw [Heap.get?_update_self f ho (by rw [hf] <;> rfl),hf]
 refine I.write (x:=p) (e:=p) (by rw [h]; trivial) (.inl rfl) (λ b u hb q=>(Heap.get?_update_other _ _ (Ne.symm hb)).trans q) ⟨_,e⟩ ?_;exact ⟨hz,its',n',r,e⟩
inductive rSetL (o:V) (i:V) (v:V) (H:Hp) (Q:Hp->Prop):Prop
 | mk (p:Addr) (xs:List V) (k:Int) (j:Nat) (e_0:o=.ref p) (e_1:i=.int k) (e_2:H p=some (.lst xs)) (e_3:ixN xs.length k=some j) (e_4:Q (upd H p (.lst (xs.set j v)))):rSetL o i v H Q
theorem eg:qm X rSetL:=by
 intro pins s σ H o i v ov iv u Q I ro ri rv h;obtain ⟨p,xs,k,j,rfl,rfl,hp,hj,q⟩:=h;cases ro;obtain ⟨t,rfl⟩:=ri;obtain ⟨its,n,r,ho,hz⟩:=I.lst hp;obtain ⟨h1,h2,h3,h4⟩:=iE hj;have hl:=r.length;have hn:=ed;have I':Inv X pins σ (upd H p (.lst (xs.set j v))) { s with heap:=s.heap.update p (Obj.mapSeq (·.setIfInBounds j u)) } :=
  I.lstUpd hp ho (gK its n j u) (r.set rv j) (by rw [List.length_set]; exact hz) s.toks
 by_cases h0:0<=k
 ·have hk:k.toNat=j:=by rw [seqIndex_of h0 h4] at h1;exact AO h1
  exact PySem.W.ki_setAt ho h0 (by omega) (by rw [List.size_toArray,<- hl]; exact h4) (by rw [hk]; exact ⟨_,I',q⟩)
 ·have hk:(k + (its.toArray.size:Int)).toNat=j:=by rw [seqIndex_neg (by omega) h3] at h1;rw [List.size_toArray,<- hl];exact AO h1
  exact PySem.W.ki_setBack ho (by omega) (by rw [List.size_toArray,<- hl]; exact h3) (by omega) (by rw [hk]; exact ⟨_,I',q⟩)
theorem fv (lo hi:Option Int) (n:Nat):(sliceBounds lo hi none n).1=((HT.sIx n 0 lo:Nat):Int)/\(sliceBounds lo hi none n).2.1=((HT.sIx n n hi:Nat):Int)/\(sliceBounds lo hi none n).2.2=1:=by
 refine ⟨?_,?_,Z⟩
 ·cases lo with
  | none=>simp [sliceBounds,HT.sIx]
  | some i =>
   simp only [sliceBounds,HT.sIx,Option.getD_none,show (1:Int) > 0 by decide,if_true]
   by_cases h:i < 0
   ·simp only [h,if_true] <;> omega
   ·simp only [h,if_false] <;> omega
 ·cases hi with
  | none=>simp [sliceBounds,HT.sIx]
  | some i =>
   simp only [sliceBounds,HT.sIx,Option.getD_none,show (1:Int) > 0 by decide,if_true]
   by_cases h:i < 0
   ·simp only [h,if_true] <;> omega
   ·simp only [h,if_false] <;> omega
theorem eL (its:List Ap) (lo hi:Option Int):slicePick its.toArray lo hi none=((its.drop (HT.sIx its.length 0 lo)).take (HT.sIx its.length its.length hi - HT.sIx its.length 0 lo)).toArray:=by obtain ⟨h1,h2,h3⟩:=fv lo hi its.toArray.size;unfold slicePick;rw [h1,h2,h3];simp only [sliceRange_one,pick_run,List.size_toArray] <;> rfl
inductive rSlL (K:AV) (x:V) (lo:Option Int) (hi:Option Int) (H:Hp) (Q:VK):Prop
 | mk (a:Addr) (xs:List V) (e_0:x=.ref a) (e_1:SqL K H a xs) (e_2:∀p,H p=none->Q (.ref p) (upd H p (.lst (bR xs lo hi)))):rSlL K x lo hi H Q
theorem dG:SlR X (rSlL X.K):=by intro pins s σ H x v vl vu lo hi sl Q I rx hs pl pu h;obtain ⟨a,xs,rfl,hx,q⟩:=h;cases rx;obtain ⟨its,r,ht,hz⟩:=I.list hx;have hlen:=r.length;refine ⟨"list",_,slot_list_getitem.lookup,ht.isList.typeIs,?_⟩;refine wpAny_getItem_list_slice ht.isList hs pl pu .none (by simp) ?_ (by rw [List.size_toArray] <;> omega);rw [eL,<- hlen];refine ⟨.ref s.heap.objs.size,_,I.laid (t':=s.toks) (o:=.lst (bR xs lo hi)) (λ b ob q=>AE _ q) (AJ _) ?_,Z,q _ (I.hok.fresh (AJ _))⟩;exact ⟨AW (dB xs lo hi) hz,_,0,(r.drop (HT.sIx xs.length 0 lo)).take (HT.sIx xs.length xs.length hi - HT.sIx xs.length 0 lo),AF _ rfl⟩
theorem aI:bQ X (.builtin "len") (λ xs H Q=>∃p ys,xs=[.ref p]/\(SqL X.K H p ys\/SqT X.K H p ys)/\Q (.int ys.length) H):=by
 intro pins s σ H xs us Q I r h;obtain ⟨p,ys,rfl,hq,q⟩:=h;obtain ⟨u,rfl,rx⟩:=dz r;cases rx;have hn:=ed;rcases hq with hq | hq
 ·obtain ⟨its,r',pl,hz⟩:=I.list hq;have hlen:=r'.length;exact Calls.call_len_list pl.isList (by simp only [List.size_toArray] <;> omega) ⟨.int ys.length,H,I.tok _,⟨s.toks + 1,by rw [List.size_toArray,hlen]⟩,q⟩
 ·obtain ⟨its,r',pl,hz⟩:=I.tuple hq;have hlen:=r'.length;exact len_tuple pl (by simp only [List.size_toArray] <;> omega) ⟨.int ys.length,H,I.tok _,⟨s.toks + 1,by rw [List.size_toArray,hlen]⟩,q⟩
theorem bY:bQ X (.type "list") (λ xs H Q=>∃p ys,xs=[.ref p]/\(SqL X.K H p ys\/SqT X.K H p ys)/\∀l,H l=none->Q (.ref l) (upd H l (.lst ys))):=by
 intro pins s σ H xs us Q I r h;obtain ⟨p,ys,rfl,hq,q⟩:=h;obtain ⟨u,rfl,rx⟩:=dz r;cases rx;have fin:∀ (its:List Ap),Vals ys its->ys.length<=sizeLine->∀ (h':Heap) (c':Nat),(∀b o',s.heap.get? b=some o'->h'.get? b=some o') ->
   h'.get? s.heap.objs.size=some { cls:=.type "list", dict:=none, data:=.seq its.toArray c', slots:=#[] }->EP X pins σ Q (.ref s.heap.objs.size) { s with heap:=h' }:=λ its r' hz h' c' kp e =>
  ⟨.ref s.heap.objs.size,_,I.laid (t':=s.toks) kp (AJ _) (show ObjOk X.prog X.w _ h' _ (.lst ys) from ⟨hz,its,c',r',e⟩),rfl,q _ (I.hok.fresh (AJ _))⟩
 rcases hq with hq | hq
 ·obtain ⟨its,r',pl,hz⟩:=I.list hq;have hlen:=r'.length;obtain ⟨o,ho,hc,n,hd⟩:=pl.isList;exact call_list_seq p (.inl rfl) ho hc hd (λ h' c' kp e=>fin its r' hz h' c' kp e) (by simp only [List.size_toArray] <;> omega)
 ·obtain ⟨its,r',pl,hz⟩:=I.tuple hq;have hlen:=r'.length;obtain ⟨o,ho,hc,n,hd⟩:=pl;exact call_list_seq p (.inr rfl) ho hc hd (λ h' c' kp e=>fin its r' hz h' c' kp e) (by simp only [List.size_toArray] <;> omega)
theorem be:bQ X (.type "tuple") (λ xs H Q=>∃p ys,xs=[.ref p]/\((SqL X.K H p ys/\∀l,H l=none->Q (.ref l) (upd H l (.tup ys)))\/(SqT X.K H p ys/\Q (.ref p) H))):=by
 intro pins s σ H xs us Q I r h;obtain ⟨p,ys,rfl,h⟩:=h;obtain ⟨u,rfl,rx⟩:=dz r;cases rx;rcases h with ⟨hq,q⟩ | ⟨hq,q⟩
 ·obtain ⟨its,r',pl,hz⟩:=I.list hq;have hlen:=r'.length;refine call_tuple_list pl.isList (λ h' kp=>?_) (by simp only [List.size_toArray] <;> omega);have I1:Inv X pins σ H { s with heap:=h' }:=I.kept (t':=s.toks) kp;have I2:Inv X pins σ (upd H h'.objs.size (.tup ys)) { s with heap:=h'.push { cls:=.type "tuple", data:=.seq its.toArray } } :=
   I1.laid (t':=s.toks) (λ b o e=>AE _ e) (AJ _) (show ObjOk X.prog X.w _ _ _ (.tup ys) from ⟨hz,its,r',IsTup.new _ _⟩)
  exact ⟨.ref h'.objs.size,_,I2,Z,q _ (I1.hok.fresh (AJ _))⟩
 ·obtain ⟨its,r',pl,hz⟩:=I.tuple hq;exact call_tuple_same pl ⟨.ref p,H,I,rfl,q⟩
def tyV (K:AV) (T:String) (x:V) (H:Hp):Prop:=match x with
 | .str _=>T = "str"
 | .int _=>T = "int"
 | .ref p=>(T = "list" /\ ∃xs,SqL K H p xs)\/(T = "tuple" /\ ∃o,K.lookup p=some o/\o.cls=.type "tuple" /\ o.dict=none) \/
   (T = "dict" /\ ((∃kvs,H p=some (.dK kvs))\/∃kvs,H p=some (.dT kvs)))\/(T = "set" /\ ∃S n,H p=some (.set S n))
 | _=>False
theorem nV {pins:List (Addr×Obj)} {σ:St} {H:Hp} {s:Al} {T:String} {x:V} {v:Ap} (I:Inv X pins σ H s) (r:RelV x v) (ty:tyV X.K T x H) :
  s.TypeIs v T/\∀a,v=.ref a->∃ob,s.heap.get? a=some ob/\ob.dict=none:=by
 cases x with
 | str z =>
  obtain ⟨t,rfl⟩:=r;cases (show T = "str" from ty);exact ⟨typeIs_str s z t,λ _ e=>nomatch e⟩
 | int i =>
  obtain ⟨t,rfl⟩:=r;cases (show T = "int" from ty);exact ⟨typeIs_int s i t,λ _ e=>nomatch e⟩
 | ref p =>
  cases r;rcases ty with ⟨rfl,xs,hq⟩ | ⟨rfl,o,hk,hc,hd⟩ | ⟨rfl,hk⟩ | ⟨rfl,S,n,hk⟩
  ·obtain ⟨its,_,pl,_⟩:=I.list hq;refine ⟨pl.isList.typeIs,λ a e=>?_⟩;cases e;obtain ⟨o,n,e,c,hd,_⟩:=pl;exact ⟨o,e,hd⟩
  ·refine ⟨⟨o,I.kIn p o hk,hc⟩,λ a e=>?_⟩;cases e;exact ⟨o,I.kIn _ o hk,hd⟩
  ·have z:∃o,s.heap.get? p=some o/\o.ExactDict:=by
    rcases hk with ⟨kvs,hk⟩ | ⟨kvs,hk⟩
    ·obtain ⟨_,_,_,_,o,_,_,e,ex,_⟩:=I.hok p _ hk;exact ⟨o,e,ex⟩
    ·obtain ⟨_,_,_,_,o,_,_,e,ex,_⟩:=I.hok p _ hk;exact ⟨o,e,ex⟩
   obtain ⟨o,e,ex⟩:=z;refine ⟨⟨o,e,ex.1⟩,λ a e2=>?_⟩;cases e2;exact ⟨o,e,ex.2.1⟩
  ·obtain ⟨o,_,_,_,e,ex,_⟩:=I.hok p _ hk;refine ⟨⟨o,e,ex.1⟩,λ a e2=>?_⟩;cases e2;exact ⟨o,e,ex.2.1⟩
 | _=>exact Ad ty
def tBM (K:AV) (T:String) (r:V->List V->Hp->VK->Prop) (to:TE) (t:TA):TE:=λ σ H Q=>to σ H λ x H1=>tyV K T x H1/\t σ H1 λ xs H2=>r x xs H2 Q
variable {o e:Expr} {es:List Expr} {to:TE} {t:TA} {name:Str} {apos cpos:Pos} {T id:String} {r:V->List V->Hp->VK->Prop}
theorem eU (pa:PlainAttrs T) (slot:Slot T name id) (hty:typeOf (.builtin id)=pure (.type "method_descriptor")) (hm:MtR X id r) (ho:PE X o to) (ha:PA X (e :: es) t)
  (hbase:attributeBase o name X.env (eval o X.env)=eval o X.env:=by rfl)
  (hfew:((backTo cpos (starEach (e :: es) X.env)).all (λ x=>!x.1) && (backToKw cpos (keywordEach [] X.env)).all (λ x=>x.1.isSome)
   && decide ((e :: es).length + ([]:List Keyword).length + (if ([]:List Keyword).isEmpty then 0 else 1) < 30))=true:=by rfl)
  (hline:(apos.endLine == cpos.line)=true:=by rfl) (hs:starEach (e :: es) X.env=(false,eval e X.env) :: starEach es X.env:=by rfl) (hplain:(backTo cpos (starEach es X.env)).any (·.1)=false:=by rfl) :
  PE X (.Call (.Attribute o name apos) (e :: es) [] cpos) (tBM X.K T r to t):=by
 intro pins s σ H Q I h;refine wpAny_Call_method_late hbase hfew hline rfl (thn (ho pins s σ H _ I h) λ v s1 ⟨x,H1,I1,r1,ty,q1⟩=>?_);obtain ⟨h1,h2⟩:=nV I1 r1 ty;refine ⟨T,id,pa,slot,hty,h1,h2,?_⟩;have hA:=ha cpos pins s1 σ H1 _ I1 q1;rw [hs] at hA ⊢;refine Calls.callWith_builtin (by show (false || (backTo cpos (starEach es X.env)).any (·.1))=false; rw [hplain] <;> rfl) (Calls.evalArgs_plain ?_);exact thn hA λ us s2 ⟨vs,H2,I2,r2,q2⟩=>hm pins s2 σ H2 x vs v us Q I2 r1 r2 q2
/- xs.append(e),list.index on a module's tuple .. are MtR facts of 06m -/
end
def MtM (X:Cx) (id:String) (r:V->List V->Hp->VK->Prop):Prop :=
 ∀ (pins:List (Addr×Obj)) (s:Al) (σ:St) (H:Hp) (x:V) (xs:List V) (v:Ap) (us:List Ap) (Q:VK),Inv X pins σ H s->RelV x v->Vals xs us->r x xs H Q ->
  wpAny (model X.prog X.w) X.A (call (.builtin id) (v :: us)) (EP X pins σ Q) X.xe s
theorem Vals.one:∀ {x:V} {us:List Ap},Vals [x] us->∃u,us=[u]/\RelV x u
 | _,_,.cons r .nil=>⟨_,Z,r⟩
theorem Vals.dropLast {xs:List V} {us:List Ap} (h:Vals xs us):Vals xs.dropLast us.dropLast:=by
 induction h with
 | nil=>exact .nil
 | cons r t ih =>
  cases t with
  | nil=>exact .nil
  | cons q t'=>exact .cons r ih
theorem nW {α:Type} (l:List α):l.eraseIdx (l.length - 1)=l.dropLast:=by
 induction l with
 | nil=>rfl
 | cons a r ih =>
  cases r with
  | nil=>rfl
  | cons b r =>
   have e:(a :: b :: r).length - 1=((b :: r).length - 1) + 1:=by have h1:(a :: b :: r).length=r.length + 2:=rfl;have h2:(b :: r).length=r.length + 1:=rfl;omega
   rw [e,List.eraseIdx_cons_succ,ih]
   all_goals rfl
section
variable {X:Cx} {pins:List (Addr×Obj)} {σ:St} {H:Hp} {s:Al} {l b:Addr} {xs ys zs:List V}
theorem Inv.lset {its its':List Ap} {n:Nat} {f:Array Ap->Array Ap} {t':Nat} (I:Inv X pins σ H s) (hH:H l=some (.lst xs))
  (e:s.heap.get? l=some { cls:=.type "list", data:=.seq its.toArray n }) (hf:f its.toArray=its'.toArray) (hv:Vals ys its') (hz:ys.length<=sizeLine) :
  Inv X pins σ (upd H l (.lst ys)) { s with heap:=s.heap.update l (Obj.mapSeq f),toks:=t' }:=by
 have q:=PySem.IsL.update e f;rw [hf] at q;refine I.write (x:=l) (e:=l) (by rw [hH]; exact trivial) (.inl rfl) (λ b' u hb hu=>(Heap.get?_update_other s.heap (Obj.mapSeq f) (Ne.symm hb)).trans hu) ⟨_,q⟩ ?_;exact ⟨hz,its',_,hv,q⟩
theorem Inv.lnew {its:List Ap} {t':Nat} (I:Inv X pins σ H s) (hv:Vals ys its) (hz:ys.length<=sizeLine) :
  Inv X pins σ (upd H s.heap.objs.size (.lst ys)) { s with heap:=s.heap.push { cls:=.type "list", data:=.seq its.toArray }, toks:=t' } :=
 I.laid (λ _ _ q=>AE _ q) (AJ _) ⟨hz,its,0,hv,AF _ rfl⟩
theorem Inv.fresh (I:Inv X pins σ H s):H s.heap.objs.size=none:=I.hok.fresh (AJ _)
theorem Inv.lstM (I:Inv X pins σ H s) (hH:H l=some (.lst xs)):xs.length<=sizeLine/\∃ (its:List Ap) (n:Nat),Vals xs its/\xs.length=its.length/\s.heap.get? l=some { cls:=.type "list",data:=.seq its.toArray n }:=by obtain ⟨z,its,n,r,e⟩:=I.hok l _ hH;exact ⟨z,its,n,r,r.length,e⟩
theorem kH {n:Nat} (h:n<=sizeLine):Builtin.List.listTooLong n=false:=by unfold Builtin.List.listTooLong;exact AH (by omega)
end
section
variable {X:Cx}
inductive rAppend (x:V) (vs:List V) (H:Hp) (Q:VK):Prop
 | mk (l:Addr) (xs:List V) (y:V) (e_0:x=.ref l) (e_1:vs=[y]) (e_2:H l=some (.lst xs)) (e_3:xs.length < sizeLine) (e_4:Q .non (upd H l (.lst (xs ++ [y])))):rAppend x vs H Q
theorem bS:MtM X "list.append" rAppend:=by intro pins s σ H x vs v us Q I rx rv h;obtain ⟨l,xs,y,rfl,rfl,hH,hz,q⟩:=h;cases rx;obtain ⟨u,rfl,ru⟩:=rv.one;obtain ⟨z,its,n,r,hl,e⟩:=I.lstM hH;refine call_meets F.slot_list_append ⟨_,e,Z⟩ F.entry_list_append (F.args_list_append_2 _ _) (PySem.list_append l its.toArray n u (by rw [List.size_toArray]; omega)) ⟨e,?_⟩;refine ⟨.non,_,I.lset (its':=its ++ [u]) hH e (by simp) (r.append (.cons ru .nil)) ?_,Z,q⟩;rw [List.length_append,List.length_singleton];omega
def ms:V->List V->Hp->VK->Prop:=λ x vs H Q=>∃l b xs zs,x=.ref l/\vs=[.ref b]/\H l=some (.lst xs)/\H b=some (.lst zs)/\xs.length + zs.length<=sizeLine/\Q .non (upd H l (.lst (xs ++ zs)))
theorem qc:MtM X "list.extend" ms:=by
 intro pins s σ H x vs v us Q I rx rv h;obtain ⟨l,b,xs,zs,rfl,rfl,hH,hB,hz,q⟩:=h;cases rx;obtain ⟨u,rfl,ru⟩:=rv.one;cases ru;obtain ⟨z,its,n,r,hl,e⟩:=I.lstM hH;obtain ⟨z2,its2,n2,r2,hl2,e2⟩:=I.lstM hB;have hsz:its.toArray.size + its2.toArray.size<=sizeLine:=by rw [List.size_toArray,List.size_toArray]; omega
 have hlong:¬ (!its.toArray.isEmpty && Builtin.List.listTooLong (its.toArray.size + its2.toArray.size))=true:=by rw [kH hsz,Bool.and_false];exact AI
 refine call_meets F.slot_list_extend ⟨_,e,Z⟩ F.entry_list_extend (F.args_list_extend_2 _ _)
  (AutoSeq1.list_extend_list_list_0 l its.toArray n b its2.toArray n2 hlong (by rw [List.size_toArray]; omega) (by omega)) ⟨e,e2,?_⟩
 refine ⟨.non,_,I.lset (its':=its ++ its2) hH e (by simp) (r.append r2) ?_,Z,q⟩;rw [List.length_append];omega
inductive rCat (x:V) (y:V) (H:Hp) (Q:VK):Prop
 | mk (l:Addr) (b:Addr) (xs:List V) (zs:List V) (e_0:x=.ref l) (e_1:y=.ref b) (e_2:H l=some (.lst xs)) (e_3:H b=some (.lst zs)) (e_4:xs.length + zs.length<=sizeLine) (e_5:∀p,H p=none->Q (.ref p) (upd H p (.lst (xs ++ zs)))):rCat x y H Q
theorem fw:OpR X (binaryOp .Add) rCat:=by
 intro pins s σ H x y v u Q I rx ry h;obtain ⟨l,b,xs,zs,rfl,rfl,hH,hB,hz,q⟩:=h;cases rx;cases ry;obtain ⟨z,its,n,r,hl,e⟩:=I.lstM hH;obtain ⟨z2,its2,n2,r2,hl2,e2⟩:=I.lstM hB;refine PySem.P.add_list e e2 ?_ (by rw [List.size_toArray,List.size_toArray]; omega);have ea:its.toArray ++ its2.toArray=(its ++ its2).toArray:=by simp
 rw [ea];exact ⟨.ref _,_,I.lnew (t':=s.toks) (r.append r2) (by rw [List.length_append]; omega),Z,q _ I.fresh⟩
end
end L2
namespace Att
open PySem PySem.W PySem.Calls PyProof.Rows
theorem dD {P:Params} {h:Heap}:∀ (ns:List Int) (vs:List Ap),WellAll P h vs (ns.map WData.int)->IntsAre vs ns:=by
 intro ns
 induction ns with
 | nil =>
  intro vs w;rw [List.map_nil] at w;cases w;exact .nil
 | cons n ns ih =>
  intro vs w;rw [List.map_cons] at w;cases w with
  | cons a b =>
   cases a;exact .cons _ _ (ih _ b)
theorem je {l:OpenLaw} {n:Nat} (hn:l.most=some n) {P:Params} {h:Heap} {args:List WData} {vals:List Ap}
  (hpre:l.row.toRowW.claim.pre args=true) (hwl:WellAll P h vals args) :
  ∃a vs ns,vals=[Value.ref a]/\args=[WData.list (ns.map WData.int)]/\h.get? a=some { cls:=.type "list",data:=.seq vs.toArray }/\IntsAre vs ns/\ns.length<=n:=by
 have hsh:WShape.hasAll [] args [.list .int]=true:=(pre_splitW hpre).1;have hc:l.pre.holds [] { args:=args }=true:=(pre_splitW hpre).2;obtain ⟨d,r,rfl,h1,h2⟩:=hasAllW_cons hsh;obtain rfl:=hasAllW_nil h2;obtain ⟨xs,rfl,h3⟩:=hasW_list h1;obtain ⟨ns,rfl⟩:=items_int h3;have hlen:ns.length<=n:=by
  unfold OpenLaw.pre at hc;have h4:(WTm.not (.lt (.lit (.int (n:Int))) (.len (.arg 0)))).holds [] { args:=[.list (ns.map .int)] }=true:=by have h4:=(holds_andW hc).1;rw [hn] at h4;exact h4
  have h5:=condW_of h4 (w_not (w_lt w_lit (w_len_list (w_arg rfl))));rw [List.length_map] at h5;refine Nat.le_of_not_lt λ q=>?_;have q':(n:Int) < ((ns.length:Nat):Int):=by omega
  first
   | (rw [decide_eq_true q'] at h5; exact absurd h5 (by decide))
   | (simp at h5; omega)
 cases hwl with
 | cons w1 w2 =>
  cases w2;cases w1 with
  | list ho hall=>exact ⟨_,_,ns,Z,Z,ho,dD ns _ hall,hlen⟩
theorem jf (l:OpenLaw) (args:List WData):l.row.toRowW.claim.post args (.bool true) args=true :=
 postW_of (r:=l.row.toRowW) (X:=(true == true))
  (show WShape.has [] (.bool true) .bool=true by first | rfl | decide | simp [WShape.has,WShape.arms,WShape.armsAll])
  (show (WTm.eq .res (.lit (.bool true))).value [] { args:=args,res:=some (.bool true),after:=args }=some (.bool (true == true)) from w_eq_bool (w_res rfl) w_lit) rfl
theorem attach_call {l:OpenLaw} {n:Nat} {q:Am} {loose:List Str} {XP:(Str->Option Ap)->Heap->Prop} {YP:Ao->Heap->Prop} {d:DefRec}
  (hn:l.most=some n) (hdf:d.params.defaults=[])
  (call:∀ (w:Ao) (s₀ s₁:Al) (mg mb:Str->Option Ap) (fa:Addr) (o:Obj) (pm cd doc:Ap) (a:Addr) (vs:List Ap) (ns:List Int),
   Ground q loose [] XP w s₀ mg mb s₁.heap->YP w s₁.heap ->
   s₁.heap.get? fa=some o->o.data=.func (docDef d.name d.params d.body d.scope pm cd doc)->s₁.heap.CodeRec cd d.name->mg d.name=some (.ref fa) ->
   s₁.heap.get? a=some { cls:=.type "list",data:=.seq vs.toArray }->IntsAre vs ns->ns.length<=n->s₁.gens=#[] ->
   codeAny (model l.prog w) callerA (.call (.ref fa) ⟨[.ref a],[]⟩) (λ r s'=>r=.ok (.ret (.bool true))/\OldK s₁.heap s'.heap/\s'.os=s₁.os/\AllBare s'.gens) s₁) :
  WalkO q loose XP YP l.row.toRowW d [] (λ f vs=>PySem.call f vs):=by
 intro w s₀ s₁ mg mb G Y fa o pm cd doc dV kV ho hd hcd hD hmg hg args vals as hpre hlay hrd hwl hlo;obtain rfl:dV=.none:=Dflts.none hD hdf;obtain rfl:kV=.none:=Dflts.noKw hD;obtain ⟨a,vs,ns,rfl,rfl,hobj,hints,hlen⟩:=je hn hpre hwl;refine enter_call (codeAny_mono (call w s₀ s₁ mg mb fa o pm cd doc a vs ns G Y ho (fd_plain hd) hcd hmg hobj hints hlen hg) λ r s' hq=>?_);obtain ⟨rfl,h2,h3,h4⟩:=hq;exact ⟨.inl ⟨.bool true,.bool true,[],Z,λ _=>rfl,.bool true,jf l _,λ _=>⟨List.Pairwise.nil,λ _ hm=>(nomatch hm)⟩⟩,h2,h3,h4⟩
section
variable {prog:Am} {w:Ao} {A:Around} {E:Ap->Al->Prop} {s:Al} {K:Frag}
def xj (h:Heap) (L d:Addr):List (Addr×Obj):=(List.range h.objs.size).filterMap λ a=>if a=L\/a=d then none else (h.get? a).map λ o=>(a,o)
end
end Att
namespace L2
open PySem PySem.Spec PyProof.Rows
theorem eV:∀ {vs:List Ap} {ns:List Int},IntsAre vs ns->Vals (ns.map V.int) vs
 | _,_,.nil=>.nil
 | _,_,.cons n t h=>.cons ⟨t,Z⟩ (eV h)
def nX (H:Hp):Prop:=∀b,H b=none\/∃o xs,H b=some (.frz o (.lst xs))
theorem kI {P:Am} {w:Ao} {K:AV} {mg mb:Str->Option Ap} {CX:CXT} {k:Nat} {fa a:Addr} {fd:An} {x:Str} {sp:Sp} {s₁:Al} {vs:List Ap} {ns:List Int}
  (KX:K.In s₁.heap) (hns:s₁.heap.Ns mainGlobals mg) (hb:s₁.heap.Ns builtinsNs mb) (hbb:∀x:Str,x ≠ "__name__" -> mb x=bootBuiltins x) (hlim:s₁.heap.NoLimit) (hg:s₁.gens=#[])
  (ha:s₁.heap.get? a=some { cls:=.type "list",data:=.seq vs.toArray }) (hi:IntsAre vs ns) (hl:ns.length<=sizeLine) (hr:Room k callerA)
  (F:∀base:Heap,K.In base->base.Ns mainGlobals mg->FnOk P w K mg base CX k fa fd [x] sp) (hbind:∀ (s:Al) (u:Ap),BindsTo s fd ⟨[u],[]⟩ [(x,u)])
  (hsp:∀H:Hp,nX H->SqL K H a (ns.map V.int)->sp [.ref a] H (λ v _=>v=.bl true) λ _ _ _=>False)
  (hCX:∀H e s',CX [] H s₁ (λ _ _ _=>False) e s'->False) :
  codeAny (model P w) callerA (.call (.ref fa) ⟨[.ref a],[]⟩) (λ r s'=>r=.ok (.ret (.bool true))/\OldK s₁.heap s'.heap/\s'.os=s₁.os/\AllBare s'.gens) s₁:=by
 have rv:=eV hi;have lenV:=hi.length;have core:∀H:Hp,nX H->SqL K H a (ns.map V.int)->HOk P w H s₁.heap->(∀b,H b≠none->b=a)->(H a≠none->K.lookup a=none) ->
   codeAny (model P w) callerA (.call (.ref fa) ⟨[.ref a],[]⟩) (λ r s'=>r=.ok (.ret (.bool true))/\OldK s₁.heap s'.heap/\s'.os=s₁.os/\AllBare s'.gens) s₁:=by
  intro H hO hS hok hA hK;have base_of:∀ {b:Addr} {o:Obj},s₁.heap.get? b=some o->H b=none->(fh s₁.heap H).get? b=some o:=λ e n=>kf e n;have noA:∀ {b:Addr} {o:Obj} {es:Array DictEntry} {ep:Nat},s₁.heap.get? b=some o->o.data=.dict es ep->H b=none:=λ {b o es ep} e d=>by
   cases q:H b with
   | none=>rfl
   | some u =>
    have e':b=a:=hA b (by rw [q]; simp);subst e';rw [ha] at e; cases e;have d':Data.seq vs.toArray _=Data.dict es ep:=d;cases d'
  have nsK:∀ {b:Addr} {m:Str->Option Ap},s₁.heap.Ns b m->(fh s₁.heap H).Ns b m:=λ {b m} ⟨o,es,ep,e,d,r⟩=>⟨o,es,ep,base_of e (noA e d),d,r⟩
  have hKb:K.In (fh s₁.heap H):=λ b o e=>base_of (KX b o e) (by
   cases q:H b with
   | none=>rfl
   | some u =>
    have e':b=a:=hA b (by rw [q]; simp);subst e';rw [hK (by rw [q]; simp)] at e; cases e)
  have hM:Mod K mg (fh s₁.heap H):=⟨hKb,nsK hns,⟨mb,nsK hb,hbb⟩,let ⟨mc,h1,h2⟩:=hlim; ⟨mc,nsK h1,h2⟩⟩
  have e0:Env0 P w K mg (fh s₁.heap H) callerA [] s₁ H:=⟨Z,hM,λ b o e=>lW e,Nat.le_of_eq (iV _ _),trivial,λ b hb=>absurd (show b∈([]:List Addr) from hb) (by simp),hok,.of_eq hg⟩
  refine codeAny_mono ((F _ hKb (nsK hns)).run callerA [] s₁ H ⟨[.ref a],[]⟩ [.ref a] [.ref a] _ _ hr e0 (hbind s₁ (.ref a)) (.cons rfl .nil) (hsp H hO hS)) λ r s' h=>?_;cases r with
  | error e=>exact (hCX H e s' h).elim
  | ok fl =>
   cases fl with
   | next=>exact Ad h
   | brk=>exact Ad h
   | cont=>exact Ad h
   | ret u =>
    obtain ⟨v,H',os,bare,un,hok',r',q⟩:=h;have q':v=.bl true:=q;subst q';obtain rfl:u=Value.bool true:=r';refine ⟨Z,OldK.of_keep λ b o e=>?_,os,bare⟩;cases q:H b with
    | none=>exact un.keep b o e q (by intro z; exact absurd (show b∈([]:List Addr) from z) (by simp)) (by simp)
    | some u =>
     rcases hO b with z | ⟨ob,xs,z⟩
     ·rw [q] at z; cases z
     ·have z2:=un.frzs b ob _ z;obtain ⟨e1,_⟩:=hok b _ z;obtain ⟨e2,_⟩:=hok' b _ z2;rw [e] at e1; cases e1;exact e2
 cases hk:K.lookup a with
 | some o =>
  have e:=KX a o hk;rw [ha] at e;cases e;refine core (λ _=>none) (λ _=>.inl rfl) (.inr ⟨_,vs.toArray,_,hk,Z,Z,Z,by rw [List.size_toArray,lenV]; exact hl,by simpa using rv⟩) (λ b u z=>by have z':(none:Option HO)=some u:=z; cases z') (λ b z=>absurd rfl z) λ z=>absurd rfl z
 | none =>
  refine core (λ b=>if b=a then some (.frz { cls:=.type "list",data:=.seq vs.toArray } (.lst (ns.map V.int))) else none) (λ b=>?_) (.inl (.inr ⟨{ cls:=.type "list",data:=.seq vs.toArray },if_pos rfl⟩)) (λ b u z=>?_) (λ b z=>?_) λ _=>hk
  ·by_cases hb:b=a
   ·exact .inr ⟨_,_,if_pos hb⟩
   ·exact .inl (if_neg hb)
  ·by_cases hb:b=a
   ·have z':=(if_pos hb).symm.trans z;cases z';subst hb;exact ⟨ha,by rw [List.length_map]; exact hl,vs,_,rv,ha⟩
   ·have z':=(if_neg hb).symm.trans z;cases z'
  ·by_cases hb:b=a
   ·exact hb
   ·exact absurd (if_neg hb) z
theorem walk_of {l:PySem.W.OpenLaw} {n k:Nat} {q:Am} {loose:List Str} {XP:(Str->Option Ap)->Heap->Prop} {YP:Ao->Heap->Prop} {d:DefRec} {K:Params->AV} {CX:Ao->CXT} {sp:Ao->Sp} {x:Str}
  (hn:l.most=some n) (hn2:n<=sizeLine) (hdf:d.params.defaults=[]) (hr:Room k callerA)
  (hY:∀ (w:Ao) (h:Heap),YP w h->(K w.params).In h)
  (F:∀ (w:Ao) (mg:Str->Option Ap) (fa:Addr) (h:Heap),(K w.params).In h->h.Ns mainGlobals mg->mg d.name=some (.ref fa) ->
   ∃fd:An,(∀ (s:Al) (u:Ap),BindsTo s fd ⟨[u],[]⟩ [(x,u)]) /\
    ∀base:Heap,(K w.params).In base->base.Ns mainGlobals mg->FnOk l.prog w (K w.params) mg base (CX w) k fa fd [x] (sp w))
  (hsp:∀ (w:Ao) (H:Hp) (a:Addr) (ns:List Int),ns.length<=n->nX H->SqL (K w.params) H a (ns.map V.int)->sp w [.ref a] H (λ v _=>v=.bl true) λ _ _ _=>False)
  (hCX:∀ (w:Ao) (H:Hp) (s:Al) (e:Ap) (s':Al),CX w [] H s (λ _ _ _=>False) e s'->False) :
  PySem.W.WalkO q loose XP YP l.row.toRowW d [] (λ f vs=>PySem.call f vs):=by
 refine Att.attach_call hn hdf λ w s₀ s₁ mg mb fa o pm cd doc a vs ns G Y ho hd hcd hmg hobj hints hlen hg=>?_;have KX:=hY w _ Y;obtain ⟨fd,hb,hF⟩:=F w mg fa _ KX G.T.g hmg;exact kI KX G.T.g G.T.b G.T.builtins G.T.nolimit hg hobj hints (AW hlen hn2) hr hF hb (λ H hO hS=>hsp w H a ns hlen hO hS) λ H e s'=>hCX w H s₁ e s'
def inClass (s:Stmt) (j:Nat):Stmt:=match s with
 | .ClassDef _ _ _ body _ _ _ _ _ _ _=>body.getD j (.Pass ⟨0,0,0,0⟩)
 | _=>.Pass ⟨0,0,0,0⟩
def defArgs (s:Stmt):Arguments:=match s with
 | .FunctionDef _ a _ _ _ _ _ _ _ _=>a
 | _=>{ posonlyargs:=[],args:=[],vararg:=none,kwonlyargs:=[],kw_defaults:=[],kwarg:=none,defaults:=[] }
def defBody (s:Stmt):List Stmt:=match s with
 | .FunctionDef _ _ b _ _ _ _ _ _ _=>b
 | _=>[]
def defScope (s:Stmt):Scope:=match s with
 | .FunctionDef _ _ _ _ _ _ sc _ _ _=>sc
 | _=>{ kind:=.function,names:=[],isGenerator:=false,isCoroutine:=false }
abbrev CX0:CXT:=λ _ _ _ _ _ _=>False
abbrev E0:XK:=λ _ _ _=>False
theorem kJ {X:Cx}:dg CX0 X E0:=λ _ _ _ _ _ _ _ h=>h.elim
structure Fun (K:AV) (x qual:Str) (st:Stmt) (f:Addr) (fd:FuncData):Prop where
 ex:∃ (oc:Ap) (od:Option Addr) (kV doc pm:Ap) (an:Option Addr) (cdv ct:Ap) (osl:Array (Option Ap)),
  fd=Ac x qual (defArgs st) (defBody st) (defScope st) .none kV doc pm an cdv ct/\K.lookup f=some ⟨oc,od,.func fd,osl⟩/\PySem.W.codeIn K cdv qual=true
 kp:PySem.W.keepIn K (.ref f)=true
section
variable {P:Am} {w:Ao} {K:AV} {mg:Str->Option Ap} {base:Heap}
theorem Fun.ok {x qual:Str} {st:Stmt} {f:Addr} {fd:An} {N ps:List Str} {k:Nat} {sp:Sp} (F:Fun K x qual st f fd) (S:FnScope N ps (defScope st)) (len:∀vs H Q E,sp vs H Q E->vs.length=ps.length)
  (hbody:∀ (cdv:Ap) (A:Around) (outer:List Env) (s:Al) (H:Hp) (vs:List V) (Q:VK) (E:XK),Room k (A.deeper (envOfC qual (defScope st) s.heap.objs.size f cdv))->sp vs H Q E ->
   ∃t,PSs (jc CX0 P w K mg base N qual (defScope st) f cdv A outer s H E).nox (defBody st) t/\t { nx:=λ _ H'=>Q .non H',rt:=Q } (dA N vs) H):FnOk P w K mg base CX0 (k + 1) f fd ps sp:=by
 obtain ⟨oc,od,kV,doc,pm,an,cdv,ct,osl,rfl,lk,hcd⟩:=F.ex;refine qv lk hcd S len λ A outer s H vs Q E hr hsp=>?_;obtain ⟨t,h,q⟩:=hbody cdv A outer s H vs Q E hr hsp;exact ⟨t,h.nox,q⟩
theorem Fun.binds {x qual:Str} {st:Stmt} {f:Addr} {fd:An} {ps:List Str} (F:Fun K x qual st f fd)
  (h:∀ (kV doc pm:Ap) (an:Option Addr) (cdv ct:Ap) (us:List Ap),us.length=ps.length->bindArgs (Ac x qual (defArgs st) (defBody st) (defScope st) .none kV doc pm an cdv ct) ⟨us,[]⟩=pure (ps.zip us)):Binds K fd ps []:=by
 obtain ⟨oc,od,kV,doc,pm,an,cdv,ct,osl,rfl,lk,hcd⟩:=F.ex;exact .all (h kV doc pm an cdv ct)
theorem gL {x qual:Str} {st:Stmt} {f:Addr} {oc:Ap} {od an:Option Addr} {osl:Array (Option Ap)} {kV doc pm cdv ct:Ap} (l:K.lookup f=some ⟨oc,od,.func (Ac x qual (defArgs st) (defBody st) (defScope st) .none kV doc pm an cdv ct),osl⟩)
  (c:PySem.W.codeIn K cdv qual=true) (k:PySem.W.keepIn K (.ref f)=true):Fun K x qual st f (Ac x qual (defArgs st) (defBody st) (defScope st) .none kV doc pm an cdv ct):=⟨⟨oc,od,kV,doc,pm,an,cdv,ct,osl,Z,l,c⟩,k⟩
end
section
variable {X:Cx}
theorem pv (i:Nat) {x:Str} {pos:Pos} (hN:X.N[i]? = some x:=by rfl) (hv:Vis X.env.scope x:=by first | exact Or.inl rfl | exact Or.inr (Or.inl rfl) | exact Or.inr (Or.inr rfl)) (hd:(x == ("__debug__" : Str))=false:=by decide)
  (hcd:(x == ("__classdict__" : Str))=false:=by decide):PE X (.Name x pos) (tVar i):=nL hN hv hd hcd
end
theorem aJ {A B:Prop} (h:B):if false=true then A else B:=by rw [if_neg Bool.false_ne_true];exact h
theorem aO {A B:Prop} (h:A):if true=true then A else B:=by rw [if_pos rfl];exact h
theorem bO {c A B:Prop} [Decidable c] (h1:c->A) (h2:¬ c->B):if c then A else B:=by
 by_cases h:c
 ·rw [if_pos h];exact h1 h
 ·rw [if_neg h];exact h2 h
def Same (H H':Hp):Prop:=∀b o,H b=some o->H' b=some o
theorem Same.refl (H:Hp):Same H H:=λ _ _ h=>h
theorem Same.trans {H H1 H2:Hp} (a:Same H H1) (b:Same H1 H2):Same H H2:=λ c o h=>b c o (a c o h)
theorem Same.free {H H':Hp} (e:Same H H') {l:Addr} (h:H' l=Option.none):H l=Option.none:=by
 cases q:H l with
 | none=>rfl
 | some o =>
  rw [e l o q] at h;cases h
theorem Same.seq {K:AV} {H H':Hp} {a:Addr} {xs:List V} (e:Same H H') (h:SqL K H a xs):SqL K H' a xs:=by
 rcases h with (h | ⟨o,h⟩) | h
 ·exact .inl (.inl (e _ _ h))
 ·exact .inl (.inr ⟨o,e _ _ h⟩)
 ·exact .inr h
def bh (env:Env):List (Str×NameKind)->List (Str×Addr)->List (Str×Addr)
 | [],acc=>acc
 | (n,k) :: r,acc=>bh env r (if (k == NameKind.free)=true then (n,(env.cells.lookup n).getD 0) :: acc else acc)
theorem bZ (env:Env):∀ (names:List (Str×NameKind)) (acc:List (Str×Addr)) (x:Str) (c:Addr),(∀y∈names,y.2=.free->∃c,env.cells.lookup y.1=some c) ->
  (∀x c,acc.lookup x=some c->env.cells.lookup x=some c)->(bh env names acc).lookup x=some c->env.cells.lookup x=some c
 | [],acc,x,c,_,h,e=>h x c e
 | (n,k) :: r,acc,x,c,hf,h,e=>by
  refine bZ env r _ x c (λ y hy=>hf y (AK _ hy)) (λ x c e'=>?_) e
  by_cases hk:(k == NameKind.free)=true
  ·rw [if_pos hk] at e';obtain ⟨c0,hc0⟩:=hf (n,k) AN (by simpa using hk);have hc0':env.cells.lookup n=some c0:=hc0;rw [List.lookup_cons] at e';cases hx:x == n with
   | true =>
    rw [hx] at e';have:x=n:=by simpa using hx
    subst this;rw [hc0'] at e' ⊢;simpa using e'
   | false=>rw [hx] at e'; exact h x c e'
  ·rw [if_neg hk] at e'; exact h x c e'
theorem eh (env:Env):∀ (names:List (Str×NameKind)) (acc:List (Str×Addr)) (x:Str),(∃c,acc.lookup x=some c)->∃c,(bh env names acc).lookup x=some c
 | [],acc,x,h=>h
 | (n,k) :: r,acc,x,h=>by
  refine eh env r _ x ?_
  by_cases hk:(k == NameKind.free)=true
  ·rw [if_pos hk,List.lookup_cons];cases hx:x == n with
   | true=>exact ⟨_,Z⟩
   | false=>exact h
  ·rw [if_neg hk]; exact h
theorem dj (env:Env):∀ (names:List (Str×NameKind)) (acc:List (Str×Addr)) (x:Str),(x,NameKind.free)∈names->∃c,(bh env names acc).lookup x=some c
 | [],acc,x,h=>by simp at h
 | (n,k) :: r,acc,x,h=>by
  rcases List.mem_cons.mp h with e | e
  ·have e1:x=n:=congrArg Prod.fst e;have e2:NameKind.free=k:=congrArg Prod.snd e;subst e1;subst e2;refine eh env r _ x ?_;rw [if_pos (by simp),List.lookup_cons];simp
  ·exact dj env r _ x e
theorem ej {env:Env} {scope:Scope} (hf:∀y∈scope.names,y.2=.free->∃c,env.cells.lookup y.1=some c):closureFor scope env=pure (bh env scope.names []):=by
 have key:∀ (names:List (Str×NameKind)) (acc:List (Str×Addr)),(∀y∈names,y.2=.free->∃c,env.cells.lookup y.1=some c) ->
   (forIn names acc (λ (x:Str×NameKind) (r:List (Str×Addr))=>(if (x.2 == NameKind.free)=true then do
    let a<-cellOf env x.1
    pure (ForInStep.yield ((x.1,a) :: r)) else pure (ForInStep.yield r)) ):Sem (List (Str×Addr)))=pure (bh env names acc):=by
  intro names
  induction names with
  | nil=>intro acc _; rfl
  | cons y r ih =>
   intro acc h;obtain ⟨n,k⟩:=y;have ih':=λ acc=>ih acc λ z hz=>h z (AK _ hz);rw [List.forIn_cons]
   by_cases hk:(k == NameKind.free)=true
   ·obtain ⟨c,hc⟩:=h (n,k) AN (by simpa using hk);have hc':env.cells.lookup n=some c:=hc;have e1:cellOf env n=pure c:=by unfold cellOf; rw [hc']
    have e2:bh env ((n,k) :: r) acc=bh env r ((n,c) :: acc):=by show bh env r _=_;rw [if_pos hk,hc']; rfl
    rw [if_pos hk,e2,<- ih'];show ((cellOf env n >>= λ a=>pure (ForInStep.yield ((n,a) :: acc))) >>= _)=_;rw [e1]
    rfl
   ·have e2:bh env ((n,k) :: r) acc=bh env r acc:=by show bh env r _=_;rw [if_neg hk]
    rw [if_neg hk,e2,<- ih']
    rfl
 have:=key scope.names [] hf;simp only [closureFor];exact (congrArg (λ m=>m >>= λ r=>(pure r:Sem _)) this).trans rfl
theorem fx {env:Env} {scope:Scope} (hcell:∀y∈scope.names,y.2≠.cell) {x:Str}:((relabel scope env).names.lookup x=some .cell\/(relabel scope env).names.lookup x=some .free)->(x,NameKind.free)∈scope.names:=by
  have key:∀names:List (Str×NameKind),(∀y∈names,y.2≠.cell)->∀k,(names.map λ (n,k)=>if (k == NameKind.free && env.scope.kind == .function && env.kindOf n == some .cell) then (n,NameKind.cell) else (n,k)).lookup x=some k ->
      (k=.cell\/k=.free)->(x,NameKind.free)∈names:=by
    intro names
    induction names with
    | nil=>intro _ k h _; simp at h
    | cons y r ih =>
      obtain ⟨n,k'⟩:=y;intro hc k h hk;have nc:k'≠.cell:=hc (n,k') AN;rw [List.map_cons] at h
      by_cases hb:(k' == NameKind.free && env.scope.kind == .function && env.kindOf n == some .cell)=true
      . have hb':k'=.free:=by simp at hb; exact hb.1.1
        dsimp only at h;rw [if_pos hb,List.lookup_cons] at h;cases hx:x == n with
        | true => have : x = n := by simpa using hx
                  subst this; subst hb'; exact AN
        | false=>rw [hx] at h; exact AK _ (ih (λ y hy=>hc y (AK _ hy)) k h hk)
      . dsimp only at h
        rw [if_neg hb,List.lookup_cons] at h;cases hx:x == n with
        | true =>
          rw [hx] at h;have:x=n:=by simpa using hx
          subst this;have e:k'=k:=by simpa using h
          rcases hk with q | q
          . exact absurd (e.trans q) nc
          . rw [e,q]; exact AN
        | false=>rw [hx] at h; exact AK _ (ih (λ y hy=>hc y (AK _ hy)) k h hk)
  rintro (h | h)
  . exact key _ hcell _ h (.inl rfl)
  . exact key _ hcell _ h (.inr rfl)
def bo (X:Cx) (pins:List (Addr×Obj)) (s2:Al) (H2:Hp) (scope:Scope) (C:Addr) (N':List Str) (fp:List Addr):Cx where
 prog:=X.prog
 w:=X.w
 K:=X.K
 mg:=X.mg
 base:=X.base
 A:=X.A
 N:=N'
 s₀:=s2
 H₀:=H2
 env:=compEnvC scope (bh X.env scope.names []) C X.env
 outer:=X.stack
 stack:=X.stack
 ex:=fp
 fn:=λ _=>false
 calm:=X.calm
 pn:=X.pn ++ pins
 xe:=λ _ _=>False
def bI (σ:St) (cap:List Nat) (k:Nat):St:=List.replicate k none ++ cap.map λ j=>(σ[j]?).join
def leS (σ σ':St):Prop:=σ'.length=σ.length/\∀ (i:Nat) v,σ[i]? = some (some v)->σ'[i]? = some (some v)
theorem leS.set {σ:St} {i:Nat} {v:V} (h:σ[i]? = some none):leS σ (σ.set i (some v)):=by
 refine ⟨by simp,λ j w e=>?_⟩
 by_cases hj:j=i
 ·subst hj; rw [h] at e; cases e
 ·rw [List.getElem?_set_ne (Ne.symm hj)]; exact e
structure CompOk (X:Cx) (scope:Scope) (own:List Str) (cs:List Str) (cap:List Nat):Prop where
 kind:scope.kind=.function
 cell:∀y∈scope.names,y.2≠.cell
 names:∀y∈scope.names,y.2=.local->scope.names.lookup y.1=some .local
 free:∀y∈scope.names,y.2=.free->X.env.kindOf y.1=some .cell\/X.env.kindOf y.1=some .free
 caps:∀ (i:Nat) y,cs[i]? = some y->∃j,cap[i]? = some j/\X.N[j]? = some y/\(y,NameKind.free)∈scope.names
 ownl:∀y∈own,scope.names.lookup y=some .local
 len:cs.length=cap.length
 free2:∀y,(y,NameKind.free)∈scope.names->scope.names.lookup y=some .local->False
def mt (X:Cx) (ifs:List Expr) (tt:TT):Prop :=
 ∀ (pins:List (Addr×Obj)) (s:Al) (σ:St) (H:Hp) (Q:Bool->Hp->Prop),Inv X pins σ H s->tt σ H Q ->
  wpAny (model X.prog X.w) X.A (forIn ifs true λ c r=>if r=true then do let ok<-isTrue c X.env (eval c X.env); pure (ForInStep.yield ok) else pure (ForInStep.yield r)) (TP X pins σ Q) X.xe s
def qz:TT:=λ _ H Q=>Q true H
theorem cO {X:Cx}:mt X [] qz:=λ _ _ _ H _ I h=>wpAny_tests_nil ⟨H,I,h⟩
def iF (σ:St) (cap:List Nat) (k:Nat) (J:It) (g:TG) (tt:TT) (te:TE) (Q:List V->Hp->Prop) (W:Nat->Nat->List V->Hp->Prop):Prop :=
 ∀i m ys H,W i m ys H->(J.stop i H/\ys.length<=sizeLine/\Q ys H) \/
  (J.go i H/\ys.length < sizeLine/\∀x H',J.yld i H x H'->g x (bI σ cap k) H' λ σ2 H2=>leS (bI σ cap k) σ2/\tt σ2 H2 λ ok H3 =>
   if ok=true then te σ2 H3 (λ v H4=>∃m',m' < m/\W (i + 1) m' (ys ++ [v]) H4) else ∃m',m' < m/\W (i + 1) m' ys H3)
theorem HOk.add {P:Am} {w:Ao} {H:Hp} {h:Heap} {a:Addr} {o:HO} (x:HOk P w H h) (n:H a=none) (new:ObjOk P w (upd H a o) h a o):HOk P w (upd H a o) h:=λ b u e=>by
 by_cases hb:b=a
 ·subst hb; rw [ag] at e; cases e; exact new
 ·rw [ar hb] at e;exact (x b u e).stay (λ c v _ q=>q) (λ c q=>by rw [ar (ah q n)]; exact q) λ c xs q=>by rw [ar (ah q n)]; exact q
section
variable {X:Cx} {pins:List (Addr×Obj)} {σ:St} {H2:Hp} {s2:Al} {scope:Scope} {own cs:List Str} {cap:List Nat} {fp:List Addr}
theorem jg {h1:Heap} {C:Addr} {tk:Nat} (I:Inv X pins σ H2 s2) (ok:CompOk X scope own cs cap) (hf:∀b∈fp,cZ X pins H2 b) (hfl:∀b∈fp,b < s2.heap.objs.size)
  (hC:s2.heap.objs.size<=C) (hns:h1.Ns C (λ _=>none)) (old:∀b o,s2.heap.get? b=some o->h1.get? b=some o) :
  Inv (bo X pins s2 H2 scope C (own ++ cs) fp) [] (bI σ cap own.length) H2 { s2 with heap:=h1,toks:=tk }:=by
 have hfr:∀y∈scope.names,y.2=.free->∃c,X.env.cells.lookup y.1=some c:=λ y hy e=>I.ok.has y.1 (ok.free y hy e);have sub:∀x c,(bh X.env scope.names []).lookup x=some c->X.env.cells.lookup x=some c:=λ x c e=>bZ X.env scope.names [] x c hfr (λ _ _ z=>by simp at z) e;have clt:∀x c,(bh X.env scope.names []).lookup x=some c->c < s2.heap.objs.size:=λ x c e=>by obtain ⟨v,o,ho,_⟩:=I.cell x c (sub x c e);exact AG ho
 refine ⟨⟨I.ok.mod,ok.kind,I.ok.glob,I.ok.blt,hC,λ y z c h1 h2=>I.ok.inj y z c (sub y c h1) (sub z c h2),λ y hy=>?_,λ y c z=>?_,I.ok.hd,I.ok.frames,.inl rfl,λ b hb=>?_,I.bs,AW I.ok.bsz I.sz,λ b o e hb=>?_,λ b hb z=>?_,I.stack,I.stkFree⟩,
  rfl,I.bare,Un.kept old,⟨_,hns,λ i y v e1 e2 e3=>?_⟩,λ y c e=>?_,I.hok.fresh hC,λ y c e=>I.freeC y c (sub y c e),λ p hp=>?_,I.hok.kept old,?_⟩
 ·have hm:=fx ok.cell hy;exact dj X.env scope.names [] y hm
 ·exact absurd (show false=true from z) AI
 ·exact ⟨AQ (AS (hfl b hb) hC),λ x c e=>(hf b hb).2.2.2.2.1 x c (sub x c e)⟩
 ·rcases (hf b hb).2.2.2.1 with z | z
  ·exact I.ok.noex b o e z
  ·exact absurd (AS (AG (I.ok.bs b o e).1) z) (AY _)
 ·rcases List.mem_cons.mp (I.stkSub b z) with q | q
  ·exact (hf b hb).2.1 q
  ·exact (hf b hb).2.2.1 q
 ·have hi:own.length<=i:=by
   refine Nat.le_of_not_lt λ q=>?_;unfold bI at e2;rw [List.getElem?_append_left (by simpa using q),List.getElem?_replicate] at e2
   split at e2 <;> cases e2
  have e1':cs[i - own.length]? = some y:=by have e1:(own ++ cs)[i]? = some y:=e1;rwa [List.getElem?_append_right hi] at e1
  obtain ⟨j,hj,hN,hm⟩:=ok.caps _ y e1';have hk:=ok.free _ hm rfl;have e2':σ[j]? = some (some v):=by
   unfold bI at e2;rw [List.getElem?_append_right (by simpa using hi),List.length_replicate,List.getElem?_map,hj] at e2;have e2:(σ[j]?).join=some v:=by simpa using e2
   cases q:σ[j]? with
   | none=>rw [q] at e2; cases e2
   | some w=>rw [q] at e2; have:w=some v:=e2; rw [this]
  obtain ⟨m,hn,hl⟩:=I.loc;obtain ⟨u,ru,l⟩:=hl j y v hN e2' (by rcases hk with q | q; exact .inr (.inl q); exact .inr (.inr q));refine ⟨u,ru,.inr ?_⟩;obtain ⟨c,hc⟩:=dj X.env scope.names [] y hm;have hc':=sub y c hc;have cellu:h1.IsCell c (some u):=by
   rcases l with ⟨k,_⟩ | ⟨k,c',e,o,ho,hd⟩
   ·rcases hk with q | q <;> (have z:X.env.kindOf y=_:=q; rw [k] at z; cases z)
   ·rw [hc'] at e; cases e;exact ⟨o,old _ _ ho,hd⟩
  refine ⟨?_,c,hc,cellu⟩;rcases e3 with z | z | z
  ·exfalso;have key:∀names:List (Str×NameKind),True:=λ _=>trivial;have z:(relabel scope X.env).names.lookup y=some .local:=z;have zz:scope.names.lookup y=some .local:=by
    unfold relabel at z;dsimp only at z;revert z;generalize scope.names=names
    induction names with
    | nil=>intro z; simp at z
    | cons q r ih =>
     obtain ⟨n,k⟩:=q;intro z;rw [List.map_cons] at z
     by_cases hb:(k == NameKind.free && X.env.scope.kind == .function && X.env.kindOf n == some .cell)=true
     ·dsimp only at z;rw [if_pos hb,List.lookup_cons] at z;rw [List.lookup_cons];cases hx:y == n with
      | true=>rw [hx] at z; cases z
      | false=>rw [hx] at z; exact ih z
     ·dsimp only at z;rw [if_neg hb,List.lookup_cons] at z;rw [List.lookup_cons];cases hx:y == n with
      | true=>rw [hx] at z; exact z
      | false=>rw [hx] at z; exact ih z
   have:=ok.free2 y hm zz;exact this
  ·exact .inl z
  ·exact .inr z
 ·obtain ⟨v,o,ho,hd⟩:=I.cell y c (sub y c e);exact ⟨v,o,old _ _ ho,hd⟩
 ·have hp':p∈X.pn ++ pins:=by have:p∈(X.pn ++ pins) ++ []:=hp;simpa using this
  obtain ⟨e,n,ne,nf,d⟩:=I.pin p hp';refine ⟨old _ _ e,n,AQ (AS (AG e) hC),λ z=>?_,d⟩;rcases List.mem_cons.mp (I.stkSub p.1 z) with q | q
  ·exact ne q
  ·exact nf q
 ·show (bI σ cap own.length).length=(own ++ cs).length;unfold bI;rw [List.length_append,List.length_replicate,List.length_map,List.length_append,ok.len]
end
section
variable {X:Cx} {pins:List (Addr×Obj)} {σ:St} {H2:Hp} {s2:Al} {scope:Scope} {own cs:List Str} {cap:List Nat} {fp:List Addr} {it:Addr} {tn:Nat->Heap->Prop}
 {elt tg iter:Expr} {ifs:List Expr} {pos:Pos} {J:It} {g:TG} {tt:TT} {te:TE} {E:Ap->Al->Prop} {W:Nat->Nat->List V->Hp->Prop} {Qf:List V->Hp->Prop}
structure BlkEnd (X:Cx) (pins:List (Addr×Obj)) (σ:St) (Qf:List V->Hp->Prop) (D C:Addr) (s':Shared):Prop where
 ex:∃ (ys:List V) (H':Hp),H' D=none/\Qf ys H'/\Inv X pins σ (upd H' D (.lst ys)) s'/\cZ X pins (upd H' D (.lst ys)) C
 ns:∃m,s'.heap.Ns C m
theorem Inv.bareP {pins':List (Addr×Obj)} {H:Hp} {s:Al} (I:Inv X pins' σ H s):Inv X [] σ H s:=I.pins_of λ p hp=>absurd hp (by simp)
theorem fW {RR:Ap->Addr->Result->Al->Prop} (I:Inv X pins σ H2 s2) (ok:CompOk X scope own cs cap) (hc:X.calm=true) (T:Turn X.prog X.w X.K tg J fp it tn) (st:tn 0 s2.heap) (hf:∀b∈fp,cZ X pins H2 b)
  (hg:∀C,PG (bo X pins s2 H2 scope C (own ++ cs) fp) tg g) (hi:∀C,mt (bo X pins s2 H2 scope C (own ++ cs) fp) ifs tt) (he:∀C,PE (bo X pins s2 H2 scope C (own ++ cs) fp) elt te)
  (w0:∃m,W 0 m [] H2) (turn:iF σ cap own.length J g tt te Qf W)
  (hRR:∀D C s',BlkEnd X pins σ Qf D C s'->RR (.ref D) C (.ok .next) s') :
  wpAny (model X.prog X.w) X.A (newList []) (λ acc s₃=>wpAny (model X.prog X.w) X.A (newFunctionEnv scope X.env.globals (bh X.env scope.names []) [] X.env.qual none .none (some X.env)) (λ cenv s₄ =>
   codeAny (model X.prog X.w) X.A (.compStart (.ListComp elt [⟨tg,iter,ifs,0⟩] scope pos) 0 (.ref it) acc { cenv with scope:=relabel scope X.env }) (RR acc cenv.locals) s₄) E s₃) E s2:=by
 refine Aj (wpAny_newFunctionEnv ok.cell (by intro y hy; simp at hy) (λ h₁ hns₁ hsb₁=>?_) ok.kind);dsimp only at hns₁ hsb₁ ⊢;generalize hHH:s2.heap.push { cls:=.type "list",dict:=none,data:=.seq ([]:List Ap).toArray }=HH at hns₁ hsb₁ ⊢;have hCs:HH.objs.size=s2.heap.objs.size + 1:=by rw [<- hHH,Heap.size_push]
 have hDC:s2.heap.objs.size≠HH.objs.size:=by rw [hCs]; exact AQ (Af _)
 have hCle:s2.heap.objs.size<=HH.objs.size:=by rw [hCs]; exact Nat.le_succ _
 have hfl:∀b∈fp,b < s2.heap.objs.size:=λ b hb=>by obtain ⟨o,e,_⟩:=T.obj 0 _ st b hb;exact AG e
 have old:∀b o,s2.heap.get? b=some o->h₁.get? b=some o:=λ b o e=>hsb₁.extBut b o (by rw [hCs]; exact AQ (Nat.lt_succ_of_lt (AG e))) (AE _ (hHH ▸ AE _ e));have hacc:h₁.PlainList s2.heap.objs.size #[]:=⟨_,hsb₁.extBut _ _ hDC (AE _ (hHH ▸ AF _ rfl))⟩
 generalize hD:s2.heap.objs.size=D at *;generalize hCC:HH.objs.size=C at *;have hns₁':h₁.Ns C (λ _=>none):=hns₁;have I0:Inv (bo X pins s2 H2 scope C (own ++ cs) fp) [] (bI σ cap own.length) H2 { s2 with heap:=h₁,toks:=s2.toks + ([]:List (Str×Ap)).length } :=
  jg I ok hf (λ b hb=>by rw [hD]; exact hfl b hb) (by rw [hD]; exact hCle) hns₁' old
 have Dfs:D∉frs X.stack:=λ hb=>by obtain ⟨_,o,ho,_⟩:=I.stack.mem hb;exact absurd (AG ho) (by rw [hD]; exact AY _)
 have Dfp:∀b∈fp,D≠b:=λ b hb z=>absurd (hfl b hb) (by rw [<- z]; exact AY _);have clt:∀x c,(bh X.env scope.names []).lookup x=some c->c < D:=λ x c e=>by have e':=bZ X.env scope.names [] x c (λ y hy e=>I.ok.has y.1 (ok.free y hy e)) (λ _ _ z=>by simp at z) e;obtain ⟨v,o,ho,_⟩:=I.cell x c e';have:=AG ho;rw [hD] at this; exact this
 have plt:∀p∈X.pn ++ pins,p.1 < D:=λ p hp=>by have:=AG (I.pin p hp).1;rw [hD] at this; exact this
 have stat:∀ {H':Hp} {ob:Obj},(∀b∈fp,H' b=none)->∀b∈fp,cZ (bo X pins s2 H2 scope C (own ++ cs) fp) [(D,ob)] H' b:=λ {H' ob} hn b hb=>by
  have q:=I0.ok.exf b hb;refine ⟨hn b hb,q.1,I0.ok.exfs b hb,.inl hb,q.2,λ p hp=>?_⟩;rcases AT.mp hp with z | z
  ·exact (hf b hb).2.2.2.2.2 p z
  ·have:p=(D,ob):=by simpa using z
   subst this;exact Dfp b hb
 have loop:codeAny (model X.prog X.w) X.A (.compLoop (.ListComp elt [⟨tg,iter,ifs,0⟩] scope pos) 0 (.ref it) (.ref D) (compEnvC scope (bh X.env scope.names []) C X.env)) (RR (.ref D) C)
   { s2 with heap:=h₁,toks:=s2.toks + ([]:List (Str×Ap)).length }:=by
  obtain ⟨m0,w0⟩:=w0;refine codeAny_loop rfl (λ n s'=>∃i H' its ys,Inv (bo X pins s2 H2 scope C (own ++ cs) fp) [] (bI σ cap own.length) H' s'/\tn i s'.heap/\(∀b∈fp,H' b=none)/\s'.heap.PlainList D its.toArray/\Vals ys its/\H' D=none/\W i n ys H') ?_ m0
   ⟨0,H2,[],[],I0,T.keep 0 _ _ st λ b _ o e=>old b o e,λ b hb=>(hf b hb).1,hacc,.nil,I.hok.fresh (by rw [hD]; exact AJ _),w0⟩
  rintro n s3 ⟨i,H3,its,ys,I3,st3,fr3,⟨nn,pl3⟩,rv3,hD3,w3⟩;show wpAny _ X.A ((compTurn (.ListComp elt [⟨tg,iter,ifs,0⟩] scope pos) 0 (.ref it) (.ref D) (compEnvC scope (bh X.env scope.names []) C X.env)).onRaise (λ x=>do noteFrame x (compEnvC scope (bh X.env scope.names []) C X.env); theTreesLotGoes x)) _ _ s3;refine wpAny_noted ?_;rw [compTurn_list];refine AA (wpAny_standAt (AA ?_));have I3':Inv (bo X pins s2 H2 scope C (own ++ cs) fp) [(D, { cls:=.type "list", data:=.seq its.toArray nn })] (bI σ cap own.length) H3 s3 :=
   I3.pins_of λ p hp=>by
    have:p=(D,{ cls:=.type "list",data:=.seq its.toArray nn }):=by simpa using hp
    subst this;exact ⟨pl3,hD3,hDC,Dfs,λ v z=>by cases z⟩
  rcases turn i n ys H3 w3 with ⟨stop,hz,qf⟩ | ⟨go,hz,step⟩
  ·refine thn (T.done (bo X pins s2 H2 scope C (own ++ cs) fp) rfl rfl rfl hc i _ s3 _ H3 _ I3' (stat fr3) st3 stop) λ r s4 ⟨hr,I4⟩=>?_;subst hr;refine AB (hRR D C s4 ⟨⟨ys,H3,hD3,qf,?_,?_⟩,?_⟩)
   ·have pl4:=(I4.pin (D,_) (AC _ (AZ.mpr rfl))).1;have u4:=I4.base;have Ds2:s2.heap.get? D=none:=Heap.get?_none_of_le (by rw [hD]; exact AJ _);refine I.call' (s':=s4) (ch:=fp) I4.os ⟨u4.keep,u4.slot,λ b o e n hx=>?_,u4.there,λ b xs e=>?_,λ b o u e=>?_,λ b ps e=>?_⟩ ?_ I4.bare λ b hb=>⟨(hf b hb).2.2.2.1,(hf b hb).2.1,(hf b hb).2.2.2.2.1,(hf b hb).2.2.2.2.2⟩
    ·rw [ar (λ z=>by rw [z,Ds2] at e; cases e)];exact u4.free b o e n hx
    ·have:=u4.tups b xs e;rw [ar (ah this hD3)]; exact this
    ·have:=u4.frzs b o u e;rw [ar (ah this hD3)]; exact this
    ·obtain ⟨more,e'⟩:=u4.tbls b ps e;exact ⟨more,by rw [ar (ah e' hD3)]; exact e'⟩
    ·exact I4.hok.add hD3 ⟨hz,its,nn,rv3,pl4⟩
   ·have CH:(upd H3 D (.lst ys)) C=none:=by rw [ar (Ne.symm hDC)]; exact I4.free
    exact I.fpOk (H':=upd H3 D (.lst ys)) (by rw [hD]; exact hCle) CH
   ·obtain ⟨m,hn,_⟩:=I4.loc;exact ⟨m,hn⟩
  ·refine thn (T.item (bo X pins s2 H2 scope C (own ++ cs) fp) rfl rfl rfl hc i _ s3 _ H3 _ I3' (stat fr3) st3 go) λ r s4 ⟨u,hr,h4⟩=>?_;subst hr;refine AA (thn h4 λ _ s5 ⟨x,H5,I5,r5,y5,st5,fr5⟩=>?_);have I5':=I5.pinned (stat fr5) (T.obj _ _ st5);refine AA (wpAny_mono (hg C _ s5 _ H5 x u _ I5' r5 (step x H5 y5)) (λ _ s6 ⟨σ6,H6,I6,le6,q6⟩=>?_) λ _ _ z=>Ad z);refine AA (wpAny_mono (hi C _ s6 σ6 H6 _ I6 q6) (λ b s7 ⟨H7,I7,q7⟩=>?_) λ _ _ z=>Ad z);have back:∀ {pins':List (Addr×Obj)} {H8:Hp} {s8:Al},Inv (bo X pins s2 H2 scope C (own ++ cs) fp) pins' σ6 H8 s8->Inv (bo X pins s2 H2 scope C (own ++ cs) fp) [] (bI σ cap own.length) H8 s8:=λ I8 =>
    I8.bareP.weak le6.1.symm λ i v e=>le6.2 i v e
   cases b with
   | false =>
    rw [if_neg Bool.false_ne_true] at q7;obtain ⟨m',hm,w7⟩:=q7;refine AB ⟨rfl,m',hm,i + 1,H7,its,ys,back I7,T.keep _ _ _ st5 λ b hb o e=>?_,λ b hb=>?_,⟨nn,?_⟩,rv3,?_,w7⟩
    ·exact (I7.pin (b,o) (AC _ (AC _ (bp hb e)))).1
    ·obtain ⟨o,e,d⟩:=T.obj _ _ st5 b hb;exact (I7.pin (b,o) (AC _ (AC _ (bp hb e)))).2.1
    ·exact (I7.pin (D,_) (AC _ (AM _ (AZ.mpr rfl)))).1
    ·exact (I7.pin (D,_) (AC _ (AM _ (AZ.mpr rfl)))).2.1
   | true =>
    rw [if_pos rfl] at q7;refine AA (AA (wpAny_mono (he C _ s7 σ6 H7 _ I7 q7) (λ y s8 ⟨v,H8,I8,r8,m',hm,w8⟩=>?_) λ _ _ z=>Ad z));have pD:=I8.pin (D,{ cls:=.type "list",data:=.seq its.toArray nn }) (AC _ (AM _ (AZ.mpr rfl)));have hlen:=rv3.length;refine AA (wpAny_list_append_plain (hsz:=by rw [List.size_toArray]; omega) ⟨nn,pD.1⟩ λ h9 pl9 sb9=>AB (AB ?_));have I8':=back I8;refine ⟨Z,m',hm,i + 1,H8,its ++ [y],ys ++ [v],?_,T.keep _ _ _ st5 λ b hb o e=>?_,λ b hb=>?_,?_,rv3.append (.cons r8 .nil),pD.2.1,w8⟩
    ·exact I8'.turned (t':=s8.toks) (λ b o hb e=>sb9.extBut b o hb e) pD.2.1 hDC (.inr (by show s2.heap.objs.size<=D; rw [hD]; exact AJ _)) (λ x c e=>AQ (clt x c e)) λ p hp=>by
      have hp':p∈X.pn ++ pins:=by have:p∈(X.pn ++ pins) ++ []:=hp;simpa using this
      exact AQ (plt p hp')
    ·exact sb9.extBut b o (Ne.symm (Dfp b hb)) (I8.pin (b,o) (AC _ (AC _ (bp hb e)))).1
    ·obtain ⟨o,e,d⟩:=T.obj _ _ st5 b hb;exact (I8.pin (b,o) (AC _ (AC _ (bp hb e)))).2.1
    ·have e:its.toArray.push y=(its ++ [y]).toArray:=by simp
     rw [<- e]; exact pl9
 exact codeAny_compStart_list loop (T.self _ 0 _ _ _ (T.keep 0 _ _ st λ b _ o e=>old b o e) loop)
def kL (wi:TI) (cap:List Nat) (k:Nat) (g:TG) (tt:TT) (te:TE):TE:=λ σ H Q=>wi σ H λ J H1 =>
 ∃W:Nat->Nat->List V->Hp->Prop,(∃m,W 0 m [] H1)/\iF σ cap k J g tt te (λ ys H'=>∀p,H' p=none->Q (.ref p) (upd H' p (.lst ys))) W
theorem fy {wi:TI} (hc:X.calm=true) (hit:PI X tg iter wi) (ok:CompOk X scope own cs cap)
  (hg:∀pins s2 H2 C fp,PG (bo X pins s2 H2 scope C (own ++ cs) fp) tg g) (hi:∀pins s2 H2 C fp,mt (bo X pins s2 H2 scope C (own ++ cs) fp) ifs tt) (he:∀pins s2 H2 C fp,PE (bo X pins s2 H2 scope C (own ++ cs) fp) elt te)
  (hs:∀x,foldedSetIterable iter X.env x=pure x:=by intro _; rfl):PE X (.ListComp elt [⟨tg,iter,ifs,0⟩] scope pos) (kL wi cap own.length g tt te):=by
 intro pins s σ H Q I h;rw [eval_ListComp];refine wpAny_comprehension_free (use:=none) rfl hs (ej λ y hy e=>I.ok.has y.1 (ok.free y hy e)) ok.kind ok.names (thn (hit pins s σ H _ I h) λ v s1 h1=>thn h1 λ itv s2 h2=>?_);obtain ⟨it,fp,tn,J,H2,e,I2,T,st2,f2,W,w0,turn⟩:=h2;subst e;refine fW (RR:=λ acc C=>compPost (model X.prog X.w) X.A X.xe none (EP X pins σ Q) acc C) I2 ok hc T st2 f2 (λ C=>hg _ _ _ _ _) (λ C=>hi _ _ _ _ _) (λ C=>he _ _ _ _ _) w0 turn λ D C s' B=>?_;obtain ⟨⟨ys,H',hD,q,I',fp'⟩,m,hn⟩:=B;obtain ⟨f0,f1,f2',f3,f4,f5⟩:=fp';exact ⟨m,hn,λ h' sb=>⟨.ref D,_,I'.turned (t':=s'.toks) (λ b o hb e=>sb.extBut b o hb e) f0 f1 f3 f4 f5,Z,q D hD⟩⟩
theorem mv {wi:TI} {i:Nat} {y:Str} {py spos:Pos} (hc:X.calm=true) (hN:X.N.Nodup) (hiy:X.N[i]? = some y) (hy:X.env.scope.names.lookup y=some .local)
  (hsw:swapsWith (.ListComp elt [⟨tg,iter,ifs,0⟩] scope pos) (some (.Name y py)) spos.line X.env=pure true) (hit:PI X tg iter wi) (ok:CompOk X scope own cs cap)
  (hg:∀pins s2 H2 C fp,PG (bo X pins s2 H2 scope C (own ++ cs) fp) tg g) (hi:∀pins s2 H2 C fp,mt (bo X pins s2 H2 scope C (own ++ cs) fp) ifs tt) (he:∀pins s2 H2 C fp,PE (bo X pins s2 H2 scope C (own ++ cs) fp) elt te)
  (hs:∀x,foldedSetIterable iter X.env x=pure x:=by intro _; rfl):PS X (.Assign [.Name y py] (.ListComp elt [⟨tg,iter,ifs,0⟩] scope pos) spos) (nO (kL wi cap own.length g tt te) (kh i)):=by
 intro pins s σ H D0 I h;rw [exec_Assign_Name_used _ _ _ _ hsw];refine AA (wpAny_standAt (AA ?_));show wpAny _ X.A (do let _<-comprehension (.ListComp elt [⟨tg,iter,ifs,0⟩] scope pos) scope X.env _ (newList []) false (eval iter X.env) (some (assign (.Name y py) X.env))) _ _ s;refine AA (wpAny_mono (wpAny_comprehension_free (use:=some (assign (.Name y py) X.env)) (Q:=λ _ s'=>SP X pins D0 .next s') rfl hs (ej λ y hy e=>I.ok.has y.1 (ok.free y hy e)) ok.kind ok.names
  (thn (hit pins s σ H _ I h) λ v s1 h1=>thn h1 λ itv s2 h2=>?_)) (λ _ s' hq=>AB (AB hq)) λ _ _ e=>e)
 obtain ⟨it,fp,tn,J,H2,e,I2,T,st2,f2,W,w0,turn⟩:=h2;subst e;refine fW (RR:=λ acc C=>compPost (model X.prog X.w) X.A X.xe (some (assign (.Name y py) X.env)) (λ _ s'=>SP X pins D0 .next s') acc C) I2 ok hc T st2 f2 (λ C=>hg _ _ _ _ _) (λ C=>hi _ _ _ _ _) (λ C=>he _ _ _ _ _) w0 turn λ D C s' B=>?_;obtain ⟨⟨ys,H',hD,q,I',fp'⟩,m,hn⟩:=B;obtain ⟨f0,f1,f2',f3,f4,f5⟩:=fp';show wpAny _ X.A (assign (.Name y py) X.env (.ref D)) _ _ _;refine wpAny_assign_Name (eM I' hN hiy (.inl hy) (v:=.ref D) rfl (λ s3 I3 ⟨a,sb,ha⟩=>?_) (.inr hy));have hCa:C≠a:=by
  rcases ha with z | z
  ·rw [z]; exact f1
  ·exact λ q=>f4 y a z q.symm
 refine ⟨m,hn.sameBut sb hCa,λ h' sb'=>⟨_,_,I3.turned (t':=s3.toks) (λ b o hb e=>sb'.extBut b o hb e) f0 f1 f3 f4 f5,q D hD⟩⟩
end
def CDivB (i j:Int):Prop:=0 < j/\j<=10 ^ 60
theorem CDivB.np {i j:Int} (h:CDivB i j):Builtin.divisionGoesByPylong i j=false:=by
 refine PyProof.noPylong_of_log2 ?_;have h1:j.natAbs < 2 ^ 200:=by obtain ⟨a,b⟩:=h;omega
 have h2:j.natAbs.log2 < 200:=(Nat.log2_lt (by have:=h.1; omega)).mpr h1;omega
section
variable {X:Cx}
theorem fX:OpR X (binaryOp .FloorDiv) (rI CDivB λ i j=>.int (i / j)):=opI λ i j _ _ _ _ _ hc q=>by refine floordiv_int (by have:=hc.1; omega) ?_ (.inl hc.np);rw [Int.fdiv_eq_ediv_of_nonneg _ (by have:=hc.1; omega)];exact q
theorem Inv.kitx {pins:List (Addr×Obj)} {σ:St} {H:Hp} {s:Al} {x:V} {u t:Ap} (I:Inv X pins σ H s) (rx:RelV x u) (ty:TyOf X.K H x t) :
  ∃P:Heap->Prop,PySem.W.KitX X.K u t P/\P s.heap/\u≠.builtin "__main__.__loader__#opaque" := by
 cases ty with
 | non=>cases (show u=Value.none from rx); exact ⟨_,PySem.W.kitx_none,True.intro,λ z=>nomatch z⟩
 | bl y=>cases (show u=Value.bool y from rx); exact ⟨_,PySem.W.kitx_bool,True.intro,λ z=>nomatch z⟩
 | int i=>obtain ⟨t,q⟩:=(show ∃t,u=Value.int i t from rx); cases q; exact ⟨_,PySem.W.kitx_int,True.intro,λ z=>nomatch z⟩
 | str y=>obtain ⟨t,q⟩:=(show ∃t,u=Value.str y t from rx); cases q; exact ⟨_,PySem.W.kitx_str,True.intro,λ z=>nomatch z⟩
 | flt y=>obtain ⟨t,q⟩:=(show ∃t,u=Value.float y t from rx); cases q; exact ⟨_,PySem.W.kitx_float,True.intro,λ z=>nomatch z⟩
 | @lst a xs ea =>
  cases (show u=Value.ref a from rx);obtain ⟨_,_,n,_,h1⟩:=(show ObjOk X.prog X.w H s.heap a (.lst xs) from I.hok a _ ea)
  exact ⟨_,PySem.W.kitx_list,⟨_,h1,Z⟩,λ z=>nomatch z⟩
 | @frz a ob xs ea =>
  cases (show u=Value.ref a from rx);obtain ⟨_,_,_,n,_,h1⟩:=(show ObjOk X.prog X.w H s.heap a (.frz ob (.lst xs)) from I.hok a _ ea)
  exact ⟨_,PySem.W.kitx_list,⟨_,h1,Z⟩,λ z=>nomatch z⟩
 | @tup a xs ea =>
  cases (show u=Value.ref a from rx);obtain ⟨_,_,_,p⟩:=(show ObjOk X.prog X.w H s.heap a (.tup xs) from I.hok a _ ea)
  obtain ⟨o,h1,h2,_⟩:=p;exact ⟨_,PySem.W.kitx_tuple,⟨o,h1,h2⟩,λ z=>nomatch z⟩
 | @dK a kvs ea =>
  cases (show u=Value.ref a from rx);obtain ⟨_,_,vs,_,p⟩:=(show ObjOk X.prog X.w H s.heap a (.dK kvs) from I.hok a _ ea)
  obtain ⟨o,es,ep,h1,h2,_⟩:=p;exact ⟨_,PySem.W.kitx_dict,⟨o,h1,h2.1⟩,λ z=>nomatch z⟩
 | @dT a kvs ea =>
  cases (show u=Value.ref a from rx);obtain ⟨_,_,xs,_,o,es,ep,h1,h2,_⟩:=(show ObjOk X.prog X.w H s.heap a (.dT kvs) from I.hok a _ ea)
  exact ⟨_,PySem.W.kitx_dict,⟨o,h1,h2.1⟩,λ z=>nomatch z⟩
 | @ext a φ ea c =>
  cases (show u=Value.ref a from rx);obtain ⟨p,_,_⟩:=(show ObjOk X.prog X.w H s.heap a (.ext φ) from I.hok a _ ea)
  obtain ⟨o,h1,h2⟩:=c _ p;exact ⟨_,PySem.W.kitx_dict,⟨o,h1,h2⟩,λ z=>nomatch z⟩
 | @ins a C dx fs ea cl ha hn htk hm =>
  cases (show u=Value.ref a from rx);obtain ⟨mA,O,_⟩:=cN I.hok ea;obtain ⟨od,J,_⟩:=O.look;exact ⟨_,PySem.W.kitx_own (cl.get _) cl.hd ha hn htk hm,J,λ z=>nomatch z⟩
def clV:V->Option Value
 | .ty T=>some (.type T)
 | .ref C=>some (.ref C)
 | _=>none
theorem clV.rel {v:V} {u c:Ap} (e:clV v=some c) (r:RelV v u):u=c:=by
 cases v with
 | ty T=>have e':Value.type T=c:=AO e; rw [<- e']; exact r
 | ref C=>have e':Value.ref C=c:=AO e; rw [<- e']; exact r
 | _=>cases e
def clVs:List V->Option (List Ap)
 | []=>some []
 | v :: r=>match clV v,clVs r with
  | some c,some cs=>some (c :: cs)
  | _,_=>none
theorem clVs.rel:∀ {vs:List V} {us cs:List Ap},clVs vs=some cs->Vals vs us->us=cs
 | [],_,_,e,.nil=>AO e
 | v :: r,_,_,e,.cons r1 r2=>by
  unfold clVs at e
  split at e
  ·rename_i c cs' e1 e2
   cases e;rw [clV.rel e1 r1,clVs.rel e2 r2]
  ·cases e
theorem aZ:bQ X (.builtin "isinstance") (λ xs H Q=>∃x cv t c b,xs=[x,cv]/\TyOf X.K H x t/\clV cv=some c/\PySem.W.kitOne X.K t c=some b/\Q (.bl b) H):=by
 intro pins s σ H xs us Q I rv h;obtain ⟨x,cv,t,c,b,rfl,ty,e1,e2,q⟩:=h;cases rv with
 | cons r1 rr =>
  cases rr with
  | cons r2 rr =>
   cases rr;rw [clV.rel e1 r2];exact jb I r1 ty e2 λ tk=>⟨.bl b,H,I.tok tk,Z,q⟩
theorem ce:bQ X (.builtin "isinstance") (λ xs H Q=>∃x p t cvs cs b,xs=[x,.ref p]/\TyOf X.K H x t/\H p=some (.tup cvs)/\clVs cvs=some cs/\PySem.W.kitAny X.K t cs=some b/\Q (.bl b) H):=by
 intro pins s σ H xs us Q I rv h;obtain ⟨x,p,t,cvs,cs,b,rfl,ty,hp,e1,e2,q⟩:=h;cases rv with
 | cons r1 rr =>
  cases rr with
  | cons r2 rr =>
   cases rr;cases r2;obtain ⟨_,its,rits,o,ho,hc,n,hd⟩:=I.hok p _ hp;obtain ⟨P,ZZ0,p1,p2⟩:=I.kitx r1 ty;obtain ⟨oc,od,dt,osl⟩:=o
   replace hc:oc=.type "tuple" := hc
   replace hd:dt=.seq its.toArray n:=hd
   subst hc hd;have e3:=clVs.rel e1 rits;subst e3;exact PySem.W.kia_tup ZZ0 I.kIn p1 ho e2 p2 λ tk=>⟨.bl b,H,I.tok tk,Z,q⟩
end
mutual
inductive DatV (K:AV) (H:Hp):V->PyData->Prop
 | non:DatV K H .non .none
 | bl (b:Bool):DatV K H (.bl b) (.bool b)
 | int (i:Int):DatV K H (.int i) (.int i)
 | str (x:Str):DatV K H (.str x) (.str x)
 | lst {a:Addr} {xs:List V} {ds:List PyData}:SqL K H a xs->DatVs K H xs ds->DatV K H (.ref a) (.list ds)
 | tup {a:Addr} {xs:List V} {ds:List PyData}:SqT K H a xs->DatVs K H xs ds->DatV K H (.ref a) (.tuple ds)
inductive DatVs (K:AV) (H:Hp):List V->List PyData->Prop
 | nil:DatVs K H [] []
 | cons {x:V} {d:PyData} {xs:List V} {ds:List PyData}:DatV K H x d->DatVs K H xs ds->DatVs K H (x :: xs) (d :: ds)
end
section
variable {X:Cx} {pins:List (Addr×Obj)} {σ:St} {H:Hp} {s:Al}
mutual
theorem Inv.reads (I:Inv X pins σ H s):∀ {v:V} {d:PyData},DatV X.K H v d->∀ {u:Ap},RelV v u->∃as,Reads s.heap u d as
 | _,_,.non,u,r=>by cases (show u=Value.none from r); exact ⟨_,.none⟩
 | _,_,.bl b,u,r=>by cases (show u=Value.bool b from r); exact ⟨_,.bool b⟩
 | _,_,.int i,u,r=>by obtain ⟨t,e⟩:=(show ∃t,u=Value.int i t from r); subst e; exact ⟨_,.int i t⟩
 | _,_,.str x,u,r=>by obtain ⟨t,e⟩:=(show ∃t,u=Value.str x t from r); subst e; exact ⟨_,.str x t⟩
 | _,_,.lst (a:=a) h hs,u,r=>by cases (show u=Value.ref a from r);obtain ⟨its,rv,⟨o,n,e,c,_,d⟩,_⟩:=I.list h;obtain ⟨as,ra⟩:=I.readsAll hs rv;exact ⟨_,.list e c d (by simpa using ra)⟩
 | _,_,.tup (a:=a) h hs,u,r=>by cases (show u=Value.ref a from r);obtain ⟨its,rv,⟨o,e,c,n,d⟩,_⟩:=I.tuple h;obtain ⟨as,ra⟩:=I.readsAll hs rv;exact ⟨_,.tuple e c d (by simpa using ra)⟩
theorem Inv.readsAll (I:Inv X pins σ H s):∀ {vs:List V} {ds:List PyData},DatVs X.K H vs ds->∀ {us:List Ap},Vals vs us->∃as,ReadsAll s.heap us ds as
 | _,_,.nil,_,.nil=>⟨_,.nil⟩
 | _,_,.cons h hs,_,.cons r rs=>by obtain ⟨as,ra⟩:=I.reads h r;obtain ⟨bs,rb⟩:=I.readsAll hs rs;exact ⟨_,.cons ra rb⟩
end
end
section
variable {X:Cx}
theorem nY (hu:X.A.units + 64 < cLine):OpR X (compareOp .NotEq) (λ x y H Q=>∃da db,DatV X.K H x da/\DatV X.K H y db/\SeqAt.shaped da=true/\SeqAt.shaped db=true/\Q (.bl (!PyData.eqv da db)) H):=by intro pins s σ H x y v u Q I rx ry h;obtain ⟨da,db,hx,hy,s1,s2,q⟩:=h;obtain ⟨as,ra⟩:=I.reads hx rx;obtain ⟨bs,rb⟩:=I.reads hy ry;exact ne_dataH ra rb s1 s2 hu ⟨.bl _,H,I,rfl,q⟩
theorem nZ (hu:X.A.units + 64 < cLine):OpR X (compareOp .Eq) (λ x y H Q=>∃da db,DatV X.K H x da/\DatV X.K H y db/\SeqAt.shaped da=true/\SeqAt.shaped db=true/\Q (.bl (PyData.eqv da db)) H):=by intro pins s σ H x y v u Q I rx ry h;obtain ⟨da,db,hx,hy,s1,s2,q⟩:=h;obtain ⟨as,ra⟩:=I.reads hx rx;obtain ⟨bs,rb⟩:=I.reads hy ry;exact eq_dataH ra rb s1 s2 hu ⟨.bl _,H,I,rfl,q⟩
end
section
variable {prog:Am} {w:Ao} {A:Around} {E:Ap->Al->Prop}
theorem el {it l:Addr} {items:Array Ap} (hne:l≠it):∀ (n i:Nat) (s:Al) (Q:List Ap->Al->Prop),s.heap.IsListIter it l i->s.heap.IsList l items->i + n<=items.size ->
  (∀h',h'.IsListIter it l (i + n)->Heap.SameBut it s.heap h'->Q ((items.toList.drop i).take n) { s with heap:=h' })->wpAny (model prog w) A (draw (.ref it) n) Q E s
 | 0,i,s,Q,hit,_,_,hQ=>by show wpAny _ _ (pure []) Q E s;exact AB (by simpa using hQ s.heap hit (Heap.SameBut.refl ..))
 | n + 1,i,s,Q,hit,ht,hle,hQ=>by
  have hlt:i < items.size:=by omega
  show wpAny _ _ (pyNext (.ref it) >>= _) Q E s;refine AA (wpAny_pyNext_list_item hit ht (x:=items[i]) (by simp [hlt]) λ h₁ hit₁ hs₁=>?_);refine AA (wpAny_holding (el hne n (i + 1) _ _ hit₁ (ht.extBut hs₁.extBut hne) (by omega) λ h₂ hit₂ hs₂=>AB ?_));have hd:items.toList.drop i=items[i] :: items.toList.drop (i + 1):=by simp [List.drop_eq_getElem_cons,hlt]
  have q:=hQ h₂ (by rw [show i + (n + 1)=i + 1 + n by omega]; exact hit₂) (hs₁.trans hs₂);rw [hd,List.take_succ_cons] at q;exact q
theorem cP {s:Al} {l:Addr} {items:Array Ap} {Q:List Ap->Al->Prop} (hh:A.handled=none) (ht:s.heap.IsList l items)
  (hQ:∀h',Heap.ExtBut s.heap.objs.size s.heap h'->Q items.toList { s with heap:=h' }):wpAny (model prog w) A (unpackItems (.ref l) items.size none) Q E s:=by
 have hlt:l≠s.heap.objs.size:=by obtain ⟨o,ho,_⟩:=ht; exact AQ (AG ho)
 have hp:(s.heap.push { cls:=.type "list_iterator",data:=.fields #[.ref l,.int 0 0] }).IsList l items:=by obtain ⟨o,ho,r⟩:=ht; exact ⟨o,AE _ ho,r⟩
 unfold unpackItems;refine AA ?_
 ·unfold notIterableAtAll;refine AA (wpAny_specialOf ht.typeIs PySem.slot_list_iter.lookup ?_);refine AB ?_;simp only [Bool.false_eq_true,if_false];refine AA (wpAny_holding (wpAny_pyIter_list ht ?_));refine AA (wpAny_holding (el hlt items.size 0 _ _ ⟨_,AF _ rfl,rfl,rfl⟩ hp (by omega) λ h₁ hit₁ hs₁=>?_));have hall:List.take items.size (List.drop 0 items.toList)=items.toList:=by rw [List.drop_zero]; exact List.take_of_length_le (by simp)
  rw [hall];rw [if_neg (by simp)];have ht₁:h₁.IsList l items:=hp.extBut hs₁.extBut hlt;refine AA (wpAny_holding (wpAny_pyNext_list_end hh hit₁ ht₁ (by simp) λ h₂ he₂=>?_));simp only [Option.isSome_none,Bool.false_eq_true,if_false];refine AB (hQ h₂ λ b o hb e=>he₂ b o hb (hs₁.extBut b o hb (AE _ e)))
theorem cK {s:Al} {env:Env} {elts:List Expr} {x1} {pos:Pos} {l:Addr} {items:Array Ap} {Q:Unit->Al->Prop} (hh:A.handled=none) (ht:s.heap.IsList l items)
  (hn:(assignEach elts env).length=items.size) (hstar:(assignEach elts env).findIdx? (·.1)=none)
  (h:∀h',Heap.ExtBut s.heap.objs.size s.heap h'->wpAny (model prog w) A (assignInOrder ((assignEach elts env).map (·.2)) items.toList) Q E { s with heap:=h' }) :
  wpAny (model prog w) A (assign (.Tuple elts x1 pos) env (.ref l)) Q E s:=by
 rw [assign_Tuple];refine AA (wpAny_standAt ?_);unfold unpack;rw [hn,hstar];exact AA (wpAny_holding (cP hh ht h))
end
section
variable {X:Cx} {pos:Pos}
def xk (K:AV) (n:Nat) (t:TGs):TG:=λ v σ H Q=>∃a xs,v=.ref a/\(SqL K H a xs\/SqT K H a xs)/\xs.length=n/\t xs σ H Q
theorem kM {es:List Expr} {k:Nat} {t:TGs} {n:Nat} (hc:X.calm=true) (h:PGs X es t)
  (hn:(assignEach es X.env).length=n:=by rfl) (hst:(assignEach es X.env).findIdx? (·.1)=none:=by rfl):PG X (.Tuple es k pos) (xk X.K n t):=by
 intro pins s σ H v u Q I r hw;obtain ⟨a,xs,e1,hq,hl,hw⟩:=hw;rcases hq with hq | hq
 ·subst e1;cases r;obtain ⟨its,rv,ht,hz⟩:=I.list hq;refine cK (I.ok.hd hc) ht.isList (by simp [hn,<- hl,rv.length]) hst λ h' hx=>?_;have I1:Inv X pins σ H { s with heap:=h' }:=I.kept (t':=s.toks) λ b o e=>hx b o (AQ (AG e)) e;exact h pins _ σ H xs _ Q I1 (by simpa using rv) hw
 ·exact bW hc h hn hst pins s σ H v u Q I r ⟨a,xs,e1,hq,hl,hw⟩
end
section
variable {X:Cx}
theorem Inv.turnedN {pins:List (Addr×Obj)} {σ:St} {H:Hp} {s:Al} {h':Heap} {t':Nat} {ch:List Addr} (I:Inv X pins σ H s) (hf:∀b∈ch,cZ X pins H b) (k:∀b o,b∉ch->s.heap.get? b=some o->h'.get? b=some o):Inv X pins σ H { s with heap:=h',toks:=t' }:=by
 have hLc:X.env.locals∉ch:=λ z=>(hf _ z).2.1 rfl;have nt:∀b u,H b=some u->b∉ch:=λ b u e z=>by rw [(hf b z).1] at e; cases e
 refine I.step (g':=s.gens) (d':=s.drawn) (ch:=ch) (λ b hb=>⟨(hf b hb).2.2.2.1,(hf b hb).2.1,(hf b hb).2.2.2.2.1,(hf b hb).2.2.2.2.2⟩) (λ b o _ _ hc e _=>k b o hc e) (λ b o _ _ hc e _=>⟨o.slots,k b o hc e⟩) (λ _ _ _ _ n=>n)
  (λ b o hc e=>⟨o,k b o hc e⟩) (λ _ _ e=>e) (λ _ _ _ e=>e) (λ b ps e=>⟨#[],by rw [e]; simp⟩) (λ m hm=>?_) (λ b u e=>?_) I.bare
 ·obtain ⟨o,es,ep,ho,r⟩:=hm;exact ⟨o,es,ep,k _ o hLc ho,r⟩
 ·refine (I.hok b u e).stay (λ c v hc q=>k c v ?_ q) (λ _ q=>q) λ _ _ q=>q;rcases hc with z | z
  ·rw [z]; exact nt b u e
  ·exact nt c _ z
theorem Inv.track {pins:List (Addr×Obj)} {σ:St} {H:Hp} {s:Al} {a:Addr} {o:HO} (I:Inv X pins σ H s) (hf:cZ X pins H a) (fa:X.s₀.heap.objs.size<=a) (new:ObjOk X.prog X.w (upd H a o) s.heap a o):Inv X pins σ (upd H a o) s:=by
 obtain ⟨f0,f1,f2,f3,f4,f5⟩:=hf;have s0:∀b o,X.s₀.heap.get? b=some o->b≠a:=λ b o e=>AQ (AS (AG e) fa);refine ⟨I.ok,I.os,I.bare,⟨I.base.keep,I.base.slot,λ b o e n hx=>?_,I.base.there,λ b xs e=>?_,λ b o u e=>?_,λ b ps e=>?_⟩,I.loc,I.cell,?_,λ x c e=>?_,λ p hp=>?_,I.hok.add f0 new,I.len⟩
 ·rw [ar (s0 b o e)]; exact I.base.free b o e n hx
 ·have q:=I.base.tups b xs e;rw [ar (ah q f0)]; exact q
 ·have q:=I.base.frzs b o u e;rw [ar (ah q f0)]; exact q
 ·obtain ⟨more,q⟩:=I.base.tbls b ps e;exact ⟨more,by rw [ar (ah q f0)]; exact q⟩
 ·rw [ar (Ne.symm f1)]; exact I.free
 ·rw [ar (f4 x c e)]; exact I.freeC x c e
 ·obtain ⟨e,n,r⟩:=I.pin p hp;exact ⟨e,by rw [ar (f5 p hp)]; exact n,r⟩
end
structure ZipAp (z TI TO i1 i2:Addr):Prop where
 nd:[z,TI,TO,i1,i2].Nodup
end L2
namespace L2
open PySem PySem.Spec PyProof.Rows
def Dn (P:Am) (w:Ao) (K:AV) (mg:Str->Option Ap) (base:Heap) (x:Str) (ps:List Str) (k:Nat) (sp:Sp):Prop :=
 ∃ (f:Addr) (fd:An),FnOk P w K mg base CX0 k f fd ps sp/\Binds K fd ps []/\PySem.W.keepIn K (.ref f)=true/\mg x=some (.ref f)
theorem ai {X:Cx} {k:Nat} {ps:List Str} {sp:Sp} {x:Str} {p pos:Pos} {e:Expr} {es:List Expr} {t:TA} (D:Dn X.prog X.w X.K X.mg X.base x ps k sp) (hr:Room k X.A) (hg:Gl X x) (ha:PA X (e :: es) t)
  (hdb:(x == ("__debug__" : Str))=false:=by decide) (he:starEach (e :: es) X.env=(false,eval e X.env) :: starEach es X.env:=by rfl) (hpl:(backTo pos (starEach es X.env)).any (·.1)=false:=by rfl) :
  PE X (.Call (.Name x p) (e :: es) [] pos) (kC sp [] E0 t):=by
 obtain ⟨f,fd,F,hb,hk,hm⟩:=D;exact mh F hr hg hm hk hb .nil kJ ha hdb he hpl
def iG (sc:Scope) (N:List Str) (scope:Scope) (own cs:List Str) (cap:List Nat):Bool :=
 decide (scope.kind=.function) && scope.names.all (λ y=>decide (y.2≠.cell)) && scope.names.all (λ y=>decide (y.2=.local->scope.names.lookup y.1=some .local)) &&
 scope.names.all (λ y=>decide (y.2=.free->sc.names.lookup y.1=some .cell\/sc.names.lookup y.1=some .free)) && own.all (λ y=>decide (scope.names.lookup y=some .local)) &&
 decide (cs.length=cap.length) && (cs.zip cap).all (λ y=>decide (N[y.2]? = some y.1) && decide ((y.1,NameKind.free)∈scope.names)) && scope.names.all (λ y=>decide (y.2=.free->scope.names.lookup y.1≠some .local))
theorem cA {X:Cx} {sc:Scope} {N:List Str} {scope:Scope} {own cs:List Str} {cap:List Nat} (h1:X.env.scope=sc) (h2:X.N=N) (h:iG sc N scope own cs cap=true):CompOk X scope own cs cap:=by
 subst h1 h2;unfold iG at h;simp only [Bool.and_eq_true,List.all_eq_true,decide_eq_true_eq] at h;obtain ⟨⟨⟨⟨⟨⟨⟨a1,a2⟩,a3⟩,a4⟩,a5⟩,a6⟩,a7⟩,a8⟩:=h;refine ⟨a1,a2,a3,a4,λ i y e=>?_,a5,a6,λ y hy e=>a8 _ hy rfl e⟩;have hi:i < cs.length:=(AD.mp e).1;have hj:i < cap.length:=by rw [<- a6]; exact hi
 refine ⟨cap[i],Ag hj,?_⟩;have hm:(y,cap[i])∈cs.zip cap:=by
  have:(cs.zip cap)[i]? = some (y,cap[i]):=by rw [List.getElem?_zip_eq_some];exact ⟨e,Ag hj⟩
  exact AL this
 exact a7 _ hm
theorem cQ {σ:St} {H:Hp} {A B:Hp->Prop} (h:A H):qz σ H (λ ok H3=>if ok=true then A H3 else B H3):=by show (if (true:Bool)=true then A H else B H);rw [if_pos rfl];exact h
section
variable {X:Cx} {tg:Expr}
def oe (K:AV) (tl:TE):TI:=λ σ H R=>nj K tl σ H R\/qo K tl σ H R
theorem eo {l:Expr} {tl:TE} (hl:PE X l tl):PI X tg l (oe X.K tl):=by
 intro pins s σ H R I h;rcases h with h | h
 ·exact dF hl pins s σ H R I h
 ·exact nQ hl pins s σ H R I h
end
def aL:List String:=["NoneType","bool","int","str","list","tuple","dict"]
theorem iH {K:AV}:∀T∈aL,PySem.W.kitOne K (.type T) (.type "int")=some (T == "int" || T == "bool"):=by intro T h;simp only [aL,List.mem_cons,List.not_mem_nil,or_false] at h;rcases h with rfl | rfl | rfl | rfl | rfl | rfl | rfl <;> kernel_rfl
theorem cq {K:AV}:∀T∈aL,PySem.W.kitOne K (.type T) (.type "bool")=some (T == "bool"):=by intro T h;simp only [aL,List.mem_cons,List.not_mem_nil,or_false] at h;rcases h with rfl | rfl | rfl | rfl | rfl | rfl | rfl <;> kernel_rfl
theorem kN {K:AV}:∀T∈aL,PySem.W.kitOne K (.type T) (.type "list")=some (T == "list"):=by intro T h;simp only [aL,List.mem_cons,List.not_mem_nil,or_false] at h;rcases h with rfl | rfl | rfl | rfl | rfl | rfl | rfl <;> kernel_rfl
theorem jh {K:AV}:∀T∈aL,PySem.W.kitOne K (.type T) (.type "tuple")=some (T == "tuple"):=by intro T h;simp only [aL,List.mem_cons,List.not_mem_nil,or_false] at h;rcases h with rfl | rfl | rfl | rfl | rfl | rfl | rfl <;> kernel_rfl
theorem cR {K:AV}:∀T∈aL,PySem.W.kitAny K (.type T) [.type "list",.type "tuple"]=some (T == "list" || T == "tuple"):=by
 intro T h;have h1:=kN (K:=K) T h;have h2:=jh (K:=K) T h;unfold PySem.W.kitAny;rw [h1];cases e:(T == "list") with
 | true=>rfl
 | false =>
  show PySem.W.kitAny K (.type T) [.type "tuple"]=_;unfold PySem.W.kitAny;rw [h2];cases e2:(T == "tuple") <;> rfl
def Ty (K:AV) (H:Hp) (x:V) (T:String):Prop:=T∈aL/\TyOf K H x (.type T)
theorem Ty.int {K:AV} {H:Hp} {i:Int}:Ty K H (.int i) "int" := ⟨by simp [aL],.int i⟩
theorem Ty.bl {K:AV} {H:Hp} {b:Bool}:Ty K H (.bl b) "bool" := ⟨by simp [aL],.bl b⟩
theorem Ty.non {K:AV} {H:Hp}:Ty K H .non "NoneType" := ⟨by simp [aL],.non⟩
theorem Ty.str {K:AV} {H:Hp} {x:Str}:Ty K H (.str x) "str" := ⟨by simp [aL],.str x⟩
theorem Ty.lst {K:AV} {H:Hp} {a:Addr} {xs:List V} (e:H a=some (.lst xs)):Ty K H (.ref a) "list" := ⟨by simp [aL],.lst e⟩
theorem Ty.tup {K:AV} {H:Hp} {a:Addr} {xs:List V} (e:H a=some (.tup xs)):Ty K H (.ref a) "tuple" := ⟨by simp [aL],.tup e⟩
theorem Ty.dK {K:AV} {H:Hp} {a:Addr} {xs:List (Key×V)} (e:H a=some (.dK xs)):Ty K H (.ref a) "dict" := ⟨by simp [aL],.dK e⟩
def aE:V->Int->Bool
 | .int i,l=>decide (l<=i)
 | _,_=>false
def fz:V->Bool
 | .bl _=>true
 | _=>false
theorem kO {K:AV} {H:Hp} {x:V} {T:String} (t:TyOf K H x (.type T)) (h:T∈aL):(T == "int")=true->∃i,x=.int i:=by
 intro e;have e':T = "int" := by simpa using e
 subst e';generalize hv:Value.type "int" = tv at t;cases t with
 | int i=>exact ⟨i,Z⟩
 | _=>exact absurd hv (by simp)
theorem dH {K:AV} {H:Hp} {x:V} {T:String} (t:TyOf K H x (.type T)):(T == "bool")=fz x:=by
 generalize hv:Value.type T=tv at t;cases t with
 | bl b=>cases hv; rfl
 | non=>cases hv; rfl
 | int i=>cases hv; rfl
 | str i=>cases hv; rfl
 | flt i=>cases hv; rfl
 | lst i=>cases hv; rfl
 | frz i=>cases hv; rfl
 | tup i=>cases hv; rfl
 | dK i=>cases hv; rfl
 | dT i=>cases hv; rfl
 | ext i _=>cases hv; rfl
 | ins=>cases hv
end L2
local macro_rules|`($a ^^^ $b)=>`(@L2.aa _ _ _ _ _ $a $b rfl)
namespace Pc
open PySem L2
structure Pot (a b:Int):Prop where
 a0:0<=a
 b0:0<=b
 b1:b < 2147483629
def But (p:Addr) (H H':Hp):Prop:=∀b o,b≠p->H b=some o->H' b=some o
theorem But.trans {p:Addr} {H H1 H2:Hp} (a:But p H H1) (b:But p H1 H2):But p H H2:=λ c o n e=>b c o n (a c o n e)
theorem But.upd {p:Addr} {H:Hp} {o:HO}:But p H (upd H p o):=λ b u n e=>by rw [ar n]; exact e
theorem But.new {p q:Addr} {H:Hp} {o:HO} (h:H q=none):But p H (L2.upd H q o):=λ b u n e=>by rw [ar (ah e h)]; exact e
structure Kd where
 w:Int
 h:Int
 wo:Int
 wa:Int
 tu:Bool
def kdV (k:Kd):List V:=[.int k.w,.int k.h,.int k.wo,.int k.wa,.bl k.tu]
structure Good (k:Kd):Prop where
 w:1<=k.w
 h:1<=k.h
 wo:0<=k.wo
 wa:0<=k.wa
 w':k.w < 10 ^ 60
 h':k.h < 10 ^ 60
 wo':k.wo < 10 ^ 60
 wa':k.wa < 10 ^ 60
def nz (H:Hp) (v:V) (k:Kd):Prop:=∃a,v=.ref a/\H a=some (.tup (kdV k))
def qA (H:Hp) (v:V) (k:Kd):Prop:=∃a,v=.ref a/\H a=some (.lst (kdV k))
def RowAt (H:Hp) (v:V) (k:Kd):Prop:=nz H v k\/qA H v k
abbrev Tups (H:Hp):List V->List Kd->Prop:=Paired (nz H)
theorem Tups.keep {H H':Hp} (k:∀b xs,H b=some (.tup xs)->H' b=some (.tup xs)):∀ {xs:List V} {ks:List Kd},Tups H xs ks->Tups H' xs ks:=λ r =>
 At r λ v kd ⟨a,e,h⟩=>⟨a,e,k a _ h⟩
structure ToldAt (H:Hp) (t l:Addr) (bl:Int) (xs:List V) (ks:List Kd):Prop where
 t:H t=some (.tup [.int bl,.ref l])
 l:H l=some (.lst xs)
 r:Tups H xs ks
 b0:0<=bl
 b1:bl < 10 ^ 60
 g:∀k∈ks,Good k
 n0:1<=xs.length
 n1:xs.length<=8
def bu (K:AV):Sp:=λ vs H Q _=>∃ (x:V) (T:String) (l:Int),vs=[x,.int l]/\Ty K H x T/\Q (.bl (aE x l)) H
def dI (K:AV):Sp:=λ vs H Q _=>∃ (x:V) (T:String),vs=[x]/\Ty K H x T/\Q (.bl (fz x)) H
def eW (K:AV):Sp:=λ vs H Q _=>∃ (x:V) (T:String), vs=[x]/\Ty K H x T/\∀H', Same H H'->Q (.bl (T == "list" || T == "tuple")) H'
def eX:List V->Bool
 | [w,h,wo,wa,tu]=>aE w 1 && aE h 1 && aE wo 0 && aE wa 0 && fz tu
 | _=>false
def cS (K:AV):Sp:=λ vs H Q _=>∃ (x:V) (T:String),vs=[x]/\Ty K H x T /\ 
 ((T ≠ "list" /\ T ≠ "tuple" /\ ∀H', Same H H'->Q (.bl false) H')\/∃ (a:Addr) (xs:List V), x=.ref a/\(H a=some (.lst xs)\/H a=some (.tup xs))/\(∀y∈xs, ∃U, Ty K H y U)/\∀H', Same H H'->Q (.bl (eX xs)) H')
theorem ez {k:Kd} (g:Good k):eX (kdV k)=true:=by
 show (decide (1<=k.w) && decide (1<=k.h) && decide (0<=k.wo) && decide (0<=k.wa) && true)=true;rw [decide_eq_true g.w,decide_eq_true g.h,decide_eq_true g.wo,decide_eq_true g.wa]
 rfl
theorem Ty.same {K:AV} {H H':Hp} {x:V} {T:String} (s:Same H H') (t:Ty K H x T):Ty K H' x T:=by
 refine ⟨t.1,?_⟩;have t2:=t.2;generalize hv:Value.type T=tv at t2 ⊢;cases t2 with
 | non=>exact .non
 | bl b=>exact .bl b
 | int b=>exact .int b
 | str b=>exact .str b
 | flt b=>exact .flt b
 | lst e=>exact .lst (s _ _ e)
 | frz e=>exact .frz (s _ _ e)
 | tup e=>exact .tup (s _ _ e)
 | dK e=>exact .dK (s _ _ e)
 | dT e=>exact .dT (s _ _ e)
 | ext e c=>exact .ext (s _ _ e) c
 | ins=>cases hv
end Pc
namespace L2
open PySem PySem.Spec PyProof.Rows
def kP (K:AV):List V->Hp->VK->Prop:=λ xs H Q=>∃p ys,xs=[V.ref p]/\((SqL K H p ys/\∀l,H l=none->Q (.ref l) (upd H l (.tup ys)))\/(SqT K H p ys/\Q (.ref p) H))
theorem fY {K:AV} {j:Nat} {a:Addr} {xs:List V} {g:TG} {tb:TS} {D:Ends} {σ:St} {H:Hp} (hσ:σ[j]? = some (some (.ref a))) (hs:H a=some (.lst xs)\/H a=some (.tup xs)) (Pv:Nat->St->Hp->Prop) (h0:Pv 0 σ H)
  (hk:∀i σ H',i<=xs.length->Pv i σ H'->∀o,H a=some o->H' a=some o)
  (ht:∀i x σ H,xs[i]? = some x->Pv i σ H->g x σ H λ σ2 H2=>tb { D with nx:=Pv (i + 1),ct:=Pv (i + 1),bk:=D.nx } σ2 H2) (hd:∀σ H,Pv xs.length σ H->D.nx σ H):qq (oe K (tVar j)) g tb D σ H:=by
 rcases hs with z | z
 ·exact .inl ⟨_,hσ,a,Z,⟨xs,As z⟩,dY (xs:=xs) Pv h0 (λ i σ H' hi p=>As (hk i σ H' hi p _ z)) ht hd⟩
 ·exact .inr ⟨_,hσ,a,Z,⟨xs,Ar z⟩,lY (xs:=xs) Pv h0 (λ i σ H' hi p=>Ar (hk i σ H' hi p _ z)) ht hd⟩
def Nx (n:Nat) (Pv:Nat->List V->Hp->Prop) (i:Nat) (ys:List V) (H:Hp):Prop:=∃m',m' < n - i/\m'=n - (i + 1)/\i + 1<=n/\Pv (i + 1) ys H
theorem Nx.of {n:Nat} {Pv:Nat->List V->Hp->Prop} {i:Nat} {ys:List V} {H:Hp} (h:i < n) (p:Pv (i + 1) ys H):Nx n Pv i ys H:=⟨n - (i + 1),by omega,Z,h,p⟩
theorem fZ {K:AV} {a:Addr} {xs:List V} {σ:St} {cap:List Nat} {k:Nat} {g:TG} {tt:TT} {te:TE} {Q:List V->Hp->Prop} {H:Hp} (hs:H a=some (.lst xs)\/H a=some (.tup xs)) (Pv:Nat->List V->Hp->Prop)
  (hk:∀i ys H',i<=xs.length->Pv i ys H'->∀o,H a=some o->H' a=some o) (h0:Pv 0 [] H)
  (ht:∀i x ys H',xs[i]? = some x->Pv i ys H'->ys.length < sizeLine/\g x (bI σ cap k) H' λ σ2 H2=>leS (bI σ cap k) σ2/\tt σ2 H2 λ ok H3=>if ok=true then te σ2 H3 (λ v H4=>Nx xs.length Pv i (ys ++ [v]) H4) else Nx xs.length Pv i ys H3)
  (hd:∀ys H',Pv xs.length ys H'->ys.length<=sizeLine/\Q ys H') :
  (H a=some (.lst xs)->∃W,(∃m,W 0 m [] H)/\iF σ cap k (Itl K a) g tt te Q W)/\(H a=some (.tup xs)->∃W,(∃m,W 0 m [] H)/\iF σ cap k (Itt K a) g tt te Q W):=by
 refine ⟨λ z=>⟨λ i m ys H'=>m=xs.length - i/\i<=xs.length/\Pv i ys H',⟨_,Z,Ae _,h0⟩,?_⟩,λ z=>⟨λ i m ys H'=>m=xs.length - i/\i<=xs.length/\Pv i ys H',⟨_,Z,Ae _,h0⟩,?_⟩⟩
 ·rintro i m ys H' ⟨rfl,hi,p⟩;have z':=hk i ys H' hi p _ z
  by_cases hin:i < xs.length
  ·obtain ⟨e,hg⟩:=ht i xs[i] ys H' (by simp [hin]) p;refine .inr ⟨⟨xs,xs[i],As z',by simp [hin]⟩,e,λ x H2 yl=>?_⟩;obtain ⟨e1,e2⟩:=yl;have e3:=e2 xs (As z');have e4:x=xs[i]:=by simpa [hin] using e3.symm
   subst e1 e4;exact hg
  ·have e:i=xs.length:=by omega
   subst e;obtain ⟨a1,a2⟩:=hd ys H' p;exact .inl ⟨⟨xs,As z',AJ _⟩,a1,a2⟩
 ·rintro i m ys H' ⟨rfl,hi,p⟩;have z':=hk i ys H' hi p _ z
  by_cases hin:i < xs.length
  ·obtain ⟨e,hg⟩:=ht i xs[i] ys H' (by simp [hin]) p;refine .inr ⟨⟨xs,xs[i],Ar z',by simp [hin]⟩,e,λ x H2 yl=>?_⟩;obtain ⟨e1,e2⟩:=yl;have e3:=e2 xs (Ar z');have e4:x=xs[i]:=by simpa [hin] using e3.symm
   subst e1 e4;exact hg
  ·have e:i=xs.length:=by omega
   subst e;obtain ⟨a1,a2⟩:=hd ys H' p;exact .inl ⟨⟨xs,Ar z',AJ _⟩,a1,a2⟩
theorem dk {K:AV} {j:Nat} {a:Addr} {xs:List V} {σ:St} {cap:List Nat} {k:Nat} {g:TG} {tt:TT} {te:TE} {Q:VK} {H:Hp} (hσ:σ[j]? = some (some (.ref a))) (hs:H a=some (.lst xs)\/H a=some (.tup xs)) (Pv:Nat->List V->Hp->Prop)
  (hk:∀i ys H',i<=xs.length->Pv i ys H'->∀o,H a=some o->H' a=some o) (h0:Pv 0 [] H)
  (ht:∀i x ys H',xs[i]? = some x->Pv i ys H'->ys.length < sizeLine/\g x (bI σ cap k) H' λ σ2 H2=>leS (bI σ cap k) σ2/\tt σ2 H2 λ ok H3=>if ok=true then te σ2 H3 (λ v H4=>Nx xs.length Pv i (ys ++ [v]) H4) else Nx xs.length Pv i ys H3)
  (hd:∀ys H',Pv xs.length ys H'->ys.length<=sizeLine/\∀p,H' p=none->Q (.ref p) (upd H' p (.lst ys))):kL (oe K (tVar j)) cap k g tt te σ H Q:=by
 obtain ⟨c1,c2⟩:=fZ (K:=K) (σ:=σ) (cap:=cap) (k:=k) (g:=g) (tt:=tt) (te:=te) hs Pv hk h0 ht hd;rcases hs with z | z
 ·exact .inl ⟨_,hσ,a,Z,⟨xs,As z⟩,c1 z⟩
 ·exact .inr ⟨_,hσ,a,Z,⟨xs,Ar z⟩,c2 z⟩
end L2
namespace Pc
open PySem L2
def kQ (b:Int) (r:Addr):List (Str×V):=bK "kind_rows" (.ref r) (bK "blade_width" (.int b) [])
theorem dn (b:Int) (r:Addr):(kQ b r).lookup ("kind_rows" : Str)=some (.ref r):=by unfold kQ;rw [bv,if_pos rfl]
theorem dJ (b:Int) (r:Addr) {m:Str} (h1:¬ m = "kind_rows") (h2:¬ m = "blade_width"):(kQ b r).lookup m=none:=by
 unfold kQ;rw [bv,if_neg h1,bv,if_neg h2]
 all_goals rfl
def ShopAt (C:Addr) (H:Hp) (x:Addr) (b:Int) (ks:List Kd):Prop:=∃dx r rs,H x=some (.ins C dx (kQ b r))/\H r=some (.tup rs)/\Tups H rs ks
theorem ShopAt.keep {C:Addr} {H H':Hp} {x:Addr} {b:Int} {ks:List Kd} (s:ShopAt C H x b ks) (k1:∀b xs,H b=some (.tup xs)->H' b=some (.tup xs)) (k2:∀b C dx fs,H b=some (.ins C dx fs)->H' b=some (.ins C dx fs)):ShopAt C H' x b ks:=by obtain ⟨dx,r,rs,h1,h2,h3⟩:=s;exact ⟨dx,r,rs,k2 _ _ _ _ h1,k1 _ _ h2,Tups.keep k1 h3⟩
def gM (C:Addr):Sp:=λ vs H Q _=>∃ (x dx ks:Addr) (b:Int) (rs:List V) (kds:List Kd),vs=[.ref x,.int b,.ref ks]/\H x=some (.ins C dx [])/\0<=b/\(H ks=some (.lst rs)\/H ks=some (.tup rs))/\Paired (RowAt H) rs kds/\(∀k∈kds,Good k)/\1<=rs.length/\rs.length<=8 /\
 ∀H':Hp,ShopAt C H' x b kds->(∀c o,c≠x->H c=some o->H' c=some o)->Q .non H'
theorem iI {K:AV} {H:Hp} {k:Kd}:∀y∈kdV k,∃U,Ty K H y U:=by
 intro y hy;simp only [kdV,List.mem_cons,List.not_mem_nil,or_false] at hy;rcases hy with rfl | rfl | rfl | rfl | rfl
 ·exact ⟨_,.int⟩
 ·exact ⟨_,.int⟩
 ·exact ⟨_,.int⟩
 ·exact ⟨_,.int⟩
 ·exact ⟨_,.bl⟩
theorem Paired.getR {α β:Type} {F:α->β->Prop}:∀ {l₁:List α} {l₂:List β} {i:Nat} {x:α},Paired F l₁ l₂->l₁[i]? = some x->∃y,l₂[i]? = some y/\F x y
 | _,_,_,_,.nil,e=>by simp at e
 | _,_,0,_,.cons h _,e=>by simp at e; subst e; exact ⟨_,Z,h⟩
 | _,_,i + 1,x,.cons _ t,e=>by obtain ⟨y,h1,h2⟩:=Paired.getR (i:=i) (x:=x) t (by simpa using e);exact ⟨y,by simpa using h1,h2⟩
abbrev Au:=@Paired.getR
theorem RowAt.same {H H':Hp} {v:V} {k:Kd} (s:Same H H') (r:RowAt H v k):RowAt H' v k:=by
 rcases r with ⟨a,e,h⟩ | ⟨a,e,h⟩
 ·exact .inl ⟨a,e,s _ _ h⟩
 ·exact .inr ⟨a,e,s _ _ h⟩
theorem ji {K:AV} {H:Hp} {v:V} {k:Kd} {Q:VK} {E:XK} (r:RowAt H v k) (g:Good k) (q:∀H',Same H H'->Q (.bl true) H'):cS K [v] H Q E:=by
 rcases r with ⟨a,rfl,h⟩ | ⟨a,rfl,h⟩
 ·exact ⟨_,_,Z,.tup h,.inr ⟨a,_,Z,.inr h,iI,λ H' s=>by rw [ez g]; exact q H' s⟩⟩
 ·exact ⟨_,_,Z,.lst h,.inr ⟨a,_,Z,.inl h,iI,λ H' s=>by rw [ez g]; exact q H' s⟩⟩
structure ShopTxt (K:AV) (C:Addr):Prop where
 cl:Cls K C
 nB:NoAttr K C "blade_width"
 nK:NoAttr K C "kind_rows"
end Pc
namespace L2
open PySem PySem.Spec PyProof.Rows
def Mn (P:Am) (w:Ao) (K:AV) (mg:Str->Option Ap) (base:Heap) (C:Addr) (m:Str) (ps:List Str) (k:Nat) (sp:Sp):Prop :=
 ∃ (f:Addr) (fd:An),FnOk P w K mg base CX0 k f fd ps sp/\Binds K fd ps []/\Meth K C m f
def Kn (P:Am) (w:Ao) (K:AV) (mg:Str->Option Ap) (base:Heap) (x:Str) (C:Addr) (ps:List Str) (k:Nat) (sp:Sp):Prop :=
 ∃ (f:Addr) (fd:An),Mk K C f/\FnOk P w K mg base CX0 k f fd ps sp/\Binds K fd ps []/\mg x=some (.ref C)
theorem qB {X:Cx} {k:Nat} {C:Addr} {ps:List Str} {sp:Sp} {x:Str} {p pos:Pos} {e:Expr} {es:List Expr} {t:TA} (D:Kn X.prog X.w X.K X.mg X.base x C ps k sp) (hr:Room (k + 1) X.A) (hg:Gl X x) (ha:PA X (e :: es) t)
  (hdb:(x == ("__debug__" : Str))=false:=by decide) (he:starEach (e :: es) X.env=(false,eval e X.env) :: starEach es X.env:=by rfl) (hpl:(backTo pos (starEach es X.env)).any (·.1)=false:=by rfl) :
  PE X (.Call (.Name x p) (e :: es) [] pos) (ny C sp [] E0 t):=by
 obtain ⟨f,fd,M,F,hb,hm⟩:=D;exact mj M F hr hg hm hb .nil kJ ha hdb he hpl
theorem dq (xs:List V) (k:Nat):bR xs none (some (k:Int))=xs.take k:=by
 unfold bR;rw [HT.sIx_none,HT.sIx_nat];simp only [List.drop_zero,Nat.sub_zero];rcases Nat.le_total k xs.length with h | h
 ·rw [Nat.min_eq_left h]
 ·rw [Nat.min_eq_right h,List.take_of_length_le (Nat.le_refl _),List.take_of_length_le h]
end L2
namespace Pc
open PySem L2
theorem Paired.takeP {α β:Type} {F:α->β->Prop}:∀ {l₁:List α} {l₂:List β} (n:Nat),Paired F l₁ l₂->Paired F (l₁.take n) (l₂.take n)
 | _,_,0,_=>.nil
 | _,_,_ + 1,.nil=>.nil
 | _,_,n + 1,.cons r t=>.cons r (Paired.takeP n t)
theorem Same.but {p:Addr} {H H':Hp} (s:Same H H'):But p H H':=λ b o _ e=>s b o e
theorem Same.new {q:Addr} {H:Hp} {o:HO} (h:H q=none):Same H (upd H q o):=λ b u e=>by rw [ar (ah e h)]; exact e
abbrev Aq:=@Same.new
end Pc
namespace PySem
open Sem (wp)
open AutoSeq1 (wpAny_loadPart')
section
variable {prog:Am} {w:Ao} {A:Around} {E:Ap->Al->Prop} {s:Al}
theorem dE {it t:Addr} {i:Nat} {items} {x:Ap} {Q:Ap->Al->Prop} (hit:s.heap.IsTupleIter it t i)
  (ht:s.heap.IsTuple t items) (hx:items[i]? = some x)
  (hQ:∀h',h'.IsTupleIter it t (i + 1)->Heap.SameBut it s.heap h'->Q x { s with heap:=h' }) :
  wpAny (model prog w) A (Builtin.SmallTypes.nextOf (.ref it)) Q E s:=by
 obtain ⟨o,ho,hc,hd⟩:=id hit;obtain ⟨ol,hol,_,nl,hdl⟩:=ht;unfold Builtin.SmallTypes.nextOf;refine AA (wpAny_callSpecial?_slot (name:=Str.ofString "__next__") hit.typeIs F.slot_tuple_iterator_next
  (Ai F.slot_tuple_iterator_next hit.typeIs F.entry_tuple_iterator_next ?_ (F.args_tuple_iterator_next_1 _)))
 show wpAny _ _ (field (.ref it) 0 >>= _) _ _ s;refine AA (wpAny_field ho hd (x:=.ref t) rfl ?_);show wpAny _ _ (if (Value.ref t == Value.none)=true then _ else _) _ _ s;rw [if_neg (show ¬ ((Value.ref t == Value.none)=true) from Bool.false_ne_true)];show wpAny _ _ (field (.ref it) 1 >>= _) _ _ s;refine AA (wpAny_field ho hd (x:=.int i 0) rfl ?_);show wpAny _ _ (seqItems? (.ref t) >>= _) _ _ s;refine AA (wpAny_seqItems hol hdl ?_);simp only [Int.toNat_natCast,hx];refine AA (wpAny_setField ho hd (by simp) (AB ⟨x,rfl,AB (hQ _ ?_ (Heap.SameBut.update ..))⟩));exact ⟨_,Heap.get?_update_self _ ho (Obj.isFreed_of_fields (Obj.data_mapFields hd _)),(Obj.cls_mapFields ..).trans hc,by
  rw [Obj.data_mapFields hd]; simp [rawInt]⟩
theorem cr {it t:Addr} {i:Nat} {items} {Q:Ap->Al->Prop} (hh:A.handled=none)
  (hit:s.heap.IsTupleIter it t i) (ht:s.heap.IsTuple t items) (hx:items[i]? = none)
  (hE:∀h' e, Heap.ExtBut it s.heap h'->(∃o, h'.get? e=some o/\o.cls=.type "StopIteration")->E (.ref e) { s with heap:=h' }) :
  wpAny (model prog w) A (Builtin.SmallTypes.nextOf (.ref it)) Q E s:=by
 obtain ⟨o,ho,hc,hd⟩:=id hit;obtain ⟨ol,hol,_,nl,hdl⟩:=ht;unfold Builtin.SmallTypes.nextOf;refine AA (wpAny_callSpecial?_slot (name:=Str.ofString "__next__") hit.typeIs F.slot_tuple_iterator_next
  (Ai F.slot_tuple_iterator_next hit.typeIs F.entry_tuple_iterator_next ?_ (F.args_tuple_iterator_next_1 _)))
 show wpAny _ _ (field (.ref it) 0 >>= _) _ _ s;refine AA (wpAny_field ho hd (x:=.ref t) rfl ?_);show wpAny _ _ (if (Value.ref t == Value.none)=true then _ else _) _ _ s;rw [if_neg (show ¬ ((Value.ref t == Value.none)=true) from Bool.false_ne_true)];show wpAny _ _ (field (.ref it) 1 >>= _) _ _ s;refine AA (wpAny_field ho hd (x:=.int i 0) rfl ?_);show wpAny _ _ (seqItems? (.ref t) >>= _) _ _ s;refine AA (wpAny_seqItems hol hdl ?_);simp only [Int.toNat_natCast,hx];refine AA (wpAny_rule (AA (wpAny_setField ho hd (by simp) ?_)));show wpAny _ _ (newExc (.type "StopIteration") [] >>= _) _ _ _;refine AA ?_;simp only [newExc,newTuple];refine AA (Aj ?_ (by size_fits));refine AA (m:=firstArgMember _ _) (wpAny_of_eq (a:=Value.none) (by first | rfl | (simp only [firstArgMember]; rfl)) ?_);refine Aj ?_ (by size_fits);simp only [raiseNew];refine AA (wpAny_handled ?_)
 first | rw [show A.in1.handled=none from hh] | rw [hh]
 refine AA (AB (wpAny_throw ?_));exact hE _ _ (((Heap.SameBut.update ..).extBut.push _).push _) ⟨_,AF _ rfl,rfl⟩
end
theorem kR {prog:Am} {w:Ao} {A:Around} (hh:A.handled=none) (it l:Addr) (hne:l≠it) (items:Array Ap) :
  Draws prog w A it [it,l] items.size (λ i v=>items[i]? = some v) (λ i h=>h.IsTupleIter it l i/\h.IsTuple l items) where
 live:=λ _ _ st=>let ⟨o,ho,_⟩:=st.1; ⟨o,ho⟩
 frame:=λ _ _ _ st hk=>⟨st.1.at λ o e=>hk it (by simp) o e,let ⟨o,ho,r⟩:=st.2; ⟨o,hk l (by simp) o ho,r⟩⟩
 item:=λ i s Q E hi st hQ=>by refine dE st.1 st.2 (x:=items[i]) (by simp [hi]) λ h' hit' hs'=>?_;exact hQ _ h' s.toks (by simp [hi]) ⟨hit',st.2.extBut hs'.extBut hne⟩ hs'
 done:=λ s Q E st hE=>cr hh st.1 st.2 (by simp) hE
theorem eA (l:Addr) (items:Array Ap) (n:Nat) (dct:Option Addr) (sl:Array (Option Ap)) :
  Meets (Builtin.«enumerate.__new__» ⟨[.type "enumerate",.ref l],[]⟩) (λ _ R s=>s.heap.get? l=some { cls:=.type "tuple",dict:=dct,data:=.seq items n,slots:=sl } /\
   R (.ok (.ret (.ref (s.heap.push { cls:=.type "tuple_iterator",data:=.fields #[.ref l,.int 0 0] }).objs.size)))
    { s with heap:=(s.heap.push { cls:=.type "tuple_iterator",data:=.fields #[.ref l,.int 0 0] }).push { cls:=.type "enumerate",data:=.fields #[.none,.bool false,.ref s.heap.objs.size,rawInt 0,.none,.none] } }) :=
 .of_wp λ prog w A R s h=>by
  obtain ⟨hp,g,d,tk,os⟩:=s; obtain ⟨hl,h⟩:=h;have hsub:=sub_enumerate;have hL:Heap.IsTuple (Shared.heap ⟨hp,g,d,tk,os⟩) l items:=⟨_,hl,Z,n,Z⟩
  wp_walk using wpAny_loadPart' hl
  refine wpAny_stack_any λ st=>AB ?_
  split
  ·rename_i c _ _ _ _ _
   cases (c == Value.type "enumerate")
   ·wp_walk using wpAny_loadPart' hl,wpAny_pyIter_tuple hL
    exact ⟨_,Z,h⟩
   ·wp_walk using wpAny_loadPart' hl,wpAny_pyIter_tuple hL
    exact ⟨_,Z,h⟩
  ·wp_walk using wpAny_loadPart' hl,wpAny_pyIter_tuple hL
   exact ⟨_,Z,h⟩
section
variable {prog:Am} {w:Ao} {A:Around} {E:Ap->Al->Prop} {s:Al}
theorem cL {l:Addr} {items:Array Ap} {Q:Ap->Al->Prop} (hL:s.heap.IsTuple l items)
  (h:∀h',IsEnum h' (s.heap.objs.size + 1) s.heap.objs.size 0 .none->h'.IsTupleIter s.heap.objs.size l 0->h'.objs.size=s.heap.objs.size + 2 ->
   (∀b o,s.heap.get? b=some o->h'.get? b=some o)->Q (.ref (s.heap.objs.size + 1)) { s with heap:=h' }) :
  wpAny (model prog w) A (call (.type "enumerate") [.ref l]) Q E s:=by
 obtain ⟨⟨c,dct,dt,sl⟩,hl,hc,n,hd⟩:=hL
 replace hc:c=.type "tuple" := hc
 replace hd:dt=.seq items n:=hd
 subst hc hd;refine callType_new F.called_enumerate (by decide) (F.typeCall_enumerate_1 _) (F.newCall_enumerate_1 _) (λ obj=>F.args_object_init_2 obj _) F.entry_enumerate_new
  (eA l items n dct sl) ⟨hl,?_⟩
 have hz:(s.heap.push { cls:=.type "tuple_iterator",data:=.fields #[.ref l,.int 0 0] }).objs.size=s.heap.objs.size + 1:=Heap.size_push ..;show _/\_;rw [hz];have he:IsEnum ((s.heap.push { cls:=.type "tuple_iterator",data:=.fields #[.ref l,.int 0 0] }).push
   { cls:=.type "enumerate",data:=.fields #[.none,.bool false,.ref s.heap.objs.size,rawInt 0,.none,.none] }) (s.heap.objs.size + 1) s.heap.objs.size 0 .none:=by
  have:=AF (s.heap.push { cls:=.type "tuple_iterator",data:=.fields #[.ref l,.int 0 0] })
   (o:={ cls:=.type "enumerate",data:=.fields #[.none,.bool false,.ref s.heap.objs.size,rawInt 0,.none,.none] }) rfl
  rw [hz] at this; exact this
 refine ⟨⟨_,he,Z⟩,h _ he ⟨_,AE _ (AF _ rfl),Z,Z⟩ (by rw [Heap.size_push,hz]) λ b o x=>AE _ (AE _ x)⟩
end
end PySem
namespace L2
open PySem PySem.Spec PyProof.Rows
def Ite (f:List V->HO) (l:Addr):It :=
  ⟨λ i H=>∃xs x,H l=some (f xs)/\xs[i]? = some x,
   λ i H v H'=>∃p xs x,H p=none/\v=.ref p/\H'=upd H p (.tup [.int i,x])/\H l=some (f xs)/\xs[i]? = some x,
   λ i H=>∃xs,H l=some (f xs)/\xs.length<=i⟩
section
variable {X:Cx} {pins:List (Addr×Obj)} {σ:St} {H:Hp} {s:Al}
theorem eY {f:List V->HO} {tn:Nat->Heap->Prop} {es:List Expr} {kk:Nat} {tp:Pos} {e it l:Addr} {i:Nat} {xs:List V} {x:V} {u:Ap} {tk:Nat} {h':Heap} {E:Ap->Al->Prop} (hne:e≠it) (I:Inv X pins σ H s) (hf:∀b∈[e,it],cZ X pins H b) (hl:H l=some (f xs)) (hx:xs[i]? = some x)
  (ho:∀b∈[e, it], b < s.heap.objs.size) (r:RelV x u) (b1:IsEnumOut h' e it ((i:Int) + 1) u s.heap.objs.size) (b3:h'.get? s.heap.objs.size=some { cls:=.type "tuple", data:=.seq #[.int i tk, u] })
  (bk:∀b o,b≠e->b≠it->s.heap.get? b=some o->h'.get? b=some o) (hn:∀h'',IsEnum h'' e it ((i + 1:Nat):Int) u->Heap.SameBut e h' h''->tn (i + 1) h'') :
  wpAny (model X.prog X.w) X.A (letOwnedTupleGo (.Tuple es kk tp) (.ref e) (.ref s.heap.objs.size)) (λ _ s2=>∃x H',Inv X pins σ H' s2/\RelV x (.ref s.heap.objs.size)/\(Ite f l).yld i H x H'/\tn (i + 1) s2.heap/\∀b∈[e,it],H' b=none) E { s with heap:=h',toks:=tk + 1 }:=by
 refine wpAny_letOwnedTupleGo_enum b1 λ h'' c1 cs=>?_;have es':e < s.heap.objs.size:=ho e (by simp);have k2:∀b o,b∉[e,it]->s.heap.get? b=some o->h''.get? b=some o:=λ b o hb q=>by simp only [List.mem_cons,List.not_mem_nil,or_false,not_or] at hb;exact cs.extBut b o hb.1 (bk b o hb.1 hb.2 q)
 have I1:Inv X pins σ H { s with heap:=h'',toks:=tk + 1 }:=I.turnedN (t':=tk + 1) hf k2;have hp:h''.get? s.heap.objs.size=some { cls:=.type "tuple", data:=.seq #[.int i tk, u] }:=cs.extBut _ _ (Nat.ne_of_gt es') b3;have hn0:H s.heap.objs.size=none:=I.hok.fresh (AJ _);have fpk:=I.fpOk (H':=H) (AJ _) hn0;have I2:Inv X pins σ (upd H s.heap.objs.size (.tup [.int i,x])) { s with heap:=h'',toks:=tk + 1 }:=I1.track fpk I.sz ⟨by show 2<=sizeLine; decide,[.int i tk,u],.cons ⟨tk,Z⟩ (.cons r .nil),_,hp,Z,_,Z⟩;refine ⟨.ref s.heap.objs.size,_,I2,Z,⟨_,xs,x,hn0,Z,Z,hl,hx⟩,hn h'' c1 cs,λ b hb=>?_⟩;rw [ar (Nat.ne_of_lt (ho b hb))];exact (hf b hb).1
end
theorem gN {P:Am} {w:Ao} {K:AV} {es:List Expr} {kk:Nat} {tp:Pos} (l e it:Addr) (hne:e≠it) :
  Turn P w K (.Tuple es kk tp) (Ite .lst l) [e,it] e (λ i h=>(∃old,IsEnum h e it i old)/\h.IsListIter it l i) where
 mem:=by simp
 obj:=λ i h st b hb=>by
  obtain ⟨⟨old,a1⟩,⟨o2,a2,_,d2⟩⟩:=st;simp only [List.mem_cons,List.not_mem_nil,or_false] at hb;rcases hb with rfl | rfl
  ·exact ⟨_,a1,λ v q=>by cases q⟩
  ·exact ⟨_,a2,λ v q=>by rw [d2] at q; cases q⟩
 keep:=λ i h h' st k=>by obtain ⟨⟨old,a1⟩,a2⟩:=st;exact ⟨⟨old,k e (by simp) _ a1⟩,a2.at λ o q=>k it (by simp) o q⟩
 item:=by
  intro X hP hw hK hc i pins s σ H E I hf st hg;subst hP hw hK;obtain ⟨⟨old,a1⟩,a2⟩:=st;obtain ⟨xs,x,e1,ex⟩:=hg;obtain ⟨its,rv,p1,_⟩:=I.list (As e1);obtain ⟨u,hu,r⟩:=rv.get ex;have ho:∀b∈[e,it],b < s.heap.objs.size:=λ b hb=>by
   obtain ⟨o2,a2',_⟩:=a2;simp only [List.mem_cons,List.not_mem_nil,or_false] at hb;rcases hb with rfl | rfl
   ·exact AG a1
   ·exact AG a2'
  refine wpAny_pyNext_enum_item a1 a2 p1.isList (x:=u) (by simpa using hu) hne λ h' b1 b2 b3 b4 bk=>⟨_,Z,?_⟩
  exact eY (tn:=λ i h=>(∃old,IsEnum h e it i old)/\h.IsListIter it l i) hne I hf e1 ex ho r b1 b3 bk λ h'' c1 cs=>⟨⟨u,c1⟩,b2.extBut cs.extBut (Ne.symm hne)⟩
 done:=by
  intro X hP hw hK hc i pins s σ H E I hf st hg;subst hP hw hK;obtain ⟨⟨old,a1⟩,a2⟩:=st;obtain ⟨xs,e1,ex⟩:=hg;obtain ⟨its,rv,p1,_⟩:=I.list (As e1);have lv:=rv.length;refine wpAny_pyNext_enum_end (I.ok.hd hc) a1 a2 p1.isList (by simp; omega) λ h' bk=>⟨Z,?_⟩
  exact I.turnedN (t':=s.toks) hf λ b o hb q=>by simp only [List.mem_cons,List.not_mem_nil,or_false,not_or] at hb;exact bk b o hb.2 q
 self:=λ _ _ _ _ _ st h=>by obtain ⟨⟨old,a1⟩,_⟩:=st; exact wpAny_pyIter_enum a1 h
theorem gO {P:Am} {w:Ao} {K:AV} {es:List Expr} {kk:Nat} {tp:Pos} (l e it:Addr) (hne:e≠it) :
  Turn P w K (.Tuple es kk tp) (Ite .tup l) [e,it] e (λ i h=>(∃old,IsEnum h e it i old)/\h.IsTupleIter it l i) where
 mem:=by simp
 obj:=λ i h st b hb=>by
  obtain ⟨⟨old,a1⟩,⟨o2,a2,_,d2⟩⟩:=st;simp only [List.mem_cons,List.not_mem_nil,or_false] at hb;rcases hb with rfl | rfl
  ·exact ⟨_,a1,λ v q=>by cases q⟩
  ·exact ⟨_,a2,λ v q=>by rw [d2] at q; cases q⟩
 keep:=λ i h h' st k=>by obtain ⟨⟨old,a1⟩,a2⟩:=st;exact ⟨⟨old,k e (by simp) _ a1⟩,a2.at λ o q=>k it (by simp) o q⟩
 item:=by
  intro X hP hw hK hc i pins s σ H E I hf st hg;subst hP hw hK;obtain ⟨⟨old,a1⟩,a2⟩:=st;obtain ⟨xs,x,e1,ex⟩:=hg;obtain ⟨its,rv,p1,_⟩:=I.tuple (Ar e1);obtain ⟨u,hu,r⟩:=rv.get ex;have lt:i < its.toArray.size:=by simp; exact (AD.mp hu).1
  have ho:∀b∈[e,it],b < s.heap.objs.size:=λ b hb=>by
   obtain ⟨o2,a2',_⟩:=a2;simp only [List.mem_cons,List.not_mem_nil,or_false] at hb;rcases hb with rfl | rfl
   ·exact AG a1
   ·exact AG a2'
  have nl:∀b∈[e,it],l≠b:=λ b hb q=>by rw [q,(hf b hb).1] at e1; cases e1
  have p1':s.heap.IsTuple l its.toArray:=p1;have DD:Draws X.prog X.w X.A.in1 it [it,l] its.toArray.size (λ i v=>its.toArray[i]? = some v) (λ i h=>h.IsTupleIter it l i/\h.IsTuple l its.toArray):=kR (show X.A.in1.handled=none from I.ok.hd hc) it l (nl it (by simp)) its.toArray;refine wpAny_pyNext_enum_itemD DD a1 ⟨a2,p1'⟩ lt hne (by simp only [List.mem_cons,List.not_mem_nil,or_false,not_or]; exact ⟨hne,Ne.symm (nl e (by simp))⟩) λ x' h' tk px b1 b2 b3 b4 bk=>⟨_,Z,?_⟩
  have hu':its.toArray[i]? = some u:=by simpa using hu
  have eu:u=x':=AO (hu'.symm.trans px);subst eu;exact eY (tn:=λ i h=>(∃old,IsEnum h e it i old)/\h.IsTupleIter it l i) hne I hf e1 ex ho r b1 b3 bk λ h'' c1 cs=>⟨⟨u,c1⟩,b2.1.extBut cs.extBut (Ne.symm hne)⟩
 done:=by
  intro X hP hw hK hc i pins s σ H E I hf st hg;subst hP hw hK;obtain ⟨⟨old,a1⟩,a2⟩:=st;obtain ⟨xs,e1,ex⟩:=hg;obtain ⟨its,rv,p1,_⟩:=I.tuple (Ar e1);have lv:=rv.length;have p1':s.heap.IsTuple l its.toArray:=p1;have hT:s.TypeIs (.ref e) "enumerate" := ⟨_,a1,Z⟩
  unfold pyNext;refine AA (wpAny_attempt (wpAny_callSpecial?_slot (name:=Str.ofString "__next__") hT F.slot_enumerate_next
   (Ai F.slot_enumerate_next hT F.entry_enumerate_next ?_ (F.args_enumerate_next_1 _))))
  show wpAny _ _ (field (.ref e) 2 >>= _) _ _ _;refine AA (wpAny_field a1 rfl (x:=.ref it) rfl ?_);refine AA (cr (I.ok.hd hc) a2 p1' (by simp; omega) λ h' x he' hx'=>?_);obtain ⟨o,ho,hc⟩:=hx';refine AA (wpAny_isInstance (T := "StopIteration") (b:=true) ⟨o,ho,hc⟩ isSubtype_stop ?_);refine AB ⟨rfl,?_⟩;exact I.turnedN (t':=s.toks) hf λ b o hb q=>by simp only [List.mem_cons,List.not_mem_nil,or_false,not_or] at hb;exact he' b o hb.2 q
 self:=λ _ _ _ _ _ st h=>by obtain ⟨⟨old,a1⟩,_⟩:=st; exact wpAny_pyIter_enum a1 h
def qD (ta:TA):TI:=λ σ H R=>ta σ H λ vs H1=>∃l xs,vs=[.ref l]/\((H1 l=some (.lst xs)/\R (Ite .lst l) H1)\/(H1 l=some (.tup xs)/\R (Ite .tup l) H1))
theorem iJ {X:Cx} {a:Expr} {ta:TA} {p pos tp:Pos} {es:List Expr} {kk:Nat} (hg:Gl X "enumerate") (hm:X.mg "enumerate" = none) (ha:PA X [a] ta)
  (hs:starEach [a] X.env=[(false,eval a X.env)]:=by rfl) :
  PI X (.Tuple es kk tp) (.Call (.Name "enumerate" p) [a] [] pos) (qD ta):=by
 intro pins s σ H R I h;refine Call_ (dX I hg hm PyProof.Rows.boot_enumerate (PyProof.Rows.callWith_type1 (thn (ha pos pins s σ H _ I h) λ us s1 ⟨vs,H1,I1,r1,q1⟩=>?_) (by rw [hs]; rfl) (by rfl)));obtain ⟨l,xs,rfl,q⟩:=q1;cases r1 with
 | cons r rr =>
  cases rr;cases r;rcases q with ⟨e1,q⟩ | ⟨e1,q⟩
  ·obtain ⟨its1,rv1,p1,_⟩:=I1.list (As e1);refine call_enumerate_list p1.isList λ h' z1 z2 sz keep=>?_;have I2:Inv X pins σ H1 { s1 with heap:=h' }:=I1.kept (t':=s1.toks) keep;refine wpAny_pyIter_enum z1 ⟨s1.heap.objs.size + 1,[s1.heap.objs.size + 1,s1.heap.objs.size],_,_,H1,rfl,I2,gN l _ _ (Nat.succ_ne_self _),⟨⟨_,z1⟩,z2⟩,λ b hb=>?_,q⟩;have hb':s1.heap.objs.size<=b:=by simp only [List.mem_cons,List.not_mem_nil,or_false] at hb;rcases hb with rfl | rfl <;> omega
   exact I1.fpOk hb' (I1.hok.fresh hb')
  ·obtain ⟨its1,rv1,p1,_⟩:=I1.tuple (Ar e1);have p1':s1.heap.IsTuple l its1.toArray:=p1;refine cL p1' λ h' z1 z2 sz keep=>?_;have I2:Inv X pins σ H1 { s1 with heap:=h' }:=I1.kept (t':=s1.toks) keep;refine wpAny_pyIter_enum z1 ⟨s1.heap.objs.size + 1,[s1.heap.objs.size + 1,s1.heap.objs.size],_,_,H1,rfl,I2,gO l _ _ (Nat.succ_ne_self _),⟨⟨_,z1⟩,z2⟩,λ b hb=>?_,q⟩;have hb':s1.heap.objs.size<=b:=by simp only [List.mem_cons,List.not_mem_nil,or_false] at hb;rcases hb with rfl | rfl <;> omega
   exact I1.fpOk hb' (I1.hok.fresh hb')
theorem ge {f:List V->HO} (hf:∀xs ys,f xs=f ys->xs=ys) {l:Addr} {xs:List V} {g:TG} {tb:TS} {D:Ends} {σ:St} {H:Hp} (Pv:Nat->St->Hp->Prop) (h0:Pv 0 σ H) (hk:∀i σ H',Pv i σ H'->H' l=some (f xs))
  (ht:∀i x p σ H,xs[i]? = some x->H p=none->Pv i σ H->g (.ref p) σ (upd H p (.tup [.int i,x])) λ σ2 H2=>tb { D with nx:=Pv (i + 1),ct:=Pv (i + 1),bk:=D.nx } σ2 H2) (hd:∀σ H,Pv xs.length σ H->D.nx σ H) :
  ∃W:Nat->Nat->St->Hp->Prop,(∃m,W 0 m σ H)/\∀i m σ H,W i m σ H ->
   ((Ite f l).stop i H/\D.nx σ H)\/((Ite f l).go i H/\∃N:St->Hp->Prop,(∀σ' H',N σ' H'->∃m',m' < m/\W (i + 1) m' σ' H')/\∀x H',(Ite f l).yld i H x H'->g x σ H' λ σ2 H2=>tb { D with nx:=N,ct:=N,bk:=D.nx } σ2 H2):=by
 refine ⟨λ i m σ H=>m=xs.length - i/\i<=xs.length/\Pv i σ H,⟨xs.length,by simp,Ae _,h0⟩,?_⟩;rintro i m σ H ⟨rfl,hi,p⟩;have e1:=hk i σ H p
 by_cases hlt:i < xs.length
 ·refine .inr ⟨⟨xs,xs[i],e1,by simp [hlt]⟩,Pv (i + 1),λ σ' H' p'=>⟨xs.length - (i + 1),by omega,Z,hlt,p'⟩,λ v H' y=>?_⟩;obtain ⟨q,xs',x,hq,rfl,rfl,e1',ex⟩:=y;rw [e1] at e1';cases hf _ _ (AO e1');exact ht i x q σ H ex hq p
 ·have e:i=xs.length:=by omega
  subst e;exact .inl ⟨⟨xs,e1,AJ _⟩,hd σ H p⟩
end L2
namespace Pc
open PySem L2
def aP (k:Kd):Bool:=k.tu && !decide (k.w=k.h)
def lyT (i:Nat) (k:Kd):List (Nat×Bool):=(i,false) :: if aP k=true then [(i,true)] else []
def lyK:List Kd->Nat->List (Nat×Bool)
 | [],_=>[]
 | k :: r,i=>lyT i k ++ lyK r (i + 1)
theorem gf (k:Kd):∀ (ks:List Kd) (i:Nat),lyK (ks ++ [k]) i=lyK ks i ++ lyT (i + ks.length) k
 | [],i=>by simp [lyK]
 | c :: r,i=>by show lyT i c ++ lyK (r ++ [k]) (i + 1)=(lyT i c ++ lyK r (i + 1)) ++ _;rw [gf k r (i + 1),List.append_assoc];congr 2;simp only [List.length_cons];congr 1;omega
theorem mw (i:Nat) (k:Kd):(lyT i k).length<=2:=by unfold lyT; split <;> simp
theorem fA:∀ (ks:List Kd) (i:Nat),(lyK ks i).length<=2 * ks.length
 | [],i=>by simp [lyK]
 | c :: r,i=>by have:=fA r (i + 1);have:=mw i c;simp only [lyK,List.length_append,List.length_cons];omega
def eC (K:AV):Sp:=λ vs H Q _=>∃ (a:Addr) (k:Kd),vs=[.ref a]/\H a=some (.tup (kdV k))/\Q (.bl (aP k)) H
def bf (ks:List Kd) (x t:V):Bool:=match x,t with
 | .int i,.bl b=>decide (0<=i) && match ks[i.toNat]? with
  | some k=>!b || aP k
  | none=>false
 | _,_=>false
def cB (K:AV) (C:Addr):Sp:=λ vs H Q _=>∃ (s:Addr) (b:Int) (ks:List Kd) (x t:V) (T U:String),vs=[.ref s,x,t]/\ShopAt C H s b ks/\Ty K H x T/\Ty K H t U/\Q (.bl (bf ks x t)) H
end Pc
namespace L2
open PySem PySem.Spec PyProof.Rows
section
variable {X:Cx}
theorem iK {k:Nat} {C:Addr} {ps:List Str} {sp:Sp} {m:Str} {o:Expr} {e:Expr} {es:List Expr} {ta:TE} {t:TA} {apos pos:Pos} {pl:Sem Bool} (he:PE X o ta) (c:Cls X.K C) (D:Mn X.prog X.w X.K X.mg X.base C m ps k sp) (hr:Room k X.A) (ha:PA X (e :: es) t)
  (hst:starEach (e :: es) X.env=(false,eval e X.env) :: starEach es X.env:=by rfl) (hpl:(backTo pos (starEach es X.env)).any (·.1)=false:=by rfl)
  (ht:eval (.Call (.Attribute o m apos) (e :: es) [] pos) X.env=(do
   let ov<-eval o X.env
   standAt apos.atName
   let (f,first)<-holding [ov] (getMethod ov m pl)
   callWith pos f first (backTo pos (starEach (e :: es) X.env)) (backToKw pos (keywordEach [] X.env))):=by rfl):PE X (.Call (.Attribute o m apos) (e :: es) [] pos) (nw C m sp [] E0 ta t):=by
 obtain ⟨f,fd,F,hb,hm⟩:=D;exact mi he c hm F hr hb .nil kJ ha hst hpl ht
end
section
variable {X:Cx}
theorem gP {pos:Pos}:PE X (.Dict [] [] pos) (λ _ H Q=>∀p,H p=none->Q (.ref p) (upd H p (.dK []))):=by intro pins s σ H Q I h;have hb:sysModules < s.heap.objs.size:=Nat.lt_trans (show sysModules < mainGlobals by decide) (I.mod.glob.keeps I.bk).lt;refine wpAny_Dict_empty ⟨.ref s.heap.objs.size,_,?_,rfl,h _ (I.hok.fresh (AJ _))⟩;refine I.laid (a:=s.heap.objs.size) (o:=.dK []) (t':=s.toks) (λ _ _ q=>AE _ q) (AJ _) ?_;exact ⟨Ae _,beq_eq_false_iff_ne.mpr (Nat.ne_of_gt hb),[],.nil,Heap.DictOf.new _⟩
end
section
variable {X:Cx}
theorem kS:OpR X (binaryOp .Add) (λ x y H Q=>∃a b ys,x=.ref a/\y=.ref b/\SqT X.K H a []/\SqT X.K H b ys/\Q (.ref b) H):=by
 intro pins s σ H x y v u Q I rx ry h;obtain ⟨a,b,ys,rfl,rfl,ha,hb,q⟩:=h;cases rx;cases ry;obtain ⟨its,r1,p1,_⟩:=I.tuple ha;obtain ⟨its2,r2,p2,_⟩:=I.tuple hb;cases r1;obtain ⟨⟨cls,dd,data,sl⟩,ho,hc,n,hd⟩:=p1;obtain ⟨⟨cls2,dd2,data2,sl2⟩,ho2,hc2,n2,hd2⟩:=p2;simp only at hc hd hc2 hd2;subst hc hd hc2 hd2;exact concat_meets ⟨_,ho,rfl⟩ ⟨_,ho2,rfl⟩ noFill_tuple_add seq_tuple_add PySem.F.slot_tuple_add PySem.F.entry_tuple_add (PySem.F.args_tuple_add_2 _ _)
   (tuple_addW0 a b _ _ n n2 dd dd2 sl sl2 rfl) ⟨ho,ho2,⟨.ref b,H,I,rfl,q⟩⟩
end
section
variable {X:Cx}
def qE:R2:=λ x y H Q=>∃a b xs ys,x=.ref a/\y=.ref b/\H a=some (.tup xs)/\H b=some (.tup ys)/\xs.length + ys.length<=sizeLine /\
 ∀m H',(H'=H/\(m=a\/m=b))\/(H m=none/\H'=upd H m (.tup (xs ++ ys)))->H' m=some (.tup (xs ++ ys))->Q (.ref m) H'
theorem dL:OpR X (binaryOp .Add) qE:=by
 intro pins s σ H x y v u Q I rx ry h;obtain ⟨a,b,xs,ys,rfl,rfl,ha,hb,hz,q⟩:=h
 by_cases hx:xs=[]
 ·subst hx;exact kS pins s σ H _ _ v u Q I rx ry ⟨a,b,ys,rfl,rfl,Ar ha,Ar hb,q b H (.inl ⟨rfl,.inr rfl⟩) hb⟩
 ·refine mn pins s σ H _ _ v u Q I rx ry ⟨a,b,xs,ys,rfl,rfl,Ar ha,Ar hb,hx,hz,λ e=>?_,λ e p hp=>q p _ (.inr ⟨hp,rfl⟩) ag⟩;subst e;exact q a H (.inl ⟨Z,.inl rfl⟩) (by rw [List.append_nil]; exact ha)
end
theorem eZ (xs:List V) (k:Nat):bR xs (some (k:Int)) none=xs.drop k:=by
 unfold bR;rw [HT.sIx_none,HT.sIx_nat];rcases Nat.le_total k xs.length with h | h
 ·rw [Nat.min_eq_left h,List.take_of_length_le (by rw [List.length_drop]; exact Nat.le_refl _)]
 ·rw [Nat.min_eq_right h,List.drop_of_length_le (Nat.le_refl _),List.drop_of_length_le h,List.take_nil]
section
variable {X:Cx}
theorem gg:∀ {bs:List Bool} {its:List Ap},Vals (bs.map V.bl) its->its=bs.map Value.bool
 | [],_,r=>by cases r; rfl
 | b :: bs,_,r=>by
  cases r with
  | cons r1 r2 =>
   have e:_=Value.bool b:=r1;subst e;rw [List.map_cons,gg r2]
theorem jj (bs:List Bool):(List.range bs.length).all (λ i=>bs.getD i false)=bs.all id:=by
 rw [Bool.eq_iff_iff,List.all_eq_true,List.all_eq_true];constructor
 ·intro h b hb;obtain ⟨i,hi,e⟩:=List.getElem_of_mem hb;have:=h i (List.mem_range.mpr hi);rw [List.getD_eq_getElem?_getD,List.getElem?_eq_getElem hi] at this;simpa [e] using this
 ·intro h i hi;have hi':=List.mem_range.mp hi;rw [List.getD_eq_getElem?_getD,List.getElem?_eq_getElem hi'];exact h _ (List.getElem_mem hi')
theorem fb (hc:X.calm=true):bQ X (.builtin "all") (λ xs H Q=>∃ (p:Addr) (bs:List Bool),xs=[.ref p]/\SqL X.K H p (bs.map V.bl)/\Q (.bl (bs.all id)) H):=by
 intro pins s σ H xs us Q I r h;obtain ⟨p,bs,rfl,hs,q⟩:=h;obtain ⟨u,rfl,rfl⟩:=dz r;obtain ⟨its,rv,pl,_⟩:=I.list hs;have e:=gg rv;subst e;have hlt:p < s.heap.objs.size:=by obtain ⟨_,_,e,_⟩:=pl; exact AG e
 refine call_all_walk (wpAny_pyIter_list pl.isList ?_);refine ⟨_,_,_,_,_,_,λ i=>bs.getD i false,Z,Walks.list (A:=X.A.in1) (I.ok.hd hc) _ p (AQ hlt) _,⟨⟨_,AF _ rfl,Z,Z⟩,pl.isList.push _⟩,λ i v s' Q' E' hP hQ'=>?_,λ h' tk hk=>?_⟩
 ·have hP':(bs.map Value.bool)[i]? = some v:=by simpa using hP
  rw [List.getElem?_map] at hP';cases hb:bs[i]? with
  | none=>rw [hb] at hP'; cases hP'
  | some b =>
   rw [hb] at hP';cases hP';have hQ2:Q' (bs.getD i false) s':=hQ';rw [List.getD_eq_getElem?_getD,hb] at hQ2;exact Ah hQ2
 ·have e2:((bs.map Value.bool).toArray.size)=bs.length:=by simp
  rw [e2,jj];refine ⟨.bl (bs.all id),H,I.kept (h':=h') (t':=tk) (λ b o e=>hk b o ?_ (AE _ e)),Z,q⟩;intro z;rw [List.mem_singleton.mp z] at e;exact absurd (AG e) (AY _)
end
theorem bB {α:Type} {xs:List α} {i:Int} {v:α} (h0:0<=i) (h:xs[i.toNat]? = some v):atI xs i=some v:=by
 have e:i=((i.toNat:Nat):Int):=by omega
 have z:atI xs ((i.toNat:Nat):Int)=some v:=mq h;rw [<- e] at z; exact z
end L2
namespace Pc
open PySem L2
def gQ (K:AV):Sp:=λ vs H Q _=>∃ (a:Addr) (ns:List Int) (n:Int),vs=[.ref a,.int n]/\SqL K H a (ns.map V.int)/\0<=n/\∀c:Int,Q (.int c) H
end Pc
namespace L2
open PySem
theorem Room.units66 {k:Nat} {A:Around} (r:Room k A):A.units + 66 < cLine:=by have:=r.un; omega
end L2
namespace Pc
open PySem L2
def Short (i:Int):Prop:=i.natAbs < 10 ^ 62
theorem Short.log {i:Int} (h:Short i):i.natAbs.log2 < 1920:=by
 unfold Short at h;rcases Nat.eq_zero_or_pos i.natAbs with h0 | hp
 ·rw [h0]; decide
 ·refine (Nat.log2_lt (Nat.ne_of_gt hp)).mpr (Nat.lt_trans h ?_)
  decide +kernel
theorem Short.len {i:Int} (h:Short i):(PyData.shown (.int i)).length<=63:=by show (Str.ofString (toString i)).length<=63;rw [ofString_length];exact int_text_length_le10 (by decide) h
end Pc
namespace L2
open PySem PySem.Spec PyProof.Rows
mutual
inductive DatD (K:AV) (H:Hp):V->PyData->Prop
 | non:DatD K H .non .none
 | bl (b:Bool):DatD K H (.bl b) (.bool b)
 | int (i:Int):DatD K H (.int i) (.int i)
 | str (x:Str):DatD K H (.str x) (.str x)
 | lst {a:Addr} {xs:List V} {ds:List PyData}:SqL K H a xs->DatDs K H xs ds->DatD K H (.ref a) (.list ds)
 | tup {a:Addr} {xs:List V} {ds:List PyData}:SqT K H a xs->DatDs K H xs ds->DatD K H (.ref a) (.tuple ds)
 | dct {a:Addr} {kv:List (Int×Int)}:H a=some (.dK (kv.map λ p=>(Sum.inl p.1,V.int p.2)))->DatD K H (.ref a) (.dict (kv.map λ p=>(.int p.1,.int p.2)))
inductive DatDs (K:AV) (H:Hp):List V->List PyData->Prop
 | nil:DatDs K H [] []
 | cons {x:V} {d:PyData} {xs:List V} {ds:List PyData}:DatD K H x d->DatDs K H xs ds->DatDs K H (x :: xs) (d :: ds)
end
def SysIn (K:AV):Prop:=∃o,K.lookup sysModules=some o/\o.cls=.type "dict"
section
variable {X:Cx} {pins:List (Addr×Obj)} {σ:St} {H:Hp} {s:Al}
theorem eD {h:Heap} {P:Am} {w:Ao}:∀ {es:List DictEntry} {kv:List (Int×Int)} {vs:List (Key×Ap)},KV (kv.map λ p=>((Sum.inl p.1:Key),V.int p.2)) vs->Pairs (fg P w) es vs ->
  ReadsAll h (es.map (·.key)) ((kv.map λ p=>(PyData.int p.1,PyData.int p.2)).map (·.1)) []/\ReadsAll h (es.map (·.val)) ((kv.map λ p=>(PyData.int p.1,PyData.int p.2)).map (·.2)) []
 | es,[],vs,k,p=>by cases k;cases p;exact ⟨.nil,.nil⟩
 | es,(i,j) :: kv,vs,k,p=>by
  cases k with
  | @cons _ q _ l2 k1 k2 =>
   obtain ⟨e1,t,e2⟩:=k1;cases p with
   | @cons e _ es' vs' p1 p2 p3 =>
    obtain ⟨q1,q2⟩:=q;have e1':(Sum.inl i:Key)=q1:=e1;subst e1';obtain ⟨t',ek⟩:=Value.isInt_shape (k:=i) (v:=e.key) p1;have e2':q2=Value.int j t:=e2;obtain ⟨r1,r2⟩:=eD (h:=h) k2 p3;have ev:e.val=Value.int j t:=by rw [p2]; exact e2'
    refine ⟨?_,?_⟩
    ·simp only [List.map_cons];rw [ek];exact .cons (as:=[]) (.int i t') r1
    ·simp only [List.map_cons];rw [ev];exact .cons (as:=[]) (.int j t) r2
mutual
theorem Inv.readsD (I:Inv X pins σ H s) (sm:SysIn X.K):∀ {v:V} {d:PyData},DatD X.K H v d->∀ {u:Ap},RelV v u->∃as,Reads s.heap u d as/\sysModules∉as
 | _,_,.non,u,r=>by cases (show u=Value.none from r); exact ⟨_,.none,by simp⟩
 | _,_,.bl b,u,r=>by cases (show u=Value.bool b from r); exact ⟨_,.bool b,by simp⟩
 | _,_,.int i,u,r=>by obtain ⟨t,e⟩:=(show ∃t,u=Value.int i t from r); subst e; exact ⟨_,.int i t,by simp⟩
 | _,_,.str x,u,r=>by obtain ⟨t,e⟩:=(show ∃t,u=Value.str x t from r); subst e; exact ⟨_,.str x t,by simp⟩
 | _,_,.lst (a:=a) h hs,u,r=>by
  cases (show u=Value.ref a from r);obtain ⟨its,rv,⟨o,n,e,c,_,d⟩,_⟩:=I.list h;obtain ⟨as,ra,na⟩:=I.readsAllD sm hs rv;refine ⟨_,.list e c d (by simpa using ra),?_⟩;intro z;rcases List.mem_cons.mp z with z | z
  ·obtain ⟨o',k1,k2⟩:=sm;have k3:=I.kIn _ _ k1;rw [z,e] at k3;cases k3;rw [c] at k2;simp at k2
  ·exact na z
 | _,_,.tup (a:=a) h hs,u,r=>by cases (show u=Value.ref a from r);obtain ⟨its,rv,⟨o,e,c,n,d⟩,_⟩:=I.tuple h;obtain ⟨as,ra,na⟩:=I.readsAllD sm hs rv;exact ⟨_,.tuple e c d (by simpa using ra),na⟩
 | _,_,.dct (a:=a) (kv:=kv) h,u,r=>by
  cases (show u=Value.ref a from r);obtain ⟨_,ne,vs,kv',o,es,ep,h1,h2,h3,_,h5,_⟩:=I.hok a _ h;obtain ⟨r1,r2⟩:=eD (h:=s.heap) kv' h5;refine ⟨_,.dict h1 h2.1 h3 r1 r2,?_⟩;intro z;have z':sysModules=a:=by simpa using z
  rw [z'] at ne;simp at ne
theorem Inv.readsAllD (I:Inv X pins σ H s) (sm:SysIn X.K):∀ {vs:List V} {ds:List PyData},DatDs X.K H vs ds->∀ {us:List Ap},Vals vs us->∃as,ReadsAll s.heap us ds as/\sysModules∉as
 | _,_,.nil,_,.nil=>⟨_,.nil,by simp⟩
 | _,_,.cons h hs,_,.cons r rs=>by obtain ⟨as,ra,na⟩:=I.readsD sm h r;obtain ⟨bs,rb,nb⟩:=I.readsAllD sm hs rs;exact ⟨_,.cons ra rb,λ z=>(AT.mp z).elim na nb⟩
end
end
end L2
namespace PySem
theorem Paired.getL {α β:Type} {F:α->β->Prop}:∀ {l₁:List α} {l₂:List β} {i:Nat} {y:β},Paired F l₁ l₂->l₂[i]? = some y->∃x,l₁[i]? = some x/\F x y
 | _,_,_,_,.nil,e=>by simp at e
 | _,_,0,_,.cons h _,e=>by simp at e; subst e; exact ⟨_,Z,h⟩
 | _,_,i + 1,y,.cons _ t,e=>by obtain ⟨x,h1,h2⟩:=Paired.getL (i:=i) t (by simpa using e);exact ⟨x,by simpa using h1,h2⟩
end PySem
namespace L2
open PySem PySem.Spec PyProof.Rows PySem.SeqAt
open PySem.AutoSeq1 (wpAny_loadPart')
theorem cu (l:Addr) (es:Array DictEntry) (n:Nat) (dd:Option Addr) (sl:Array (Option Ap)) (b:Int) (u:Tok) :
  Meets (Builtin.«dict.__eq__» ⟨[.ref l,.int b u],[]⟩) (λ _ R s=>s.heap.get? l=some { cls:=.type "dict",dict:=dd,data:=.dict es n,slots:=sl }/\R (.ok (.ret .notImplemented)) s) :=
 .of_wp λ prog w A R s h=>by obtain ⟨hp,g,d,tk,os⟩:=s; obtain ⟨hl,h⟩:=h; have f1:=F.sub_int_dict; wp_walk using wpAny_loadPart' hl,wpAny_load hl; exact ⟨_,Z,h⟩
theorem ck (l:Addr) (es:Array DictEntry) (n:Nat) (dd:Option Addr) (sl:Array (Option Ap)) (b:Bool) :
  Meets (Builtin.«dict.__eq__» ⟨[.ref l,.bool b],[]⟩) (λ _ R s=>s.heap.get? l=some { cls:=.type "dict",dict:=dd,data:=.dict es n,slots:=sl }/\R (.ok (.ret .notImplemented)) s) :=
 .of_wp λ prog w A R s h=>by obtain ⟨hp,g,d,tk,os⟩:=s; obtain ⟨hl,h⟩:=h; have f1:=F.sub_bool_dict; wp_walk using wpAny_loadPart' hl,wpAny_load hl; exact ⟨_,Z,h⟩
theorem bL (b:Bool) (l:Addr) (c:Ap) (es:Array DictEntry) (n:Nat) (dd:Option Addr) (sl:Array (Option Ap)) :
  Meets (Builtin.«int.__eq__» ⟨[.bool b,.ref l],[]⟩) (λ _ R s=>s.heap.get? l=some { cls:=c,dict:=dd,data:=.dict es n,slots:=sl }/\R (.ok (.ret .notImplemented)) s) :=
 .of_wp λ prog w A R s h=>by obtain ⟨hp,g,d,tk,os⟩:=s; obtain ⟨hl,h⟩:=h; wp_walk using wpAny_loadPart' hl,wpAny_load hl; exact ⟨_,Z,h⟩
theorem bP (b:Int) (u:Tok) (l:Addr) (c:Ap) (es:Array DictEntry) (n:Nat) (dd:Option Addr) (sl:Array (Option Ap)) :
  Meets (Builtin.«int.__eq__» ⟨[.int b u,.ref l],[]⟩) (λ _ R s=>s.heap.get? l=some { cls:=c,dict:=dd,data:=.dict es n,slots:=sl }/\R (.ok (.ret .notImplemented)) s) :=
 .of_wp λ prog w A R s h=>by obtain ⟨hp,g,d,tk,os⟩:=s; obtain ⟨hl,h⟩:=h; wp_walk using wpAny_loadPart' hl,wpAny_load hl; exact ⟨_,Z,h⟩
section
variable {A:Around} {s:Al}
theorem EqAt.int_dict {l:Addr} {o:Obj} {es:Array DictEntry} {n:Nat} (b:Int) (u:Tok) (ho:s.heap.get? l=some o) (hc:o.cls=.type "dict") (hd:o.data=.dict es n) (hu:A.units < cLine):EqAt A s (.int b u) (.ref l) false:=λ prog w E Q h=>by
 obtain ⟨cls,dd,data,sl⟩:=o;simp only at hc hd;subst hc hd;unfold eqBool;refine wpAny_holding ?_;refine wpAny_ite_split (λ hab=>absurd (eq_of_beq hab) nofun) (λ _=>?_);exact AA (rc_eq_decline_or (k:=false) (typeIs_int s b u) ⟨_,ho,rfl⟩ (by decide) F.sub_dict_int F.slot_int_eq F.slot_dict_eq_refl
  (λ _ hq=>call_meets F.slot_int_eq (typeIs_int s b u) F.entry_int_eq (F.args_int_eq_2 _ _) (bP b u l (.type "dict") es n dd sl) ⟨ho,hq⟩)
  (λ _ hq=>call_meets F.slot_dict_eq_refl ⟨_,ho,Z⟩ F.entry_dict_eq (F.args_dict_eq_2 _ _) (cu l es n dd sl b u) ⟨ho,hq⟩)
  (λ _ hq=>wpAny_of_eq (rfl:isSame (.int b u) (.ref l)=pure false) hq) (.inr hu) (Ah h))
theorem EqAt.bool_dict {l:Addr} {o:Obj} {es:Array DictEntry} {n:Nat} (b:Bool) (ho:s.heap.get? l=some o) (hc:o.cls=.type "dict") (hd:o.data=.dict es n) (hu:A.units < cLine):EqAt A s (.bool b) (.ref l) false:=λ prog w E Q h=>by
 obtain ⟨cls,dd,data,sl⟩:=o;simp only at hc hd;subst hc hd;unfold eqBool;refine wpAny_holding ?_;refine wpAny_ite_split (λ hab=>absurd (eq_of_beq hab) nofun) (λ _=>?_);exact AA (rc_eq_decline_or (k:=false) rfl ⟨_,ho,rfl⟩ (by decide) F.sub_dict_bool F.slot_bool_eq F.slot_dict_eq_refl
  (λ _ hq=>call_meets F.slot_bool_eq rfl F.entry_int_eq (F.args_int_eq_2 _ _) (bL b l (.type "dict") es n dd sl) ⟨ho,hq⟩)
  (λ _ hq=>call_meets F.slot_dict_eq_refl ⟨_,ho,Z⟩ F.entry_dict_eq (F.args_dict_eq_2 _ _) (ck l es n dd sl b) ⟨ho,hq⟩)
  (λ _ hq=>wpAny_of_eq (rfl:isSame (.bool b) (.ref l)=pure false) hq) (.inr hu) (Ah h))
end
section
variable {X:Cx} {pins:List (Addr×Obj)} {σ:St} {H:Hp} {s:Al}
def eI:V->Int->Bool
 | .int j,i=>i == j
 | .bl b,i=>i == (if b=true then 1 else 0)
 | _,_=>false
def eB:V->Bool->Bool
 | .bl b,c=>c == b
 | .int j,c=>(if c=true then 1 else 0) == j
 | _,_=>false
def OdV (K:AV) (H:Hp) (v:V):Prop:=v=.non\/(∃b,v=.bl b)\/(∃i,v=.int i)\/(∃z,v=.str z)\/∃a,v=.ref a/\((∃xs,SqL K H a xs)\/(∃xs,SqT K H a xs)\/H a=some (.dK []))
theorem Inv.dct (I:Inv X pins σ H s) {a:Addr} (h:H a=some (.dK [])):∃o es n,s.heap.get? a=some o/\o.cls=.type "dict" /\ o.data=.dict es n:=by obtain ⟨_,ne,vs,kv',o,es,ep,h1,h2,h3,_⟩:=I.hok a _ h;exact ⟨o,es,ep,h1,h2.1,h3⟩
theorem Inv.eqI (I:Inv X pins σ H s) {A:Around} (hu:A.units < cLine) {v:V} (h:OdV X.K H v) {u:Ap} (r:RelV v u) (i:Int) (t:Tok):EqAt A s (.int i t) u (eI v i):=by
 rcases h with rfl | ⟨b,rfl⟩ | ⟨j,rfl⟩ | ⟨z,rfl⟩ | ⟨a,rfl,h⟩
 ·cases (show u=Value.none from r); exact EqAt.int_none i t
 ·cases (show u=Value.bool b from r); exact EqAt.int_bool i t b
 ·obtain ⟨t',e⟩:=(show ∃t,u=Value.int j t from r); subst e; exact EqAt.int_int i t j t'
 ·obtain ⟨t',e⟩:=(show ∃t,u=Value.str z t from r); subst e; exact EqAt.int_str i t z t'
 ·cases (show u=Value.ref a from r);rcases h with ⟨xs,h⟩ | ⟨xs,h⟩ | h
  ·obtain ⟨its,rv,⟨o,n,e,c,_,d⟩,_⟩:=I.list h;exact EqAt.int_list i t ⟨o,e,c,n,d⟩ hu
  ·obtain ⟨its,rv,⟨o,e,c,n,d⟩,_⟩:=I.tuple h;exact EqAt.int_tuple i t ⟨o,e,c,n,d⟩ hu
  ·obtain ⟨o,es,n,e,c,d⟩:=I.dct h;exact EqAt.int_dict i t e c d hu
theorem Inv.eqB (I:Inv X pins σ H s) {A:Around} (hu:A.units < cLine) {v:V} (h:OdV X.K H v) {u:Ap} (r:RelV v u) (c:Bool):EqAt A s (.bool c) u (eB v c):=by
 rcases h with rfl | ⟨b,rfl⟩ | ⟨j,rfl⟩ | ⟨z,rfl⟩ | ⟨a,rfl,h⟩
 ·cases (show u=Value.none from r); exact EqAt.bool_none c
 ·cases (show u=Value.bool b from r); exact EqAt.bool_bool c b
 ·obtain ⟨t',e⟩:=(show ∃t,u=Value.int j t from r); subst e; exact EqAt.bool_int c j t'
 ·obtain ⟨t',e⟩:=(show ∃t,u=Value.str z t from r); subst e; exact EqAt.bool_str c z t'
 ·cases (show u=Value.ref a from r);rcases h with ⟨xs,h⟩ | ⟨xs,h⟩ | h
  ·obtain ⟨its,rv,⟨o,n,e,c',_,d⟩,_⟩:=I.list h;exact EqAt.bool_list c ⟨o,e,c',n,d⟩ hu
  ·obtain ⟨its,rv,⟨o,e,c',n,d⟩,_⟩:=I.tuple h;exact EqAt.bool_tuple c ⟨o,e,c',n,d⟩ hu
  ·obtain ⟨o,es,n,e,c',d⟩:=I.dct h;exact EqAt.bool_dict c e c' d hu
def PrB (H:Hp) (z:V) (q:Int×Bool):Prop:=∃b,z=.ref b/\H b=some (.tup [.int q.1,.bl q.2])
def eP (H:Hp) (v1 v2:V):Ap->Bool
 | .ref b=>match H b with
  | some (.tup [.int i,.bl c])=>eI v1 i && eB v2 c
  | _=>false
 | _=>false
theorem nA {b:Addr} {v1 v2:V} {i:Int} {c:Bool} (h:H b=some (.tup [.int i,.bl c])):eP H v1 v2 (.ref b)=(eI v1 i && eB v2 c):=by
 show (match H b with
  | some (.tup [.int i,.bl c])=>eI v1 i && eB v2 c
  | _=>false)=_
 rw [h]
theorem kT {v1 v2:V}:∀ {zs:List V} {qs:List (Int×Bool)} {its:List Ap},Paired (PrB H) zs qs->Vals zs its->its.any (eP H v1 v2)=qs.any λ q=>eI v1 q.1 && eB v2 q.2
 | _,_,_,.nil,.nil=>rfl
 | _,_,_,.cons ⟨b,e,h⟩ r,.cons r1 rs=>by subst e;cases r1;rw [List.any_cons,List.any_cons,nA h,kT r rs]
theorem mx {i:Int}:eI (.int i) i=true:=by show (i == i)=true; simp
theorem my {c:Bool}:eB (.bl c) c=true:=by show (c == c)=true; simp
theorem jk (hu:X.A.units + 65 < cLine):OpR X (compareOp .NotIn) (λ x y H Q=>∃a l v1 v2 zs qs,x=.ref a/\y=.ref l/\H a=some (.tup [v1,v2])/\OdV X.K H v1/\OdV X.K H v2/\H l=some (.lst zs)/\Paired (PrB H) zs qs/\Q (.bl (!qs.any λ q=>eI v1 q.1 && eB v2 q.2)) H):=by
 intro pins s σ H x y v u Q I rx ry h;obtain ⟨a,l,v1,v2,zs,qs,rfl,rfl,ha,o1,o2,hl,pq,q⟩:=h;cases rx;cases ry;obtain ⟨its,rv,⟨o,n,e,c,_,d⟩,_⟩:=I.list (As hl);obtain ⟨ias,rva,⟨oa,ea,ca,na,da⟩,_⟩:=I.tuple (Ar ha);refine notIn_listAt (eP H v1 v2) ⟨o,e,c,n,d⟩ (λ y hy=>?_) ?_
 ·have hy:y∈its:=by simpa using hy
  obtain ⟨j,hj⟩:=List.mem_iff_getElem?.mp hy;obtain ⟨z,hz⟩:∃z,zs[j]? = some z:=⟨_,Ag (by have:=rv.length; have:=(AD.mp hj).1; omega)⟩
  obtain ⟨y',hy',rz⟩:=rv.get hz;obtain rfl:y'=y:=by rw [hj] at hy'; exact (AO hy').symm
  obtain ⟨q',hq,b,rfl,hb⟩:=Pc.Paired.getR pq hz;cases rz;rw [nA hb];obtain ⟨ibs,rvb,⟨ob,eb,cb,nb,db⟩,_⟩:=I.tuple (Ar hb);cases rva with
  | cons ra1 ra=>cases ra with
   | cons ra2 ra=>cases ra with
    | nil =>
     cases rvb with
     | cons rb1 rb=>cases rb with
      | cons rb2 rb=>cases rb with
       | nil =>
        obtain ⟨t,et⟩:=(show ∃t,_=Value.int q'.1 t from rb1)
        subst et;cases rb2
        by_cases hab:b=a
        ·subst hab;obtain ⟨k1,k2⟩:V.int q'.1=v1/\V.bl q'.2=v2:=by rw [ha] at hb;cases hb;exact ⟨Z,Z⟩
         subst k1;subst k2;rw [mx,my];exact EqAt.same _
        ·refine EqAt.of_refs hab ?_;have:=RcAt.tuples (A:=X.A.in1) (s:=s) (e:=λ j=>if j=0 then eI v1 q'.1 else eB v2 q'.2) ⟨ob,eb,cb,nb,db⟩ ⟨oa,ea,ca,na,da⟩ (show X.A.units + 1 < cLine by omega) (λ j h1 h2=>?_)
         ·have hh:∀p r:Bool,(((List.range (min 2 2)).all λ j=>if j=0 then p else r) && (2 == 2))=(p && r):=λ p r=>by cases p <;> cases r <;> rfl
          rw [<- hh];exact this
         ·have:j=0\/j=1:=by have:j < 2:=h1; omega
          rcases this with rfl | rfl
          ·exact I.eqI (show X.A.units + 1 + 1 < cLine by omega) o1 ra1 _ _
          ·exact I.eqB (show X.A.units + 1 + 1 < cLine by omega) o2 ra2 _
 ·rw [List.any_toArray,kT pq rv];exact ⟨.bl _,H,I,Z,q⟩
end
end L2
namespace L2
open PySem PySem.Spec PyProof.Rows
section
variable {X:Cx}
def mz:V->List V->Hp->VK->Prop:=λ x vs H Q=>∃l xs i y,x=.ref l/\vs=[.int i,y]/\H l=some (.lst xs)/\0<=i/\i<=xs.length/\xs.length < sizeLine/\Q .non (upd H l (.lst (xs.take i.toNat ++ y :: xs.drop i.toNat)))
theorem gh:∀ (n:Nat) {xs:List V} {us:List Ap},Vals xs us->Vals (xs.take n) (us.take n)
 | 0,_,_,_=>.nil
 | _ + 1,_,_,.nil=>.nil
 | n + 1,_,_,.cons a r=>.cons a (gh n r)
theorem gi:∀ (n:Nat) {xs:List V} {us:List Ap},Vals xs us->Vals (xs.drop n) (us.drop n)
 | 0,_,_,h=>h
 | _ + 1,_,_,.nil=>.nil
 | n + 1,_,_,.cons _ r=>gi n r
theorem jl:MtM X "list.insert" mz:=by
 intro pins s σ H x vs v us Q I rx rv h;obtain ⟨l,xs,i,y,rfl,rfl,hH,i0,i1,hz,q⟩:=h;cases rx;cases rv with
 | cons r1 r2 =>
 obtain ⟨t,rfl⟩:=r1;cases r2 with
 | cons ru r3 =>
 cases r3;obtain ⟨z,its,n,r,hl,e⟩:=I.lstM hH;have b63:(sizeLine:Int) < 2 ^ 63:=by decide
 have hfit:¬ (!Builtin.List.listFitsIndex i)=true:=by rw [fitsIndex_both (by omega) (by omega)];exact AI
 refine call_meets F.slot_list_insert ⟨_,e,Z⟩ F.entry_list_insert (F.args_list_insert_3 _ _ _) (PySem.AutoSeq1.list_insert_list_int_val_1 l its.toArray n i t _ hfit (by rw [List.size_toArray]; omega)) ⟨e,?_⟩;refine ⟨.non,_,I.lset (its':=its.take i.toNat ++ _ :: its.drop i.toNat) hH e ?_ ((gh _ r).append (.cons ru (gi _ r))) ?_,Z,q⟩
 ·have:¬ i < 0:=by omega
  simp [this];rw [Nat.min_eq_left (by omega)];congr 2;exact List.take_of_length_le (by rw [List.length_drop]; exact AJ _)
 ·rw [List.length_append,List.length_cons,List.length_take,List.length_drop];omega
end
end L2
namespace PySem
open Sem (wp)
def gR:Int->Ap->Bool
 | k,.int i _=>i == k
 | k,.bool b=>(if b then (1:Int) else 0) == k
 | _,_=>false
theorem cf {k:Int} {v:Ap} (h:gR k v=true):(∃t,v=.int k t)\/∃b:Bool,v=.bool b/\(if b then (1:Int) else 0)=k:=by
 cases v <;> simp only [gR,beq_iff_eq,Bool.false_eq_true] at h
 ·exact .inr ⟨_,Z,h⟩
 ·subst h; exact .inl ⟨_,Z⟩
section
variable {prog:Am} {w:Ao} {A:Around} {E:Ap->Al->Prop} {s:Al}
theorem cT {b:Bool} {Q:Int->Al->Prop} (h:Q (hashInt (if b then (1:Int) else 0)) { s with toks:=s.toks + 1 }):wpAny (model prog w) A (pyHash (.bool b)) Q E s:=by
 refine PySem.W.pyHash_slot (T := "bool") rfl F.slot_bool_hash entry_int_hash (args_int_hash _) (beq_builtin_none _) (.inl rfl) ?_;cases b
 ·exact (show wpAny _ _ (do ret (<- mkInt 0)) _ _ s from AA (wpAny_mkInt (AB ⟨_,_,rfl,h⟩)))
 ·exact (show wpAny _ _ (do ret (<- mkInt 1)) _ _ s from AA (wpAny_mkInt (AB ⟨_,_,rfl,h⟩)))
end
def dr (prog:Am) (w:Ao):KeyKind prog w Int where
 is:=gR
 hash:=hashInt
 inj:=λ v a b ha hb=>by
  cases v <;> simp only [gR,beq_iff_eq,Bool.false_eq_true] at ha hb
  ·rw [<- ha,<- hb]
  ·rw [<- ha,<- hb]
 byValue:=λ k v h=>by rcases cf h with ⟨t,rfl⟩ | ⟨b,rfl,_⟩ <;> rfl
 pyHash:=λ hv h=>by
  rcases cf hv with ⟨t,rfl⟩ | ⟨b,rfl,e⟩
  ·exact wpAny_pyHash_int h
  ·subst e; exact cT h
 eqBool:=λ {A E s a b u v Q} hu hv h=>by
  rcases cf hu with ⟨t,rfl⟩ | ⟨x,rfl,e⟩ <;> rcases cf hv with ⟨t',rfl⟩ | ⟨y,rfl,e'⟩
  ·exact wpAny_eqBool_int h
  ·subst e'; exact SeqAt.EqAt.int_bool (A:=A) (s:=s) a t y _ _ E _ h
  ·subst e; exact SeqAt.EqAt.bool_int (A:=A) (s:=s) x b t' _ _ E _ h
  ·subst e; subst e';refine SeqAt.EqAt.bool_bool (A:=A) (s:=s) x y _ _ E _ ?_;cases x <;> cases y <;> exact h
 «strs» := λ k x t v h=>by simp [gR] at h
end PySem
namespace L2
open PySem PySem.Spec PyProof.Rows
inductive IB:List V->List Int->List PyData->Prop
 | nil:IB [] [] []
 | int {i:Int} {xs:List V} {ks:List Int} {ds:List PyData}:IB xs ks ds->IB (.int i :: xs) (i :: ks) (.int i :: ds)
 | bl {b:Bool} {xs:List V} {ks:List Int} {ds:List PyData}:IB xs ks ds->IB (.bl b :: xs) ((if b then (1:Int) else 0) :: ks) (.bool b :: ds)
theorem IB.items {P:Am} {w:Ao}:∀ {xs:List V} {ks:List Int} {ds:List PyData} {us:List Ap},IB xs ks ds->Vals xs us->ItemsAre (dr P w) ks us
 | _,_,_,_,.nil,.nil=>.nil
 | _,_,_,_,.int h,.cons r rs=>by
  obtain ⟨t,e⟩:=(show ∃t,_=Value.int _ t from r)
  subst e;exact .cons (by simp [dr,gR]) (h.items rs)
 | _,_,_,_,.bl h,.cons r rs=>by cases (show _=Value.bool _ from r);exact .cons (by simp [dr,gR]) (h.items rs)
theorem IB.datd {K:AV} {H:Hp}:∀ {xs:List V} {ks:List Int} {ds:List PyData},IB xs ks ds->DatDs K H xs ds
 | _,_,_,.nil=>.nil
 | _,_,_,.int h=>.cons (.int _) h.datd
 | _,_,_,.bl h=>.cons (.bl _) h.datd
def OddD (a kt:Addr) (j:Int):Heap->Prop:=λ h=>(a == sysModules)=false/\∃o es ep hs t,h.get? a=some o/\o.ExactDict/\o.data=.dict es ep/\es.toList=[⟨hs,.ref kt,.int j t⟩]
theorem OddD.cls {a kt:Addr} {j:Int}:∀h,OddD a kt j h->∃o,h.get? a=some o/\o.cls=.type "dict" := λ h ⟨_,o,_,_,_,_,e,c,_⟩=>⟨o,e,c.1⟩
section
variable {X:Cx}
def og (tk tv:TE):TE:=λ σ H Q=>∀p,H p=none->tk σ (upd H p (.dK [])) λ x H1=>tv σ H1 λ y H2=>H2 p=some (.dK [])/\∃kt xs ks ds j,x=.ref kt/\H2 kt=some (.tup xs)/\IB xs ks ds/\y=.int j/\Q (.ref p) (upd H2 p (.ext (OddD p kt j)))
theorem kU {kx vx:Expr} {tk tv:TE} {pos:Pos} (hu:X.A.units < cLine) (hk:PE X kx tk) (hv:PE X vx tv):PE X (.Dict [some kx] [vx] pos) (og tk tv):=by
 intro pins s σ H Q I h;have hb:sysModules < s.heap.objs.size:=Nat.lt_trans (show sysModules < mainGlobals by decide) (I.mod.glob.keeps I.bk).lt;have hn:=I.hok.fresh (AJ s.heap.objs.size);have hd:(s.heap.objs.size == sysModules)=false:=beq_eq_false_iff_ne.mpr (Nat.ne_of_gt hb);have I1:Inv X pins σ (upd H s.heap.objs.size (.dK [])) { s with heap:=s.heap.push { cls:=.type "dict",data:=.dict #[] } } :=
  I.laid (a:=s.heap.objs.size) (o:=.dK []) (t':=s.toks) (λ _ _ q=>AE _ q) (AJ _) ⟨Ae _,hd,[],.nil,Heap.DictOf.new _⟩
 refine wpAny_Dict_any rfl rfl (by simp) (by show 1<=15; decide) (pairTrees_cons_walk (thn (hk pins _ σ _ _ I1 (h _ hn)) λ u s1 ⟨x,H1,J1,rx,q1⟩=>thn (hv pins s1 σ H1 _ J1 q1) λ w2 s2 ⟨y,H2,J2,ry,e,kt,xs,ks,ds,j,ex,ek,ib,ey,q2⟩=>pairTrees_nil_walk ?_));subst ex;subst ey;cases rx;obtain ⟨t2,rfl⟩:=ry;obtain ⟨_,_,vs0,r0,o0,es0,ep0,g0,g1,g2,_,g3,_⟩:=J2.hok _ _ e;cases r0;have g3:es0.toList=[]:=by cases g4:es0.toList with
  | nil=>rfl
  | cons _ _=>rw [g4] at g3; cases g3
 obtain ⟨_,its,rv,ot,ho,hc,n,hdt⟩:=J2.hok _ _ ek;have key:(tupleKind (dr X.prog X.w)).is s2.heap ks kt:=⟨ot,its.toArray,n,ho,hc,hdt,by simpa using ib.items rv⟩
 have dm:s2.heap.DictOfH (tupleKind (dr X.prog X.w)) s.heap.objs.size []:=⟨o0,es0,ep0,g0,g1,g2,g3,(λ _ z=>by simp at z),List.nodup_nil⟩
 unfold storeAll;refine wpAny_forIn_list _ (λ cF (_:PUnit) s'=>(cF=[(Value.ref kt,Value.int j t2)]/\s'=s2)\/(cF=[]/\∃v H,Inv X pins σ H s'/\RelV v (.ref s.heap.objs.size)/\Q v H)) _ ?_ ?_ _ _ (.inl ⟨Z,Z⟩)
 ·rintro x cF b s' (⟨e1,rfl⟩ | ⟨e1,_⟩)
  ·cases e1;refine AA (wpAny_dictSet_heap (knd:=tupleKind (dr X.prog X.w)) (hsz:=Ae _) hu key dm λ h' dd' hs=>AB (.inr ⟨Z,?_⟩));refine ⟨.ref s.heap.objs.size,_,?_,Z,q2⟩;obtain ⟨o',es',ep',g0',g1',g2',g3',_⟩:=dd';refine J2.write (x:=s.heap.objs.size) (e:=s.heap.objs.size) (by rw [e]; exact True.intro) (.inl rfl) (λ b q hb z=>(hs.2 b hb).trans z) ⟨_,g0'⟩ ?_;exact ⟨⟨hd,o',es',ep',_,t2,g0',g1',g2',by rw [g3']; rfl⟩,⟨o',g0'⟩,λ h1 h2 ⟨z,o,es,ep,hh,t,e1,e2⟩ k=>⟨z,o,es,ep,hh,t,k _ e1,e2⟩⟩
  ·cases e1
 ·rintro b s' (⟨e1,_⟩ | ⟨_,r⟩)
  ·cases e1
  ·exact r
end
mutual
inductive DatO (K:AV) (H:Hp):V->PyData->Prop
 | non:DatO K H .non .none
 | bl (b:Bool):DatO K H (.bl b) (.bool b)
 | int (i:Int):DatO K H (.int i) (.int i)
 | str (x:Str):DatO K H (.str x) (.str x)
 | lst {a:Addr} {xs:List V} {ds:List PyData}:SqL K H a xs->DatOs K H xs ds->DatO K H (.ref a) (.list ds)
 | tup {a:Addr} {xs:List V} {ds:List PyData}:SqT K H a xs->DatOs K H xs ds->DatO K H (.ref a) (.tuple ds)
 | emp {a:Addr}:H a=some (.dK [])->DatO K H (.ref a) (.dict [])
 | odd {a kt:Addr} {j:Int} {xs:List V} {ks:List Int} {ds:List PyData}:H a=some (.ext (OddD a kt j))->H kt=some (.tup xs)->IB xs ks ds->DatO K H (.ref a) (.dict [(.tuple ds,.int j)])
inductive DatOs (K:AV) (H:Hp):List V->List PyData->Prop
 | nil:DatOs K H [] []
 | cons {x:V} {d:PyData} {xs:List V} {ds:List PyData}:DatO K H x d->DatOs K H xs ds->DatOs K H (x :: xs) (d :: ds)
end
section
variable {X:Cx} {pins:List (Addr×Obj)} {σ:St} {H:Hp} {s:Al}
mutual
theorem Inv.readsO (I:Inv X pins σ H s) (sm:SysIn X.K):∀ {v:V} {d:PyData},DatO X.K H v d->∀ {u:Ap},RelV v u->∃as,Reads s.heap u d as/\sysModules∉as
 | _,_,.non,u,r=>by cases (show u=Value.none from r); exact ⟨_,.none,by simp⟩
 | _,_,.bl b,u,r=>by cases (show u=Value.bool b from r); exact ⟨_,.bool b,by simp⟩
 | _,_,.int i,u,r=>by obtain ⟨t,e⟩:=(show ∃t,u=Value.int i t from r); subst e; exact ⟨_,.int i t,by simp⟩
 | _,_,.str x,u,r=>by obtain ⟨t,e⟩:=(show ∃t,u=Value.str x t from r); subst e; exact ⟨_,.str x t,by simp⟩
 | _,_,.lst (a:=a) h hs,u,r=>by
  cases (show u=Value.ref a from r);obtain ⟨its,rv,⟨o,n,e,c,_,d⟩,_⟩:=I.list h;obtain ⟨as,ra,na⟩:=I.readsAllO sm hs rv;refine ⟨_,.list e c d (by simpa using ra),?_⟩;intro z;rcases List.mem_cons.mp z with z | z
  ·obtain ⟨o',k1,k2⟩:=sm;have k3:=I.kIn _ _ k1;rw [z,e] at k3;cases k3;rw [c] at k2;simp at k2
  ·exact na z
 | _,_,.tup (a:=a) h hs,u,r=>by cases (show u=Value.ref a from r);obtain ⟨its,rv,⟨o,e,c,n,d⟩,_⟩:=I.tuple h;obtain ⟨as,ra,na⟩:=I.readsAllO sm hs rv;exact ⟨_,.tuple e c d (by simpa using ra),na⟩
 | _,_,.emp (a:=a) h,u,r=>I.readsD sm (DatD.dct (kv:=[]) h) r
 | _,_,.odd (a:=a) (kt:=kt) (j:=j) (ds:=ds) h hk ib,u,r=>by
  cases (show u=Value.ref a from r);obtain ⟨⟨ne,o,es,ep,hs,t,h1,h2,h3,h4⟩,_⟩:=I.hok a _ h;obtain ⟨as,ra,na⟩:=I.readsD sm (DatD.tup (Ar hk) (IB.datd ib)) rfl;have r1:ReadsAll s.heap (es.toList.map (·.key)) ([(PyData.tuple ds,PyData.int j)].map (·.1)) (as ++ []):=by rw [h4]; exact .cons ra .nil
  have r2:ReadsAll s.heap (es.toList.map (·.val)) ([(PyData.tuple ds,PyData.int j)].map (·.2)) ([] ++ []):=by rw [h4]; exact .cons (.int j t) .nil
  refine ⟨_,.dict h1 h2.1 h3 r1 r2,?_⟩;intro z;simp only [List.append_nil,List.mem_cons] at z;rcases z with z | z
  ·rw [z] at ne; simp at ne
  ·exact na z
theorem Inv.readsAllO (I:Inv X pins σ H s) (sm:SysIn X.K):∀ {vs:List V} {ds:List PyData},DatOs X.K H vs ds->∀ {us:List Ap},Vals vs us->∃as,ReadsAll s.heap us ds as/\sysModules∉as
 | _,_,.nil,_,.nil=>⟨_,.nil,by simp⟩
 | _,_,.cons h hs,_,.cons r rs=>by obtain ⟨as,ra,na⟩:=I.readsO sm h r;obtain ⟨bs,rb,nb⟩:=I.readsAllO sm hs rs;exact ⟨_,.cons ra rb,λ z=>(AT.mp z).elim na nb⟩
end
theorem eE (sm:SysIn X.K) (hg:X.A.guards=some []) (hu:X.A.units + 66 < cLine):bQ X (.builtin "repr") (λ xs H Q=>∃v d,xs=[v]/\DatO X.K H v d/\d.showable=true/\d.depth<=64/\d.shown.length<=sizeLine/\Q (.str d.shown) H):=by
 intro pins s σ H xs us Q I r h;obtain ⟨v,d,rfl,hd,h1,h3,h4,q⟩:=h;obtain ⟨u,rfl,ru⟩:=dz r;have flat:∀tk,∃v H',Inv X pins σ H' { s with toks:=tk }/\RelV v (.str d.shown s.toks)/\Q v H':=λ tk=>⟨.str d.shown,H,I.kept (λ _ _ e=>e),⟨_,Z⟩,q⟩
 have ref:∀a, v=.ref a->wpAny (model X.prog X.w) X.A (call (.builtin "repr") [u]) (λ r s'=>∃v H', Inv X pins σ H' s'/\RelV v r/\Q v H') X.xe s:=λ a e=>by subst e;cases ru;obtain ⟨as,ra,na⟩:=I.readsO sm hd (u:=.ref a) rfl;exact repr_of_reads' ra h1 (λ _=>na) hg (by omega) (λ _ _ e=>e) (λ h' u tk hk=>⟨.str d.shown,H,I.kept hk,⟨_,Z⟩,q⟩) h4
 cases hd with
 | non=>cases (show u=Value.none from ru); exact P.repr_of_none (flat _)
 | bl b=>cases (show u=Value.bool b from ru); exact P.repr_of_bool (flat _)
 | int i =>
  obtain ⟨t,e⟩:=(show ∃t,u=Value.int i t from ru)
  subst e;exact P.repr_of_int (by simpa [PyData.showable] using h1) (flat _)
 | str x =>
  obtain ⟨t,e⟩:=(show ∃t,u=Value.str x t from ru)
  subst e;exact P.repr_of_str (flat _) h4
 | lst _ _=>exact ref _ rfl
 | tup _ _=>exact ref _ rfl
 | emp _=>exact ref _ rfl
 | odd _ _ _=>exact ref _ rfl
end
end L2
namespace Pc
open PySem L2
def top (i:Nat):Stmt:=PySem.Challenge.pw_platecuts_k31_layings_judged.main.body.getD i (.Pass ⟨0,0,0,0⟩)
abbrev qF:Stmt:=top 0
abbrev fB:Stmt:=top 9
abbrev fC:Stmt:=top 10
abbrev mB:Stmt:=top 11
abbrev bM:Stmt:=top 12
abbrev dM:Stmt:=top 14
abbrev cC:Stmt:=top 17
abbrev cU:Stmt:=top 18
abbrev iL:Stmt:=top 19
abbrev bF:Stmt:=top 20
abbrev dN:Stmt:=top 24
abbrev dO:Stmt:=top 25
abbrev bT:Stmt:=inClass (top 26) 0
abbrev gS:Stmt:=inClass (top 26) 1
abbrev gT:Stmt:=inClass (top 26) 2
abbrev gj:Stmt:=inClass (top 26) 3
abbrev gl:Stmt:=inClass (top 26) 4
abbrev bC:Stmt:=inClass (top 26) 5
abbrev cg:Stmt:=inClass (top 26) 6
abbrev iM:Stmt:=top 28
abbrev mC:Stmt:=top 29
abbrev iN:Stmt:=top 30
abbrev iO:Stmt:=top 31
abbrev iP:Stmt:=top 32
abbrev fD:Stmt:=top 33
abbrev iQ:Stmt:=top 34
abbrev fE:Stmt:=top 35
abbrev dP:Stmt:=top 36
abbrev mD:Stmt:=top 37
abbrev fF:Stmt:=top 38
abbrev gm:Stmt:=top 39
abbrev ci:Stmt:=top 40
abbrev dQ:Stmt:=top 41
abbrev fG:Stmt:=top 42
abbrev dR:Stmt:=top 43
abbrev dS:Stmt:=top 44
abbrev mE:Stmt:=top 45
abbrev bD:Stmt:=top 46
abbrev dU:Stmt:=top 47
abbrev fH:Stmt:=top 48
abbrev gn:Stmt:=top 49
section
variable {P:Am} {w:Ao} {K:AV} {mg:Str->Option Ap} {base:Heap}
structure Blt (mg:Str->Option Value):Prop where
 isi:mg "isinstance" = none
 int:mg "int" = none
 bool:mg "bool" = none
 list:mg "list" = none
 tuple:mg "tuple" = none
 len:mg "len" = none
 range:mg "range" = none
 max:mg "max" = none
 min:mg "min" = none
 abs:mg "abs" = none
 divmod:mg "divmod" = none
 sum:mg "sum" = none
 sorted:mg "sorted" = none
 all:mg "all" = none
 repr:mg "repr" = none
 zip:mg "zip" = none
 enumerate:mg "enumerate" = none
 mostk:∃t,mg "MOST_KINDS" = some (.int 8 t)
 fivek:∃t,mg "THINGS_OF_A_KIND" = some (.int 5 t)
end
theorem aj {t u:TS} {D:Ends} {σ:St} {H:Hp} (J:St->Hp->Prop) (h1:∀R:St->Hp->Prop,(∀σ' H',J σ' H'->R σ' H')->t { D with nx:=R } σ H) (h2:∀σ' H',J σ' H'->u D σ' H'):qi t u D σ H:=h1 _ h2
section
variable {P:Am} {w:Ao} {K:AV} {mg:Str->Option Ap} {base:Heap}
theorem mF:FnScope ["thing","least"] ["thing","least"] (defScope fB):=⟨Z,Z,Z,by decide +kernel,Z,by decide +kernel,by decide +kernel⟩
theorem kW {f:Addr} {fd:An} (F:Fun K "is_whole" "is_whole" fB f fd) (B:Blt mg):FnOk P w K mg base CX0 1 f fd ["thing","least"] (bu K):=by
 refine F.ok mF (λ vs H Q E h=>?_) (λ cdv A outer s H vs Q E hr h=>?_)
 ·obtain ⟨x,T,l,rfl,_⟩:=h
  rfl
 obtain ⟨x,T,l,rfl,⟨tn,ty⟩,q⟩:=h;refine ⟨_,af (au (bH (aw aZ rfl B.isi PyProof.Rows.boot_isinstance (aa (pv 0) (aa (bc (v:=.ty "int") rfl B.int PyProof.Rows.boot_int rfl) ab)))
  (bH (fm (aw aZ rfl B.isi PyProof.Rows.boot_isinstance (aa (pv 0) (aa (bc (v:=.ty "bool") rfl B.bool PyProof.Rows.boot_bool rfl) ab))))
  (bU (aY kq (pv 0) (pv 1) (aA _)))))),?_⟩
 refine ⟨_,Z,x,_,_,_,_,Z,ty,Z,iH T tn,_,Z,?_⟩;have tb:=dH ty;refine bO (λ c=>?_) (λ c=>?_)
 ·refine ⟨_,Z,x,_,_,_,_,Z,ty,Z,cq T tn,_,Z,_,Z,?_⟩;refine bO (λ c2=>?_) (λ c2=>?_)
  ·have hT:(T == "int")=true:=by
    have:(T == "bool")=false:=by simpa using c2
    rw [this,Bool.or_false] at c; exact c
   obtain ⟨i,rfl⟩:=kO ty tn hT;exact ⟨_,Z,_,Z,_,_,Z,Z,q⟩
  ·have hT:fz x=true:=by
    rw [<- tb];cases e:(T == "bool") with
    | true=>rfl
    | false=>rw [e] at c2; exact absurd rfl c2
   cases x <;> first | exact q | (exact absurd hT AI)
 ·have hx:aE x l=false:=by
   cases x with
   | int i =>
    exfalso;have ty':=ty;generalize hv:Value.type T=tv at ty';cases ty' with
    | int=>cases hv; exact c rfl
   | _=>rfl
  rw [hx] at q;exact q
theorem mG:FnScope ["thing"] ["thing"] (defScope fC):=⟨Z,Z,Z,by decide +kernel,Z,by decide +kernel,by decide +kernel⟩
theorem kX {f:Addr} {fd:An} (F:Fun K "is_truth" "is_truth" fC f fd) (B:Blt mg):FnOk P w K mg base CX0 1 f fd ["thing"] (dI K):=by
 refine F.ok mG (λ vs H Q E h=>?_) (λ cdv A outer s H vs Q E hr h=>?_)
 ·obtain ⟨x,T,rfl,_⟩:=h
  rfl
 obtain ⟨x,T,rfl,⟨tn,ty⟩,q⟩:=h;refine ⟨_,af (au (aw aZ rfl B.isi PyProof.Rows.boot_isinstance (aa (pv 0) (aa (bc (v:=.ty "bool") rfl B.bool PyProof.Rows.boot_bool rfl) ab)))),?_⟩;refine ⟨_,Z,x,_,_,_,_,Z,ty,Z,cq T tn,?_⟩;rw [dH ty];exact q
theorem qG:FnScope ["thing"] ["thing"] (defScope mB):=⟨Z,Z,Z,by decide +kernel,Z,by decide +kernel,by decide +kernel⟩
theorem oh {f:Addr} {fd:An} (F:Fun K "is_row" "is_row" mB f fd) (B:Blt mg):FnOk P w K mg base CX0 1 f fd ["thing"] (eW K):=by
 refine F.ok qG (λ vs H Q E h=>?_) (λ cdv A outer s H vs Q E hr h=>?_)
 ·obtain ⟨x,T,rfl,_⟩:=h
  rfl
 obtain ⟨x,T,rfl,ty,q⟩:=h;refine ⟨_,af (au (aw ce rfl B.isi PyProof.Rows.boot_isinstance (aa (pv 0) (aa (aR (aa (bc (v:=.ty "list") rfl B.list PyProof.Rows.boot_list rfl) (aa (bc (v:=.ty "tuple") rfl B.tuple PyProof.Rows.boot_tuple rfl) ab))) ab)))),?_⟩;refine ⟨_,Z,zS2,λ p hp=>?_⟩;have s1:Same H (upd H p (.tup [.ty "list",.ty "tuple"])):=λ b o e=>by rw [ar (ah e hp)]; exact e
 have t2:=Ty.same s1 ty;exact ⟨x,p,_,_,_,_,Z,t2.2,ag,Z,cR T ty.1,q _ s1⟩
theorem scIsKind:FnScope ["thing","wide","high","worth","wanted","turns"] ["thing"] (defScope dN):=⟨Z,Z,Z,by decide +kernel,Z,by decide +kernel,by decide +kernel⟩
theorem jm {f:Addr} {fd:An} (F:Fun K "is_kind" "is_kind" dN f fd) (B:Blt mg) (DW:Dn P w K mg base "is_whole" ["thing","least"] 1 (bu K)) (DT:Dn P w K mg base "is_truth" ["thing"] 1 (dI K)) (DR:Dn P w K mg base "is_row" ["thing"] 1 (eW K)) :
  FnOk P w K mg base CX0 2 f fd ["thing"] (cS K):=by
 refine F.ok scIsKind (λ vs H Q E h=>?_) (λ cdv A outer s H vs Q E hr h=>?_)
 ·obtain ⟨x,T,rfl,_⟩:=h
  rfl
 obtain ⟨x,T,rfl,ty,q⟩:=h;obtain ⟨tk,htk⟩:=B.fivek;have nd:=scIsKind.nd;refine ⟨_,ae (aK (PW.pt (bg (aF (aB (ai DR hr rfl (aa (pv 0) ab)))) (bd (aH dZ (aw aI rfl B.len PySem.boot_len (aa (pv 0) ab)) (fj (v:=.int 5) rfl htk ⟨tk,Z⟩) (aA _))))) (af (au aX)) ax)
  (ae (bX (pv 0) (kM rfl (az (ay (i:=1) nd rfl (Or.inl rfl)) (az (ay (i:=2) nd rfl (Or.inl rfl)) (az (ay (i:=3) nd rfl (Or.inl rfl)) (az (ay (i:=4) nd rfl (Or.inl rfl)) (az (ay (i:=5) nd rfl (Or.inl rfl)) br)))))))
  (ae (aK (PW.pt (bg (aF (aB (ai DW hr rfl (aa (pv 1) (aa ad ab))))) (bd (aF (aB (ai DW hr rfl (aa (pv 2) (aa ad ab)))))))) (af (au aX)) ax)
  (af (au (bH (ai DW hr rfl (aa (pv 3) (aa ad ab))) (bH (ai DW hr rfl (aa (pv 4) (aa ad ab))) (bU (ai DT hr rfl (aa (pv 5) ab))))))))),?_⟩
 refine ⟨_,Z,x,T,Z,ty,λ H1 s1=>⟨_,Z,?_⟩⟩;rcases q with ⟨n1,n2,q⟩ | ⟨a,xs,rfl,hx,its,q⟩
 ·have e:(T == "list" || T == "tuple")=false:=by simp [n1,n2]
  rw [e];refine aO (aO ?_);exact q H1 s1
 ·have e:(T == "list" || T == "tuple")=true:=by
   have t2:=ty.2;generalize hv:Value.type T=tv at t2;generalize hr:V.ref a=rv at t2;cases t2 with
   | lst _=>cases hv; rfl
   | frz _=>cases hv; rfl
   | tup _=>cases hv; rfl
   | dK e=>cases hr; rcases hx with z | z <;> (rw [z] at e; cases e)
   | dT e=>cases hr; rcases hx with z | z <;> (rw [z] at e; cases e)
   | ext e _=>cases hr; rcases hx with z | z <;> (rw [z] at e; cases e)
   | ins=>cases hv
   | _=>cases hr
  rw [e];have sq:SqL K H1 a xs\/SqT K H1 a xs:=by
   rcases hx with z | z
   ·exact .inl (As (s1 _ _ z))
   ·exact .inr (Ar (s1 _ _ z))
  refine aJ ⟨_,rfl,a,xs,rfl,sq,rfl,_,rfl,?_⟩;refine bO (λ c=>?_) (λ c=>?_)
  ·have hl:xs.length≠5:=λ z=>by rw [z] at c; exact absurd c (by decide)
   have:eX xs=false:=by
    unfold eX
    split
    ·exact absurd rfl hl
    ·rfl
   rw [this] at q;exact q H1 s1
  ·have hl:xs.length=5:=by
    by_cases z:xs.length=5
    ·exact z
    ·exfalso;apply c;have:¬ (V.int (xs.length:Int)=V.int 5):=λ h=>z (by have:=V.int.inj h; omega);rw [decide_eq_false this]; rfl
   obtain ⟨x1,x2,x3,x4,x5,rfl⟩:∃x1 x2 x3 x4 x5,xs=[x1,x2,x3,x4,x5]:=by
    match xs,hl with
    | [a,b,c,d,e],_=>exact ⟨a,b,c,d,e,Z⟩
   obtain ⟨T1,t1⟩:=its x1 (by simp);obtain ⟨T2,t2⟩:=its x2 (by simp);obtain ⟨T3,t3⟩:=its x3 (by simp);obtain ⟨T4,t4⟩:=its x4 (by simp);obtain ⟨T5,t5⟩:=its x5 (by simp);refine ⟨_,Z,a,_,Z,sq,Z,x1,_,Z,x2,_,Z,x3,_,Z,x4,_,Z,x5,_,Z,Z,?_⟩;refine ⟨_,Z,x1,T1,1,Z,Ty.same s1 t1,_,Z,?_⟩;have q':∀b,eX [x1,x2,x3,x4,x5]=b->Q (.bl b) H1:=λ b e=>by rw [<- e]; exact q H1 s1
   have k5:eX [x1,x2,x3,x4,x5]=(aE x1 1 && aE x2 1 && aE x3 0 && aE x4 0 && fz x5):=rfl;cases w1:aE x1 1 with
   | false =>
    refine aO (aO ?_);exact q' false (by rw [k5,w1]; rfl)
   | true =>
    refine aJ ⟨_,rfl,x2,T2,1,rfl,Ty.same s1 t2,_,rfl,?_⟩;cases w2:aE x2 1 with
    | false =>
     refine aO ?_;exact q' false (by rw [k5,w1,w2]; rfl)
    | true =>
     refine aJ ⟨_,rfl,x3,T3,0,rfl,Ty.same s1 t3,_,rfl,?_⟩;cases w3:aE x3 0 with
     | false =>
      refine aJ ?_;exact q' false (by rw [k5,w1,w2,w3]; rfl)
     | true =>
      refine aO ⟨_,rfl,x4,T4,0,rfl,Ty.same s1 t4,_,rfl,?_⟩;cases w4:aE x4 0 with
      | false =>
       refine aJ ?_;exact q' false (by rw [k5,w1,w2,w3,w4]; rfl)
      | true =>
       refine aO ⟨_,rfl,x5,T5,rfl,Ty.same s1 t5,?_⟩;exact q' _ (by rw [k5,w1,w2,w3,w4]; rfl)
end
section
variable {P:Am} {w:Ao} {K:AV} {mg:Str->Option Ap} {base:Heap}
theorem scInit:FnScope ["self","blade","kinds","kind"] ["self","blade","kinds"] (defScope bT):=⟨Z,Z,Z,by decide +kernel,Z,by decide +kernel,by decide +kernel⟩
theorem mH {f C:Addr} {fd:An} (F:Fun K "__init__" "Shop.__init__" bT f fd) (B:Blt mg) (T:ShopTxt K C) (DW:Dn P w K mg base "is_whole" ["thing","least"] 1 (bu K)) (DR:Dn P w K mg base "is_row" ["thing"] 1 (eW K))
  (DK:Dn P w K mg base "is_kind" ["thing"] 2 (cS K)):FnOk P w K mg base CX0 3 f fd ["self","blade","kinds"] (gM C):=by
 refine F.ok scInit (λ vs H Q E h=>?_) (λ cdv A outer s H vs Q E hr h=>?_)
 ·obtain ⟨x,dx,ks,b,rs,kds,rfl,_⟩:=h
  rfl
 obtain ⟨x,dx,ks,b,rs,kds,rfl,hx,b0,hks,hrs,hgd,n1,n8,q⟩:=h;have hr1:=hr.mono (show 1<=2 by decide);obtain ⟨tk,htk⟩:=B.mostk;have nd:=scInit.nd;have n8':(8:Nat) < sizeLine:=by decide
 refine ⟨_,ae (aK (aF (aB (ai DW hr1 rfl (aa (pv 1) (aa ad ab))))) cY ax)
  (ae (aK (PW.pt (bg (aF (aB (ai DR hr1 rfl (aa (pv 2) ab)))) (bd (aF (ku dy dy ad (aw aI rfl B.len PySem.boot_len (aa (pv 2) ab)) (fj (v:=.int 8) rfl htk ⟨tk,rfl⟩)))))) cY ax)
  (ae (bN Ab rfl (eo (pv 2)) (ay (i:=3) nd rfl (Or.inl rfl)) (af (aK (aF (aB (ai DK hr rfl (aa (pv 3) ab)))) cY ax)))
  (ae (kB (pv 0) (pv 1) rfl)
  (af (kB (pv 0) (aW be rfl B.tuple PyProof.Rows.boot_tuple (aa (fy (own:=["kind"]) (cs:=[]) (cap:=[]) rfl (eo (pv 2))
   (cA (sc:=defScope bT) (N:=["self","blade","kinds","kind"]) rfl rfl (by decide +kernel))
   (λ _ _ _ _ _=>ay (i:=0) (by show List.Nodup (["kind"]:List Str); decide +kernel) rfl (Or.inl rfl) (Or.inr rfl)) (λ _ _ _ _ _=>cO)
   (λ _ _ _ _ _=>aW (r:=kP K) be rfl B.tuple PyProof.Rows.boot_tuple (aa (pv 0) ab))) ab)) rfl))))),?_⟩
 refine ⟨_,Z,.int b,_,0,Z,.int,_,Z,?_⟩;have wb:aE (.int b) 0=true:=decide_eq_true b0;rw [wb];refine aJ ?_;have tyk:∃T,Ty K H (.ref ks) T/\(T == "list" || T == "tuple")=true:=by
  rcases hks with e | e
  ·exact ⟨_,.lst e,Z⟩
  ·exact ⟨_,.tup e,Z⟩
 obtain ⟨T0,ty0,te0⟩:=tyk;refine ⟨_,Z,.ref ks,T0,Z,ty0,λ H1 s1=>⟨_,Z,?_⟩⟩;rw [te0];have sq:∀ {H2:Hp},Same H H2->SqL K H2 ks rs\/SqT K H2 ks rs:=λ s2=>by
  rcases hks with z | z
  ·exact .inl (As (s2 _ _ z))
  ·exact .inr (Ar (s2 _ _ z))
 refine aJ ⟨_,rfl,ks,rs,rfl,sq s1,_,_,rfl,rfl,_,rfl,?_⟩;rw [decide_eq_true (show (1:Int)<=(rs.length:Int) by omega)];refine aO ⟨_,_,rfl,rfl,_,rfl,?_⟩;rw [decide_eq_true (show (rs.length:Int)<=8 by omega)];refine aJ ?_;have oy:=Aa hrs;refine fY (j:=2) (a:=ks) (xs:=rs) rfl (hks.imp (λ z=>s1 _ _ z) λ z=>s1 _ _ z) (λ i σ H2=>∃v,σ=[some (.ref x),some (.int b),some (.ref ks),v]/\Same H1 H2) ⟨none,rfl,Same.refl _⟩ (λ i σ H2 _ ⟨_,_,s2⟩ o e=>s2 _ _ e) ?_ ?_
 ·rintro i y σ H2 hi ⟨v,rfl,s2⟩;obtain ⟨k,hk,rk⟩:=Au hrs hi;refine ⟨_,Z,?_⟩;simp only [mf,List.append_nil];refine ji ((rk.same s1).same s2) (hgd k (AL hk)) λ H3 s3=>⟨_,Z,aJ ?_⟩
  exact ⟨_,Z,s2.trans s3⟩
 rintro σ H2 ⟨v,rfl,s12⟩;have s2:Same H H2:=s1.trans s12;refine ⟨_,Z,_,Z,x,C,dx,[],Z,s2 _ _ hx,T.cl,T.nB,(by show 0 < 1000; decide),?_⟩;have k3:∀c o,c≠x->H c=some o->(upd H2 x (.ins C dx (bK "blade_width" (.int b) []))) c=some o:=λ c o n e=>by rw [ar n]; exact s2 c o e
 have x3:(upd H2 x (.ins C dx (bK "blade_width" (.int b) []))) x=some (.ins C dx (bK "blade_width" (.int b) [])):=ag;generalize upd H2 x (.ins C dx (bK "blade_width" (.int b) []))=H3 at k3 x3 ⊢;have rx:∀c xs,H c=some (.lst xs)\/H c=some (.tup xs)->c≠x:=λ c xs e z=>by subst z;rcases e with e | e <;> (rw [hx] at e; cases e)
 dsimp only [qu,tCB,iC];refine dk (j:=2) (a:=ks) (xs:=rs) rfl (hks.imp (λ z=>k3 _ _ (rx _ _ (.inl z)) z) λ z=>k3 _ _ (rx _ _ (.inr z)) z) (λ i ys H4=>ys.length=i/\Same H3 H4/\Tups H4 ys (kds.take i)) (λ i ys H4 _ ⟨_,s4,_⟩ o e=>s4 _ _ e) ⟨rfl,Same.refl _,.nil⟩ ?_ ?_
 ·rintro i y ys H4 hi ⟨hy,s4,ty4⟩;have hin:i < rs.length:=(AD.mp hi).1;obtain ⟨k,hk,rk⟩:=Au hrs hi;have tk1:kds.take (i + 1)=kds.take i ++ [k]:=by rw [List.take_add_one,hk]; rfl
  refine ⟨by omega,leS.set rfl,cQ ?_⟩;rcases rk with ⟨a,rfl,h⟩ | ⟨a,rfl,h⟩
  ·have h4:=s4 _ _ (k3 _ _ (rx _ _ (.inr h)) h);exact ⟨_,Z,a,_,Z,.inr ⟨Ar h4,Nx.of hin ⟨by rw [List.length_append,hy]; rfl,s4,by rw [tk1]; exact Paired.snoc ty4 ⟨a,Z,h4⟩⟩⟩⟩
  ·have h4:=s4 _ _ (k3 _ _ (rx _ _ (.inl h)) h);refine ⟨_,Z,a,_,Z,.inl ⟨As h4,λ l hl=>Nx.of hin ⟨by rw [List.length_append,hy]; rfl,λ c o e=>?_,?_⟩⟩⟩
   ·have e4:=s4 c o e;rw [ar (ah e4 hl)]; exact e4
   ·rw [tk1];exact Paired.snoc (Tups.keep (λ c xs e=>by rw [ar (ah e hl)]; exact e) ty4) ⟨l,rfl,ag⟩
 rintro ys H4 ⟨hy,s4,ty4⟩;refine ⟨by omega,λ p hp=>?_⟩;refine ⟨p,ys,Z,.inl ⟨As ag,λ r hr'=>?_⟩⟩;have hpr:r≠p:=λ z=>by rw [z,ag] at hr'; cases hr'
 have hr4:H4 r=none:=by rw [ar hpr] at hr'; exact hr'
 have x4:=s4 _ _ x3;have xp:x≠p:=ah x4 hp;have xr:x≠r:=ah x4 hr4;refine ⟨_,Z,x,C,dx,_,Z,(by rw [ar xr,ar xp]; exact x4),T.cl,T.nK,(Nat.lt_of_le_of_lt (cn _ _ _) (by decide)),?_⟩;rw [oy,List.take_length] at ty4;refine q _ ⟨dx,r,ys,ag,by rw [ar (Ne.symm xr),ag],?_⟩ λ c o n e=>?_
 ·refine Tups.keep (λ c xs e=>?_) ty4;rw [ar (λ z=>by rw [z,x4] at e; cases e),ar (ah e hr4),ar (ah e hp)];exact e
 ·have e4:=s4 _ _ (k3 c o n e);rw [ar n,ar (ah e4 hr4),ar (ah e4 hp)];exact e4
end
section
variable {P:Am} {w:Ao} {K:AV} {mg:Str->Option Ap} {base:Heap}
theorem kY:FnScope ["kind"] ["kind"] (defScope dO):=⟨Z,Z,Z,by decide +kernel,Z,by decide +kernel,by decide +kernel⟩
theorem jn {f:Addr} {fd:An} (F:Fun K "can_lie_turned" "can_lie_turned" dO f fd):FnOk P w K mg base CX0 1 f fd ["kind"] (eC K):=by
 refine F.ok kY (λ vs H Q E h=>?_) (λ cdv A outer s H vs Q E hr h=>?_)
 ·obtain ⟨a,k,rfl,_⟩:=h
  rfl
 obtain ⟨a,k,rfl,ha,q⟩:=h;refine ⟨_,af (au (bH (am ix_tup (pv 0) ad (λ _ _=>rfl)) (bU (aY dZ (am ix_tup (pv 0) ad (λ _ _=>rfl)) (am ix_tup (pv 0) ad (λ _ _=>rfl)) (aA _))))),?_⟩;refine ⟨_,Z,a,_,4,_,Z,Z,Ar ha,Z,_,Z,?_⟩;unfold aP at q;refine bO (λ c=>?_) (λ c=>?_)
 ·rw [c,Bool.true_and] at q;refine ⟨_,Z,a,_,0,_,Z,Z,Ar ha,Z,_,Z,a,_,1,_,Z,Z,Ar ha,Z,Z,?_⟩;rw [ft];rw [show (decide (k.w=k.h))=(k.w == k.h) from rfl] at q;exact q
 ·have c':k.tu=false:=by simpa using c
  rw [c',Bool.false_and] at q;exact q
theorem jo:FnScope ["self","kind","turned"] ["self","kind","turned"] (defScope bC):=⟨Z,Z,Z,by decide +kernel,Z,by decide +kernel,by decide +kernel⟩
theorem gU {f C:Addr} {fd:An} (F:Fun K "is_lying" "Shop.is_lying" bC f fd) (B:Blt mg) (T:ShopTxt K C) (DW:Dn P w K mg base "is_whole" ["thing","least"] 1 (bu K)) (DU:Dn P w K mg base "is_truth" ["thing"] 1 (dI K)) (DT:Dn P w K mg base "can_lie_turned" ["kind"] 1 (eC K)) :
  FnOk P w K mg base CX0 2 f fd ["self","kind","turned"] (cB K C):=by
 refine F.ok jo (λ vs H Q E h=>?_) (λ cdv A outer s H vs Q E hr h=>?_)
 ·obtain ⟨s,b,ks,x,t,T0,U,rfl,_⟩:=h
  rfl
 obtain ⟨s,b,ks,x,t,T0,U,rfl,⟨dx,r,rs,h1,h2,h3⟩,tx,tt,q⟩:=h;have oz:=Aa h3;refine ⟨_,ae (aK (PW.pt (bg (aF (aB (ai DW hr rfl (aa (pv 1) (aa ad ab))))) (bg (aH kq (pv 1) (aw aI rfl B.len PySem.boot_len (aa (gF (pv 0) rfl) ab)) (aA _))
   (bd (aF (aB (ai DU hr rfl (aa (pv 2) ab)))))))) (af (au aX)) ax)
  (af (au (iw (fm (pv 2)) (bU (ai DT hr rfl (aa (am ix_tup (gF (pv 0) rfl) (pv 1) (λ _ _=>rfl)) ab)))))),?_⟩
 refine ⟨_,Z,x,_,0,Z,tx,_,Z,?_⟩;cases hw:aE x 0 with
 | false =>
  have e:bf ks x t=false:=by
   cases x with
   | int i =>
    have h0:decide (0<=i)=false:=hw;cases t <;> first | rfl | (show (decide (0<=i) && _)=false; rw [h0,Bool.false_and])
   | _=>rfl
  rw [e] at q;exact aO (aO q)
 | true =>
  have ex:∃i,x=.int i/\0<=i:=by
   cases x with
   | int i=>exact ⟨i,Z,AR hw⟩
   | _=>cases hw
  obtain ⟨i,rfl,i0⟩:=ex;refine aJ ⟨_,rfl,_,rfl,s,C,dx,_,_,rfl,h1,T.cl,T.nK,dn _ _,r,rs,rfl,.inr (Ar h2),i,_,rfl,rfl,_,rfl,?_⟩
  by_cases hi:(rs.length:Int)<=i
  ·rw [decide_eq_true hi];have e:bf ks (.int i) t=false:=by have hn:ks[i.toNat]? = none:=List.getElem?_eq_none (by omega);cases t <;> first | rfl | (show (decide (0<=i) && match ks[i.toNat]? with | some k=>_ | none=>false)=false; rw [hn,Bool.and_false])
   rw [e] at q;exact aO (aO q)
  ·rw [decide_eq_false hi];refine aJ ⟨_,rfl,t,_,rfl,tt,_,rfl,?_⟩;have hlt:i.toNat < ks.length:=by omega
   cases hb:fz t with
   | false =>
    have e:bf ks (.int i) t=false:=by cases t <;> first | rfl | cases hb
    rw [e] at q;exact aO q
   | true =>
    have ex:∃c,t=.bl c:=by cases t <;> first | exact ⟨_,Z⟩ | cases hb
    obtain ⟨c,rfl⟩:=ex;obtain ⟨y,hy⟩:∃y,rs[i.toNat]? = some y:=⟨rs[i.toNat]'(by omega),by simp [show i.toNat < rs.length by omega]⟩
    obtain ⟨k,hk,a,rfl,ha⟩:=Au h3 hy;have e:bf ks (.int i) (.bl c)=(!c || aP k):=by show (decide (0<=i) && match ks[i.toNat]? with | some k=>(!c || aP k) | none=>false)=_;rw [hk,decide_eq_true i0,Bool.true_and]
    rw [e] at q;refine aJ ⟨_,rfl,c,rfl,_,rfl,?_⟩;refine bO (λ d=>?_) (λ d=>?_)
    ·rw [d,Bool.true_or] at q;exact q
    ·have d':(!c)=false:=by simpa using d
     rw [d',Bool.false_or] at q;have at':atI rs i=some (.ref a):=by
      have en:ixN rs.length i=some i.toNat:=by unfold ixN;rw [if_pos i0,if_pos (by omega)]
      unfold atI;rw [en];exact hy
     exact ⟨_,Z,s,C,dx,_,_,Z,h1,T.cl,T.nK,dn _ _,_,Z,r,rs,i,_,Z,Z,Ar h2,at',a,k,Z,ha,q⟩
end
def fI (k:Kd) (c:Bool):List V:=if c=true then [.int k.h,.int k.w] else [.int k.w,.int k.h]
inductive spSides (K:AV) (C:Addr) (vs:List V) (H:Hp) (Q:VK) (E_:XK):Prop
 | mk (s:Addr) (b:Int) (ks:List Kd) (x t:V) (T U:String) (e_1:vs=[.ref s,x,t]) (e_2:ShopAt C H s b ks) (e_3:Ty K H x T) (e_4:Ty K H t U) (e_5:bf ks x t=true) (e_6:∀ (i:Int) (c:Bool) (k:Kd) (p:Addr),x=.int i->t=.bl c->ks[i.toNat]? = some k->bf ks x t=true->H p=none->Q (.ref p) (upd H p (.tup (fI k c)))):spSides K C vs H Q E_
theorem du {ks:List Kd} {x t:V} (h:bf ks x t=true):∃ (i:Int) (c:Bool) (k:Kd),x=.int i/\t=.bl c/\0<=i/\ks[i.toNat]? = some k:=by
 unfold bf at h
 split at h
 ·rename_i i c
  rw [Bool.and_eq_true] at h;obtain ⟨h1,h2⟩:=h
  split at h2
  ·rename_i k hk
   exact ⟨i,c,k,Z,Z,AR h1,hk⟩
  ·cases h2
 ·cases h
theorem oi {rs:List V} {i:Int} {v:V} (i0:0<=i) (h:rs[i.toNat]? = some v):atI rs i=some v:=by
 have en:ixN rs.length i=some i.toNat:=by unfold ixN;have:=(AD.mp h).1;rw [if_pos i0,if_pos (by omega)]
 unfold atI;rw [en];exact h
section
variable {P:Am} {w:Ao} {K:AV} {mg:Str->Option Ap} {base:Heap}
theorem scSides:FnScope ["self","kind","turned","row"] ["self","kind","turned"] (defScope cg):=⟨Z,Z,Z,by decide +kernel,Z,by decide +kernel,by decide +kernel⟩
theorem kZ {f C:Addr} {fd:An} (F:Fun K "sides" "Shop.sides" cg f fd) (T:ShopTxt K C) (ML:Mn P w K mg base C "is_lying" ["self","kind","turned"] 2 (cB K C)) :
  FnOk P w K mg base CX0 3 f fd ["self","kind","turned"] (spSides K C):=by
 refine F.ok scSides (λ vs H Q E h=>?_) (λ cdv A outer s H vs Q E hr h=>?_)
 ·obtain ⟨s,b,ks,x,t,T0,U,rfl,_⟩:=h
  rfl
 obtain ⟨s,b,ks,x,t,T0,U,rfl,S,tx,tt,he,hq⟩:=h;have nd:=scSides.nd;refine ⟨_,ae (aK (aF (aB (iK (pv 0) T.cl ML hr (aa (pv 1) (aa (pv 2) ab))))) (af fS) ax)
  (ae (aD (i:=3) nd rfl (Or.inl rfl) (am ix_tup (gF (pv 0) rfl) (pv 1) (λ _ _=>rfl)))
  (ae (aK (aB (pv 2)) (af (au (aR (aa (am ix_tup (pv 3) ad (λ _ _=>rfl)) (aa (am ix_tup (pv 3) ad (λ _ _=>rfl)) ab))))) ax)
  (af (au (aR (aa (am ix_tup (pv 3) ad (λ _ _=>rfl)) (aa (am ix_tup (pv 3) ad (λ _ _=>rfl)) ab))))))),?_⟩
 obtain ⟨dx,r,rs,h1,h2,h3⟩:=id S;refine ⟨_,Z,s,dx,_,Z,h1,dJ _ _ (by decide +kernel) (by decide +kernel),_,Z,_,Z,s,b,ks,x,t,T0,U,Z,S,tx,tt,_,Z,?_⟩;cases hl:bf ks x t with
 | false=>rw [hl] at he; cases he
 | true =>
  obtain ⟨i,c,k,rfl,rfl,i0,hk⟩:=du hl;have oz:=Aa h3;have hik:=(AD.mp hk).1;obtain ⟨y,hy⟩:∃y,rs[i.toNat]? = some y:=⟨rs[i.toNat]'(by omega),by simp [show i.toNat < rs.length by omega]⟩
  obtain ⟨k',hk',a,rfl,ha⟩:=Au h3 hy;rw [hk] at hk';obtain rfl:=AO hk';refine aJ ?_;refine ⟨_,Z,s,C,dx,_,_,Z,h1,T.cl,T.nK,dn _ _,_,Z,r,rs,i,_,Z,Z,Ar h2,oi i0 hy,?_⟩;refine ⟨_,Z,_,Z,?_⟩;cases c with
  | true =>
   refine aO ?_;refine ⟨_,Z,a,_,1,_,Z,Z,Ar ha,Z,_,Z,a,_,0,_,Z,Z,Ar ha,Z,zS2,λ p hp=>?_⟩;exact hq i true k p rfl rfl hk hl hp
  | false =>
   refine aJ ?_;refine ⟨_,Z,a,_,0,_,Z,Z,Ar ha,Z,_,Z,a,_,1,_,Z,Z,Ar ha,Z,zS2,λ p hp=>?_⟩;exact hq i false k p rfl rfl hk hl hp
end
abbrev fJ:PyData:=.dict [(.tuple [.int 0,.bool false,.int 0,.int 0],.int 0)]
abbrev gW:List V:=[.int 0,.bl false,.int 0,.int 0]
theorem Ty.odd {K:AV} {H:Hp} {a kt:Addr} (h:H a=some (.ext (OddD a kt 0))):Ty K H (.ref a) "dict" := ⟨by simp [aL],.ext h OddD.cls⟩
mutual
inductive Dt (p:Addr) (H:Hp):V->PyData->Prop
 | non:Dt p H .non .none
 | bl (b:Bool):Dt p H (.bl b) (.bool b)
 | int (i:Int):Dt p H (.int i) (.int i)
 | str (z:Str):Dt p H (.str z) (.str z)
 | lst {a:Addr} {xs:List V} {ds:List PyData}:a≠p->H a=some (.lst xs)->Dts p H xs ds->Dt p H (.ref a) (.list ds)
 | tup {a:Addr} {xs:List V} {ds:List PyData}:H a=some (.tup xs)->Dts p H xs ds->Dt p H (.ref a) (.tuple ds)
 | emp {a:Addr}:H a=some (.dK [])->Dt p H (.ref a) (.dict [])
 | odd {a kt:Addr}:H a=some (.ext (OddD a kt 0))->H kt=some (.tup gW)->Dt p H (.ref a) fJ
inductive Dts (p:Addr) (H:Hp):List V->List PyData->Prop
 | nil:Dts p H [] []
 | cons {x:V} {d:PyData} {xs:List V} {ds:List PyData}:Dt p H x d->Dts p H xs ds->Dts p H (x :: xs) (d :: ds)
end
mutual
theorem Dt.same {p:Addr} {H H':Hp} (s:Same H H'):∀ {v:V} {d:PyData},Dt p H v d->Dt p H' v d
 | _,_,.non=>.non
 | _,_,.bl b=>.bl b
 | _,_,.int i=>.int i
 | _,_,.str z=>.str z
 | _,_,.lst n h r=>.lst n (s _ _ h) (r.same s)
 | _,_,.tup h r=>.tup (s _ _ h) (r.same s)
 | _,_,.emp h=>.emp (s _ _ h)
 | _,_,.odd h k=>.odd (s _ _ h) (s _ _ k)
theorem Dts.same {p:Addr} {H H':Hp} (s:Same H H'):∀ {vs:List V} {ds:List PyData},Dts p H vs ds->Dts p H' vs ds
 | _,_,.nil=>.nil
 | _,_,.cons a r=>.cons (a.same s) (r.same s)
end
theorem Dts.length {p:Addr} {H:Hp}:∀ {vs:List V} {ds:List PyData},Dts p H vs ds->vs.length=ds.length
 | _,_,.nil=>rfl
 | _,_,.cons _ r=>by rw [List.length_cons,List.length_cons,r.length]
theorem Dt.ty {K:AV} {p:Addr} {H:Hp} {v:V} {d:PyData} (h:Dt p H v d):∃T,Ty K H v T:=by
 cases h with
 | non=>exact ⟨_,Ty.non⟩
 | bl b=>exact ⟨_,Ty.bl⟩
 | int i=>exact ⟨_,Ty.int⟩
 | str z=>exact ⟨_,Ty.str⟩
 | lst _ h _=>exact ⟨_,Ty.lst h⟩
 | tup h _=>exact ⟨_,Ty.tup h⟩
 | emp h=>exact ⟨_,Ty.dK h⟩
 | odd h _=>exact ⟨_,Ty.odd h⟩
mutual
theorem Dt.but {p:Addr} {H H':Hp} (hp:∃xs,H p=some (.lst xs)) (b:But p H H'):∀ {v:V} {d:PyData},Dt p H v d->Dt p H' v d
 | _,_,.non=>.non
 | _,_,.bl b=>.bl b
 | _,_,.int i=>.int i
 | _,_,.str z=>.str z
 | _,_,.lst n h r=>.lst n (b _ _ n h) (r.but hp b)
 | _,_,.tup h r=>.tup (b _ _ (λ z=>by obtain ⟨_,e⟩:=hp; rw [z,e] at h; cases h) h) (r.but hp b)
 | _,_,.emp h=>.emp (b _ _ (λ z=>by obtain ⟨_,e⟩:=hp; rw [z,e] at h; cases h) h)
 | _,_,.odd h k=>.odd (b _ _ (λ z=>by obtain ⟨_,e⟩:=hp; rw [z,e] at h; cases h) h) (b _ _ (λ z=>by obtain ⟨_,e⟩:=hp; rw [z,e] at k; cases k) k)
theorem Dts.but {p:Addr} {H H':Hp} (hp:∃xs,H p=some (.lst xs)) (b:But p H H'):∀ {vs:List V} {ds:List PyData},Dts p H vs ds->Dts p H' vs ds
 | _,_,.nil=>.nil
 | _,_,.cons a r=>.cons (a.but hp b) (r.but hp b)
end
mutual
def wt:PyData->Nat
 | .str z=>z.length + 1
 | .list ds=>wts ds + 1
 | .tuple ds=>wts ds + 1
 | _=>1
def wts:List PyData->Nat
 | []=>0
 | d :: r=>wt d + wts r
end
theorem qH (d:PyData):1<=wt d:=by cases d <;> simp only [wt] <;> omega
def aV:PyData->Option (List PyData)
 | .list ds=>some ds
 | .tuple ds=>some ds
 | _=>none
theorem Dt.row {K:AV} {p:Addr} {H:Hp} {v:V} {d:PyData} (h:Dt p H v d):(aV d=none/\∃T,Ty K H v T/\(T == "list" || T == "tuple")=false)\/∃a xs ds T,aV d=some ds/\v=.ref a/\(H a=some (.lst xs)\/H a=some (.tup xs))/\Dts p H xs ds/\Ty K H v T/\(T == "list" || T == "tuple")=true:=by
 cases h with
 | non=>exact .inl ⟨Z,_,Ty.non,Z⟩
 | bl b=>exact .inl ⟨Z,_,Ty.bl,Z⟩
 | int i=>exact .inl ⟨Z,_,Ty.int,Z⟩
 | str z=>exact .inl ⟨Z,_,Ty.str,Z⟩
 | lst _ h r=>exact .inr ⟨_,_,_,_,Z,Z,.inl h,r,Ty.lst h,Z⟩
 | tup h r=>exact .inr ⟨_,_,_,_,Z,Z,.inr h,r,Ty.tup h,Z⟩
 | emp h=>exact .inl ⟨Z,_,Ty.dK h,Z⟩
 | odd h _=>exact .inl ⟨Z,_,Ty.odd h,Z⟩
def bw (d:PyData) (z:Str) (n:Nat):Bool:=match aV d with
 | some (.str y :: r)=>decide (r.length + 1=n) && decide (y=z)
 | _=>false
section
variable {P:Am} {w:Ao} {K:AV} {mg:Str->Option Ap} {base:Heap}
def sd1 (k:Kd) (c:Bool):Int:=if c=true then k.h else k.w
def sd2 (k:Kd) (c:Bool):Int:=if c=true then k.w else k.h
theorem la (k:Kd) (c:Bool):fI k c=[.int (sd1 k c),.int (sd2 k c)]:=by cases c <;> rfl
def cw (ks:List Kd) (w h:Int) (kv tv xv yv:V):Bool:=bf ks kv tv && aE xv 0 && aE yv 0 && (match kv,tv,xv,yv with
 | .int i,.bl c,.int x,.int y=>(match ks[i.toNat]? with
  | some k=>decide (x + sd1 k c<=w) && decide (y + sd2 k c<=h)
  | none=>false)
 | _,_,_,_=>false)
inductive spLiesG (K:AV) (C:Addr) (vs:List V) (H:Hp) (Q:VK) (E_:XK):Prop
 | mk (s:Addr) (b:Int) (ks:List Kd) (w h:Int) (kv tv xv yv:V) (T1 T2 T3 T4:String) (e_1:vs=[.ref s,.int w,.int h,kv,tv,xv,yv]) (e_2:ShopAt C H s b ks) (e_3:Ty K H kv T1) (e_4:Ty K H tv T2) (e_5:Ty K H xv T3) (e_6:Ty K H yv T4) (e_7:∀H',Same H H'->Q (.bl (cw ks w h kv tv xv yv)) H'):spLiesG K C vs H Q E_
theorem scliesG:FnScope ["shop","wide","high","kind","turned","x","y","piece_wide","piece_high"] ["shop","wide","high","kind","turned","x","y"] (defScope dM):=⟨Z,Z,Z,by decide +kernel,Z,by decide +kernel,by decide +kernel⟩
theorem lb {f C:Addr} {fd:An} (F:Fun K "lies_in" "lies_in" dM f fd) (T:ShopTxt K C) (DW:Dn P w K mg base "is_whole" ["thing","least"] 1 (bu K)) (MI:Mn P w K mg base C "is_lying" ["self","kind","turned"] 2 (cB K C)) (MS:Mn P w K mg base C "sides" ["self","kind","turned"] 3 (spSides K C)):FnOk P w K mg base CX0 4 f fd ["shop","wide","high","kind","turned","x","y"] (spLiesG K C):=by
 refine F.ok scliesG (λ vs H Q E h=>?_) (λ cdv A outer s H vs Q E hr h=>?_)
 ·obtain ⟨s,b,ks,w1,h1,kv,tv,xv,yv,T1,T2,T3,T4,rfl,_⟩:=h
  rfl
 obtain ⟨s,b,ks,w1,h1',kv,tv,xv,yv,T1,T2,T3,T4,rfl,S,t1,t2,t3,t4,q⟩:=h;have nd:=scliesG.nd;have hr1:=hr.mono (show 1<=3 by decide);have hr2:=hr.mono (show 2<=3 by decide);refine ⟨_,(@ae _ _ _ _ _ (@aK _ _ _ _ _ _ _ _ (PW.pt (bg (@aF _ _ _ _ (@aB _ _ _ (iK (pv 0) T.cl MI hr2 ((pv 3)^^^((pv 4)^^^ab))) (by intro _; rfl))) (bg (@aF _ _ _ _ (@aB _ _ _ (@ai _ _ _ _ _ _ _ _ _ _ DW hr1 Z ((pv 5)^^^(ad^^^ab)) (by decide) Z Z) (by intro _; rfl))) (bd (@aF _ _ _ _ (@aB _ _ _ (@ai _ _ _ _ _ _ _ _ _ _ DW hr1 Z ((pv 6)^^^(ad^^^ab)) (by decide) Z Z) (by intro _; rfl))))))) (@af _ _ _ (@au _ _ _ _ aX)) ax) (@ae _ _ _ _ _ (@bX _ _ _ _ _ _ (iK (pv 0) T.cl MS hr ((pv 3)^^^((pv 4)^^^ab))) (bW Z (az (ay (i:=7) nd Z (Or.inl Z)) (az (ay (i:=8) nd Z (Or.inl Z)) br))) Z Z Z) (@af _ _ _ (@au _ _ _ _ (bH (@aY _ _ _ _ _ _ _ _ dy (@av _ _ _ _ _ _ _ _ aM (pv 5) (pv 7)) (pv 1) (aA _)) (bU (@aY _ _ _ _ _ _ _ _ dy (@av _ _ _ _ _ _ _ _ aM (pv 6) (pv 8)) (pv 2) (aA _)))))))),?_⟩;obtain ⟨dx,r,rs,h1,h2,h3⟩:=id S;refine ⟨_,Z,s,dx,_,Z,h1,(dJ _ _ (by decide +kernel) (by decide +kernel)),_,Z,_,Z,s,b,ks,kv,tv,T1,T2,Z,S,t1,t2,_,Z,?_⟩;cases ly:bf ks kv tv with
 | false =>
  have q1:=q H (Same.refl _);unfold cw at q1;rw [ly] at q1;exact aO (aO q1)
 | true =>
 refine aJ ⟨_,rfl,xv,T3,0,rfl,t3,_,rfl,?_⟩;cases hx:aE xv 0 with
 | false =>
  have q1:=q H (Same.refl _);unfold cw at q1;rw [ly,hx] at q1;exact aO (aO q1)
 | true =>
 refine aJ ⟨_,rfl,yv,T4,0,rfl,t4,_,rfl,?_⟩;cases hy:aE yv 0 with
 | false =>
  have q1:=q H (Same.refl _);unfold cw at q1;rw [ly,hx,hy] at q1;exact aO q1
 | true =>
 refine aJ ?_;obtain ⟨i,c,k,rfl,rfl,i0,hk⟩:=du ly;obtain ⟨x1,rfl⟩:∃i,xv=.int i:=by cases xv <;> first | exact ⟨_,Z⟩ | cases hx
 obtain ⟨y1,rfl⟩:∃i,yv=.int i:=by cases yv <;> first | exact ⟨_,Z⟩ | cases hy
 refine ⟨_,Z,s,dx,_,Z,h1,(dJ _ _ (by decide +kernel) (by decide +kernel)),_,Z,_,Z,s,b,ks,.int i,.bl c,T1,T2,Z,S,t1,t2,ly,λ i' c' k' p e1 e2 hk' _ hp=>?_⟩;cases e1;cases e2;rw [hk] at hk';cases hk';rw [la];have q1:=q _ (Aq hp (o:=.tup [.int (sd1 k c),.int (sd2 k c)]));refine ⟨p,_,Z,Ar ag,Z,_,_,Z,_,_,Z,Z,?_⟩;refine ⟨_,Z,_,Z,_,_,Z,Z,_,Z,_,_,Z,Z,_,Z,?_⟩;unfold cw at q1;rw [ly,hx,hy] at q1;simp only [hk,Bool.true_and] at q1;refine bO (λ cc=>?_) (λ cc=>?_)
 ·refine ⟨_,Z,_,Z,_,_,Z,Z,_,Z,_,_,Z,Z,?_⟩;rw [cc,Bool.true_and] at q1;exact q1
 ·rw [show decide (x1 + sd1 k c<=w1)=false by simpa using cc,Bool.false_and] at q1;exact q1
end
def PotC (H:Hp) (p:Addr):Prop:=∃a b:Int,0<=a/\0<=b/\b < 4294967296/\H p=some (.lst [.int a,.int b])
theorem PotC.same {H H':Hp} {p:Addr} (x:PotC H p) (s:Same H H'):PotC H' p:=by obtain ⟨a,b,h1,h2,h3,e⟩:=x;exact ⟨a,b,h1,h2,h3,s _ _ e⟩
theorem PotC.new {H:Hp} {p q:Addr} {o:HO} (x:PotC H p) (h:H q=none):PotC (upd H q o) p:=x.same (Aq h)
theorem PotC.some {H:Hp} {p:Addr} (x:PotC H p):H p≠none:=by obtain ⟨a,b,h1,h2,h3,e⟩:=x;rw [e]; exact λ z=>by cases z
theorem PotC.ne {H:Hp} {p q:Addr} (x:PotC H p) (h:H q=none):p≠q:=λ z=>x.some (z ▸ h)
theorem gq {H:Hp} {p:Addr} (h:PotC H p):∃xs,H p=some (.lst xs):=by obtain ⟨_,_,_,_,_,e⟩:=h;exact ⟨_,e⟩
theorem PotC.put {H:Hp} {p l:Addr} {o:HO} (x:PotC H p) (n:p≠l):PotC (upd H l o) p:=by obtain ⟨a,b,h1,h2,h3,e⟩:=x;exact ⟨a,b,h1,h2,h3,by rw [ar n]; exact e⟩
theorem But.freeC {p q:Addr} {H H':Hp} (b:But p H H') (x:PotC H' p) (h:H' q=none):q≠p/\H q=none:=by
 have n:q≠p:=λ z=>x.some (z ▸ h);refine ⟨n,?_⟩;cases e:H q with
 | none=>rfl
 | some o=>rw [b q o n e] at h; cases h
theorem aS {p c:Addr} {H0 H:Hp} {o:HO} (b:But p H0 H) (pt:PotC H p) (h:H c=none):∃H',upd H c o=H'/\H' c=some o/\c≠p/\Same H H'/\But p H0 H'/\PotC H' p :=
 ⟨_,rfl,ag,Ne.symm (pt.ne h),Aq h,b.trans (But.new h),pt.new h⟩
theorem cG {p:Addr} {H H':Hp} (b:But p H H') (pt:PotC H p) {c:Addr} {xs:List V} (e:H c=some (.tup xs)):H' c=some (.tup xs):=by obtain ⟨_,hp⟩:=gq pt;exact b _ _ (λ z=>by rw [z,hp] at e; cases e) e
theorem nC {p:Addr} {rs:List V} {ks:List Kd} {H H':Hp} (b:But p H H') (pt:PotC H p) (h:Tups H rs ks):Tups H' rs ks:=Tups.keep (λ x xs e=>cG b pt e) h
theorem But.refl' {p:Addr} {H:Hp}:But p H H:=λ _ _ _ e=>e
section
variable {P:Am} {w:Ao} {K:AV} {mg:Str->Option Ap} {base:Heap}
inductive spPotC (vs:List V) (H:Hp) (Q:VK) (E_:XK):Prop
 | mk (c k:Int) (e_1:vs=[.int c,.int k]) (e_2:0<=k) (e_3:k<=63) (e_4:∀ (p:Addr) (H':Hp),H p=none->PotC H' p->Same H H'->Q (.ref p) H'):spPotC vs H Q E_
inductive spTake (vs:List V) (H:Hp) (Q:VK) (E_:XK):Prop
 | mk (p:Addr) (m:Int) (e_1:vs=[.ref p,.int m]) (e_2:PotC H p) (e_3:0 < m) (e_4:m<=10 ^ 60) (e_5:∀ (r:Int) (H':Hp),0<=r->r < m->PotC H' p->But p H H'->Q (.int r) H'):spTake vs H Q E_
inductive spUnit (vs:List V) (H:Hp) (Q:VK) (E_:XK):Prop
 | mk (p:Addr) (e_1:vs=[.ref p]) (e_2:PotC H p) (e_3:∀ (r:Int) (H':Hp),1<=r->r < 2 * 10 ^ 56->PotC H' p->But p H H'->Q (.int r) H'):spUnit vs H Q E_
inductive spSideC (vs:List V) (H:Hp) (Q:VK) (E_:XK):Prop
 | mk (p:Addr) (u m:Int) (e_1:vs=[.ref p,.int u,.int m]) (e_2:PotC H p) (e_3:1<=u) (e_4:u < 2 * 10 ^ 56) (e_5:1<=m) (e_6:m<=40) (e_7:∀ (r:Int) (H':Hp),1<=r->r < 10 ^ 58->PotC H' p->But p H H'->Q (.int r) H'):spSideC vs H Q E_
inductive spWorthC (vs:List V) (H:Hp) (Q:VK) (E_:XK):Prop
 | mk (p:Addr) (e_1:vs=[.ref p]) (e_2:PotC H p) (e_3:∀ (r:Int) (H':Hp),0<=r->r < 10 ^ 60->PotC H' p->But p H H'->Q (.int r) H'):spWorthC vs H Q E_
theorem sccell:FnScope ["_law_script","_law_k"] ["_law_script","_law_k"] (defScope iM):=⟨Z,Z,Z,by decide +kernel,Z,by decide +kernel,by decide +kernel⟩
theorem mI {f:Addr} {fd:An} (F:Fun K "_law_cell" "_law_cell" iM f fd) (B:Blt mg):FnOk P w K mg base CX0 1 f fd ["_law_script","_law_k"] (gQ K):=by
 refine F.ok sccell (λ vs H Q E h=>?_) (λ cdv A outer s H vs Q E hr h=>?_)
 ·obtain ⟨a,ns,n,rfl,_⟩:=h
  rfl
 obtain ⟨a,ns,n,rfl,hS,n0,q⟩:=h;have nd:=sccell.nd;refine ⟨_,(@ae _ _ _ _ _ (@aK _ _ _ _ _ _ _ _ (@aH _ _ _ _ _ _ _ _ iA (pv 1) (@aw _ _ _ _ _ _ _ _ _ aI Z B.len PySem.boot_len ((pv 0)^^^ab) (by decide) (by decide) Z Z) (aA _)) (@af _ _ _ (@au _ _ _ _ (@am _ _ _ _ _ _ _ ix_list (pv 0) (pv 1) (λ _ _=>Z)))) ax) (@af _ _ _ (@au _ _ _ _ ad))),?_⟩;have hl:(ns.map V.int).length=ns.length:=List.length_map _;refine ⟨_,Z,_,Z,a,_,Z,.inl hS,_,_,Z,Z,_,Z,?_⟩;refine bO (λ c=>?_) (λ c=>?_)
 ·have c':n < ((ns.map V.int).length:Int):=AR c;rw [hl] at c';have hk:n.toNat < ns.length:=by omega
  have hv:atI (ns.map V.int) n=some (.int ns[n.toNat]):=bB n0 (by rw [List.getElem?_map,List.getElem?_eq_getElem hk]; rfl);exact ⟨_,Z,_,Z,a,_,_,_,Z,Z,hS,hv,q _⟩
 ·exact q _
theorem scpotc:FnScope ["_law_cell_here","_law_k"] ["_law_cell_here","_law_k"] (defScope mC):=⟨Z,Z,Z,by decide +kernel,Z,by decide +kernel,by decide +kernel⟩
theorem mJ {f:Addr} {fd:An} (F:Fun K "_law_pot" "_law_pot" mC f fd) (B:Blt mg):FnOk P w K mg base CX0 1 f fd ["_law_cell_here","_law_k"] (spPotC):=by
 refine F.ok scpotc (λ vs H Q E h=>?_) (λ cdv A outer s H vs Q E hr h=>?_)
 ·obtain ⟨c,k,rfl,_⟩:=h
  rfl
 obtain ⟨c,k,rfl,k0,k1,q⟩:=h;have nd:=scpotc.nd;refine ⟨_,(@af _ _ _ (@au _ _ _ _ (@aN _ _ _ _ ((@aw _ _ _ _ _ _ _ _ _ (eN Z) Z B.max PyProof.Rows.boot_max (ad^^^((@av _ _ _ _ _ _ _ _ de (@aw _ _ _ _ _ _ _ _ _ fT Z B.abs PyProof.Rows.boot_abs ((pv 0)^^^ab) (by decide) (by decide) Z Z) (@av _ _ _ _ _ _ _ _ cm ad ad))^^^ab)) (by decide) (by decide) Z Z)^^^((@av _ _ _ _ _ _ _ _ aM (@av _ _ _ _ _ _ _ _ aM (@av _ _ _ _ _ _ _ _ cJ (@aw _ _ _ _ _ _ _ _ _ fT Z B.abs PyProof.Rows.boot_abs ((pv 0)^^^ab) (by decide) (by decide) Z Z) ad) (@av _ _ _ _ _ _ _ _ cI ad (pv 1))) ad)^^^ab))))),?_⟩;refine ⟨_,Z,_,Z,_,_,Z,Z,⟨by decide,by decide,by decide⟩,_,_,Z,Z,_,_,Z,_,Z,_,Z,_,_,Z,Z,(by show (0:Int) < 2147483563; decide),_,Z,_,_,Z,Z,.inl ⟨by decide,by decide⟩,_,_,Z,Z,_,_,Z,Z,zS2,λ p hp=>?_⟩;have e1:=Int.emod_nonneg (if c < 0 then -c else c) (show (2147483563:Int)≠0 by decide);have e2:=Int.emod_lt_of_pos (if c < 0 then -c else c) (show (0:Int) < 2147483563 by decide);refine q p _ hp ⟨_,_,?_,?_,?_,ag⟩ (Aq hp)
 ·split <;> omega
 ·omega
 ·omega
theorem sctake:FnScope ["_law_pot_here","_law_many","_law_digit"] ["_law_pot_here","_law_many"] (defScope iN):=⟨Z,Z,Z,by decide +kernel,Z,by decide +kernel,by decide +kernel⟩
theorem mK {f:Addr} {fd:An} (F:Fun K "_law_take" "_law_take" iN f fd) (B:Blt mg):FnOk P w K mg base CX0 1 f fd ["_law_pot_here","_law_many"] (spTake):=by
 refine F.ok sctake (λ vs H Q E h=>?_) (λ cdv A outer s H vs Q E hr h=>?_)
 ·obtain ⟨p,m,rfl,_⟩:=h
  rfl
 obtain ⟨p,m,rfl,⟨a,b,a0,b0,b1,hp⟩,m0,m1,q⟩:=h;have nd:=sctake.nd;refine ⟨_,(@ae _ _ _ _ _ (@aK _ _ _ _ _ _ _ _ (@aH _ _ _ _ _ _ _ _ iB (@am _ _ _ _ _ _ _ ix_list (pv 0) ad (λ _ _=>Z)) ad (aA _)) (@ae _ _ _ _ _ (@aD _ _ 2 _ _ _ _ nd Z (Or.inl Z) (@av _ _ _ _ _ _ _ _ cJ (@am _ _ _ _ _ _ _ ix_list (pv 0) ad (λ _ _=>Z)) (pv 1)) Z (Or.inl Z)) (@ae _ _ _ _ _ (@bX _ _ _ _ _ _ (@av _ _ _ _ _ _ _ _ fX (@am _ _ _ _ _ _ _ ix_list (pv 0) ad (λ _ _=>Z)) (pv 1)) (gA (pv 0) ad eg) Z Z Z) (@af _ _ _ (@au _ _ _ _ (pv 2))))) ax) (@ae _ _ _ _ _ (@bX _ _ _ _ _ _ (@av _ _ _ _ _ _ _ _ cJ (@av _ _ _ _ _ _ _ _ aM (@av _ _ _ _ _ _ _ _ cI (@am _ _ _ _ _ _ _ ix_list (pv 0) ad (λ _ _=>Z)) ad) ad) ad) (gA (pv 0) ad eg) Z Z Z) (@af _ _ _ (@au _ _ _ _ (@av _ _ _ _ _ _ _ _ cJ (@av _ _ _ _ _ _ _ _ fX (@av _ _ _ _ _ _ _ _ cJ (@av _ _ _ _ _ _ _ _ cI (@am _ _ _ _ _ _ _ ix_list (pv 0) ad (λ _ _=>Z)) (@am _ _ _ _ _ _ _ ix_list (pv 0) ad (λ _ _=>Z))) ad) ad) (pv 1)))))),?_⟩;have at0:atI [V.int a,V.int b] 0=some (.int a):=rfl;have at1:atI [V.int a,V.int b] 1=some (.int b):=rfl;refine ⟨_,Z,p,_,_,_,Z,Z,As hp,at0,_,_,Z,Z,_,Z,?_⟩;refine bO (λ c=>?_) (λ c=>?_)
 ·have c':0 < a:=AR c;refine ⟨_,Z,p,_,_,_,Z,Z,As hp,at0,_,Z,_,_,Z,Z,m0,?_⟩;refine ⟨_,Z,p,_,_,_,Z,Z,As hp,at0,_,Z,_,_,Z,Z,⟨m0,m1⟩,_,Z,p,_,_,_,Z,Z,hp,Z,?_⟩;refine ⟨_,Z,q _ _ (Int.emod_nonneg _ (by omega)) (Int.emod_lt_of_pos _ m0) ⟨a / m,b,Int.ediv_nonneg a0 (by omega),b0,b1,ag⟩ But.upd⟩
 ·refine ⟨_,Z,p,_,_,_,Z,Z,As hp,at1,_,_,Z,Z,.inr ⟨by decide,by decide⟩,_,_,Z,Z,_,_,Z,Z,(by show (0:Int) < 2147483629; decide),_,Z,p,_,_,_,Z,Z,hp,Z,?_⟩;have n0:0<=(b * 39373 + 7919) % 2147483629:=Int.emod_nonneg _ (by decide);have n1:(b * 39373 + 7919) % 2147483629 < 2147483629:=Int.emod_lt_of_pos _ (by decide);refine ⟨_,Z,p,_,_,_,Z,Z,As ag,Z,_,Z,p,_,_,_,Z,Z,As ag,Z,_,_,Z,Z,.inl ⟨by omega,by omega⟩,_,_,Z,Z,(by show (0:Int) < 2147483563; decide),_,_,Z,Z,⟨by decide,by decide⟩,_,Z,_,_,Z,Z,m0,?_⟩;exact q _ _ (Int.emod_nonneg _ (by omega)) (Int.emod_lt_of_pos _ m0) ⟨a,_,a0,n0,by omega,ag⟩ But.upd
theorem scunit:FnScope ["_law_pot_here","_law_some"] ["_law_pot_here"] (defScope iO):=⟨Z,Z,Z,by decide +kernel,Z,by decide +kernel,by decide +kernel⟩
theorem mL {f:Addr} {fd:An} (F:Fun K "_law_unit" "_law_unit" iO f fd) (B:Blt mg) (DD:Dn P w K mg base "_law_take" ["_law_pot_here","_law_many"] 1 (spTake)):FnOk P w K mg base CX0 2 f fd ["_law_pot_here"] (spUnit):=by
 refine F.ok scunit (λ vs H Q E h=>?_) (λ cdv A outer s H vs Q E hr h=>?_)
 ·obtain ⟨p,rfl,_⟩:=h
  rfl
 obtain ⟨p,rfl,pt,q⟩:=h;have nd:=scunit.nd;refine ⟨_,(@ae _ _ _ _ _ (@aD _ _ 1 _ _ _ _ nd Z (Or.inl Z) (@aN _ _ _ _ (ad^^^(ad^^^((@av _ _ _ _ _ _ _ _ aM ad (@ai _ _ _ _ _ _ _ _ _ _ DD hr Z ((pv 0)^^^((@av _ _ _ _ _ _ _ _ cm ad ad)^^^ab)) (by decide) Z Z))^^^((@av _ _ _ _ _ _ _ _ aM (@av _ _ _ _ _ _ _ _ cm ad ad) (@ai _ _ _ _ _ _ _ _ _ _ DD hr Z ((pv 0)^^^((@av _ _ _ _ _ _ _ _ cm ad ad)^^^ab)) (by decide) Z Z))^^^ab))))) Z (Or.inl Z)) (@af _ _ _ (@au _ _ _ _ (@am _ _ _ _ _ _ _ ix_list (pv 1) (@ai _ _ _ _ _ _ _ _ _ _ DD hr Z ((pv 0)^^^(ad^^^ab)) (by decide) Z Z) (λ _ _=>Z))))),?_⟩;have e56:(10:Int) ^ (56:Int).toNat=10 ^ 56:=rfl;have e66:(10:Int) ^ 6 < 10 ^ 56:=by decide
 refine aj (λ σ' H'=>∃ (l:Addr) (c d:Int),σ'=[some (.ref p),some (.ref l)]/\l≠p/\H' l=some (.lst [.int 1,.int 1,.int c,.int d])/\1<=c/\c < 2 * 10 ^ 56/\1<=d/\d < 2 * 10 ^ 56/\PotC H' p/\But p H H') (λ R hR=>?_) ?_
 ·refine ⟨_,Z,_,_,Z,Z,⟨by decide,by decide,by decide⟩,p,_,Z,pt,(by show (0:Int) < 10 ^ (6:Int).toNat; decide),(by show (10:Int) ^ (6:Int).toNat<=10 ^ 60; decide),λ r H1 r0 r1 pt1 b1=>⟨_,_,Z,Z,_,_,Z,Z,⟨by decide,by decide,by decide⟩,_,Z,_,_,Z,Z,⟨by decide,by decide,by decide⟩,p,_,Z,pt1,(by show (0:Int) < 10 ^ (56:Int).toNat; decide),(by show (10:Int) ^ (56:Int).toNat<=10 ^ 60; decide),λ r2 H2 r20 r21 pt2 b2=>⟨_,_,Z,Z,zS4,λ l hl=>?_⟩⟩⟩;have r1:r < 10 ^ 6:=r1;rw [e56] at r21;obtain ⟨H3,e3,k3,n3,s3,b3,pt3⟩:=aS (o:=.lst [.int 1,.int 1,.int (1 + r),.int (10 ^ (56:Int).toNat + r2)]) (b1.trans b2) pt2 hl;rw [show upd H2 l _=H3 from e3];exact hR _ _ ⟨l,_,_,rfl,n3,k3,by omega,by omega,by rw [e56]; omega,by rw [e56]; omega,pt3,b3⟩
 rintro _ H1 ⟨l,c,d,rfl,nlp,hl1,c0,c1,d0,d1,pt1,b1⟩;refine ⟨_,Z,_,Z,p,4,Z,pt1,by decide,by decide,λ r H2 r0 r1 pt2 b2=>?_⟩;have hl2:=b2 _ _ nlp hl1;have one:(1:Int) < 2 * 10 ^ 56:=by decide
 obtain ⟨x,hx,x0,x1⟩:∃x:Int,atI [V.int 1,V.int 1,V.int c,V.int d] r=some (.int x)/\1<=x/\x < 2 * 10 ^ 56:=by
  have:r=0\/r=1\/r=2\/r=3:=by omega
  rcases this with rfl | rfl | rfl | rfl
  ·exact ⟨1,Z,by decide,one⟩
  ·exact ⟨1,Z,by decide,one⟩
  ·exact ⟨c,Z,c0,c1⟩
  ·exact ⟨d,Z,d0,d1⟩
 exact ⟨l,_,_,_,Z,Z,As hl2,hx,q x H2 x0 x1 pt2 (b1.trans b2)⟩
theorem scsidecc:FnScope ["_law_pot_here","_law_unit_here","_law_most"] ["_law_pot_here","_law_unit_here","_law_most"] (defScope iP):=⟨Z,Z,Z,by decide +kernel,Z,by decide +kernel,by decide +kernel⟩
theorem jp {f:Addr} {fd:An} (F:Fun K "_law_side" "_law_side" iP f fd) (B:Blt mg) (DD:Dn P w K mg base "_law_take" ["_law_pot_here","_law_many"] 1 (spTake)):FnOk P w K mg base CX0 2 f fd ["_law_pot_here","_law_unit_here","_law_most"] (spSideC):=by
 refine F.ok scsidecc (λ vs H Q E h=>?_) (λ cdv A outer s H vs Q E hr h=>?_)
 ·obtain ⟨p,u,m,rfl,_⟩:=h
  rfl
 obtain ⟨p,u,m,rfl,pt,u0,u1,m1,m40,q⟩:=h;have nd:=scsidecc.nd;refine ⟨_,(@ae _ _ _ _ _ (@aK _ _ _ _ _ _ _ _ (@aH _ _ _ _ _ _ _ _ cH (@ai _ _ _ _ _ _ _ _ _ _ DD hr Z ((pv 0)^^^(ad^^^ab)) (by decide) Z Z) ad (aA _)) (@af _ _ _ (@au _ _ _ _ (@av _ _ _ _ _ _ _ _ cI (pv 1) (@av _ _ _ _ _ _ _ _ aM ad (@ai _ _ _ _ _ _ _ _ _ _ DD hr Z ((pv 0)^^^((pv 2)^^^ab)) (by decide) Z Z))))) ax) (@af _ _ _ (@au _ _ _ _ (@av _ _ _ _ _ _ _ _ aM ad (@ai _ _ _ _ _ _ _ _ _ _ DD hr Z ((pv 0)^^^((@av _ _ _ _ _ _ _ _ cI (pv 2) (pv 1))^^^ab)) (by decide) Z Z))))),?_⟩;have e58:40 * (2 * 10 ^ 56) < (10:Int) ^ 58:=by decide
 have e60:40 * (2 * 10 ^ 56) < (10:Int) ^ 60:=by decide
 have mu:m * u<=40 * (2 * 10 ^ 56):=Int.mul_le_mul m40 (Int.le_of_lt u1) (by omega) (by decide);have mu1:1<=m * u:=by have:=Int.mul_le_mul m1 u0 (by decide) (by omega); omega
 refine aj (λ σ' H'=>σ'=[some (.ref p),some (.int u),some (.int m)]/\PotC H' p/\But p H H') (λ R hR=>?_) ?_
 ·refine ⟨_,Z,p,2,Z,pt,by decide,by decide,λ z H1 z0 z1 pt1 b1=>⟨Z,_,Z,?_⟩⟩;refine bO (λ cc=>?_) (λ cc=>hR _ _ ⟨rfl,pt1,b1⟩);refine ⟨_,Z,_,Z,_,Z,p,m,Z,pt1,by omega,by omega,λ r H2 r0 r1 pt2 b2=>⟨_,_,Z,Z,_,_,Z,Z,.inr ⟨by omega,by omega⟩,q _ H2 ?_ ?_ pt2 (b1.trans b2)⟩⟩
  ·have:=Int.mul_le_mul u0 (show (1:Int)<=1 + r by omega) (by decide) (by omega);omega
  ·have:u * (1 + r)<=u * m:=Int.mul_le_mul_of_nonneg_left (by omega) (by omega);rw [Int.mul_comm u m] at this;omega
 rintro _ H1 ⟨rfl,pt1,b1⟩;exact ⟨_,Z,_,Z,_,Z,_,_,Z,Z,.inl ⟨by omega,by omega⟩,p,m * u,Z,pt1,by omega,by omega,λ r H2 r0 r1 pt2 b2=>⟨_,_,Z,Z,q _ H2 (by omega) (by omega) pt2 (b1.trans b2)⟩⟩
theorem scworthc:FnScope ["_law_pot_here","_law_some"] ["_law_pot_here"] (defScope fD):=⟨Z,Z,Z,by decide +kernel,Z,by decide +kernel,by decide +kernel⟩
theorem jq {f:Addr} {fd:An} (F:Fun K "_law_worth" "_law_worth" fD f fd) (B:Blt mg) (DD:Dn P w K mg base "_law_take" ["_law_pot_here","_law_many"] 1 (spTake)):FnOk P w K mg base CX0 2 f fd ["_law_pot_here"] (spWorthC):=by
 refine F.ok scworthc (λ vs H Q E h=>?_) (λ cdv A outer s H vs Q E hr h=>?_)
 ·obtain ⟨p,rfl,_⟩:=h
  rfl
 obtain ⟨p,rfl,pt,q⟩:=h;have nd:=scworthc.nd;refine ⟨_,(@ae _ _ _ _ _ (@aD _ _ 1 _ _ _ _ nd Z (Or.inl Z) (@aN _ _ _ _ ((@ai _ _ _ _ _ _ _ _ _ _ DD hr Z ((pv 0)^^^(ad^^^ab)) (by decide) Z Z)^^^((@ai _ _ _ _ _ _ _ _ _ _ DD hr Z ((pv 0)^^^((@av _ _ _ _ _ _ _ _ cm ad ad)^^^ab)) (by decide) Z Z)^^^((@av _ _ _ _ _ _ _ _ de (@av _ _ _ _ _ _ _ _ de (@av _ _ _ _ _ _ _ _ cm ad ad) ad) (@ai _ _ _ _ _ _ _ _ _ _ DD hr Z ((pv 0)^^^(ad^^^ab)) (by decide) Z Z))^^^ab)))) Z (Or.inl Z)) (@af _ _ _ (@au _ _ _ _ (@am _ _ _ _ _ _ _ ix_list (pv 1) (@ai _ _ _ _ _ _ _ _ _ _ DD hr Z ((pv 0)^^^(ad^^^ab)) (by decide) Z Z) (λ _ _=>Z))))),?_⟩;have e60:(10:Int) ^ (60:Int).toNat=10 ^ 60:=rfl;have e100:(100:Int) < 10 ^ 60:=by decide
 refine aj (λ σ' H'=>∃ (l:Addr) (c d e:Int),σ'=[some (.ref p),some (.ref l)]/\l≠p/\H' l=some (.lst [.int c,.int d,.int e])/\0<=c/\c < 10 ^ 60/\0<=d/\d < 10 ^ 60/\0<=e/\e < 10 ^ 60/\PotC H' p/\But p H H') (λ R hR=>?_) ?_
 ·refine ⟨_,Z,p,10,Z,pt,by decide,by decide,λ r H1 r0 r1 pt1 b1=>⟨_,Z,_,_,Z,Z,⟨by decide,by decide,by decide⟩,p,_,Z,pt1,(by show (0:Int) < 10 ^ (60:Int).toNat; decide),(by show (10:Int) ^ (60:Int).toNat<=10 ^ 60; decide),λ r2 H2 r20 r21 pt2 b2=>⟨_,_,Z,Z,⟨by decide,by decide,by decide⟩,_,_,Z,Z,_,Z,p,10,Z,pt2,by decide,by decide,λ r3 H3 r30 r31 pt3 b3=>⟨_,_,Z,Z,zS3,λ l hl=>?_⟩⟩⟩⟩;rw [e60] at r21;obtain ⟨H4,e4,k4,n4,s4,b4,pt4⟩:=aS (o:=.lst [.int r,.int r2,.int (10 ^ (60:Int).toNat - 1 - r3)]) (b1.trans (b2.trans b3)) pt3 hl;rw [show upd H3 l _=H4 from e4];exact hR _ _ ⟨l,_,_,_,rfl,n4,k4,r0,by omega,r20,r21,by rw [e60]; omega,by rw [e60]; omega,pt4,b4⟩
 rintro _ H1 ⟨l,c,d,e,rfl,nlp,hl1,c0,c1,d0,d1,e0,e1,pt1,b1⟩;refine ⟨_,Z,_,Z,p,3,Z,pt1,by decide,by decide,λ r H2 r0 r1 pt2 b2=>?_⟩;have hl2:=b2 _ _ nlp hl1;obtain ⟨x,hx,x0,x1⟩:∃x:Int,atI [V.int c,V.int d,V.int e] r=some (.int x)/\0<=x/\x < 10 ^ 60:=by
  have:r=0\/r=1\/r=2:=by omega
  rcases this with rfl | rfl | rfl
  ·exact ⟨c,Z,c0,c1⟩
  ·exact ⟨d,Z,d0,d1⟩
  ·exact ⟨e,Z,e0,e1⟩
 exact ⟨l,_,_,_,Z,Z,As hl2,hx,q x H2 x0 x1 pt2 (b1.trans b2)⟩
end
def LS (H:Hp) (t:Addr) (b:Int) (ks:List Kd) (kl:Addr):Prop:=∃rs,H t=some (.tup [.int b,.ref kl])/\H kl=some (.lst rs)/\Tups H rs ks
theorem LS.same {H H':Hp} {t kl:Addr} {b:Int} {ks:List Kd} (x:LS H t b ks kl) (s:Same H H'):LS H' t b ks kl:=by obtain ⟨rs,h1,h2,h3⟩:=x;exact ⟨rs,s _ _ h1,s _ _ h2,Tups.keep (λ c xs e=>s _ _ e) h3⟩
theorem LS.but {p:Addr} {H H':Hp} {t kl:Addr} {b:Int} {ks:List Kd} (x:LS H t b ks kl) (n:kl≠p) (pt:PotC H p) (bt:But p H H'):LS H' t b ks kl:=by obtain ⟨rs,h1,h2,h3⟩:=x;exact ⟨rs,cG bt pt h1,bt _ _ n h2,nC bt pt h3⟩
def LyC (H:Hp) (v:V) (q:Nat×Bool):Prop:=∃a,v=.ref a/\H a=some (.tup [.int q.1,.bl q.2])
theorem LyC.keep {H H':Hp} (k:∀a xs,H a=some (.tup xs)->H' a=some (.tup xs)) {v:V} {q:Nat×Bool} (h:LyC H v q):LyC H' v q:=by obtain ⟨a,e,h⟩:=h;exact ⟨a,e,k _ _ h⟩
structure Pq where
 k:Nat
 c:Bool
 x:Int
 y:Int
def pqV (p:Pq):List V:=[.int p.k,.bl p.c,.int p.x,.int p.y]
structure Bx where
 a:Int
 b:Int
 c:Int
 d:Int
def bxV (x:Bx):List V:=[.int x.a,.int x.b,.int x.c,.int x.d]
def jr (k:Kd) (p:Pq):Bx:=⟨p.x,p.y,p.x + sd1 k p.c,p.y + sd2 k p.c⟩
def apB (o r:Bx):Bool:=decide (o.c<=r.a) || decide (r.c<=o.a) || decide (o.d<=r.b) || decide (r.d<=o.b)
def Sq (H:Hp) (a:Addr) (xs:List V):Prop:=H a=some (.lst xs)\/H a=some (.tup xs)
theorem Sq.same {H H':Hp} {a:Addr} {xs:List V} (h:Sq H a xs) (s:Same H H'):Sq H' a xs:=h.imp (λ e=>s _ _ e) (λ e=>s _ _ e)
theorem ixS {K:AV} {H:Hp} {a:Addr} {xs:List V} {i:Int} {v:V} {R:VK} (h:Sq H a xs) (e:atI xs i=some v) (r:R v H):rIx K (.ref a) (.int i) H R :=
 h.elim (λ z=>.inl ⟨a,xs,i,v,Z,Z,As z,e,r⟩) (λ z=>.inr (.inl ⟨a,xs,i,v,Z,Z,Ar z,e,r⟩))
theorem gX {α β:Type} {R:α->β->Prop}:∀ {xs:List α} {ys:List β} {xs':List α} {ys':List β},Paired R xs ys->Paired R xs' ys'->Paired R (xs ++ xs') (ys ++ ys')
 | _,_,_,_,.nil,h=>h
 | _,_,_,_,.cons a r,h=>.cons a (gX r h)
section
variable {P:Am} {w:Ao} {K:AV} {mg:Str->Option Ap} {base:Heap}
inductive spShopC (vs:List V) (H:Hp) (Q:VK) (E_:XK):Prop
 | mk (p:Addr) (u:Int) (e_1:vs=[.ref p,.int u]) (e_2:PotC H p) (e_3:1<=u) (e_4:u < 2 * 10 ^ 56) (e_5:∀ (t kl:Addr) (b:Int) (ks:List Kd) (H':Hp),LS H' t b ks kl->kl≠p->H kl=none->(∀k∈ks,Good k)->1<=ks.length->ks.length<=8->0<=b->b < 10 ^ 60->PotC H' p->But p H H'->Q (.ref t) H'):spShopC vs H Q E_
inductive spSidesC (vs:List V) (H:Hp) (Q:VK) (E_:XK):Prop
 | mk (t kl:Addr) (b:Int) (ks:List Kd) (i:Nat) (c:Bool) (k:Kd) (e_1:vs=[.ref t,.int i,.bl c]) (e_2:LS H t b ks kl) (e_3:ks[i]? = some k) (e_4:∀ (r:Addr) (H':Hp),H' r=some (.tup [.int (sd1 k c),.int (sd2 k c)])->Same H H'->Q (.ref r) H'):spSidesC vs H Q E_
inductive spLyingsC (vs:List V) (H:Hp) (Q:VK) (E_:XK):Prop
 | mk (t kl:Addr) (b:Int) (ks:List Kd) (e_1:vs=[.ref t]) (e_2:LS H t b ks kl) (e_3:ks.length<=8) (e_4:∀ (l:Addr) (ys:List V) (H':Hp),H' l=some (.lst ys)->H l=none->Paired (LyC H') ys (lyK ks 0)->Same H H'->Q (.ref l) H'):spLyingsC vs H Q E_
inductive spBox (vs:List V) (H:Hp) (Q:VK) (E_:XK):Prop
 | mk (t kl a:Addr) (b:Int) (ks:List Kd) (p:Pq) (k:Kd) (e_1:vs=[.ref t,.ref a]) (e_2:LS H t b ks kl) (e_3:Sq H a (pqV p)) (e_4:ks[p.k]? = some k) (e_5:∀ (r:Addr) (H':Hp),H' r=some (.tup (bxV (jr k p)))->Same H H'->Q (.ref r) H'):spBox vs H Q E_
inductive spApart (vs:List V) (H:Hp) (Q:VK) (E_:XK):Prop
 | mk (a1 a2:Addr) (o r:Bx) (e_1:vs=[.ref a1,.ref a2]) (e_2:H a1=some (.tup (bxV o))) (e_3:H a2=some (.tup (bxV r))) (e_4:Q (.bl (apB o r)) H):spApart vs H Q E_
theorem scshopc:FnScope ["_law_pot_here","_law_unit_here","_law_blade","_law_kinds","_law_k","_law_wide","_law_high"] ["_law_pot_here","_law_unit_here"] (defScope iQ):=⟨Z,Z,Z,by decide +kernel,Z,by decide +kernel,by decide +kernel⟩
theorem le {f:Addr} {fd:An} (F:Fun K "_law_shop" "_law_shop" iQ f fd) (B:Blt mg) (DD:Dn P w K mg base "_law_take" ["_law_pot_here","_law_many"] 1 (spTake)) (DSi:Dn P w K mg base "_law_side" ["_law_pot_here","_law_unit_here","_law_most"] 2 (spSideC)) (DWo:Dn P w K mg base "_law_worth" ["_law_pot_here"] 2 (spWorthC)):FnOk P w K mg base CX0 3 f fd ["_law_pot_here","_law_unit_here"] (spShopC):=by
 refine F.ok scshopc (λ vs H Q E h=>?_) (λ cdv A outer s H vs Q E hr h=>?_)
 ·obtain ⟨p,u,rfl,_⟩:=h
  rfl
 obtain ⟨p,u,rfl,pt,u0,u1,q⟩:=h;have nd:=scshopc.nd;refine ⟨_,(@ae _ _ _ _ _ (@aD _ _ 2 _ _ _ _ nd Z (Or.inl Z) (@am _ _ _ _ _ _ _ ix_list (@aN _ _ _ _ (ad^^^((pv 1)^^^((@ai _ _ _ _ _ _ _ _ _ _ DD (hr.mono (by decide)) Z ((pv 0)^^^(ad^^^ab)) (by decide) Z Z)^^^((@ai _ _ _ _ _ _ _ _ _ _ DD (hr.mono (by decide)) Z ((pv 0)^^^((@av _ _ _ _ _ _ _ _ aM (@av _ _ _ _ _ _ _ _ cI ad (pv 1)) ad)^^^ab)) (by decide) Z Z)^^^ab))))) (@ai _ _ _ _ _ _ _ _ _ _ DD (hr.mono (by decide)) Z ((pv 0)^^^(ad^^^ab)) (by decide) Z Z) (λ _ _=>Z)) Z (Or.inl Z)) (@ae _ _ _ _ _ (@aD _ _ 3 _ _ _ _ nd Z (Or.inl Z) (@aN _ _ _ _ ab) Z (Or.inl Z)) (@ae _ _ _ _ _ (@bN _ _ _ _ _ _ _ _ Ab Z (cy Z B.range ((@av _ _ _ _ _ _ _ _ aM ad (@ai _ _ _ _ _ _ _ _ _ _ DD (hr.mono (by decide)) Z ((pv 0)^^^(ad^^^ab)) (by decide) Z Z))^^^ab)) (ay (i:=4) nd Z (Or.inl Z)) (@ae _ _ _ _ _ (@aD _ _ 5 _ _ _ _ nd Z (Or.inl Z) (@ai _ _ _ _ _ _ _ _ _ _ DSi hr Z ((pv 0)^^^((pv 1)^^^(ad^^^ab))) (by decide) Z Z) Z (Or.inl Z)) (@ae _ _ _ _ _ (@aD _ _ 6 _ _ _ _ nd Z (Or.inl Z) (@am _ _ _ _ _ _ _ ix_list (@aN _ _ _ _ ((pv 5)^^^((@ai _ _ _ _ _ _ _ _ _ _ DSi hr Z ((pv 0)^^^((pv 1)^^^(ad^^^ab))) (by decide) Z Z)^^^ab))) (@aW _ _ _ _ _ _ _ _ _ eO Z B.int PyProof.Rows.boot_int ((@aY _ _ _ _ _ _ _ _ iB (@ai _ _ _ _ _ _ _ _ _ _ DD (hr.mono (by decide)) Z ((pv 0)^^^(ad^^^ab)) (by decide) Z Z) ad (aA _))^^^ab) (by decide) (by decide) Z Z) (λ _ _=>Z)) Z (Or.inl Z)) (@af _ _ _ (@bV _ _ _ _ (@eU _ _ _ _ _ _ _ _ _ _ _ _ Ak PySem.F.slot_list_append PySem.F.type_list_append bS (pv 3) ((@aR _ _ _ _ _ ((pv 5)^^^((pv 6)^^^((@ai _ _ _ _ _ _ _ _ _ _ DWo hr Z ((pv 0)^^^ab) (by decide) Z Z)^^^((@ai _ _ _ _ _ _ _ _ _ _ DWo hr Z ((pv 0)^^^ab) (by decide) Z Z)^^^((@aY _ _ _ _ _ _ _ _ cH (@ai _ _ _ _ _ _ _ _ _ _ DD (hr.mono (by decide)) Z ((pv 0)^^^(ad^^^ab)) (by decide) Z Z) ad (aA _))^^^ab))))))^^^ab) Z Z Z Z Z) Z)))) (by intro _; rfl)) (@af _ _ _ (@au _ _ _ _ (@aR _ _ _ _ _ ((pv 2)^^^((pv 3)^^^ab)))))))),?_⟩;have e60:(100:Int) < 10 ^ 60:=by decide
 have e58:(10:Int) ^ 58 < 10 ^ 60:=by decide
 have e57:2 * (2 * 10 ^ 56) + 1 < (10:Int) ^ 60:=by decide
 have sz:(100:Nat) < sizeLine:=by decide
 refine aj (λ σ' H'=>∃b:Int,σ'=[some (.ref p),some (.int u),some (.int b),none,none,none,none]/\0<=b/\b < 10 ^ 60/\PotC H' p/\But p H H') (λ R hR=>?_) ?_
 ·refine ⟨_,Z,_,Z,p,3,Z,pt,by decide,by decide,λ r1 H1 r10 r11 pt1 b1=>⟨_,Z,_,Z,_,_,Z,Z,.inl ⟨by decide,by decide⟩,_,_,Z,Z,p,_,Z,pt1,by omega,by omega,λ r2 H2 r20 r21 pt2 b2=>⟨zS4,λ l hl=>?_⟩⟩⟩;obtain ⟨H3,e3,k3,n3,s3,b3,pt3⟩:=aS (o:=.lst [.int 0,.int u,.int r1,.int r2]) (b1.trans b2) pt2 hl;rw [show upd H2 l _=H3 from e3];refine ⟨_,Z,p,4,Z,pt3,by decide,by decide,λ r H4 r0 r1' pt4 b4=>?_⟩;have hl4:=b4 _ _ n3 k3;obtain ⟨x,hx,x0,x1⟩:∃x:Int,atI [V.int 0,V.int u,V.int r1,V.int r2] r=some (.int x)/\0<=x/\x < 10 ^ 60:=by
   have:r=0\/r=1\/r=2\/r=3:=by omega
   rcases this with rfl | rfl | rfl | rfl
   ·exact ⟨0,Z,by decide,by omega⟩
   ·exact ⟨u,Z,by omega,by omega⟩
   ·exact ⟨r1,Z,r10,by omega⟩
   ·exact ⟨r2,Z,r20,by omega⟩
  exact ⟨l,_,_,_,Z,Z,As hl4,hx,hR _ _ ⟨x,Z,x0,x1,pt4,b3.trans b4⟩⟩
 rintro _ H1 ⟨b,rfl,b0,b1',pt1,b1⟩;refine aj (λ σ' H'=>∃l:Addr,σ'=[some (.ref p),some (.int u),some (.int b),some (.ref l),none,none,none]/\l≠p/\H1 l=none/\H' l=some (.lst [])/\PotC H' p/\But p H H') (λ R hR=>?_) ?_
 ·refine ⟨by decide,λ l hl=>?_⟩;obtain ⟨H2,e2,k2,n2,s2,b2,pt2⟩:=aS (o:=.lst []) b1 pt1 hl;rw [show upd H1 l _=H2 from e2];exact hR _ _ ⟨l,rfl,n2,hl,k2,pt2,b2⟩
 rintro _ H2 ⟨l,rfl,nlp,hl1,hl2,pt2,b2⟩;have hl0:H l=none:=(b1.freeC pt1 hl1).2;refine aj (λ σ' H'=>(∃ (v4 v5 v6:Option V) (rs:List V) (ks:List Kd),σ'=[some (.ref p),some (.int u),some (.int b),some (.ref l),v4,v5,v6]/\H' l=some (.lst rs)/\Tups H' rs ks/\(∀k∈ks,Good k)/\(1<=rs.length/\rs.length<=8)/\PotC H' p/\But p H H')) (λ R hR=>?_) ?_
 ·refine ⟨_,Z,p,8,Z,pt2,by decide,by decide,λ m H3 m0 m1 pt3 b3=>⟨_,_,Z,Z,_,Z,by omega,by omega,?_⟩⟩;refine cz (n:=(1 + m).toNat) (λ i σ' H'=>(∃ (v4 v5 v6:Option V) (rs:List V) (ks:List Kd),σ'=[some (.ref p),some (.int u),some (.int b),some (.ref l),v4,v5,v6]/\H' l=some (.lst rs)/\Tups H' rs ks/\(∀k∈ks,Good k)/\rs.length=i/\PotC H' p/\But p H H')) ⟨_,_,_,[],[],rfl,b3 _ _ nlp hl2,.nil,λ k hk=>by simp at hk,rfl,pt3,b2.trans b3⟩ ?_ ?_
  ·rintro i _ H4 hi ⟨v4,v5,v6,rs,ks,rfl,hl4,tp4,gk4,rl4,pt4,bt4⟩;refine ⟨_,Z,_,Z,p,u,6,Z,pt4,u0,u1,by decide,by decide,λ w1 H5 w0 w1' pt5 b5=>?_⟩;refine ⟨_,Z,_,Z,_,Z,p,u,6,Z,pt5,u0,u1,by decide,by decide,λ h1 H6 h0 h1' pt6 b6=>⟨zS2,λ l2 hl2'=>?_⟩⟩;obtain ⟨H7,e7,k7,n7,s7,b7,pt7⟩:=aS (o:=.lst [.int w1,.int h1]) (b5.trans b6) pt6 hl2';rw [show upd H6 l2 _=H7 from e7];refine ⟨_,Z,p,5,Z,pt7,by decide,by decide,λ z H8 z0 z1 pt8 b8=>⟨_,_,Z,Z,.inr ⟨_,Z,?_⟩⟩⟩;have l28:=b8 _ _ n7 k7;obtain ⟨nn,hnn,nn0,nn1⟩:∃nn:Int,atI [V.int w1,V.int h1] (if decide (0 < z)=true then (1:Int) else 0)=some (.int nn)/\1<=nn/\nn < 10 ^ 58:=by
    by_cases c:(0:Int) < z
    ·exact ⟨h1,by rw [decide_eq_true c]; rfl,h0,h1'⟩
    ·exact ⟨w1,by rw [decide_eq_false c]; rfl,w0,w1'⟩
   refine ⟨l2,_,_,_,Z,Z,As l28,hnn,?_⟩;have b48:=b7.trans b8;have hl8:=b48 _ _ nlp hl4;refine ⟨_,Z,.inl ⟨Z,_,As hl8⟩,_,Z,_,Z,_,Z,p,Z,pt8,λ wo H9 wo0 wo1 pt9 b9=>?_⟩;refine ⟨_,Z,p,Z,pt9,λ wa Ha wa0 wa1 pta ba=>?_⟩;refine ⟨_,Z,p,2,Z,pta,by decide,by decide,λ tu Hb tu0 tu1 ptb bb=>⟨Z,zS5,λ t ht=>?_⟩⟩;have b4b:=b48.trans (b9.trans (ba.trans bb));obtain ⟨H12,e12,k12,n12,s12,b12,pt12⟩:=aS (o:=.tup [.int w1,.int nn,.int wo,.int wa,.bl (decide (V.int tu=V.int 0))]) (bt4.trans b4b) ptb ht;rw [show upd Hb t _=H12 from e12];have k12:H12 t=some (.tup (kdV ⟨w1,nn,wo,wa,decide (V.int tu=V.int 0)⟩)):=k12;have hlc:=s12 _ _ (b4b _ _ nlp hl4);refine ⟨l,_,_,Z,Z,hlc,(by have:i < (1 + m).toNat:=hi; omega),?_⟩;have kt:∀ {c:Addr} {xs:List V},H12 c=some (.tup xs)->(upd H12 l (.lst (rs ++ [.ref t]))) c=some (.tup xs):=λ {c xs} e=>by rw [ar (λ z=>by rw [z,hlc] at e; cases e)]; exact e
   refine ⟨_,_,_,rs ++ [.ref t],ks ++ [⟨w1,nn,wo,wa,decide (V.int tu=V.int 0)⟩],Z,ag,?_,λ k hk=>?_,by rw [List.length_append,rl4]; rfl,pt12.put (Ne.symm nlp),λ c o n e=>?_⟩
   ·exact gX (Tups.keep (λ c xs e=>kt (s12 _ _ e)) (nC b4b pt4 tp4)) (.cons ⟨t,Z,kt k12⟩ .nil)
   ·rcases AT.mp hk with hk | hk
    ·exact gk4 k hk
    ·rw [List.mem_singleton.mp hk];exact ⟨by show (1:Int)<=w1; omega,by show (1:Int)<=nn; omega,wo0,wa0,by show w1 < _; omega,by show nn < _; omega,wo1,wa1⟩
   ·rw [ar (λ z=>by rw [z,hl0] at e; cases e)];exact b12 _ _ n e
  ·rintro _ H4 ⟨v4,v5,v6,rs,ks,rfl,hl4,tp4,gk4,rl4,pt4,bt4⟩;exact hR _ _ ⟨_,_,_,rs,ks,rfl,hl4,tp4,gk4,⟨by omega,by omega⟩,pt4,bt4⟩
 rintro _ H3 ⟨v4,v5,v6,rs,ks,rfl,hl3,tp3,gk3,⟨r1,r8⟩,pt3,bt3⟩;refine ⟨_,Z,_,Z,zS2,λ t ht=>?_⟩;obtain ⟨H6,e6,k6,n6,s6,b6,pt6⟩:=aS (o:=.tup [.int b,.ref l]) bt3 pt3 ht;rw [show upd H3 t _=H6 from e6];have rl:=Aa tp3;exact q t l b ks H6 ⟨rs,k6,s6 _ _ hl3,Tups.keep (λ c xs e=>s6 _ _ e) tp3⟩ nlp hl0 gk3 (by omega) (by omega) b0 b1' pt6 b6
theorem scsidesc:FnScope ["_law_shop_here","_law_kind","_law_turned","_law_wide","_law_high"] ["_law_shop_here","_law_kind","_law_turned"] (defScope fE):=⟨Z,Z,Z,by decide +kernel,Z,by decide +kernel,by decide +kernel⟩
theorem js {f:Addr} {fd:An} (F:Fun K "_law_sides" "_law_sides" fE f fd) (B:Blt mg):FnOk P w K mg base CX0 1 f fd ["_law_shop_here","_law_kind","_law_turned"] (spSidesC):=by
 refine F.ok scsidesc (λ vs H Q E h=>?_) (λ cdv A outer s H vs Q E hr h=>?_)
 ·obtain ⟨t,kl,b,ks,i,c,k,rfl,_⟩:=h
  rfl
 obtain ⟨t,kl,b,ks,i,c,k,rfl,sh,hi,q⟩:=h;have nd:=scsidesc.nd;refine ⟨_,(@ae _ _ _ _ _ (@bX _ _ _ _ _ _ (@bj _ _ _ _ _ _ _ _ _ _ di (@am _ _ _ _ _ _ _ ix_list (@am _ _ _ _ _ _ _ ix_tup (pv 0) ad (λ _ _=>Z)) (pv 1) (λ _ _=>Z)) bz (bA ad)) (bW Z (az (ay (i:=3) nd Z (Or.inl Z)) (az (ay (i:=4) nd Z (Or.inl Z)) br))) Z Z Z) (@af _ _ _ (@au _ _ _ _ (@am _ _ _ _ _ _ _ ix_list (@aN _ _ _ _ ((@aR _ _ _ _ _ ((pv 3)^^^((pv 4)^^^ab)))^^^((@aR _ _ _ _ _ ((pv 4)^^^((pv 3)^^^ab)))^^^ab))) (@aW _ _ _ _ _ _ _ _ _ eO Z B.int PyProof.Rows.boot_int ((pv 2)^^^ab) (by decide) (by decide) Z Z) (λ _ _=>Z))))),?_⟩;have sz:(100:Nat) < sizeLine:=by decide
 obtain ⟨rs,h1,h2,h3⟩:=id sh;obtain ⟨vv,hvv,ak,rfl,hak⟩:=Paired.getL h3 hi;have hak:H ak=some (.tup [.int k.w,.int k.h,.int k.wo,.int k.wa,.bl k.tu]):=hak;have hat:atI rs (i:Int)=some (.ref ak):=bB (by omega) (by rw [Int.toNat_natCast]; exact hvv);refine aj (λ σ' H'=>σ'=[some (.ref t),some (.int i),some (.bl c),some (.int k.w),some (.int k.h)]/\Same H H') (λ R hR=>?_) ?_
 ·refine ⟨_,Z,t,_,1,_,Z,Z,Ar h1,Z,_,Z,kl,_,_,_,Z,Z,As h2,hat,_,Z,ak,_,Z,Ar hak,(λ z=>absurd z.2 (show ¬ HT.sIx 5 5 (some 2)=5 by decide)),λ a ha=>?_⟩;obtain ⟨H1,e1,k1,s1⟩:∃H',upd H a (.tup (bR [.int k.w,.int k.h,.int k.wo,.int k.wa,.bl k.tu] none (some 2)))=H'/\H' a=some (.tup (bR [.int k.w,.int k.h,.int k.wo,.int k.wa,.bl k.tu] none (some 2)))/\Same H H':=⟨_,Z,ag,Aq ha⟩
  rw [show upd H a _=H1 from e1];exact ⟨a,_,Z,Ar (show H1 a=some (.tup [.int k.w,.int k.h]) from k1),Z,_,_,Z,_,_,Z,Z,hR _ _ ⟨Z,s1⟩⟩
 rintro _ H1 ⟨rfl,s1⟩;refine ⟨_,Z,_,Z,zS2,λ a ha=>?_⟩;obtain ⟨H2,e2,k2,s2⟩:∃H',upd H1 a (.tup [.int k.w,.int k.h])=H'/\H' a=some (.tup [.int k.w,.int k.h])/\Same H1 H':=⟨_,Z,ag,Aq ha⟩
 rw [show upd H1 a _=H2 from e2];refine ⟨_,Z,_,Z,zS2,λ a2 ha2=>?_⟩;obtain ⟨H3,e3,k3,s3⟩:∃H',upd H2 a2 (.tup [.int k.h,.int k.w])=H'/\H' a2=some (.tup [.int k.h,.int k.w])/\Same H2 H':=⟨_,Z,ag,Aq ha2⟩
 rw [show upd H2 a2 _=H3 from e3];refine ⟨zS2,λ l hl=>?_⟩;obtain ⟨H4,e4,k4,s4⟩:∃H',upd H3 l (.lst [.ref a,.ref a2])=H'/\H' l=some (.lst [.ref a,.ref a2])/\Same H3 H':=⟨_,Z,ag,Aq hl⟩
 rw [show upd H3 l _=H4 from e4];refine ⟨_,Z,.inr ⟨_,Z,?_⟩⟩;cases c with
 | true=>exact ⟨l,_,_,_,Z,Z,As k4,Z,q a2 H4 (s4 _ _ k3) (s1.trans (s2.trans (s3.trans s4)))⟩
 | false=>exact ⟨l,_,_,_,Z,Z,As k4,Z,q a H4 (s4 _ _ (s3 _ _ k2)) (s1.trans (s2.trans (s3.trans s4)))⟩
theorem sclyingsc:FnScope ["_law_shop_here","_law_found","_law_k","_law_kind"] ["_law_shop_here"] (defScope dP):=⟨Z,Z,Z,by decide +kernel,Z,by decide +kernel,by decide +kernel⟩
theorem gY {f:Addr} {fd:An} (F:Fun K "_law_lyings" "_law_lyings" dP f fd) (B:Blt mg):FnOk P w K mg base CX0 1 f fd ["_law_shop_here"] (spLyingsC):=by
 refine F.ok sclyingsc (λ vs H Q E h=>?_) (λ cdv A outer s H vs Q E hr h=>?_)
 ·obtain ⟨t,kl,b,ks,rfl,_⟩:=h
  rfl
 obtain ⟨t,kl,b,ks,rfl,sh,k8,q⟩:=h;have nd:=sclyingsc.nd;refine ⟨_,(@ae _ _ _ _ _ (@aD _ _ 1 _ _ _ _ nd Z (Or.inl Z) (@aN _ _ _ _ ab) Z (Or.inl Z)) (@ae _ _ _ _ _ (@bN _ _ _ _ _ _ _ _ Ab Z (iJ Z B.enumerate ((@am _ _ _ _ _ _ _ ix_tup (pv 0) ad (λ _ _=>Z))^^^ab)) (bW Z (az (ay (i:=2) nd Z (Or.inl Z)) (az (ay (i:=3) nd Z (Or.inl Z)) br))) (@ae _ _ _ _ _ (@bV _ _ _ _ (@eU _ _ _ _ _ _ _ _ _ _ _ _ Ak PySem.F.slot_list_append PySem.F.type_list_append bS (pv 1) ((@aR _ _ _ _ _ ((pv 2)^^^(aX^^^ab)))^^^ab) Z Z Z Z Z) Z) (@af _ _ _ (@aK _ _ _ _ _ _ _ _ (PW.pt (gz (@aB _ _ _ (@am _ _ _ _ _ _ _ ix_tup (pv 3) ad (λ _ _=>Z)) (by intro _; rfl)) (fk (@aH _ _ _ _ _ _ _ _ dZ (@am _ _ _ _ _ _ _ ix_tup (pv 3) ad (λ _ _=>Z)) (@am _ _ _ _ _ _ _ ix_tup (pv 3) ad (λ _ _=>Z)) (aA _))))) (@af _ _ _ (@bV _ _ _ _ (@eU _ _ _ _ _ _ _ _ _ _ _ _ Ak PySem.F.slot_list_append PySem.F.type_list_append bS (pv 1) ((@aR _ _ _ _ _ ((pv 2)^^^(aX^^^ab)))^^^ab) Z Z Z Z Z) Z)) ax))) (by intro _; rfl)) (@af _ _ _ (@au _ _ _ _ (pv 1))))),?_⟩;have sz:(100:Nat) < sizeLine:=by decide
 obtain ⟨rs,h1,h2,h3⟩:=id sh;have rl:=Aa h3;refine aj (λ σ' H'=>∃l:Addr,σ'=[some (.ref t),some (.ref l),none,none]/\H l=none/\H' l=some (.lst [])/\Same H H') (λ R hR=>?_) ?_
 ·refine ⟨by decide,λ l hl=>?_⟩;obtain ⟨H1,e1,k1,s1⟩:∃H',upd H l (.lst [])=H'/\H' l=some (.lst [])/\Same H H':=⟨_,Z,ag,Aq hl⟩
  rw [show upd H l _=H1 from e1];exact hR _ _ ⟨l,rfl,hl,k1,s1⟩
 rintro _ H1 ⟨l,rfl,hl,hl1,s1⟩;have nkl:kl≠l:=ah h2 hl;refine aj (λ σ' H'=>(∃v2 v3:Option V,σ'=[some (.ref t),some (.ref l),v2,v3])/\(∃ys,H' l=some (.lst ys)/\Paired (LyC H') ys (lyK ks 0))/\But l H1 H') (λ R hR=>?_) ?_
 ·refine ⟨_,Z,t,_,1,_,Z,Z,Ar (s1 _ _ h1),Z,kl,rs,Z,.inl ⟨s1 _ _ h2,ge (f:=.lst) (λ _ _ e=>by cases e; rfl) (l:=kl) (xs:=rs) (λ i σ' H'=>(∃ (v2 v3:Option V) (ys:List V),σ'=[some (.ref t),some (.ref l),v2,v3]/\H' l=some (.lst ys)/\Paired (LyC H') ys (lyK (ks.take i) 0)/\But l H1 H')) ⟨_,_,[],Z,hl1,.nil,λ _ _ _ e=>e⟩ (λ i σ Hx ⟨v2,v3,ys,_,_,_,b⟩=>b _ _ nkl (s1 _ _ h2)) ?_ (λ σ Hx ⟨v2,v3,ys,e,hy,py,b⟩=>hR _ _ ⟨⟨v2,v3,e⟩,⟨ys,hy,by rw [rl,List.take_length] at py; exact py⟩,b⟩)⟩⟩;rintro i x pp σ H2 hx hp ⟨v2,v3,ys,rfl,l2,py,b2⟩;obtain ⟨k,hk',ka,rfl,hka⟩:=Au h3 hx;have hin:i < rs.length:=(AD.mp hx).1;obtain ⟨H3,e3,k3,s3⟩:∃H',upd H2 pp (.tup [.int i,.ref ka])=H'/\H' pp=some (.tup [.int i,.ref ka])/\Same H2 H':=⟨_,Z,ag,Aq hp⟩
  rw [show upd H2 pp _=H3 from e3];have nka:ka≠l:=ah hka hl;have ka3:H3 ka=some (.tup [.int k.w,.int k.h,.int k.wo,.int k.wa,.bl k.tu]):=s3 _ _ (b2 _ _ nka (s1 _ _ hka));have yl:=Aa py;have yl2:=fA (ks.take i) 0;rw [List.length_take] at yl2;have lt:lyK (ks.take (i + 1)) 0=lyK (ks.take i) 0 ++ lyT i k:=by rw [List.take_add_one,hk'];show lyK (ks.take i ++ [k]) 0=_;rw [gf,List.length_take,Nat.zero_add,Nat.min_eq_left (by omega)]
  refine ⟨pp,_,Z,Ar k3,Z,_,_,Z,_,_,Z,Z,?_⟩;have app:∀ (Hx:Hp) (a:Addr) (zs:List V) (q:Nat×Bool) (L:List (Nat×Bool)),Hx l=some (.lst zs)->Paired (LyC Hx) zs L->Hx a=some (.tup [.int q.1,.bl q.2])->But l H1 Hx->Paired (LyC (upd Hx l (.lst (zs ++ [.ref a])))) (zs ++ [.ref a]) (L ++ [q])/\But l H1 (upd Hx l (.lst (zs ++ [.ref a]))):=λ Hx a zs q L hx pz ha bx=>by
   have kt:∀c xs,Hx c=some (.tup xs)->(upd Hx l (.lst (zs ++ [.ref a]))) c=some (.tup xs):=λ c xs e=>by rw [ar (λ z=>by rw [z,hx] at e; cases e)]; exact e
   exact ⟨gX (At pz λ v q h=>h.keep kt) (.cons ⟨a,Z,kt _ _ ha⟩ .nil),λ c o n e=>by rw [ar n]; exact bx _ _ n e⟩
  refine aj (λ σ' H'=>σ'=[some (.ref t),some (.ref l),some (.int i),some (.ref ka)]/\(∃ys,H' l=some (.lst ys)/\ys.length<=2 * i + 1/\Paired (LyC H') ys (lyK (ks.take i) 0 ++ [(i,false)]))/\But l H1 H') (λ R hR=>?_) ?_
  ·refine ⟨_,Z,.inl ⟨Z,_,As (s3 _ _ l2)⟩,_,Z,zS2,λ a ha=>?_⟩;obtain ⟨H4,e4,k4,s4⟩:∃H',upd H3 a (.tup [.int i,.bl false])=H'/\H' a=some (.tup [.int i,.bl false])/\Same H3 H':=⟨_,Z,ag,Aq ha⟩
   rw [show upd H3 a _=H4 from e4];have l4:=s4 _ _ (s3 _ _ l2);obtain ⟨a1,a2⟩:=app H4 a ys (i,false) _ l4 (At py λ v q h=>h.keep λ c xs e=>s4 _ _ (s3 _ _ e)) k4 (λ c o n e=>s4 _ _ (s3 _ _ (b2 _ _ n e)));exact ⟨l,_,_,Z,Z,l4,by omega,hR _ _ ⟨Z,⟨_,ag,by rw [List.length_append]; show ys.length + 1<=_; omega,a1⟩,a2⟩⟩
  rintro _ H4 ⟨rfl,⟨zs,l4,zl,py4⟩,b4⟩;have ka4:H4 ka=some (.tup [.int k.w,.int k.h,.int k.wo,.int k.wa,.bl k.tu]):=b4 _ _ nka (s1 _ _ hka);have no:aP k=false->(∃ (v2 v3:Option V) (ys:List V),([some (.ref t),some (.ref l),some (.int i),some (.ref ka)]:St)=[some (.ref t),some (.ref l),v2,v3]/\H4 l=some (.lst ys)/\Paired (LyC H4) ys (lyK (ks.take (i + 1)) 0)/\But l H1 H4):=λ ht=>⟨_,_,zs,Z,l4,by rw [lt]; unfold lyT; rw [ht]; exact py4,b4⟩
  refine ⟨_,Z,ka,_,4,_,Z,Z,Ar ka4,Z,_,Z,?_⟩;cases htu:k.tu with
  | false=>exact aJ (no (by unfold aP; rw [htu]; rfl))
  | true =>
   refine aO ⟨_,rfl,ka,_,0,_,rfl,rfl,Ar ka4,rfl,_,rfl,ka,_,1,_,rfl,rfl,Ar ka4,rfl,rfl,_,rfl,?_⟩
   by_cases hwh:k.w=k.h
   ·rw [show (!decide (V.int k.w=V.int k.h))=false by rw [decide_eq_true (by rw [hwh])]; rfl];exact aJ (no (by unfold aP; rw [decide_eq_true hwh]; simp))
   ·rw [show (!decide (V.int k.w=V.int k.h))=true by rw [decide_eq_false (λ z=>hwh (V.int.inj z))]; rfl];have ht:aP k=true:=by unfold aP; rw [htu,decide_eq_false hwh]; rfl
    refine aO ⟨_,rfl,.inl ⟨rfl,_,As l4⟩,_,rfl,zS2,λ a ha=>?_⟩;obtain ⟨H5,e5,k5,s5⟩:∃H',upd H4 a (.tup [.int i,.bl true])=H'/\H' a=some (.tup [.int i,.bl true])/\Same H4 H':=⟨_,Z,ag,Aq ha⟩
    rw [show upd H4 a _=H5 from e5];have l5:=s5 _ _ l4;obtain ⟨a1,a2⟩:=app H5 a zs (i,true) _ l5 (At py4 λ v q h=>h.keep λ c xs e=>s5 _ _ e) k5 (λ c o n e=>s5 _ _ (b4 _ _ n e));exact ⟨l,_,_,Z,Z,l5,by omega,_,_,_,Z,ag,by rw [lt]; unfold lyT; rw [if_pos ht]; rw [List.append_assoc] at a1; exact a1,a2⟩
 rintro _ H2 ⟨⟨v2,v3,rfl⟩,⟨ys,hy,py⟩,b2⟩;exact ⟨_,Z,q l ys H2 hy hl py (λ c o e=>b2 _ _ (ah e hl) (s1 _ _ e))⟩
theorem scbox:FnScope ["_law_shop_here","_law_piece","_law_own"] ["_law_shop_here","_law_piece"] (defScope mD):=⟨Z,Z,Z,by decide +kernel,Z,by decide +kernel,by decide +kernel⟩
theorem oj {f:Addr} {fd:An} (F:Fun K "_law_box" "_law_box" mD f fd) (B:Blt mg) (DSd:Dn P w K mg base "_law_sides" ["_law_shop_here","_law_kind","_law_turned"] 1 (spSidesC)):FnOk P w K mg base CX0 2 f fd ["_law_shop_here","_law_piece"] (spBox):=by
 refine F.ok scbox (λ vs H Q E h=>?_) (λ cdv A outer s H vs Q E hr h=>?_)
 ·obtain ⟨t,kl,a,b,ks,p,k,rfl,_⟩:=h
  rfl
 obtain ⟨t,kl,a,b,ks,p,k,rfl,sh,hp,hk,q⟩:=h;have nd:=scbox.nd;refine ⟨_,(@ae _ _ _ _ _ (@aD _ _ 2 _ _ _ _ nd Z (Or.inl Z) (@ai _ _ _ _ _ _ _ _ _ _ DSd hr Z ((pv 0)^^^((@am _ _ _ _ _ _ _ bm (pv 1) ad (λ _ _=>Z))^^^((@am _ _ _ _ _ _ _ bm (pv 1) ad (λ _ _=>Z))^^^ab))) (by decide) Z Z) Z (Or.inl Z)) (@af _ _ _ (@au _ _ _ _ (@aR _ _ _ _ _ ((@am _ _ _ _ _ _ _ bm (pv 1) ad (λ _ _=>Z))^^^((@am _ _ _ _ _ _ _ bm (pv 1) ad (λ _ _=>Z))^^^((@av _ _ _ _ _ _ _ _ aM (@am _ _ _ _ _ _ _ bm (pv 1) ad (λ _ _=>Z)) (@am _ _ _ _ _ _ _ ix_tup (pv 2) ad (λ _ _=>Z)))^^^((@av _ _ _ _ _ _ _ _ aM (@am _ _ _ _ _ _ _ bm (pv 1) ad (λ _ _=>Z)) (@am _ _ _ _ _ _ _ ix_tup (pv 2) ad (λ _ _=>Z)))^^^ab)))))))),?_⟩;have SS:Sq H a (pqV p):=hp;refine aj (λ σ' H'=>∃o:Addr,σ'=[some (.ref t),some (.ref a),some (.ref o)]/\H' o=some (.tup [.int (sd1 k p.c),.int (sd2 k p.c)])/\Same H H') (λ R hR=>?_) ?_
 ·exact ⟨_,Z,_,Z,ixS SS rfl ⟨_,Z,ixS SS rfl ⟨t,kl,b,ks,p.k,p.c,k,Z,sh,hk,λ r H1 h1 s1=>hR _ _ ⟨r,Z,h1,s1⟩⟩⟩⟩
 rintro _ H1 ⟨o,rfl,ho,s1⟩;have S1:=SS.same s1;refine ⟨_,Z,ixS S1 rfl ⟨_,Z,ixS S1 rfl ⟨_,Z,ixS S1 rfl ⟨_,Z,o,_,0,_,Z,Z,Ar ho,Z,_,_,Z,Z,_,Z,ixS S1 rfl ⟨_,Z,o,_,1,_,Z,Z,Ar ho,Z,_,_,Z,Z,zS4,λ r hr'=>?_⟩⟩⟩⟩⟩;obtain ⟨H2,e2,k2,s2⟩:∃H',upd H1 r (.tup [.int p.x,.int p.y,.int (p.x + sd1 k p.c),.int (p.y + sd2 k p.c)])=H'/\H' r=some (.tup [.int p.x,.int p.y,.int (p.x + sd1 k p.c),.int (p.y + sd2 k p.c)])/\Same H1 H':=⟨_,Z,ag,Aq hr'⟩
 rw [show upd H1 r _=H2 from e2];exact q r H2 k2 (s1.trans s2)
theorem scapart:FnScope ["_law_one","_law_other"] ["_law_one","_law_other"] (defScope fF):=⟨Z,Z,Z,by decide +kernel,Z,by decide +kernel,by decide +kernel⟩
theorem lf {f:Addr} {fd:An} (F:Fun K "_law_apart" "_law_apart" fF f fd)  : FnOk P w K mg base CX0 1 f fd ["_law_one","_law_other"] (spApart):=by
 refine F.ok scapart (λ vs H Q E h=>?_) (λ cdv A outer s H vs Q E hr h=>?_)
 ·obtain ⟨a1,a2,o,r,rfl,_⟩:=h
  rfl
 obtain ⟨a1,a2,o,r,rfl,h1,h2,q⟩:=h;have nd:=scapart.nd;refine ⟨_,(@af _ _ _ (@au _ _ _ _ (iw (@aY _ _ _ _ _ _ _ _ dy (@am _ _ _ _ _ _ _ ix_tup (pv 0) ad (λ _ _=>Z)) (@am _ _ _ _ _ _ _ ix_tup (pv 1) ad (λ _ _=>Z)) (aA _)) (iw (@aY _ _ _ _ _ _ _ _ dy (@am _ _ _ _ _ _ _ ix_tup (pv 1) ad (λ _ _=>Z)) (@am _ _ _ _ _ _ _ ix_tup (pv 0) ad (λ _ _=>Z)) (aA _)) (iw (@aY _ _ _ _ _ _ _ _ dy (@am _ _ _ _ _ _ _ ix_tup (pv 0) ad (λ _ _=>Z)) (@am _ _ _ _ _ _ _ ix_tup (pv 1) ad (λ _ _=>Z)) (aA _)) (bU (@aY _ _ _ _ _ _ _ _ dy (@am _ _ _ _ _ _ _ ix_tup (pv 1) ad (λ _ _=>Z)) (@am _ _ _ _ _ _ _ ix_tup (pv 0) ad (λ _ _=>Z)) (aA _)))))))),?_⟩;unfold apB at q;have tru:∀ {z:Bool},z=true->z=true:=λ h=>h;refine ⟨_,Z,a1,_,2,_,Z,Z,Ar h1,Z,_,Z,a2,_,0,_,Z,Z,Ar h2,Z,_,_,Z,Z,_,Z,?_⟩;refine bO (λ c1=>?_) (λ c1=>?_)
 ·rw [c1] at q; exact q
 rw [show decide (o.c<=r.a)=false by simpa using c1] at q;refine ⟨_,Z,a2,_,2,_,Z,Z,Ar h2,Z,_,Z,a1,_,0,_,Z,Z,Ar h1,Z,_,_,Z,Z,_,Z,?_⟩;refine bO (λ c2=>?_) (λ c2=>?_)
 ·rw [c2] at q; exact q
 rw [show decide (r.c<=o.a)=false by simpa using c2] at q;refine ⟨_,Z,a1,_,3,_,Z,Z,Ar h1,Z,_,Z,a2,_,1,_,Z,Z,Ar h2,Z,_,_,Z,Z,_,Z,?_⟩;refine bO (λ c3=>?_) (λ c3=>?_)
 ·rw [c3] at q; exact q
 rw [show decide (o.d<=r.b)=false by simpa using c3] at q;exact ⟨_,Z,a2,_,3,_,Z,Z,Ar h2,Z,_,Z,a1,_,1,_,Z,Z,Ar h1,Z,_,_,Z,Z,q⟩
end
def eF (ks:List Kd) (w h:Int):PyData->PyData->PyData->PyData->Bool
 | .int i,.bool c,.int x,.int y=>cw ks w h (.int i) (.bl c) (.int x) (.int y)
 | _,_,_,_=>false
theorem Dts.one {p:Addr} {H:Hp} {xs:List V} {ds:List PyData} {n:Nat} (h:Dts p H xs ds) (hl:ds.length=n + 1):∃x d xs' ds',xs=x :: xs'/\ds=d :: ds'/\Dt p H x d/\Dts p H xs' ds'/\ds'.length=n:=by
 cases h with
 | nil=>cases hl
 | cons a r=>exact ⟨_,_,_,_,Z,Z,a,r,Nat.succ.inj hl⟩
theorem Dts.zero {p:Addr} {H:Hp} {xs:List V} {ds:List PyData} (h:Dts p H xs ds) (hl:ds.length=0):xs=[]/\ds=[]:=by
 cases h with
 | nil=>exact ⟨Z,Z⟩
 | cons a r=>cases hl
theorem Dts.four {p:Addr} {H:Hp} {xs:List V} {ds:List PyData} (h:Dts p H xs ds) (hl:ds.length=4):∃x1 x2 x3 x4 d1 d2 d3 d4,xs=[x1,x2,x3,x4]/\ds=[d1,d2,d3,d4]/\Dt p H x1 d1/\Dt p H x2 d2/\Dt p H x3 d3/\Dt p H x4 d4:=by obtain ⟨x1,d1,xs,ds,rfl,rfl,h1,h,hl⟩:=h.one hl;obtain ⟨x2,d2,xs,ds,rfl,rfl,h2,h,hl⟩:=h.one hl;obtain ⟨x3,d3,xs,ds,rfl,rfl,h3,h,hl⟩:=h.one hl;obtain ⟨x4,d4,xs,ds,rfl,rfl,h4,h,hl⟩:=h.one hl;obtain ⟨rfl,rfl⟩:=h.zero hl;exact ⟨_,_,_,_,_,_,_,_,Z,Z,h1,h2,h3,h4⟩
theorem cj {C:Addr} {H H':Hp} {s:Addr} {b:Int} {ks:List Kd} (k:Same H H') (h:ShopAt C H s b ks):ShopAt C H' s b ks:=h.keep (λ c o e=>k _ _ e) (λ c C' d fs e=>k _ _ e)
def aQ (ks:List Kd) (p:Pq):Bx:=match ks[p.k]? with
 | some k=>jr k p
 | none=>⟨0,0,0,0⟩
theorem bn {ks:List Kd} {p:Pq} {k:Kd} (h:ks[p.k]? = some k):aQ ks p=jr k p:=by unfold aQ; rw [h]
def onB (ks:List Kd) (W h:Int) (p:Pq):Bool:=!(decide (W < (aQ ks p).c) || decide (h < (aQ ks p).d))
def bi (ks:List Kd) (W h:Int) (ps:List Pq) (p:Pq):Bool:=onB ks W h p && (ps.map λ o=>apB (aQ ks p) (aQ ks o)).all id
def PqS (ks:List Kd) (H:Hp) (v:V) (q:Pq):Prop:=∃a k,v=.ref a/\Sq H a (pqV q)/\ks[q.k]? = some k
def aU (ks:List Kd) (w h:Int) (d:PyData):Bool:=match aV d with
 | some [k,t,x,y]=>eF ks w h k t x y
 | _=>false
theorem om (k:Kd) (c:Bool):fI k c=[V.int (sd1 k c),V.int (sd2 k c)]:=by unfold fI sd1 sd2;cases c <;> rfl
section
variable {P:Am} {w:Ao} {K:AV} {mg:Str->Option Ap} {base:Heap}
inductive spFitsC (vs:List V) (H:Hp) (Q:VK) (E_:XK):Prop
 | mk (t kl pl a:Addr) (b W h:Int) (ks:List Kd) (ys:List V) (ps:List Pq) (p:Pq) (k:Kd) (e_1:vs=[.ref t,.int W,.int h,.ref pl,.ref a]) (e_2:LS H t b ks kl) (e_3:H pl=some (.lst ys)) (e_4:Paired (PqS ks H) ys ps) (e_5:ys.length<=100) (e_6:Sq H a (pqV p)) (e_7:ks[p.k]? = some k) (e_8:∀H',Same H H'->Q (.bl (bi ks W h ps p)) H'):spFitsC vs H Q E_
inductive spMeet (vs:List V) (H:Hp) (Q:VK) (E_:XK):Prop
 | mk (a1 a2:Addr) (i j k l:Int) (e_1:vs=[.ref a1,.ref a2]) (e_2:H a1=some (.tup [.int i,.int j])) (e_3:H a2=some (.tup [.int k,.int l])) (e_4:Q (.bl (decide (i < l) && decide (k < j))) H):spMeet vs H Q E_
inductive spSpans (C:Addr) (vs:List V) (H:Hp) (Q:VK) (E_:XK):Prop
 | mk (s a:Addr) (b:Int) (ks:List Kd) (p:Pq) (k:Kd) (e_1:vs=[.ref s,.ref a]) (e_2:ShopAt C H s b ks) (e_3:Sq H a (pqV p)) (e_4:bf ks (.int p.k) (.bl p.c)=true) (e_5:ks[p.k]? = some k) (e_6:∀ (r r1 r2:Addr) (H':Hp),H' r=some (.tup [.ref r1,.ref r2])->H' r1=some (.tup [.int p.x,.int (p.x + sd1 k p.c)])->H' r2=some (.tup [.int p.y,.int (p.y + sd2 k p.c)])->Same H H'->Q (.ref r) H'):spSpans C vs H Q E_
inductive spPlaced (C:Addr) (vs:List V) (H:Hp) (Q:VK) (E_:XK):Prop
 | mk (pp s:Addr) (b w h:Int) (ks:List Kd) (v:V) (d:PyData) (e_1:vs=[.ref s,.int w,.int h,v]) (e_2:ShopAt C H s b ks) (e_3:Dt pp H v d) (e_4:∀H',Same H H'->Q (.bl (aU ks w h d)) H'):spPlaced C vs H Q E_
theorem scfitsc:FnScope ["_law_shop_here","_law_wide","_law_high","_law_pieces","_law_piece","_law_box_here"] ["_law_shop_here","_law_wide","_law_high","_law_pieces","_law_piece"] (defScope gm):=⟨Z,Z,Z,by decide +kernel,Z,by decide +kernel,by decide +kernel⟩
theorem lg {f:Addr} {fd:An} (F:Fun K "_law_fits" "_law_fits" gm f fd) (B:Blt mg) (DBx:Dn P w K mg base "_law_box" ["_law_shop_here","_law_piece"] 2 (spBox)) (DAp:Dn P w K mg base "_law_apart" ["_law_one","_law_other"] 1 (spApart)):FnOk P w K mg base CX0 3 f fd ["_law_shop_here","_law_wide","_law_high","_law_pieces","_law_piece"] (spFitsC):=by
 refine F.ok scfitsc (λ vs H Q E h=>?_) (λ cdv A outer s H vs Q E hr h=>?_)
 ·obtain ⟨t,kl,pl,a,b,W,h1,ks,ys,ps,p,k,rfl,_⟩:=h
  rfl
 obtain ⟨t,kl,pl,a,b,W,h1,ks,ys,ps,p,k,rfl,sh,hpl,py,y100,hp,hk,q⟩:=h;have nd:=scfitsc.nd;refine ⟨_,(@ae _ _ _ _ _ (@aD _ _ 5 _ _ _ _ nd Z (Or.inr Z) (@ai _ _ _ _ _ _ _ _ _ _ DBx hr Z ((pv 0)^^^((pv 4)^^^ab)) (by decide) Z Z) Z (Or.inl Z)) (@ae _ _ _ _ _ (@aK _ _ _ _ _ _ _ _ (PW.pt (bg (@aH _ _ _ _ _ _ _ _ iB (@am _ _ _ _ _ _ _ ix_tup (pv 5) ad (λ _ _=>Z)) (pv 1) (aA _)) (bd (@aH _ _ _ _ _ _ _ _ iB (@am _ _ _ _ _ _ _ ix_tup (pv 5) ad (λ _ _=>Z)) (pv 2) (aA _))))) (@af _ _ _ (@au _ _ _ _ aX)) ax) (@af _ _ _ (@au _ _ _ _ (@aw _ _ _ _ _ _ _ _ _ (fb Z) Z B.all PyProof.Rows.boot_all ((fy (own:=["_law_other"]) (cs:=["_law_shop_here","_law_box_here"]) (cap:=[0,5]) Z (dF (pv 3)) (cA (sc:=defScope gm) (N:=["_law_shop_here","_law_wide","_law_high","_law_pieces","_law_piece","_law_box_here"]) Z Z (by decide +kernel)) (λ _ _ _ _ _=>ay (i:=0) (by show List.Nodup (["_law_other","_law_shop_here","_law_box_here"]:List Str) ; decide +kernel) Z (Or.inl Z) (Or.inr Z)) (λ _ _ _ _ _=>cO) (λ _ _ _ _ _=>(@ai _ _ _ _ _ _ _ _ _ _ DAp (hr.mono (by decide)) Z ((pv 2)^^^((@ai _ _ _ _ _ _ _ _ _ _ DBx hr Z ((pv 1)^^^((pv 0)^^^ab)) (by decide) Z Z)^^^ab)) (by decide) Z Z)))^^^ab) (by decide) (by decide) Z Z))))),?_⟩;have sz:(1000:Nat) < sizeLine:=by decide
 have eb:=bn hk;have yl:=Aa py;refine aj (λ σ' H'=>∃r:Addr,σ'=[some (.ref t),some (.int W),some (.int h1),some (.ref pl),some (.ref a),some (.ref r)]/\H' r=some (.tup (bxV (aQ ks p)))/\Same H H') (λ R hR=>?_) ?_
 ·exact ⟨_,Z,_,Z,t,kl,a,b,ks,p,k,Z,sh,hp,hk,λ r H1 h1 s1=>hR _ _ ⟨r,Z,by rw [eb]; exact h1,s1⟩⟩
 rintro _ H1 ⟨r,rfl,hr1,s1⟩;refine aj (λ σ' H'=>σ'=[some (.ref t),some (.int W),some (.int h1),some (.ref pl),some (.ref a),some (.ref r)]/\H1=H'/\onB ks W h1 p=true) (λ R hR=>?_) ?_
 ·refine ⟨_,Z,r,_,2,_,Z,Z,Ar hr1,Z,_,Z,_,_,Z,Z,_,Z,?_⟩;refine bO (λ c1=>?_) (λ c1=>?_)
  ·have:=q H1 s1;rw [show bi ks W h1 ps p=false by unfold bi onB; rw [show decide (W < (aQ ks p).c)=true from c1]; rfl] at this;exact this
  ·refine ⟨_,Z,r,_,3,_,Z,Z,Ar hr1,Z,_,Z,_,_,Z,Z,_,Z,?_⟩;refine bO (λ c2=>?_) (λ c2=>?_)
   ·have:=q H1 s1;rw [show bi ks W h1 ps p=false by unfold bi onB; rw [show decide (h1 < (aQ ks p).d)=true from c2,Bool.or_true]; rfl] at this;exact this
   ·exact hR _ _ ⟨rfl,rfl,by unfold onB; rw [show decide (W < (aQ ks p).c)=false by simpa using c1,show decide (h1 < (aQ ks p).d)=false by simpa using c2]; rfl⟩
 rintro _ _ ⟨rfl,rfl,on⟩;have hpl1:=s1 _ _ hpl;refine ⟨_,Z,pl,Z,⟨_,As hpl1⟩,(fZ (K:=K) (.inl hpl1) (λ i us Hx=>Same H1 Hx/\us=((ps.take i).map λ o=>apB (aQ ks p) (aQ ks o)).map V.bl) (λ i us Hx _ ⟨sx,_⟩ o e=>sx _ _ e) ⟨Same.refl _,Z⟩ ?_ ?_).1 hpl1⟩
 ·rintro i x us Hx hi ⟨sx,rfl⟩;have hin:i < ys.length:=(AD.mp hi).1;obtain ⟨o,ho,ao,ko,rfl,hao,hko⟩:=Au py hi;have s0x:=s1.trans sx;refine ⟨by rw [List.length_map,List.length_map,List.length_take]; omega,leS.set rfl,cQ ?_⟩;refine ⟨_,Z,_,Z,_,Z,t,kl,ao,b,ks,o,ko,Z,sh.same s0x,hao.same s0x,hko,λ r2 H3 h2 s3=>⟨r,r2,_,_,Z,s3 _ _ (sx _ _ hr1),h2,Nx.of hin ⟨sx.trans s3,?_⟩⟩⟩;rw [List.take_add_one,ho,<- bn hko];simp only [Option.toList_some,List.map_append,List.map_cons,List.map_nil]
 ·rintro us Hx ⟨sx,rfl⟩;rw [yl,List.take_length];refine ⟨by rw [List.length_map,List.length_map]; omega,λ l hl=>⟨l,_,Z,As ag,?_⟩⟩;have:=q _ (s1.trans (sx.trans (Aq hl (o:=.lst ((ps.map λ o=>apB (aQ ks p) (aQ ks o)).map V.bl)))));unfold bi at this;rw [on,Bool.true_and] at this;exact this
theorem scmeet:FnScope ["one","other"] ["one","other"] (defScope iL):=⟨Z,Z,Z,by decide +kernel,Z,by decide +kernel,by decide +kernel⟩
theorem mM {f:Addr} {fd:An} (F:Fun K "meet" "meet" iL f fd)  : FnOk P w K mg base CX0 1 f fd ["one","other"] (spMeet):=by
 refine F.ok scmeet (λ vs H Q E h=>?_) (λ cdv A outer s H vs Q E hr h=>?_)
 ·obtain ⟨a1,a2,i,j,k,l,rfl,_⟩:=h
  rfl
 obtain ⟨a1,a2,i,j,k,l,rfl,h1,h2,q⟩:=h;have nd:=scmeet.nd;refine ⟨_,(@af _ _ _ (@au _ _ _ _ (bH (@aY _ _ _ _ _ _ _ _ iA (@am _ _ _ _ _ _ _ ix_tup (pv 0) ad (λ _ _=>Z)) (@am _ _ _ _ _ _ _ ix_tup (pv 1) ad (λ _ _=>Z)) (aA _)) (bU (@aY _ _ _ _ _ _ _ _ iA (@am _ _ _ _ _ _ _ ix_tup (pv 1) ad (λ _ _=>Z)) (@am _ _ _ _ _ _ _ ix_tup (pv 0) ad (λ _ _=>Z)) (aA _)))))),?_⟩;refine ⟨_,Z,a1,_,0,_,Z,Z,Ar h1,Z,_,Z,a2,_,1,_,Z,Z,Ar h2,Z,_,_,Z,Z,_,Z,?_⟩;refine bO (λ c=>?_) (λ c=>?_)
 ·rw [show decide (i < l)=true from c] at q;exact ⟨_,Z,a2,_,0,_,Z,Z,Ar h2,Z,_,Z,a1,_,1,_,Z,Z,Ar h1,Z,_,_,Z,Z,q⟩
 ·rw [show decide (i < l)=false by simpa using c] at q;exact q
theorem scspans:FnScope ["shop","piece","kind","turned","x","y","wide","high"] ["shop","piece"] (defScope cU):=⟨Z,Z,Z,by decide +kernel,Z,by decide +kernel,by decide +kernel⟩
theorem lh {f C:Addr} {fd:An} (F:Fun K "spans_of" "spans_of" cU f fd) (T:ShopTxt K C) (MS:Mn P w K mg base C "sides" ["self","kind","turned"] 3 (spSides K C)):FnOk P w K mg base CX0 4 f fd ["shop","piece"] (spSpans C):=by
 refine F.ok scspans (λ vs H Q E h=>?_) (λ cdv A outer s H vs Q E hr h=>?_)
 ·obtain ⟨s,a,b,ks,p,k,rfl,_⟩:=h
  rfl
 obtain ⟨s,a,b,ks,p,k,rfl,S0,hp,ly,hk,q⟩:=h;have nd:=scspans.nd;refine ⟨_,(@ae _ _ _ _ _ (@bX _ _ _ _ _ _ (pv 1) (kM Z (az (ay (i:=2) nd Z (Or.inl Z)) (az (ay (i:=3) nd Z (Or.inl Z)) (az (ay (i:=4) nd Z (Or.inl Z)) (az (ay (i:=5) nd Z (Or.inl Z)) br))))) Z Z Z) (@ae _ _ _ _ _ (@bX _ _ _ _ _ _ (iK (pv 0) T.cl MS hr ((pv 2)^^^((pv 3)^^^ab))) (bW Z (az (ay (i:=6) nd Z (Or.inl Z)) (az (ay (i:=7) nd Z (Or.inl Z)) br))) Z Z Z) (@af _ _ _ (@au _ _ _ _ (@aR _ _ _ _ _ ((@aR _ _ _ _ _ ((pv 4)^^^((@av _ _ _ _ _ _ _ _ aM (pv 4) (pv 6))^^^ab)))^^^((@aR _ _ _ _ _ ((pv 5)^^^((@av _ _ _ _ _ _ _ _ aM (pv 5) (pv 7))^^^ab)))^^^ab))))))),?_⟩;refine aj (λ σ' H'=>σ'=[some (.ref s),some (.ref a),some (.int p.k),some (.bl p.c),some (.int p.x),some (.int p.y),none,none]/\H=H') (λ R hR=>?_) ?_
 ·exact ⟨_,Z,a,_,Z,hp.imp (λ z=>As z) (λ z=>Ar z),Z,_,_,Z,_,_,Z,_,_,Z,_,_,Z,Z,hR _ _ ⟨Z,Z⟩⟩
 rintro _ _ ⟨rfl,rfl⟩;obtain ⟨dx,r0,rs,h1,h2,h3⟩:=id S0;refine aj (λ σ' H'=>σ'=[some (.ref s),some (.ref a),some (.int p.k),some (.bl p.c),some (.int p.x),some (.int p.y),some (.int (sd1 k p.c)),some (.int (sd2 k p.c))]/\Same H H') (λ R hR=>?_) ?_
 ·refine ⟨_, Z, s, dx, _, Z, h1, dJ _ _ (by decide +kernel) (by decide +kernel), _, Z, _, Z, s, b, ks, .int p.k, .bl p.c, "int", "bool", Z, S0, Ty.int, Ty.bl, ly, λ i' c' k' r e1 e2 hk' _ hr=>?_⟩;cases e1;cases e2;rw [Int.toNat_natCast,hk] at hk';cases hk';rw [om];exact ⟨r,_,Z,Ar ag,Z,_,_,Z,_,_,Z,Z,hR _ _ ⟨Z,Aq hr⟩⟩
 rintro _ H1 ⟨rfl,s1⟩;refine ⟨_,Z,_,Z,_,Z,_,_,Z,Z,zS2,λ r1 hr1=>?_⟩;obtain ⟨H2,e2,k2,s2⟩:∃H',upd H1 r1 (.tup [.int p.x,.int (p.x + sd1 k p.c)])=H'/\H' r1=some (.tup [.int p.x,.int (p.x + sd1 k p.c)])/\Same H1 H':=⟨_,Z,ag,Aq hr1⟩
 rw [show upd H1 r1 _=H2 from e2];refine ⟨_,Z,_,Z,_,Z,_,_,Z,Z,zS2,λ r2 hr2=>?_⟩;obtain ⟨H3,e3,k3,s3⟩:∃H',upd H2 r2 (.tup [.int p.y,.int (p.y + sd2 k p.c)])=H'/\H' r2=some (.tup [.int p.y,.int (p.y + sd2 k p.c)])/\Same H2 H':=⟨_,Z,ag,Aq hr2⟩
 rw [show upd H2 r2 _=H3 from e3];refine ⟨zS2,λ r hr'=>?_⟩;obtain ⟨H4,e4,k4,s4⟩:∃H',upd H3 r (.tup [.ref r1,.ref r2])=H'/\H' r=some (.tup [.ref r1,.ref r2])/\Same H3 H':=⟨_,Z,ag,Aq hr'⟩
 rw [show upd H3 r _=H4 from e4];exact q r r1 r2 H4 k4 (s4 _ _ (s3 _ _ k2)) (s4 _ _ k3) (s1.trans (s2.trans (s3.trans s4)))
theorem scplaced:FnScope ["shop","wide","high","thing"] ["shop","wide","high","thing"] (defScope cC):=⟨Z,Z,Z,by decide +kernel,Z,by decide +kernel,by decide +kernel⟩
theorem jt {f C:Addr} {tn4:Tok} {fd:An} (F:Fun K "is_placed" "is_placed" cC f fd) (B:Blt mg) (n4:mg "THINGS_OF_A_PIECE" = some (.int 4 tn4)) (DR:Dn P w K mg base "is_row" ["thing"] 1 (eW K)) (DL:Dn P w K mg base "lies_in" ["shop","wide","high","kind","turned","x","y"] 4 (spLiesG K C)):FnOk P w K mg base CX0 5 f fd ["shop","wide","high","thing"] (spPlaced C):=by
 refine F.ok scplaced (λ vs H Q E h=>?_) (λ cdv A outer s H vs Q E hr h=>?_)
 ·obtain ⟨pp,s,b',w1,h1,ks,v,d,rfl,_⟩:=h
  rfl
 obtain ⟨pp,s,b',w1,h1,ks,v,d,rfl,S,hd,q⟩:=h;have nd:=scplaced.nd;refine ⟨_,(@ae _ _ _ _ _ (@aK _ _ _ _ _ _ _ _ (PW.pt (bg (@aF _ _ _ _ (@aB _ _ _ (@ai _ _ _ _ _ _ _ _ _ _ DR (hr.mono (by decide)) Z ((pv 3)^^^ab) (by decide) Z Z) (by intro _; rfl))) (bd (@aH _ _ _ _ _ _ _ _ dZ (@aw _ _ _ _ _ _ _ _ _ aI Z B.len PySem.boot_len ((pv 3)^^^ab) (by decide) (by decide) Z Z) (fj (v:=.int 4) Z n4 ⟨tn4,Z⟩) (aA _))))) (@af _ _ _ (@au _ _ _ _ aX)) ax) (@af _ _ _ (@au _ _ _ _ (@ai _ _ _ _ _ _ _ _ _ _ DL hr Z ((pv 0)^^^((pv 1)^^^((pv 2)^^^((@am _ _ _ _ _ _ _ bm (pv 3) ad (λ _ _=>Z))^^^((@am _ _ _ _ _ _ _ bm (pv 3) ad (λ _ _=>Z))^^^((@am _ _ _ _ _ _ _ bm (pv 3) ad (λ _ _=>Z))^^^((@am _ _ _ _ _ _ _ bm (pv 3) ad (λ _ _=>Z))^^^ab))))))) (by decide) Z Z)))),?_⟩;refine aj (λ σ' H'=>σ'=[some (.ref s),some (.int w1),some (.int h1),some v]/\Same H H'/\∃ (a:Addr) (xs:List V) (ds:List PyData),v=.ref a/\Sq H a xs/\Dts pp H xs ds/\aV d=some ds/\ds.length=4) (λ R hR=>?_) ?_
 ·have no:∀H',Same H H'->(∀a b c e,aV d≠some [a,b,c,e])->Q (.bl false) H':=λ H' s hn=>by
   have:=q H' s;rw [show aU ks w1 h1 d=false by
    unfold aU
    split
    ·exact absurd ‹_› (hn _ _ _ _)
    ·rfl] at this
   exact this
  rcases hd.row (K:=K) with ⟨er,T1,t1,e1⟩ | ⟨a,xs,ds,T1,er,rfl,hx,dx,t1,e1⟩
  ·refine ⟨_,Z,v,T1,Z,t1,λ H1 s1=>⟨_,Z,?_⟩⟩;rw [e1];exact aO (no H1 s1 (λ a b c e z=>by rw [er] at z; cases z))
  ·refine ⟨_,Z,.ref a,T1,Z,t1,λ H1 s1=>⟨_,Z,?_⟩⟩;rw [e1];refine aJ ⟨_,rfl,a,_,rfl,(Sq.same hx s1).imp (λ z=>As z) (λ z=>Ar z),rfl,_,rfl,?_⟩;have dl:=dx.length
   by_cases h4:ds.length=4
   ·rw [show (!decide (V.int (xs.length:Int)=V.int 4))=false by rw [decide_eq_true (by rw [dl,h4]; rfl)]; rfl];exact aJ (hR _ _ ⟨rfl,s1,a,xs,ds,rfl,hx,dx,er,h4⟩)
   ·rw [show (!decide (V.int (xs.length:Int)=V.int 4))=true by rw [decide_eq_false (λ z=>h4 (by have:=V.int.inj z; omega))]; rfl];exact aO (no H1 s1 (λ a b c e z=>h4 (by rw [er] at z; cases z; rfl)))
 rintro _ H1 ⟨rfl,s1,a,xs,ds,rfl,hx,dx,er,h4⟩;obtain ⟨x1,x2,x3,x4,d1,d2,d3,d4,rfl,rfl,hd1,hd2,hd3,hd4⟩:=dx.four h4;obtain ⟨T2,t2⟩:=(hd1.same s1).ty (K:=K);obtain ⟨T3,t3⟩:=(hd2.same s1).ty (K:=K);obtain ⟨T4,t4⟩:=(hd3.same s1).ty (K:=K);obtain ⟨T5,t5⟩:=(hd4.same s1).ty (K:=K);have hx1:Sq H1 a [x1,x2,x3,x4]:=Sq.same hx s1;refine ⟨_,Z,_,Z,_,Z,_,Z,ixS hx1 rfl ⟨_,Z,ixS hx1 rfl ⟨_,Z,ixS hx1 rfl ⟨_,Z,ixS hx1 rfl ?_⟩⟩⟩⟩;refine ⟨s,b',ks,w1,h1,x1,x2,x3,x4,T2,T3,T4,T5,Z,cj s1 S,t2,t3,t4,t5,λ H2 s2=>?_⟩;have q1:=q H2 (s1.trans s2);unfold aU at q1;rw [er] at q1;have e:eF ks w1 h1 d1 d2 d3 d4=cw ks w1 h1 x1 x2 x3 x4:=by
  cases hd1 with
  | int i=>cases hd2 with
   | bl c=>cases hd3 with
    | int x=>cases hd4 with
     | int y=>rfl
     | _=>simp [eF,cw,aE]
    | _=>simp [eF,cw,aE]
   | _=>simp [eF,cw,bf]
  | _=>simp [eF,cw,bf]
 rw [<- e];exact q1
end
def PqT (ks:List Kd) (H:Hp) (v:V) (q:Pq):Prop:=∃a,v=.ref a/\H a=some (.tup (pqV q))/\(q.k,q.c)∈lyK ks 0/\0<=q.x/\0<=q.y
theorem PqT.keep {ks:List Kd} {H H':Hp} (k:∀a xs,H a=some (.tup xs)->H' a=some (.tup xs)) {v:V} {q:Pq} (h:PqT ks H v q):PqT ks H' v q:=by obtain ⟨a,e,h,r⟩:=h;exact ⟨a,e,k _ _ h,r⟩
theorem eG:∀ {ks:List Kd} {i:Nat} {q:Nat×Bool},q∈lyK ks i->i<=q.1/\∃k,ks[q.1 - i]? = some k/\(q.2=false\/aP k=true)
 | [],_,_,h=>by simp [lyK] at h
 | x :: ks,i,q,h=>by
  rcases AT.mp (show q∈lyT i x ++ lyK ks (i + 1) from h) with h | h
  ·unfold lyT at h;rcases List.mem_cons.mp h with rfl | h
   ·exact ⟨AJ _,x,by simp,.inl rfl⟩
   ·split at h
    ·rename_i ht
     rw [List.mem_singleton.mp h];exact ⟨AJ _,x,by simp,.inr ht⟩
    ·simp at h
  ·obtain ⟨h1,k,h2,h3⟩:=eG h;exact ⟨by omega,k,by rw [show q.1 - i=(q.1 - (i + 1)) + 1 by omega,List.getElem?_cons_succ]; exact h2,h3⟩
theorem PqT.s {ks:List Kd} {H:Hp} {v:V} {q:Pq} (h:PqT ks H v q):PqS ks H v q:=by obtain ⟨a,e,h,r,_⟩:=h;obtain ⟨_,k,hk,_⟩:=eG r;exact ⟨a,k,e,.inr h,by simpa using hk⟩
def Laid (ks:List Kd) (W h:Int) (ps:List Pq):Prop:=∀i p,ps[i]? = some p->bi ks W h (ps.take i) p=true
theorem Laid.snoc {ks:List Kd} {W h:Int} {ps:List Pq} {p:Pq} (x:Laid ks W h ps) (f:bi ks W h ps p=true):Laid ks W h (ps ++ [p]):=λ i q hq=>by
 by_cases hi:i < ps.length
 ·rw [List.getElem?_append_left hi] at hq;rw [List.take_append_of_le_length (by omega)];exact x i q hq
 ·have:i=ps.length:=by have:=(AD.mp hq).1;rw [List.length_append] at this;have e:[p].length=1:=rfl;omega
  subst this;rw [List.getElem?_append_right (Nat.le_refl _),Nat.sub_self] at hq;cases hq;rw [List.take_left']
  ·exact f
  ·rfl
theorem oo {K:AV} {ks:List Kd} {H:Hp}:∀ {ys:List V} {ps:List Pq},Paired (PqT ks H) ys ps->∃ds,DatVs K H ys ds/\ds.length=ys.length/\PyData.canLayAll0 ds=true/\PyData.depthAll ds<=1
 | _,_,.nil=>⟨[],.nil,Z,Z,Ae _⟩
 | _,_,.cons ⟨a,e,ha,_⟩ r=>by
  subst e;obtain ⟨ds,d1,d2,d3,d4⟩:=oo (K:=K) r;refine ⟨_ :: ds,.cons (.tup (Ar ha) (.cons (.int _) (.cons (.bl _) (.cons (.int _) (.cons (.int _) .nil))))) d1,by rw [List.length_cons,List.length_cons,d2],?_,?_⟩
  ·simp [PyData.canLayAll0,PyData.canLay0,d3]
  ·simp only [PyData.depthAll,PyData.depth]; omega
theorem li {ds:List PyData} (d3:PyData.canLayAll0 ds=true) (d4:PyData.depthAll ds<=1):SeqAt.shaped (.list ds)=true/\(ds=[]->PyData.eqv (.list ds) (.list [])=true)/\(ds≠[]->PyData.eqv (.list ds) (.list [])=false):=by
 refine ⟨?_,λ e=>by subst e; exact PySem.SeqAt.eqv_refl _ rfl,λ e=>?_⟩
 ·unfold SeqAt.shaped;rw [PyData.canLay0,d3,PyData.depth,decide_eq_true (show PyData.depthAll ds + 1<=64 by omega)]; rfl
 ·cases ds with
  | nil=>exact absurd rfl e
  | cons d r=>rfl
theorem Paired.impS {α β:Type} {R S:α->β->Prop} (k:∀a b,R a b->S a b):∀ {xs:List α} {ys:List β},Paired R xs ys->Paired S xs ys
 | _,_,.nil=>.nil
 | _,_,.cons a r=>.cons (k _ _ a) (Paired.impS k r)
section
variable {P:Am} {w:Ao} {K:AV} {mg:Str->Option Ap} {base:Heap}
inductive spScat (vs:List V) (H:Hp) (Q:VK) (E_:XK):Prop
 | mk (p t kl pl:Addr) (b W h m:Int) (ks:List Kd) (ys:List V) (ps:List Pq) (e_1:vs=[.ref p,.ref t,.int W,.int h,.ref pl,.int m]) (e_2:PotC H p) (e_3:LS H t b ks kl) (e_4:kl≠p) (e_5:1<=ks.length) (e_6:ks.length<=8) (e_7:(∀k∈ks,Good k)) (e_8:0<=b) (e_9:1<=W) (e_10:W < 10 ^ 58) (e_11:1<=h) (e_12:h < 10 ^ 58) (e_13:0<=m) (e_14:m<=20) (e_15:pl≠p) (e_16:H pl=some (.lst ys)) (e_17:Paired (PqT ks H) ys ps) (e_18:ys.length<=4) (e_19:Laid ks W h ps) (e_20:∀ (l:Addr) (zs:List V) (qs:List Pq) (H':Hp),H l=none->l≠p->H' l=some (.lst zs)->Paired (PqT ks H') zs qs->Laid ks W h qs->(zs.length:Int)<=ys.length + m->PotC H' p->But p H H'->Q (.ref l) H'):spScat vs H Q E_
theorem scscat:FnScope ["_law_pot_here","_law_shop_here","_law_wide","_law_high","_law_pieces","_law_many","_law_some","_law_found","_law_k","_law_kind","_law_turned","_law_x","_law_y","_law_box_here"] ["_law_pot_here","_law_shop_here","_law_wide","_law_high","_law_pieces","_law_many"] (defScope ci):=⟨Z,Z,Z,by decide +kernel,Z,by decide +kernel,by decide +kernel⟩
theorem mN {f:Addr} {fd:An} (F:Fun K "_law_scattered" "_law_scattered" ci f fd) (B:Blt mg) (DD:Dn P w K mg base "_law_take" ["_law_pot_here","_law_many"] 1 (spTake)) (DLy:Dn P w K mg base "_law_lyings" ["_law_shop_here"] 1 (spLyingsC)) (DBx:Dn P w K mg base "_law_box" ["_law_shop_here","_law_piece"] 2 (spBox)) (DFi:Dn P w K mg base "_law_fits" ["_law_shop_here","_law_wide","_law_high","_law_pieces","_law_piece"] 3 (spFitsC)):FnOk P w K mg base CX0 4 f fd ["_law_pot_here","_law_shop_here","_law_wide","_law_high","_law_pieces","_law_many"] (spScat):=by
 refine F.ok scscat (λ vs H Q E h=>?_) (λ cdv A outer s H vs Q E hr h=>?_)
 ·obtain ⟨p,t,kl,pl,b,W,h1,m,ks,ys,ps,rfl,_⟩:=h
  rfl
 obtain ⟨p,t,kl,pl,b,W,h1,m,ks,ys,ps,rfl,pt,sh,nkp,k1,k08,gk,b0,w1,w58,h0,h58,m0,m20,npl,hpl,py,y4,ld,q⟩:=h;have nd:=scscat.nd;have hu:=hr.units;refine ⟨_,(@ae _ _ _ _ _ (@aD _ _ 6 _ _ _ _ nd Z (Or.inl Z) (@ai _ _ _ _ _ _ _ _ _ _ DLy (hr.mono (by decide)) Z ((pv 1)^^^ab) (by decide) Z Z) Z (Or.inl Z)) (@ae _ _ _ _ _ (@aD _ _ 7 _ _ _ _ nd Z (Or.inl Z) (@aW _ _ _ _ _ _ _ _ _ bY Z B.list PyProof.Rows.boot_list ((pv 4)^^^ab) (by decide) (by decide) Z Z) Z (Or.inl Z)) (@ae _ _ _ _ _ (@bN _ _ _ _ _ _ _ _ Ab Z (cy Z B.range ((pv 5)^^^ab)) (ay (i:=8) nd Z (Or.inl Z)) (@ae _ _ _ _ _ (@bX _ _ _ _ _ _ (@am _ _ _ _ _ _ _ ix_list (pv 6) (@ai _ _ _ _ _ _ _ _ _ _ DD (hr.mono (by decide)) Z ((pv 0)^^^((@aw _ _ _ _ _ _ _ _ _ aI Z B.len PySem.boot_len ((pv 6)^^^ab) (by decide) (by decide) Z Z)^^^ab)) (by decide) Z Z) (λ _ _=>Z)) (bW Z (az (ay (i:=9) nd Z (Or.inl Z)) (az (ay (i:=10) nd Z (Or.inl Z)) br))) Z Z Z) (@ae _ _ _ _ _ (@aD _ _ 11 _ _ _ _ nd Z (Or.inl Z) (@ai _ _ _ _ _ _ _ _ _ _ DD (hr.mono (by decide)) Z ((pv 0)^^^((pv 2)^^^ab)) (by decide) Z Z) Z (Or.inl Z)) (@ae _ _ _ _ _ (@aD _ _ 12 _ _ _ _ nd Z (Or.inl Z) (@ai _ _ _ _ _ _ _ _ _ _ DD (hr.mono (by decide)) Z ((pv 0)^^^((pv 3)^^^ab)) (by decide) Z Z) Z (Or.inl Z)) (@ae _ _ _ _ _ (@aK _ _ _ _ _ _ _ _ (PW.pt (gz (@aH _ _ _ _ _ _ _ _ (nY hu) (pv 7) (@aN _ _ _ _ ab) (aA _)) (fk (@aH _ _ _ _ _ _ _ _ cH (@ai _ _ _ _ _ _ _ _ _ _ DD (hr.mono (by decide)) Z ((pv 0)^^^(ad^^^ab)) (by decide) Z Z) ad (aA _))))) (@ae _ _ _ _ _ (@aD _ _ 13 _ _ _ _ nd Z (Or.inl Z) (@ai _ _ _ _ _ _ _ _ _ _ DBx (hr.mono (by decide)) Z ((pv 1)^^^((@am _ _ _ _ _ _ _ ix_list (pv 7) (@ai _ _ _ _ _ _ _ _ _ _ DD (hr.mono (by decide)) Z ((pv 0)^^^((@aw _ _ _ _ _ _ _ _ _ aI Z B.len PySem.boot_len ((pv 7)^^^ab) (by decide) (by decide) Z Z)^^^ab)) (by decide) Z Z) (λ _ _=>Z))^^^ab)) (by decide) Z Z) Z (Or.inl Z)) (@ae _ _ _ _ _ (@aD _ _ 11 _ _ _ _ nd Z (Or.inl Z) (@am _ _ _ _ _ _ _ ix_list (@aN _ _ _ _ ((@am _ _ _ _ _ _ _ ix_tup (pv 13) ad (λ _ _=>Z))^^^((@am _ _ _ _ _ _ _ ix_tup (pv 13) ad (λ _ _=>Z))^^^((@av _ _ _ _ _ _ _ _ aM (@am _ _ _ _ _ _ _ ix_tup (pv 13) ad (λ _ _=>Z)) (@am _ _ _ _ _ _ _ ix_tup (pv 1) ad (λ _ _=>Z)))^^^ab)))) (@ai _ _ _ _ _ _ _ _ _ _ DD (hr.mono (by decide)) Z ((pv 0)^^^(ad^^^ab)) (by decide) Z Z) (λ _ _=>Z)) Z (Or.inl Z)) (@af _ _ _ (@aD _ _ 12 _ _ _ _ nd Z (Or.inl Z) (@am _ _ _ _ _ _ _ ix_list (@aN _ _ _ _ ((@am _ _ _ _ _ _ _ ix_tup (pv 13) ad (λ _ _=>Z))^^^((@am _ _ _ _ _ _ _ ix_tup (pv 13) ad (λ _ _=>Z))^^^((@av _ _ _ _ _ _ _ _ aM (@am _ _ _ _ _ _ _ ix_tup (pv 13) ad (λ _ _=>Z)) (@am _ _ _ _ _ _ _ ix_tup (pv 1) ad (λ _ _=>Z)))^^^ab)))) (@ai _ _ _ _ _ _ _ _ _ _ DD (hr.mono (by decide)) Z ((pv 0)^^^(ad^^^ab)) (by decide) Z Z) (λ _ _=>Z)) Z (Or.inl Z))))) ax) (@af _ _ _ (@aK _ _ _ _ _ _ _ _ (@aB _ _ _ (@ai _ _ _ _ _ _ _ _ _ _ DFi hr Z ((pv 1)^^^((pv 2)^^^((pv 3)^^^((pv 7)^^^((@aR _ _ _ _ _ ((pv 9)^^^((pv 10)^^^((pv 11)^^^((pv 12)^^^ab)))))^^^ab))))) (by decide) Z Z) (by intro _; rfl)) (@af _ _ _ (@bV _ _ _ _ (@eU _ _ _ _ _ _ _ _ _ _ _ _ Ak PySem.F.slot_list_append PySem.F.type_list_append bS (pv 7) ((@aR _ _ _ _ _ ((pv 9)^^^((pv 10)^^^((pv 11)^^^((pv 12)^^^ab)))))^^^ab) Z Z Z Z Z) Z)) ax)))))) (by intro _; rfl)) (@af _ _ _ (@au _ _ _ _ (pv 7)))))),?_⟩;have sz:(1000:Nat) < sizeLine:=by decide
 have e58:(10:Int) ^ 58 < 10 ^ 60:=by decide
 have e3:(100:Int) < 10 ^ 60:=by decide
 refine aj (λ σ' H'=>∃ (so:Addr) (ss:List V),σ'=[some (.ref p),some (.ref t),some (.int W),some (.int h1),some (.ref pl),some (.int m),some (.ref so),none,none,none,none,none,none,none]/\so≠p/\H' so=some (.lst ss)/\Paired (LyC H') ss (lyK ks 0)/\Same H H') (λ R hR=>?_) ?_
 ·exact ⟨_,Z,t,kl,b,ks,Z,sh,k08,λ l ss H1 hl hl0 pl1 s1=>hR _ _ ⟨l,ss,Z,Ne.symm (pt.ne hl0),hl,pl1,s1⟩⟩
 rintro _ H1 ⟨so,ss,rfl,nsp,hso,pso,s1⟩;have pt1:=pt.same s1;refine aj (λ σ' H'=>∃fo:Addr,σ'=[some (.ref p),some (.ref t),some (.int W),some (.int h1),some (.ref pl),some (.int m),some (.ref so),some (.ref fo),none,none,none,none,none,none]/\H1 fo=none/\H' fo=some (.lst ys)/\Same H1 H') (λ R hR=>?_) ?_
 ·refine ⟨_,Z,pl,_,Z,.inl (As (s1 _ _ hpl)),λ fo hfo=>?_⟩;obtain ⟨H2,e2,k2,s2⟩:∃H',upd H1 fo (.lst ys)=H'/\H' fo=some (.lst ys)/\Same H1 H':=⟨_,Z,ag,Aq hfo⟩
  rw [show upd H1 fo _=H2 from e2];exact hR _ _ ⟨fo,rfl,hfo,k2,s2⟩
 rintro _ H2 ⟨fo,rfl,hfo1,hfo2,s12⟩;have s02:=s1.trans s12;have pt2:=pt.same s02;have hfo0:H fo=none:=s1.free hfo1;have nfp:fo≠p:=Ne.symm (pt1.ne hfo1);have nso:so≠fo:=ah hso hfo1;obtain ⟨kr,lst1,lst2,lst3⟩:=id sh;have nkf:kl≠fo:=ah lst2 hfo0;have lyl:=Aa pso;have ly8:=fA ks 0;have ly1:1<=(lyK ks 0).length:=by
  cases ks with
  | nil=>exact absurd k1 (by simp)
  | cons k r=>exact Nat.succ_le_of_lt (Nat.zero_lt_succ _)
 obtain ⟨_,hp2⟩:=gq pt2;have tk:∀ {Hx:Hp},(∀c o,c≠p->c≠fo->H2 c=some o->Hx c=some o)->∀a xs,H2 a=some (.tup xs)->Hx a=some (.tup xs):=λ bx a xs e=>bx _ _ (λ z=>by rw [z,hp2] at e; cases e) (λ z=>by rw [z,hfo2] at e; cases e) e;have bt:∀ {Hx Hy:Hp},(∀c o,c≠p->c≠fo->H2 c=some o->Hx c=some o)->But p Hx Hy->∀c o,c≠p->c≠fo->H2 c=some o->Hy c=some o:=λ b1 b2 c o n1 n2 e=>b2 _ _ n1 (b1 _ _ n1 n2 e);have shx:∀ {Hx:Hp},(∀c o,c≠p->c≠fo->H2 c=some o->Hx c=some o)->LS Hx t b ks kl:=λ bx=>⟨kr,tk bx _ _ (s02 _ _ lst1),bx _ _ nkp nkf (s02 _ _ lst2),Tups.keep (λ a xs e=>tk bx _ _ (s02 _ _ e)) lst3⟩
 refine aj (λ σ' H'=>(∃ (v8 v9 v10 v11 v12 v13:Option V) (zs:List V) (qs:List Pq),σ'=[some (.ref p),some (.ref t),some (.int W),some (.int h1),some (.ref pl),some (.int m),some (.ref so),some (.ref fo),v8,v9,v10,v11,v12,v13]/\H' fo=some (.lst zs)/\Paired (PqT ks H') zs qs/\Laid ks W h1 qs/\zs.length<=ys.length + m.toNat/\PotC H' p/\∀c o,c≠p->c≠fo->H2 c=some o->H' c=some o)) (λ R hR=>?_) ?_
 ·refine ⟨_,Z,_,Z,by omega,by omega,?_⟩;refine cz (n:=m.toNat) (λ i σ' H'=>(∃ (v8 v9 v10 v11 v12 v13:Option V) (zs:List V) (qs:List Pq),σ'=[some (.ref p),some (.ref t),some (.int W),some (.int h1),some (.ref pl),some (.int m),some (.ref so),some (.ref fo),v8,v9,v10,v11,v12,v13]/\H' fo=some (.lst zs)/\Paired (PqT ks H') zs qs/\Laid ks W h1 qs/\zs.length<=ys.length + i/\PotC H' p/\∀c o,c≠p->c≠fo->H2 c=some o->H' c=some o)) ⟨_,_,_,_,_,_,ys,ps,rfl,hfo2,At py λ v q h=>h.keep λ a xs e=>s02 _ _ e,ld,AJ _,pt2,λ _ _ _ _ e=>e⟩ ?_ (λ σ Hx h=>hR _ _ h);rintro i _ H4 hi ⟨v8,v9,v10,v11,v12,v13,zs,qs,rfl,hz4,pz4,ld4,zl4,pt4,b4⟩;have zq:=Aa pz4;refine aj (λ σ' H'=>∃ (lk:Nat) (lc:Bool),σ'=[some (.ref p),some (.ref t),some (.int W),some (.int h1),some (.ref pl),some (.int m),some (.ref so),some (.ref fo),some (.int (0 + (i:Int))),some (.int lk),some (.bl lc),v11,v12,v13]/\(lk,lc)∈lyK ks 0/\PotC H' p/\But p H4 H') (λ R hR=>?_) ?_
  ·have hso4:=b4 _ _ nsp nso (s12 _ _ hso);refine ⟨_,Z,_,Z,_,Z,so,_,Z,.inl (As hso4),p,_,Z,pt4,by omega,by omega,λ r H5 r0 r1 pt5 b5=>?_⟩;obtain ⟨v,hv⟩:∃v,ss[r.toNat]? = some v:=⟨_,Ag (show r.toNat < ss.length by omega)⟩
   obtain ⟨q0,hq0,aq,rfl,haq⟩:=Au pso hv;have haq5:=tk (bt b4 b5) _ _ (s12 _ _ haq);exact ⟨so,_,_,_,Z,Z,As (b5 _ _ nsp hso4),bB r0 hv,aq,_,Z,Ar haq5,Z,_,_,Z,_,_,Z,Z,hR _ _ ⟨q0.1,q0.2,Z,AL hq0,pt5,b5⟩⟩
  rintro _ H5 ⟨lk,lc,rfl,hly,pt5,b45⟩;refine aj (λ σ' H'=>∃x:Int,σ'=[some (.ref p),some (.ref t),some (.int W),some (.int h1),some (.ref pl),some (.int m),some (.ref so),some (.ref fo),some (.int (0 + (i:Int))),some (.int lk),some (.bl lc),some (.int x),v12,v13]/\0<=x/\PotC H' p/\But p H4 H') (λ R hR=>?_) ?_
  ·exact ⟨_,Z,_,Z,p,W,Z,pt5,by omega,by omega,λ x H6 x0 x1 pt6 b6=>hR _ _ ⟨x,Z,x0,pt6,b45.trans b6⟩⟩
  rintro _ H6 ⟨x,rfl,x0,pt6,b46⟩;refine aj (λ σ' H'=>∃y:Int,σ'=[some (.ref p),some (.ref t),some (.int W),some (.int h1),some (.ref pl),some (.int m),some (.ref so),some (.ref fo),some (.int (0 + (i:Int))),some (.int lk),some (.bl lc),some (.int x),some (.int y),v13]/\0<=y/\PotC H' p/\But p H4 H') (λ R hR=>?_) ?_
  ·exact ⟨_,Z,_,Z,p,h1,Z,pt6,by omega,by omega,λ y H7 y0 y1 pt7 b7=>hR _ _ ⟨y,Z,y0,pt7,b46.trans b7⟩⟩
  rintro _ H7 ⟨y,rfl,y0,pt7,b47⟩;refine aj (λ σ' H'=>∃ (x y:Int) (v13:Option V),σ'=[some (.ref p),some (.ref t),some (.int W),some (.int h1),some (.ref pl),some (.int m),some (.ref so),some (.ref fo),some (.int (0 + (i:Int))),some (.int lk),some (.bl lc),some (.int x),some (.int y),v13]/\0<=x/\0<=y/\PotC H' p/\But p H4 H') (λ R hR=>?_) ?_
  ·have hz7:=b47 _ _ nfp hz4;have pz7:Paired (PqT ks H7) zs qs:=At pz4 λ v q h=>h.keep λ a xs e=>cG b47 pt4 e;refine ⟨_,Z,by decide,λ e he=>?_⟩;obtain ⟨H8,e8,k8,n8,s8,b8,pt8⟩:=aS (o:=.lst []) b47 pt7 he;rw [show upd H7 e _=H8 from e8];obtain ⟨ds,d1,d2,d3,d4⟩:=oo (K:=K) (At pz7 λ v q h=>h.keep λ a xs e=>s8 _ _ e);obtain ⟨sh1,sh2,sh3⟩:=li d3 d4;refine ⟨.list ds,.list [],.lst (As (s8 _ _ hz7)) d1,.lst (As k8) .nil,sh1,by decide +kernel,_,Z,?_⟩
   by_cases hz0:zs=[]
   ·rw [sh2 (by rw [hz0] at d2; exact List.eq_nil_of_length_eq_zero d2)];exact aJ (hR _ _ ⟨x,y,v13,rfl,x0,y0,pt8,b8⟩)
   rw [sh3 (λ z=>hz0 (by rw [z] at d2; exact List.eq_nil_of_length_eq_zero d2.symm))];have zpos:1<=zs.length:=Nat.pos_of_ne_zero (λ z=>hz0 (List.eq_nil_of_length_eq_zero z));refine aO ⟨_,rfl,p,2,rfl,pt8,by decide,by decide,λ z H9 z0 z1 pt9 b9=>⟨rfl,_,rfl,?_⟩⟩;refine bO (λ cc=>?_) (λ cc=>hR _ _ ⟨x,y,v13,rfl,x0,y0,pt9,b8.trans b9⟩);have b49:=b8.trans b9;have hz9:=b9 _ _ nfp (s8 _ _ hz7);refine aj (λ σ' H'=>∃ (bx:Addr) (g:Bx),σ'=[some (.ref p),some (.ref t),some (.int W),some (.int h1),some (.ref pl),some (.int m),some (.ref so),some (.ref fo),some (.int (0 + (i:Int))),some (.int lk),some (.bl lc),some (.int x),some (.int y),some (.ref bx)]/\H' bx=some (.tup (bxV g))/\0<=g.a/\0<=g.b/\0<=g.c/\0<=g.d/\PotC H' p/\But p H4 H') (λ R2 hR2=>?_) ?_
   ·refine ⟨_,Z,_,Z,_,Z,_,Z,fo,_,Z,.inl (As hz9),p,_,Z,pt9,by omega,by omega,λ r H10 r0 r1 pt10 b10=>?_⟩;obtain ⟨v,hv⟩:∃v,zs[r.toNat]? = some v:=⟨_,Ag (show r.toNat < zs.length by omega)⟩
    obtain ⟨q0,hq0,aq,rfl,haq,hqly,q0x,q0y⟩:=Au pz4 hv;obtain ⟨_,k0,hk0,_⟩:=eG hqly;have hk0:ks[q0.k]? = some k0:=by simpa using hk0
    have g0:=gk k0 (AL hk0);have b410:=b49.trans b10;refine ⟨fo,_,_,_,Z,Z,As (b10 _ _ nfp hz9),bB r0 hv,t,kl,aq,b,ks,q0,k0,Z,shx (bt b4 b410),.inr (cG b410 pt4 haq),hk0,λ bx H11 hbx s11=>hR2 _ _ ⟨bx,jr k0 q0,Z,hbx,q0x,q0y,?_,?_,pt10.same s11,λ c o n e=>s11 _ _ (b410 _ _ n e)⟩⟩
    ·show 0<=q0.x + sd1 k0 q0.c;have g1:=g0.w; have g2:=g0.h;unfold sd1; split <;> omega
    ·show 0<=q0.y + sd2 k0 q0.c;have g1:=g0.w; have g2:=g0.h;unfold sd2; split <;> omega
   rintro _ Hq ⟨bx,g,rfl,hb,ga,gb,gc,gd,ptq,bq⟩;have ht:Hq t=some (.tup [.int b,.ref kl]):=(shx (bt b4 bq)).choose_spec.1;refine aj (λ σ' H'=>∃x:Int,σ'=[some (.ref p),some (.ref t),some (.int W),some (.int h1),some (.ref pl),some (.int m),some (.ref so),some (.ref fo),some (.int (0 + (i:Int))),some (.int lk),some (.bl lc),some (.int x),some (.int y),some (.ref bx)]/\0<=x/\H' bx=some (.tup (bxV g))/\PotC H' p/\But p H4 H') (λ R3 hR3=>?_) ?_
   ·skip
    refine ⟨_,Z,bx,_,0,_,Z,Z,Ar hb,Z,_,Z,bx,_,2,_,Z,Z,Ar hb,Z,_,Z,bx,_,2,_,Z,Z,Ar hb,Z,_,Z,t,_,0,_,Z,Z,Ar ht,Z,_,_,Z,Z,zS3,λ l3 hl3=>?_⟩;obtain ⟨H20,e20,k20,n20,s20,b20,pt20⟩:=aS (o:=.lst [.int g.a,.int g.c,.int (g.c + b)]) bq ptq hl3;rw [show upd Hq l3 _=H20 from e20];refine ⟨_,Z,p,3,Z,pt20,by decide,by decide,λ z H21 z0 z1 pt21 b21=>?_⟩;obtain ⟨xx,hxx,xx0⟩:∃xx:Int,atI [V.int g.a,V.int g.c,V.int (g.c + b)] z=some (.int xx)/\0<=xx:=by
     have:z=0\/z=1\/z=2:=by omega
     rcases this with rfl | rfl | rfl
     ·exact ⟨_,Z,by omega⟩
     ·exact ⟨_,Z,by omega⟩
     ·exact ⟨_,Z,by omega⟩
    exact ⟨l3,_,_,_,Z,Z,As (b21 _ _ n20 k20),hxx,hR3 _ _ ⟨xx,Z,xx0,cG b21 pt20 (s20 _ _ hb),pt21,b20.trans b21⟩⟩
   clear hb ht ptq bq;clear Hq;rintro _ Hq ⟨x,rfl,x0,hb,ptq,bq⟩;have ht:Hq t=some (.tup [.int b,.ref kl]):=(shx (bt b4 bq)).choose_spec.1;refine ⟨_,Z,bx,_,1,_,Z,Z,Ar hb,Z,_,Z,bx,_,3,_,Z,Z,Ar hb,Z,_,Z,bx,_,3,_,Z,Z,Ar hb,Z,_,Z,t,_,0,_,Z,Z,Ar ht,Z,_,_,Z,Z,zS3,λ l3 hl3=>?_⟩;obtain ⟨H20,e20,k20,n20,s20,b20,pt20⟩:=aS (o:=.lst [.int g.b,.int g.d,.int (g.d + b)]) bq ptq hl3;rw [show upd Hq l3 _=H20 from e20];refine ⟨_,Z,p,3,Z,pt20,by decide,by decide,λ z H21 z0 z1 pt21 b21=>?_⟩;obtain ⟨xx,hxx,xx0⟩:∃xx:Int,atI [V.int g.b,V.int g.d,V.int (g.d + b)] z=some (.int xx)/\0<=xx:=by
    have:z=0\/z=1\/z=2:=by omega
    rcases this with rfl | rfl | rfl
    ·exact ⟨_,Z,by omega⟩
    ·exact ⟨_,Z,by omega⟩
    ·exact ⟨_,Z,by omega⟩
   exact ⟨l3,_,_,_,Z,Z,As (b21 _ _ n20 k20),hxx,hR _ _ ⟨x,xx,some (.ref bx),Z,x0,xx0,pt21,b20.trans b21⟩⟩
  clear b45 b46 b47 pt5 pt6 pt7 x0 y0;clear H5 H6 H7 x y v13;rintro _ H7 ⟨x,y,v13,rfl,x0,y0,pt7,b47⟩;have hz7:=b47 _ _ nfp hz4;have pz7:Paired (PqT ks H7) zs qs:=At pz4 λ v q h=>h.keep λ a xs e=>cG b47 pt4 e;obtain ⟨_,kk,hkk,_⟩:=eG hly;have hkk:ks[lk]? = some kk:=by simpa using hkk
  refine ⟨_,Z,_,Z,_,Z,_,Z,_,Z,_,Z,_,Z,_,Z,zS4,λ a ha=>?_⟩;obtain ⟨H8,e8,k8,n8,s8,b8,pt8⟩:=aS (o:=.tup [.int lk,.bl lc,.int x,.int y]) b47 pt7 ha;rw [show upd H7 a _=H8 from e8];refine ⟨t,kl,fo,a,b,W,h1,ks,zs,qs,⟨lk,lc,x,y⟩,kk,Z,shx (bt b4 b8),s8 _ _ hz7,Paired.impS (λ v q h=>(PqT.keep (λ a xs e=>s8 _ _ e) h).s) pz7,by omega,.inr k8,hkk,λ H9 s9=>⟨_,Z,?_⟩⟩;have s79:=s8.trans s9;have b49:But p H4 H9:=λ c o n e=>s79 _ _ (b47 _ _ n e);refine bO (λ cc=>?_) (λ cc=>?_)
  ·have hz9:=s79 _ _ hz7;refine ⟨_,Z,.inl ⟨Z,_,As hz9⟩,_,Z,_,Z,_,Z,_,Z,zS4,λ a2 ha2=>?_⟩;obtain ⟨H10,e10,k10,n10,s10,b10,pt10⟩:=aS (o:=.tup [.int lk,.bl lc,.int x,.int y]) b49 (pt8.same s9) ha2;rw [show upd H9 a2 _=H10 from e10];have hz10:=s10 _ _ hz9;have kt:∀c xs,H10 c=some (.tup xs)->(upd H10 fo (.lst (zs ++ [.ref a2]))) c=some (.tup xs):=λ c xs e=>by rw [ar (λ z=>by rw [z,hz10] at e; cases e)]; exact e
   refine ⟨fo,_,_,Z,Z,hz10,by omega,_,_,_,_,_,_,zs ++ [.ref a2],qs ++ [⟨lk,lc,x,y⟩],Z,ag,?_,ld4.snoc cc,by rw [List.length_append]; show zs.length + 1<=_; omega,pt10.put (Ne.symm nfp),λ c o n n2 e=>by rw [ar n2]; exact b10 _ _ n (b4 _ _ n n2 e)⟩;exact gX (At pz7 λ v q h=>h.keep λ a xs e=>kt _ _ (s10 _ _ (s79 _ _ e))) (.cons ⟨a2,Z,kt _ _ k10,hly,x0,y0⟩ .nil)
  ·exact ⟨_,_,_,_,_,_,zs,qs,Z,s79 _ _ hz7,At pz7 λ v q h=>h.keep λ a xs e=>s79 _ _ e,ld4,by omega,pt8.same s9,bt b4 b49⟩
 rintro _ H3 ⟨v8,v9,v10,v11,v12,v13,zs,qs,rfl,hz3,pz3,ld3,zl3,pt3,b3⟩;exact ⟨_,Z,q fo zs qs H3 hfo0 nfp hz3 pz3 ld3 (by omega) pt3 (λ c o n e=>b3 _ _ n (ah e hfo0) (s02 _ _ e))⟩
end
theorem Dt.ref_row {p:Addr} {H:Hp} {v:V} {d:PyData} {ds:List PyData} (h:Dt p H v d) (e:aV d=some ds):∃a xs,v=.ref a/\(H a=some (.lst xs)\/H a=some (.tup xs))/\Dts p H xs ds:=by
 cases h <;> simp only [aV,Option.some.injEq,reduceCtorEq] at e
 ·subst e; exact ⟨_,_,Z,.inl ‹_›,‹_›⟩
 ·subst e; exact ⟨_,_,Z,.inr ‹_›,‹_›⟩
theorem fK:∀ds:List PyData,ds.length<=wts ds
 | []=>AJ _
 | d :: r=>by have:=fK r; have:=qH d; rw [List.length_cons,wts]; omega
theorem Dts.get {p:Addr} {H:Hp}:∀ {vs:List V} {ds:List PyData} {i:Nat} {x:V},Dts p H vs ds->vs[i]? = some x->∃d,ds[i]? = some d/\Dt p H x d
 | _,_,0,_,.cons a _,e=>⟨_,Z,by cases e; exact a⟩
 | _,_,i + 1,_,.cons _ r,e=>by obtain ⟨d,h1,h2⟩:=r.get (i:=i) (by simpa using e);exact ⟨d,by simpa using h1,h2⟩
theorem eH {d:PyData} {ds:List PyData} (h:aV d=some ds):wt d=wts ds + 1:=by
 cases d <;> simp only [aV,Option.some.injEq,reduceCtorEq] at h
 ·subst h; rw [wt]
 ·subst h; rw [wt]
def cx (o r:Bx):Bool:=(decide (o.a < r.c) && decide (r.a < o.c)) && (decide (o.b < r.d) && decide (r.b < o.d))
def PqD (d:PyData) (p:Pq):Prop:=aV d=some [.int p.k,.bool p.c,.int p.x,.int p.y]
def fe (ks:List Kd) (ps:List Pq):Prop:=∀i p,ps[i]? = some p->∀q∈ps.take i,cx (aQ ks p) (aQ ks q)=false
def cV (ks:List Kd) (w h:Int) (d:PyData):Prop:=∃ds ps,aV d=some ds/\Paired PqD ds ps/\(∀x∈ds,aU ks w h x=true)/\fe ks ps
theorem Paired.uniq {α β:Type} {R:α->β->Prop} (u:∀a b c,R a b->R a c->b=c):∀ {xs:List α} {ys zs:List β},Paired R xs ys->Paired R xs zs->ys=zs
 | _,_,_,.nil,.nil=>rfl
 | _,_,_,.cons a r,.cons b s=>by rw [u _ _ _ a b,Paired.uniq u r s]
theorem PqD.uniq (d:PyData) (p q:Pq) (h:PqD d p) (h':PqD d q):p=q:=by
 unfold PqD at h h';rw [h] at h';obtain ⟨a,b,c,e⟩:=p;obtain ⟨a',b',c',e'⟩:=q;simp only [Option.some.injEq,List.cons.injEq,PyData.int.injEq,PyData.bool.injEq,and_true] at h';obtain ⟨h1,h2,h3,h4⟩:=h';have h1:(a:Int)=(a':Int):=h1;have h1:a=a':=by omega
 subst h1;have h2:b=b':=h2;have h3:c=c':=h3;have h4:e=e':=h4;subst h2; subst h3; subst h4
 rfl
theorem dW {ks:List Kd} {w h:Int} {d:PyData} (x:aU ks w h d=true):∃p k,PqD d p/\bf ks (.int p.k) (.bl p.c)=true/\ks[p.k]? = some k/\0<=p.x/\0<=p.y/\p.x + sd1 k p.c<=w/\p.y + sd2 k p.c<=h:=by
 unfold aU at x
 split at x
 ·rename_i d1 d2 d3 d4 er
  unfold eF at x
  split at x
  ·rename_i i c xx yy
   unfold cw at x;simp only [Bool.and_eq_true] at x;obtain ⟨⟨⟨x1,x2⟩,x3⟩,x4⟩:=x;obtain ⟨i',c',k',e1,e2,i0,hk⟩:=du x1;cases e1;cases e2;rw [hk] at x4;have ei:((i.toNat:Nat):Int)=i:=by omega
   have x4:=AX.mp x4;have w1:aE (.int xx) 0=decide (0<=xx):=rfl;have w2:aE (.int yy) 0=decide (0<=yy):=rfl;rw [w1] at x2; rw [w2] at x3;exact ⟨⟨i.toNat,c,xx,yy⟩,k',by unfold PqD; rw [er]; show some [PyData.int i,_,_,_]=some [PyData.int ((i.toNat:Nat):Int),_,_,_]; rw [ei],by show bf ks (.int ((i.toNat:Nat):Int)) _=true; rw [ei]; exact x1,hk,of_decide_eq_true x2,of_decide_eq_true x3,of_decide_eq_true x4.1,of_decide_eq_true x4.2⟩
  ·cases x
 ·cases x
theorem gr {ks:List Kd} {w h:Int}:∀ {ds:List PyData},(∀x∈ds,aU ks w h x=true)->∃ps,Paired PqD ds ps/\∀p∈ps,∃k,bf ks (.int p.k) (.bl p.c)=true/\ks[p.k]? = some k/\0<=p.x/\0<=p.y/\p.x + sd1 k p.c<=w/\p.y + sd2 k p.c<=h
 | [],_=>⟨[],.nil,λ p hp=>by simp at hp⟩
 | d :: ds,hh=>by
  obtain ⟨p,k,h1,h2⟩:=dW (hh d AN);obtain ⟨ps,g1,g2⟩:=gr (λ x hx=>hh x (AK _ hx));refine ⟨p :: ps,.cons h1 g1,λ q hq=>?_⟩;rcases List.mem_cons.mp hq with rfl | hq
  ·exact ⟨k,h2⟩
  ·exact g2 q hq
theorem Dt.pq {p:Addr} {H:Hp} {v:V} {d:PyData} {q:Pq} (h:Dt p H v d) (e:PqD d q):∃a,v=.ref a/\Sq H a (pqV q):=by obtain ⟨a,xs,rfl,hx,dx⟩:=h.ref_row e;obtain ⟨x1,x2,x3,x4,d1,d2,d3,d4,rfl,e2,h1,h2,h3,h4⟩:=dx.four rfl;cases e2;cases h1; cases h2; cases h3; cases h4;exact ⟨a,Z,hx⟩
def SpAt (H:Hp) (v:V) (g:Bx):Prop:=∃r r1 r2,v=.ref r/\H r=some (.tup [.ref r1,.ref r2])/\H r1=some (.tup [.int g.a,.int g.c])/\H r2=some (.tup [.int g.b,.int g.d])
theorem SpAt.same {H H':Hp} (s:Same H H') {v:V} {g:Bx} (h:SpAt H v g):SpAt H' v g:=by obtain ⟨r,r1,r2,e,h1,h2,h3⟩:=h;exact ⟨r,r1,r2,e,s _ _ h1,s _ _ h2,s _ _ h3⟩
section
variable {P:Am} {w:Ao} {K:AV} {mg:Str->Option Ap} {base:Heap}
inductive spCP (vs:List V) (H:Hp) (Q:VK) (E_:XK):Prop
 | mk (w h:Int) (e_1:vs=[.int w,.int h]) (e_2:1<=w) (e_3:1<=h) (e_4:Q .non H):spCP vs H Q E_
inductive spIsLay (C:Addr) (vs:List V) (H:Hp) (Q:VK) (E_:XK):Prop
 | mk (pp s:Addr) (b w h:Int) (ks:List Kd) (v:V) (d:PyData) (e_1:vs=[.ref s,.int w,.int h,v]) (e_2:ShopAt C H s b ks) (e_3:1<=w) (e_4:1<=h) (e_5:Dt pp H v d) (e_6:wt d<=30000) (e_7:∀ (r:Bool) (H':Hp),(r=true↔cV ks w h d)->Same H H'->Q (.bl r) H'):spIsLay C vs H Q E_
theorem sccplate:FnScope ["wide","high"] ["wide","high"] (defScope bM):=⟨Z,Z,Z,by decide +kernel,Z,by decide +kernel,by decide +kernel⟩
theorem ju {f:Addr} {fd:An} (F:Fun K "check_plate" "check_plate" bM f fd) (DW:Dn P w K mg base "is_whole" ["thing","least"] 1 (bu K)):FnOk P w K mg base CX0 2 f fd ["wide","high"] (spCP):=by
 refine F.ok sccplate (λ vs H Q E h=>?_) (λ cdv A outer s H vs Q E hr h=>?_)
 ·obtain ⟨w1,h1,rfl,_⟩:=h
  rfl
 obtain ⟨w1,h1,rfl,w0,h0,q⟩:=h;have nd:=sccplate.nd;refine ⟨_,(@af _ _ _ (@aK _ _ _ _ _ _ _ _ (PW.pt (bg (@aF _ _ _ _ (@aB _ _ _ (@ai _ _ _ _ _ _ _ _ _ _ DW hr Z ((pv 0)^^^(ad^^^ab)) (by decide) Z Z) (by intro _; rfl))) (bd (@aF _ _ _ _ (@aB _ _ _ (@ai _ _ _ _ _ _ _ _ _ _ DW hr Z ((pv 1)^^^(ad^^^ab)) (by decide) Z Z) (by intro _; rfl)))))) (@af _ _ _ fS) ax)),?_⟩;refine ⟨_,Z,.int w1,"int",1,Z,Ty.int,_,Z,?_⟩;rw [show aE (.int w1) 1=true from decide_eq_true w0];refine aJ ⟨_,rfl,.int h1,"int",1,rfl,Ty.int,_,rfl,?_⟩;rw [show aE (.int h1) 1=true from decide_eq_true h0];exact aJ q
theorem scislay:FnScope ["shop","wide","high","thing","spans","at","columns","rows","other_columns","other_rows"] ["shop","wide","high","thing"] (defScope bF):=⟨Z,Z,Z,by decide +kernel,Z,by decide +kernel,by decide +kernel⟩
theorem lj {f C:Addr} {fd:An} (F:Fun K "is_laying" "is_laying" bF f fd) (B:Blt mg) (DCP:Dn P w K mg base "check_plate" ["wide","high"] 2 (spCP)) (DR:Dn P w K mg base "is_row" ["thing"] 1 (eW K)) (DPl:Dn P w K mg base "is_placed" ["shop","wide","high","thing"] 5 (spPlaced C)) (DSn:Dn P w K mg base "spans_of" ["shop","piece"] 4 (spSpans C)) (DM:Dn P w K mg base "meet" ["one","other"] 1 (spMeet)):FnOk P w K mg base CX0 6 f fd ["shop","wide","high","thing"] (spIsLay C):=by
 refine F.ok scislay (λ vs H Q E h=>?_) (λ cdv A outer s H vs Q E hr h=>?_)
 ·obtain ⟨pp,s,b',w1,h1,ks,v,d,rfl,_⟩:=h
  rfl
 obtain ⟨pp,s,b',w1,h1,ks,v,d,rfl,S,hw,hh,hd,wd,q⟩:=h;have nd:=scislay.nd;refine ⟨_,(@ae _ _ _ _ _ (@bV _ _ _ _ (@ai _ _ _ _ _ _ _ _ _ _ DCP (hr.mono (by decide)) Z ((pv 1)^^^((pv 2)^^^ab)) (by decide) Z Z) Z) (@ae _ _ _ _ _ (@aK _ _ _ _ _ _ _ _ (PW.pt (bg (@aF _ _ _ _ (@aB _ _ _ (@ai _ _ _ _ _ _ _ _ _ _ DR (hr.mono (by decide)) Z ((pv 3)^^^ab) (by decide) Z Z) (by intro _; rfl))) (bd (@aF _ _ _ _ (@aB _ _ _ (@aw _ _ _ _ _ _ _ _ _ (fb Z) Z B.all PyProof.Rows.boot_all ((fy (own:=["piece"]) (cs:=["shop","wide","high"]) (cap:=[0,1,2]) Z (eo (pv 3)) (cA (sc:=defScope bF) (N:=["shop","wide","high","thing","spans","at","columns","rows","other_columns","other_rows"]) Z Z (by decide +kernel)) (λ _ _ _ _ _=>ay (i:=0) (by show List.Nodup (["piece","shop","wide","high"]:List Str) ; decide +kernel) Z (Or.inl Z) (Or.inr Z)) (λ _ _ _ _ _=>cO) (λ _ _ _ _ _=>(@ai _ _ _ _ _ _ _ _ _ _ DPl hr Z ((pv 1)^^^((pv 2)^^^((pv 3)^^^((pv 0)^^^ab)))) (by decide) Z Z)))^^^ab) (by decide) (by decide) Z Z) (by intro _; rfl)))))) (@af _ _ _ (@au _ _ _ _ aX)) ax) (@ae _ _ _ _ _ (mv (i:=4) (own:=["piece"]) (cs:=["shop"]) (cap:=[0]) Z nd Z Z Z (eo (pv 3)) (cA (sc:=defScope bF) (N:=["shop","wide","high","thing","spans","at","columns","rows","other_columns","other_rows"]) Z Z (by decide +kernel)) (λ _ _ _ _ _=>ay (i:=0) (by show List.Nodup (["piece","shop"]:List Str) ; decide +kernel) Z (Or.inl Z) (Or.inr Z)) (λ _ _ _ _ _=>cO) (λ _ _ _ _ _=>(@ai _ _ _ _ _ _ _ _ _ _ DSn (hr.mono (by decide)) Z ((pv 1)^^^((pv 0)^^^ab)) (by decide) Z Z))) (@ae _ _ _ _ _ (@bN _ _ _ _ _ _ _ _ Ab Z (iJ Z B.enumerate ((pv 4)^^^ab)) (bW Z (az (ay (i:=5) nd Z (Or.inl Z)) (az (bW Z (az (ay (i:=6) nd Z (Or.inl Z)) (az (ay (i:=7) nd Z (Or.inl Z)) br))) br))) (@af _ _ _ (@bN _ _ _ _ _ _ _ _ Ab Z (dF (@bj _ _ _ _ _ _ _ _ _ _ dG (pv 4) bz (bA (pv 5)))) (bW Z (az (ay (i:=8) nd Z (Or.inl Z)) (az (ay (i:=9) nd Z (Or.inl Z)) br))) (@af _ _ _ (@aK _ _ _ _ _ _ _ _ (PW.pt (gz (@aB _ _ _ (@ai _ _ _ _ _ _ _ _ _ _ DM (hr.mono (by decide)) Z ((pv 6)^^^((pv 8)^^^ab)) (by decide) Z Z) (by intro _; rfl)) (fk (@aB _ _ _ (@ai _ _ _ _ _ _ _ _ _ _ DM (hr.mono (by decide)) Z ((pv 7)^^^((pv 9)^^^ab)) (by decide) Z Z) (by intro _; rfl))))) (@af _ _ _ (@au _ _ _ _ aX)) ax)) (by intro _; rfl))) (by intro _; rfl)) (@af _ _ _ (@au _ _ _ _ aX)))))),?_⟩;have sz:(40000:Nat) < sizeLine:=by decide
 refine aj (λ σ' H'=>σ'=[some (.ref s),some (.int w1),some (.int h1),some v,none,none,none,none,none,none]/\H=H') (λ R hR=>?_) ?_
 ·exact ⟨_,Z,_,Z,w1,h1,Z,hw,hh,hR _ _ ⟨Z,Z⟩⟩
 rintro _ _ ⟨rfl,rfl⟩;refine aj (λ σ' H'=>∃ (a:Addr) (xs:List V) (ds:List PyData) (ps:List Pq),v=.ref a/\σ'=[some (.ref s),some (.int w1),some (.int h1),some (.ref a),none,none,none,none,none,none]/\Same H H'/\Sq H a xs/\Dts pp H xs ds/\aV d=some ds/\Paired PqD ds ps/\(∀x∈ds,aU ks w1 h1 x=true)/\∀p∈ps,∃k,bf ks (.int p.k) (.bl p.c)=true/\ks[p.k]? = some k/\0<=p.x/\0<=p.y/\p.x + sd1 k p.c<=w1/\p.y + sd2 k p.c<=h1) (λ R hR=>?_) ?_
 ·rcases hd.row (K:=K) with ⟨er,T1,t1,e1⟩ | ⟨a,xs,ds,T1,er,rfl,hx,dx,t1,e1⟩
  ·refine ⟨_,Z,v,T1,Z,t1,λ H1 s1=>⟨_,Z,?_⟩⟩;rw [e1];exact aO (q false H1 ⟨λ z=>(by cases z),λ ⟨ds,_,e,_⟩=>by rw [er] at e; cases e⟩ s1)
  ·refine ⟨_,Z,.ref a,T1,Z,t1,λ H1 s1=>⟨_,Z,?_⟩⟩;rw [e1];have dl:=dx.length;have wl:=fK ds;have wd':wts ds + 1=wt d:=(eH er).symm;refine aJ ?_;dsimp only [qd,tB,tCB,iC,mf];refine dk (j:=3) (a:=a) (xs:=xs) rfl (Sq.same hx s1) (λ i us Hx=>Same H1 Hx/\us=((ds.take i).map (aU ks w1 h1)).map V.bl) (λ i us Hx _ ⟨sx,_⟩ o e=>sx _ _ e) ⟨Same.refl _,rfl⟩ ?_ ?_
   ·rintro i x us Hx hi ⟨sx,rfl⟩;have hin:i < xs.length:=(AD.mp hi).1;obtain ⟨dd,hdd,hxx⟩:=dx.get hi;refine ⟨by rw [List.length_map,List.length_map,List.length_take]; omega,leS.set rfl,cQ ?_⟩;refine ⟨_,Z,_,Z,_,Z,_,Z,pp,s,b',w1,h1,ks,x,dd,Z,cj (s1.trans sx) S,hxx.same (s1.trans sx),λ H3 s3=>Nx.of hin ⟨sx.trans s3,?_⟩⟩;rw [List.take_add_one,hdd];simp only [Option.toList_some,List.map_append,List.map_cons,List.map_nil]
   ·rintro us Hx ⟨sx,rfl⟩;rw [dl,List.take_length];refine ⟨by rw [List.length_map,List.length_map]; omega,λ l hl=>⟨l,_,Z,As ag,_,Z,?_⟩⟩;have sl:=s1.trans (sx.trans (Aq hl (o:=.lst ((ds.map (aU ks w1 h1)).map V.bl))));cases ha:(ds.map (aU ks w1 h1)).all id with
    | false =>
     refine aO (q false _ ⟨λ z=>(by cases z),λ ⟨ds',_,e,_,hp,_⟩=>?_⟩ sl);rw [er] at e;cases e;rw [List.all_eq_false] at ha;obtain ⟨z,hz,hz2⟩:=ha;obtain ⟨x,hx,rfl⟩:=List.mem_map.mp hz;exact absurd (hp x hx) hz2
    | true =>
     have hall:∀x∈ds,aU ks w1 h1 x=true:=λ x hx=>(List.all_eq_true.mp ha) _ (List.mem_map.mpr ⟨x,hx,Z⟩);obtain ⟨ps,g1,g2⟩:=gr hall;exact aJ (hR _ _ ⟨a,xs,ds,ps,rfl,rfl,sl,hx,dx,er,g1,hall,g2⟩)
 rintro _ H1 ⟨a,xs,ds,ps,rfl,rfl,s1,hx,dx,er,pd,hall,hps⟩;have dl:=dx.length;have wl:=fK ds;have wd':wts ds + 1=wt d:=(eH er).symm;have pl:=Aa pd;have lay_iff:cV ks w1 h1 d↔fe ks ps:=⟨λ ⟨ds',ps',e,pd',_,ok⟩=>by
  rw [er] at e;cases e;rw [Paired.uniq PqD.uniq pd pd'];exact ok,λ ok=>⟨ds,ps,er,pd,hall,ok⟩⟩
 refine aj (λ σ' H'=>∃ (sl:Addr) (ss:List V),σ'=[some (.ref s),some (.int w1),some (.int h1),some (.ref a),some (.ref sl),none,none,none,none,none]/\H' sl=some (.lst ss)/\Paired (SpAt H') ss (ps.map (aQ ks))/\Same H H') (λ R hR=>?_) ?_
 ·refine dk (K:=K) (j:=3) rfl (Sq.same hx s1) (λ i us Hx=>Same H1 Hx/\Paired (SpAt Hx) us ((ps.take i).map (aQ ks))) (λ i us Hx _ ⟨sx,_⟩ o e=>sx _ _ e) ⟨Same.refl _,.nil⟩ ?_ ?_
  ·rintro i x us Hx hi ⟨sx,pu⟩;have hin:i < xs.length:=(AD.mp hi).1;obtain ⟨dd,hdd,hxx⟩:=dx.get hi;obtain ⟨p0,hp0,hpq⟩:=Au pd hdd;obtain ⟨ap,rfl,hap⟩:=hxx.pq hpq;obtain ⟨k0,g1,g2,g3⟩:=hps p0 (AL hp0);have ul:=Aa pu;rw [List.length_map,List.length_take] at ul;refine ⟨by omega,leS.set rfl,cQ ?_⟩;refine ⟨_,Z,_,Z,s,ap,b',ks,p0,k0,Z,cj (s1.trans sx) S,hap.same (s1.trans sx),g1,g2,λ r r1 r2 H3 e1 e2 e3 s3=>Nx.of hin ⟨sx.trans s3,?_⟩⟩;rw [List.take_add_one,hp0];simp only [Option.toList_some,List.map_append,List.map_cons,List.map_nil];refine gX (At pu λ v g h=>h.same s3) (.cons ⟨r,r1,r2,Z,e1,?_,?_⟩ .nil)
   ·rw [bn g2]; exact e2
   ·rw [bn g2]; exact e3
  ·rintro us Hx ⟨sx,pu⟩;have ul:=Aa pu;rw [List.length_map,List.length_take] at ul;rw [show xs.length=ps.length by omega,List.take_length] at pu;refine ⟨by omega,λ l hl=>?_⟩;obtain ⟨Hy,e2,k2,s2⟩:∃H',upd Hx l (.lst us)=H'/\H' l=some (.lst us)/\Same Hx H':=⟨_,Z,ag,Aq hl⟩
   rw [show upd Hx l _=Hy from e2];exact hR _ _ ⟨l,us,rfl,k2,At pu λ v g h=>h.same s2,s1.trans (sx.trans s2)⟩
 rintro _ H2 ⟨sl,ss,rfl,hsl,pss,s02⟩;have ssl:=Aa pss;rw [List.length_map] at ssl;have z4:ss.length < sizeLine:=by omega
 refine aj (λ σ' H'=>∃v5 v6 v7 v8 v9:Option V,σ'=[some (.ref s),some (.int w1),some (.int h1),some (.ref a),some (.ref sl),v5,v6,v7,v8,v9]/\Same H2 H'/\fe ks ps) (λ R hR=>?_) ?_
 ·refine ⟨_,Z,sl,ss,Z,.inl ⟨hsl,ge (f:=.lst) (λ _ _ e=>by cases e; rfl) (l:=sl) (xs:=ss) (λ i σ' H'=>∃v5 v6 v7 v8 v9:Option V,σ'=[some (.ref s),some (.int w1),some (.int h1),some (.ref a),some (.ref sl),v5,v6,v7,v8,v9]/\Same H2 H'/\∀j p,j < i->ps[j]? = some p->∀q∈ps.take j,cx (aQ ks p) (aQ ks q)=false) ⟨_,_,_,_,_,Z,Same.refl _,λ j p hj=>absurd hj (Nat.not_lt_zero _)⟩ (λ i σ Hx ⟨_,_,_,_,_,_,sx,_⟩=>sx _ _ hsl) ?_ (λ σ Hx ⟨v5,v6,v7,v8,v9,e,sx,ok⟩=>hR _ _ ⟨v5,v6,v7,v8,v9,e,sx,λ j p hp=>ok j p (by rw [ssl]; exact (AD.mp hp).1) hp⟩)⟩⟩;rintro i x pt σ Hx hx' hp' ⟨v5,v6,v7,v8,v9,rfl,sx,okj⟩;obtain ⟨g,hg,r,r1,r2,rfl,u1,u2,u3⟩:=Au pss hx';rw [List.getElem?_map] at hg;obtain ⟨p0,hp0,rfl⟩:=Option.map_eq_some_iff.mp hg;obtain ⟨Hy,e3,k3,s3⟩:∃H',upd Hx pt (.tup [.int i,.ref r])=H'/\H' pt=some (.tup [.int i,.ref r])/\Same Hx H':=⟨_,Z,ag,Aq hp'⟩
  rw [show upd Hx pt _=Hy from e3];have s2y:=sx.trans s3;refine ⟨pt,_,Z,Ar k3,Z,_,_,Z,_,_,Z,r,_,Z,Ar (s2y _ _ u1),Z,_,_,Z,_,_,Z,Z,Z,?_⟩;refine ⟨_,Z,_,Z,_,Z,sl,_,Z,As (s2y _ _ hsl),λ l hl=>?_⟩;obtain ⟨Hz,e4,k4,s4⟩:∃H',upd Hy l (.lst (bR ss none (some (i:Int))))=H'/\H' l=some (.lst (bR ss none (some (i:Int))))/\Same Hy H':=⟨_,Z,ag,Aq hl⟩
  rw [show upd Hy l _=Hz from e4];have ec:bR ss none (some (i:Int))=ss.take i:=dq ss i;have k4:Hz l=some (.lst (ss.take i)):=by rw [k4,ec]
  have s2z:=s2y.trans s4;refine ⟨l,Z,⟨_,As k4⟩,dY (xs:=ss.take i) (λ j σ' H'=>∃v8 v9:Option V,σ'=[some (.ref s),some (.int w1),some (.int h1),some (.ref a),some (.ref sl),some (.int i),some (.ref r1),some (.ref r2),v8,v9]/\Same Hz H'/\∀q∈ps.take j,cx (aQ ks p0) (aQ ks q)=false) ⟨_,_,Z,Same.refl _,λ q hq=>by simp at hq⟩ (λ j σ Hw _ ⟨_,_,_,sw,_⟩=>As (sw _ _ k4)) ?_ ?_⟩
  ·rintro j x σ Hw hj ⟨v8,v9,rfl,sw,okq⟩;have hjl:j < (ss.take i).length:=(AD.mp hj).1;rw [List.length_take] at hjl;have hj':ss[j]? = some x:=by rw [List.getElem?_take_of_lt (by omega)] at hj; exact hj
   obtain ⟨g,hg,o,o1,o2,rfl,f1,f2,f3⟩:=Au pss hj';rw [List.getElem?_map] at hg;obtain ⟨q0,hq0,rfl⟩:=Option.map_eq_some_iff.mp hg;have s2w:=s2z.trans sw;refine ⟨o,_,Z,Ar (s2w _ _ f1),Z,_,_,Z,_,_,Z,Z,?_⟩;have stepOk:cx (aQ ks p0) (aQ ks q0)=false->∀q∈ps.take (j + 1),cx (aQ ks p0) (aQ ks q)=false:=λ hov q hq=>by
    rw [List.take_add_one,hq0] at hq;rcases AT.mp hq with hq | hq
    ·exact okq q hq
    ·rw [List.mem_singleton.mp hq]; exact hov
   refine ⟨_,Z,_,Z,r1,o1,_,_,_,_,Z,s2w _ _ u2,s2w _ _ f2,_,Z,?_⟩;cases c1:(decide ((aQ ks p0).a < (aQ ks q0).c) && decide ((aQ ks q0).a < (aQ ks p0).c)) with
   | false =>
    exact aJ (aJ ⟨_,_,rfl,sw,stepOk (by unfold cx; rw [c1]; rfl)⟩)
   | true =>
    refine aO ⟨_,rfl,_,rfl,r2,o2,_,_,_,_,rfl,s2w _ _ u3,s2w _ _ f3,_,rfl,?_⟩;cases c2:(decide ((aQ ks p0).b < (aQ ks q0).d) && decide ((aQ ks q0).b < (aQ ks p0).d)) with
    | false=>exact aJ ⟨_,_,rfl,sw,stepOk (by unfold cx; rw [c1,c2]; rfl)⟩
    | true =>
     refine aO (q false _ ⟨λ z=>(by cases z),λ ld=>?_⟩ (s02.trans s2w));have:=(lay_iff.mp ld) i p0 hp0 q0 (AL (show (ps.take i)[j]? = some q0 by rw [List.getElem?_take_of_lt (by omega)]; exact hq0));unfold cx at this;rw [c1,c2] at this;cases this
  ·rintro σ Hw ⟨v8,v9,rfl,sw,okq⟩;refine ⟨_,_,_,_,_,Z,s2z.trans sw,λ j p hj hp=>?_⟩;rcases Nat.lt_or_eq_of_le (Nat.le_of_lt_succ hj) with hj | rfl
   ·exact okj j p hj hp
   ·rw [hp0] at hp;cases hp;have:(ss.take j).length=j:=by rw [List.length_take]; have:=(AD.mp hx').1; omega
    rw [this] at okq;exact okq
 rintro _ H3 ⟨v5,v6,v7,v8,v9,rfl,s23,ok⟩;exact q true H3 ⟨λ _=>lay_iff.mpr ok,λ _=>rfl⟩ (s02.trans s23)
end
theorem cW (o r:Bx):apB o r=Bool.not (cx o r):=by
 unfold apB cx
 by_cases h1:o.c<=r.a <;> by_cases h2:r.c<=o.a <;> by_cases h3:o.d<=r.b <;> by_cases h4:r.d<=o.b <;> simp [h1,h2,h3,h4] <;> omega
theorem iR:∀ {ks:List Kd} {i j:Nat} {k:Kd} {c:Bool},ks[i]? = some k->(c=false\/aP k=true)->(j + i,c)∈lyK ks j
 | [],_,_,_,_,h,_=>by simp at h
 | x :: ks,0,j,k,c,h,hc=>by
  cases h;refine AM _ ?_;unfold lyT;rcases hc with rfl | hc
  ·exact AN
  ·rw [if_pos hc];cases c
   ·exact AN
   ·exact AK _ AN
 | x :: ks,i + 1,j,k,c,h,hc=>by refine AC _ ?_;have:=iR (ks:=ks) (j:=j + 1) (i:=i) (by simpa using h) hc;rwa [show j + (i + 1)=j + 1 + i by omega]
theorem cX {ks:List Kd} {i:Nat} {c:Bool} (h:(i,c)∈lyK ks 0):∃k,ks[i]? = some k/\bf ks (.int (i:Int)) (.bl c)=true:=by
 obtain ⟨_,k,hk,hc⟩:=eG h;have hk:ks[i]? = some k:=by simpa using hk
 refine ⟨k,hk,?_⟩;show (decide (0<=(i:Int)) && match ks[(i:Int).toNat]? with
  | some k=>!c || aP k
  | none=>false)=true
 rw [Int.toNat_natCast,hk,decide_eq_true (Int.natCast_nonneg i)];rcases hc with hc | hc
 ·have hc:c=false:=hc;rw [hc]; rfl
 ·show (true && (!c || aP k))=true;rw [hc,Bool.or_true]; rfl
theorem fL {ks:List Kd} {i:Nat} {c:Bool} (h:bf ks (.int (i:Int)) (.bl c)=true):(i,c)∈lyK ks 0:=by
 have h:(decide (0<=(i:Int)) && match ks[(i:Int).toNat]? with
  | some k=>!c || aP k
  | none=>false)=true:=h
 rw [Int.toNat_natCast,Bool.and_eq_true] at h;cases hk:ks[i]? with
 | none=>rw [hk] at h; cases h.2
 | some k =>
  rw [hk] at h;have:=iR (j:=0) (c:=c) hk (by cases c with
   | false=>exact .inl rfl
   | true=>exact .inr (by simpa using h.2))
  rwa [Nat.zero_add] at this
theorem iS {ks:List Kd} {W h:Int} {d:PyData} {p:Pq} {k:Kd} (pd:PqD d p) (ly:bf ks (.int p.k) (.bl p.c)=true) (hk:ks[p.k]? = some k) (x0:0<=p.x) (y0:0<=p.y) (on:onB ks W h p=true):aU ks W h d=true:=by
 unfold aU;rw [pd];show cw ks W h (.int p.k) (.bl p.c) (.int p.x) (.int p.y)=true;unfold onB at on;rw [bn hk] at on;simp only [Bool.not_eq_true',Bool.or_eq_false_iff,decide_eq_false_iff_not] at on;have e1:aE (.int p.x) 0=true:=decide_eq_true x0;have e2:aE (.int p.y) 0=true:=decide_eq_true y0;unfold cw;rw [ly,e1,e2];show (true && true && true && (match ks[(p.k:Int).toNat]? with
  | some k=>decide (p.x + sd1 k p.c<=W) && decide (p.y + sd2 k p.c<=h)
  | none=>false))=true
 rw [Int.toNat_natCast,hk];have a1:¬ W < p.x + sd1 k p.c:=on.1;have a2:¬ h < p.y + sd2 k p.c:=on.2;show (true && true && true && (decide (p.x + sd1 k p.c<=W) && decide (p.y + sd2 k p.c<=h)))=true;rw [decide_eq_true (show p.x + sd1 k p.c<=W by omega),decide_eq_true (show p.y + sd2 k p.c<=h by omega)]
 rfl
theorem lm {ks:List Kd} {W h:Int} {ps:List Pq} {p:Pq} (ok:fe ks ps) (f:bi ks W h ps p=true):fe ks (ps ++ [p]):=λ i q hq o ho=>by
 by_cases hi:i < ps.length
 ·rw [List.getElem?_append_left hi] at hq;rw [List.take_append_of_le_length (by omega)] at ho;exact ok i q hq o ho
 ·have:i=ps.length:=by have:=(AD.mp hq).1;rw [List.length_append,List.length_singleton] at this;omega
  subst this;rw [List.getElem?_append_right (Nat.le_refl _),Nat.sub_self] at hq;cases hq;rw [List.take_left'] at ho
  ·unfold bi at f;have f:=(AX.mp f).2;have:=List.all_eq_true.mp f _ (List.mem_map.mpr ⟨o,ho,Z⟩);have this:apB (aQ ks p) (aQ ks o)=true:=this;rw [cW] at this;simpa using this
  ·rfl
theorem mO {ks:List Kd} {W h:Int} {ds:List PyData} {ps:List Pq} {i:Nat} {d:PyData} (ld:cV ks W h (.list ds)) (hd:ds[i]? = some d) (pp:Paired PqD (ds.take i) ps):∃p k,PqD d p/\(p.k,p.c)∈lyK ks 0/\ks[p.k]? = some k/\0<=p.x/\0<=p.y/\bi ks W h ps p=true:=by
 obtain ⟨ds',ps',er,pd,hall,ok⟩:=ld;cases er;obtain ⟨p,k,g1,g2,g3,g4,g5,g6,g7⟩:=dW (hall d (AL hd));have e:ps'.take i=ps:=Paired.uniq PqD.uniq (Paired.takeP i pd) pp;obtain ⟨p',hp',gp⟩:=Au pd hd;obtain rfl:p=p':=PqD.uniq _ _ _ g1 gp;refine ⟨p,k,g1,fL g2,g3,g4,g5,?_⟩;unfold bi onB;rw [bn g3];have a1:decide (W < (jr k p).c)=false:=AH (by show ¬ W < p.x + sd1 k p.c; omega);have a2:decide (h < (jr k p).d)=false:=AH (by show ¬ h < p.y + sd2 k p.c; omega);rw [a1,a2];show (true && _)=true;rw [Bool.true_and,List.all_eq_true];intro z hz;obtain ⟨o,ho,rfl⟩:=List.mem_map.mp hz;have:=ok i p hp' o (by rw [e]; exact ho);rw [bn g3] at this;show apB _ _=true;rw [cW,this]
 rfl
theorem lp {H:Hp}:∀ {ys:List V} {qs:List (Nat×Bool)},Paired (LyC H) ys qs->Paired (PrB H) ys (qs.map λ q=>((q.1:Int),q.2))
 | _,_,.nil=>.nil
 | _,_,.cons h r=>.cons h (lp r)
theorem Laid.at {ks:List Kd} {W h:Int} {H:Hp} {ys:List V} {ps:List Pq} (pz:Paired (PqT ks H) ys ps) (ld:Laid ks W h ps) {i:Nat} {q:Pq} (hq:ps[i]? = some q):∃k,(q.k,q.c)∈lyK ks 0/\ks[q.k]? = some k/\0<=q.x/\0<=q.y/\onB ks W h q=true/\q.x + sd1 k q.c<=W/\q.y + sd2 k q.c<=h/\∀o∈ps.take i,cx (aQ ks q) (aQ ks o)=false:=by have hl:=Aa pz;have hi:=(AD.mp hq).1;obtain ⟨q',hq',a,_,_,hin,x0,y0⟩:=Au pz (Ag (show i < ys.length by omega));rw [hq] at hq';cases hq';obtain ⟨k,hk,_⟩:=cX hin;have f:=ld i q hq;unfold bi at f;obtain ⟨f1,f2⟩:=AX.mp f;have g:=f1;unfold onB at g;rw [bn hk] at g;simp only [Bool.not_eq_true',Bool.or_eq_false_iff,decide_eq_false_iff_not] at g;have a1:¬ W < q.x + sd1 k q.c:=g.1;have a2:¬ h < q.y + sd2 k q.c:=g.2;refine ⟨k,hin,hk,x0,y0,f1,by omega,by omega,λ o ho=>?_⟩;have this:apB (aQ ks q) (aQ ks o)=true:=List.all_eq_true.mp f2 _ (List.mem_map.mpr ⟨o,ho,Z⟩);rw [cW] at this;simpa using this
def OnP (ks:List Kd) (W h:Int) (q:Pq):Prop:=(q.k,q.c)∈lyK ks 0/\0<=q.x/\0<=q.y/\(aQ ks q).c<=W/\(aQ ks q).d<=h
def Lay (ks:List Kd) (W h:Int) (ps:List Pq):Prop:=(∀q∈ps,OnP ks W h q)/\ps.Pairwise (λ o p=>apB (aQ ks o) (aQ ks p)=true)
theorem eJ (o r:Bx):apB o r=apB r o:=by unfold apB;cases decide (o.c<=r.a) <;> cases decide (r.c<=o.a) <;> cases decide (o.d<=r.b) <;> cases decide (r.d<=o.b) <;> rfl
theorem Lay.perm {ks:List Kd} {W h:Int} {ps qs:List Pq} (p:ps.Perm qs) (l:Lay ks W h ps):Lay ks W h qs :=
 ⟨λ q hq=>l.1 q (p.mem_iff.mpr hq),(List.Perm.pairwise_iff (λ {x y} e=>by rw [eJ]; exact e) p).mp l.2⟩
theorem mP {ks:List Kd} {W h:Int} {ps:List Pq} (ld:Laid ks W h ps):ps.Pairwise (λ o p=>apB (aQ ks o) (aQ ks p)=true):=by rw [List.pairwise_iff_getElem];intro i j hi hj hij;have f:=ld j ps[j] (Ag hj);unfold bi at f;have f2:=(AX.mp f).2;have:=List.all_eq_true.mp f2 _ (List.mem_map.mpr ⟨ps[i],List.mem_take_iff_getElem.mpr ⟨i,by omega,Z⟩,Z⟩);rw [eJ];exact this
theorem Laid.lay {ks:List Kd} {W h:Int} {H:Hp} {ys:List V} {ps:List Pq} (pz:Paired (PqT ks H) ys ps) (ld:Laid ks W h ps):Lay ks W h ps:=by
 refine ⟨λ q hq=>?_,mP ld⟩;obtain ⟨i,hi⟩:=List.mem_iff_getElem?.mp hq;obtain ⟨k,hin,hk,x0,y0,_,h1,h2,_⟩:=ld.at pz hi;refine ⟨hin,x0,y0,?_,?_⟩
 ·rw [bn hk]; exact h1
 ·rw [bn hk]; exact h2
theorem OnP.kd {ks:List Kd} {W h:Int} {q:Pq} (o:OnP ks W h q):∃k,ks[q.k]? = some k/\bf ks (.int q.k) (.bl q.c)=true:=cX o.1
theorem OnP.plac {ks:List Kd} {W h:Int} {q:Pq} {d:PyData} (o:OnP ks W h q) (pd:PqD d q):aU ks W h d=true:=by
 obtain ⟨k,hk,ly⟩:=o.kd;obtain ⟨_,x0,y0,h1,h2⟩:=o;refine iS pd ly hk x0 y0 ?_;unfold onB;rw [decide_eq_false (by omega),decide_eq_false (by omega)]
 rfl
theorem qI {ks:List Kd} {W h:Int} {d:PyData} {ds:List PyData} {ps:List Pq} (l:Lay ks W h ps) (hd:aV d=some ds) (pd:Paired PqD ds ps):cV ks W h d:=by
 refine ⟨ds,ps,hd,pd,λ x hx=>?_,λ i p hp o ho=>?_⟩
 ·obtain ⟨i,hi⟩:=List.mem_iff_getElem?.mp hx;obtain ⟨q,hq,e⟩:=Au pd hi;exact (l.1 q (AL hq)).plac e
 ·obtain ⟨j,hj,rfl⟩:=List.mem_take_iff_getElem.mp ho;obtain ⟨hi,rfl⟩:=AD.mp hp;have:=List.pairwise_iff_getElem.mp l.2 j i (by omega) hi (by omega);rw [eJ,cW] at this;simpa using this
def PqU (H:Hp) (v:V) (q:Pq):Prop:=∃a,v=.ref a/\H a=some (.tup (pqV q))
theorem PqT.u {ks:List Kd} {H:Hp} {v:V} {q:Pq} (h:PqT ks H v q):PqU H v q:=by obtain ⟨a,e,h,_⟩:=h;exact ⟨a,e,h⟩
def PqI (p:Addr) (H:Hp) (v:V) (q:Pq):Prop:=∃a,v=.ref a/\a≠p/\Sq H a (pqV q)
theorem iT {p:Addr} {H:Hp}:∀ {ys:List V} {ps:List Pq},Paired (PqI p H) ys ps->∃ds,Dts p H ys ds/\Paired PqD ds ps/\wts ds=5 * ps.length
 | _,_,.nil=>⟨[],.nil,.nil,Z⟩
 | _,_,.cons (b:=q) ⟨a,e,n,h⟩ r=>by
  subst e;obtain ⟨ds,d1,d2,d3⟩:=iT r;have it:Dts p H (pqV q) [.int q.k,.bool q.c,.int q.x,.int q.y]:=.cons (.int _) (.cons (.bl _) (.cons (.int _) (.cons (.int _) .nil)));rcases h with h | h
  ·exact ⟨_ :: ds,.cons (.lst n h it) d1,.cons rfl d2,by rw [wts,d3,List.length_cons]; simp only [wt,wts]; omega⟩
  ·exact ⟨_ :: ds,.cons (.tup h it) d1,.cons rfl d2,by rw [wts,d3,List.length_cons]; simp only [wt,wts]; omega⟩
theorem takeP {α β:Type} {R:α->β->Prop}:∀ (n:Nat) {xs:List α} {ys:List β},Paired R xs ys->Paired R (xs.take n) (ys.take n)
 | 0,_,_,_=>.nil
 | _ + 1,_,_,.nil=>.nil
 | n + 1,_,_,.cons a r=>.cons a (takeP n r)
theorem nD {α β:Type} {R:α->β->Prop}:∀ (n:Nat) {xs:List α} {ys:List β},Paired R xs ys->Paired R (xs.drop n) (ys.drop n)
 | 0,_,_,h=>h
 | _ + 1,_,_,.nil=>.nil
 | n + 1,_,_,.cons _ r=>nD n r
def PqJ (p fo:Addr) (H:Hp) (v:V) (q:Pq):Prop:=∃a,v=.ref a/\a≠p/\a≠fo/\Sq H a (pqV q)
theorem PqJ.keep {p fo:Addr} {H H':Hp} (k:∀c o,c≠p->c≠fo->H c=some o->H' c=some o) {v:V} {q:Pq} (h:PqJ p fo H v q):PqJ p fo H' v q:=by obtain ⟨a,e,n1,n2,h⟩:=h;exact ⟨a,e,n1,n2,h.imp (k _ _ n1 n2) (k _ _ n1 n2)⟩
section
variable {P:Am} {w:Ao} {K:AV} {mg:Str->Option Ap} {base:Heap}
inductive spHand (vs:List V) (H:Hp) (Q:VK) (E_:XK):Prop
 | mk (p pl:Addr) (ys:List V) (ps:List Pq) (e_1:vs=[.ref p,.ref pl]) (e_2:PotC H p) (e_3:pl≠p) (e_4:H pl=some (.lst ys)) (e_5:Paired (PqU H) ys ps) (e_6:ys.length<=100) (e_7:∀ (l:Addr) (zs:List V) (qs:List Pq) (H':Hp),l≠p->Sq H' l zs->Paired (PqI p H') zs qs->qs.Perm ps->PotC H' p->But p H H'->Q (.ref l) H'):spHand vs H Q E_
theorem schand:FnScope ["_law_pot_here","_law_pieces","_law_found","_law_piece"] ["_law_pot_here","_law_pieces"] (defScope dQ):=⟨Z,Z,Z,by decide +kernel,Z,by decide +kernel,by decide +kernel⟩
theorem mQ {f:Addr} {fd:An} (F:Fun K "_law_handed" "_law_handed" dQ f fd) (B:Blt mg) (DD:Dn P w K mg base "_law_take" ["_law_pot_here","_law_many"] 1 (spTake)):FnOk P w K mg base CX0 2 f fd ["_law_pot_here","_law_pieces"] (spHand):=by
 refine F.ok schand (λ vs H Q E h=>?_) (λ cdv A outer s H vs Q E hr h=>?_)
 ·obtain ⟨p,pl,ys,ps,rfl,_⟩:=h
  rfl
 obtain ⟨p,pl,ys,ps,rfl,pt,npl,hpl,pz,y100,q⟩:=h;have nd:=schand.nd;refine ⟨_,(@ae _ _ _ _ _ (@aD _ _ 2 _ _ _ _ nd Z (Or.inl Z) (@aN _ _ _ _ ab) Z (Or.inl Z)) (@ae _ _ _ _ _ (@bN _ _ _ _ _ _ _ _ Ab Z (dF (pv 1)) (ay (i:=3) nd Z (Or.inl Z)) (@af _ _ _ (@bV _ _ _ _ (@eU _ _ _ _ _ _ _ _ _ _ _ _ Ak PySem.F.slot_list_insert PySem.F.type_list_insert jl (pv 2) ((@ai _ _ _ _ _ _ _ _ _ _ DD (hr.mono (by decide)) Z ((pv 0)^^^((@av _ _ _ _ _ _ _ _ aM (@aw _ _ _ _ _ _ _ _ _ aI Z B.len PySem.boot_len ((pv 2)^^^ab) (by decide) (by decide) Z Z) ad)^^^ab)) (by decide) Z Z)^^^((@am _ _ _ _ _ _ _ ix_list (@aN _ _ _ _ ((pv 3)^^^((@aW _ _ _ _ _ _ _ _ _ bY Z B.list PyProof.Rows.boot_list ((pv 3)^^^ab) (by decide) (by decide) Z Z)^^^ab))) (@ai _ _ _ _ _ _ _ _ _ _ DD (hr.mono (by decide)) Z ((pv 0)^^^(ad^^^ab)) (by decide) Z Z) (λ _ _=>Z))^^^ab)) Z Z Z Z Z) Z)) (by intro _; rfl)) (@af _ _ _ (@au _ _ _ _ (@am _ _ _ _ _ _ _ ix_list (@aN _ _ _ _ ((pv 2)^^^((@aW _ _ _ _ _ _ _ _ _ be Z B.tuple PyProof.Rows.boot_tuple ((pv 2)^^^ab) (by decide) (by decide) Z Z)^^^ab))) (@ai _ _ _ _ _ _ _ _ _ _ DD (hr.mono (by decide)) Z ((pv 0)^^^(ad^^^ab)) (by decide) Z Z) (λ _ _=>Z)))))),?_⟩;have sz:(2000:Nat) < sizeLine:=by decide
 have e60:(1000:Int) < 10 ^ 60:=by decide
 have yl:=Aa pz;refine aj (λ σ' H'=>∃fo:Addr,σ'=[some (.ref p),some (.ref pl),some (.ref fo),none]/\fo≠p/\H fo=none/\H' fo=some (.lst [])/\PotC H' p/\Same H H') (λ R hR=>?_) ?_
 ·refine ⟨by decide,λ fo hfo=>?_⟩;obtain ⟨H2,e2,k2,n2,s2,b2,pt2⟩:=aS (o:=.lst []) But.refl' pt hfo;rw [show upd H fo _=H2 from e2];exact hR _ _ ⟨fo,rfl,n2,hfo,k2,pt2,s2⟩
 rintro _ H2 ⟨fo,rfl,nfp,hfo0,hfo2,pt2,s2⟩;have npf:pl≠fo:=ah hpl hfo0;refine aj (λ σ' H'=>(∃v3,σ'=[some (.ref p),some (.ref pl),some (.ref fo),v3])/\∃ (zs:List V) (qs:List Pq),H' fo=some (.lst zs)/\Paired (PqJ p fo H') zs qs/\qs.Perm (ps)/\PotC H' p/\∀c o,c≠p->c≠fo->H2 c=some o->H' c=some o) (λ R hR=>?_) ?_
 ·refine ⟨_,Z,pl,Z,⟨_,As (s2 _ _ hpl)⟩,dY (xs:=ys) (λ i σ' H'=>(∃v3,σ'=[some (.ref p),some (.ref pl),some (.ref fo),v3])/\∃ (zs:List V) (qs:List Pq),H' fo=some (.lst zs)/\Paired (PqJ p fo H') zs qs/\qs.Perm (ps.take i)/\PotC H' p/\∀c o,c≠p->c≠fo->H2 c=some o->H' c=some o) ⟨⟨_,Z⟩,[],[],hfo2,.nil,List.Perm.refl _,pt2,λ _ _ _ _ e=>e⟩ (λ i σ H' _ ⟨_,_,_,_,_,_,_,bx⟩=>As (bx _ _ npl npf (s2 _ _ hpl))) ?_ (λ σ H' h=>hR _ _ (by rw [yl,List.take_length] at h; exact h))⟩;rintro i x _ H4 hi ⟨⟨v3,rfl⟩,zs,qs,hz4,pz4,pm4,pt4,b24⟩;have hin:i < ys.length:=(AD.mp hi).1;obtain ⟨q0,hq0,aq,rfl,haq⟩:=Au pz hi;have zl:=Aa pz4;have ql:=pm4.length_eq;rw [List.length_take] at ql;obtain ⟨_,hp2⟩:=gq pt2;have haq4:H4 aq=some (.tup (pqV q0)):=b24 _ _ (λ z=>by have:=s2 _ _ haq; rw [z,hp2] at this; cases this) (λ z=>by have:=s2 _ _ haq; rw [z,hfo2] at this; cases this) (s2 _ _ haq);refine ⟨_,Z,.inl ⟨Z,_,As hz4⟩,_,Z,_,Z,fo,_,Z,.inl (As hz4),_,_,Z,Z,p,_,Z,pt4,by omega,by omega,λ r H5 r0 r1 pt5 b5=>?_⟩;have haq5:=cG b5 pt4 haq4;have hz5:=b5 _ _ nfp hz4;refine ⟨_,Z,_,Z,aq,_,Z,.inr (Ar haq5),λ l2 hl2=>?_⟩;obtain ⟨H6,e6,k6,n6,s6,b6,pt6⟩:=aS (o:=.lst (pqV q0)) But.refl' pt5 hl2;rw [show upd H5 l2 _=H6 from e6];refine ⟨zS2,λ l3 hl3=>?_⟩;obtain ⟨H7,e7,k7,n7,s7,b7,pt7⟩:=aS (o:=.lst [.ref aq,.ref l2]) But.refl' pt6 hl3;rw [show upd H6 l3 _=H7 from e7];have s57:=s6.trans s7;refine ⟨_,Z,p,2,Z,pt7,by decide,by decide,λ r2 H8 r20 r21 pt8 b8=>?_⟩;have nl2f:l2≠fo:=λ z=>by rw [z,hz5] at hl2; cases hl2
  have k48:∀c o,c≠p->H4 c=some o->H8 c=some o:=λ c o n e=>b8 _ _ n (s57 _ _ (b5 _ _ n e));have hz8:=k48 _ _ nfp hz4;obtain ⟨y,hy,hyJ⟩:∃y,atI [V.ref aq,V.ref l2] r2=some y/\PqJ p fo H8 y q0:=by
   have:r2=0\/r2=1:=by omega
   rcases this with rfl | rfl
   ·refine ⟨_,Z,aq,Z,λ z=>?_,λ z=>?_,.inr (cG b8 pt7 (s57 _ _ haq5))⟩
    ·obtain ⟨_,e⟩:=gq pt5;rw [z,e] at haq5; cases haq5
    ·rw [z,hz5] at haq5; cases haq5
   ·exact ⟨_,Z,l2,Z,n6,nl2f,.inl (b8 _ _ n6 (s7 _ _ k6))⟩
  have keep:∀c o,c≠fo->H8 c=some o->(upd H8 fo (.lst (zs.take r.toNat ++ y :: zs.drop r.toNat))) c=some o:=λ c o n e=>by rw [ar n]; exact e
  refine ⟨l3,_,_,_,Z,Z,As (b8 _ _ n7 k7),hy,fo,zs,r,y,Z,Z,hz8,r0,by omega,by omega,⟨_,Z⟩,zs.take r.toNat ++ y :: zs.drop r.toNat,qs.take r.toNat ++ q0 :: qs.drop r.toNat,ag,?_,?_,pt8.put (Ne.symm nfp),λ c o n1 n2 e=>keep _ _ n2 (k48 _ _ n1 (b24 _ _ n1 n2 e))⟩
  ·have kz:Paired (PqJ p fo (upd H8 fo (.lst (zs.take r.toNat ++ y :: zs.drop r.toNat)))) zs qs:=At pz4 λ v q h=>h.keep λ c o n1 n2 e=>keep _ _ n2 (k48 _ _ n1 e);exact gX (takeP _ kz) (.cons (hyJ.keep λ c o n1 n2 e=>keep _ _ n2 e) (nD _ kz))
  ·rw [List.take_add_one,hq0];refine List.perm_middle.trans ?_;rw [List.take_append_drop];exact (List.Perm.cons q0 pm4).trans (List.perm_append_singleton q0 _).symm
 rintro _ H3 ⟨⟨v3,rfl⟩,zs,qs,hz3,pz3,pm,pt3,b23⟩;have b03:But p H H3:=λ c o n e=>b23 _ _ n (ah e hfo0) (s2 _ _ e);have zl:=Aa pz3;have ql:=pm.length_eq;refine ⟨_,Z,_,Z,fo,_,Z,.inl ⟨As hz3,λ tt htt=>?_⟩⟩;obtain ⟨H4,e4,k4,n4,s4,b4,pt4⟩:=aS (o:=.tup zs) b03 pt3 htt;rw [show upd H3 tt _=H4 from e4];refine ⟨zS2,λ l3 hl3=>?_⟩;obtain ⟨H5,e5,k5,n5,s5,b5,pt5⟩:=aS (o:=.lst [.ref fo,.ref tt]) b4 pt4 hl3;rw [show upd H4 l3 _=H5 from e5];refine ⟨_,Z,p,2,Z,pt5,by decide,by decide,λ r H6 r0 r1 pt6 b6=>?_⟩;have s35:=s4.trans s5;have pq:Paired (PqI p H6) zs qs:=Paired.impS (λ v q ⟨a,e,n1,_,h⟩=>⟨a,e,n1,h.imp (λ z=>b6 _ _ n1 (s35 _ _ z)) (λ z=>b6 _ _ n1 (s35 _ _ z))⟩) pz3;have b06:=b5.trans b6;have:r=0\/r=1:=by omega
 rcases this with rfl | rfl
 ·exact ⟨l3,_,_,_,Z,Z,As (b6 _ _ n5 k5),Z,q fo zs qs H6 nfp (.inl (b6 _ _ nfp (s35 _ _ hz3))) pq pm pt6 b06⟩
 ·exact ⟨l3,_,_,_,Z,Z,As (b6 _ _ n5 k5),Z,q tt zs qs H6 n4 (.inr (cG b6 pt5 (s5 _ _ k4))) pq pm pt6 b06⟩
end
theorem Dts.take {p:Addr} {H:Hp}:∀ (n:Nat) {vs:List V} {ds:List PyData},Dts p H vs ds->Dts p H (vs.take n) (ds.take n)
 | 0,_,_,_=>by rw [List.take_zero,List.take_zero]; exact .nil
 | n + 1,_,_,.nil=>.nil
 | n + 1,_,_,.cons a r=>.cons a (r.take n)
mutual
theorem Dt.fresh {p q:Addr} {H:Hp} (hq:H q=none):∀ {v:V} {d:PyData},Dt p H v d->Dt q H v d
 | _,_,.non=>.non
 | _,_,.bl b=>.bl b
 | _,_,.int i=>.int i
 | _,_,.str z=>.str z
 | _,_,.lst n h r=>.lst (λ z=>by rw [z,hq] at h; cases h) h (r.fresh hq)
 | _,_,.tup h r=>.tup h (r.fresh hq)
 | _,_,.emp h=>.emp h
 | _,_,.odd h k=>.odd h k
theorem Dts.fresh {p q:Addr} {H:Hp} (hq:H q=none):∀ {vs:List V} {ds:List PyData},Dts p H vs ds->Dts q H vs ds
 | _,_,.nil=>.nil
 | _,_,.cons a r=>.cons (a.fresh hq) (r.fresh hq)
end
theorem iU {s0:Addr} {ks:List Kd} {W h:Int} {H H':Hp}:∀ {xs:List V} {ds:List PyData} {ps:List Pq},Dts s0 H xs ds->Paired PqD ds ps->Same H H'->(∀x∈ds,aU ks W h x=true)->Paired (PqS ks H') xs ps
 | _,_,_,.nil,.nil,_,_=>.nil
 | _,_,_,.cons a r,.cons p q,s,al=>by obtain ⟨p',k,pd,_,hk,_⟩:=dW (al _ AN);cases PqD.uniq _ _ _ p pd;obtain ⟨c,e,hc⟩:=(a.same s).pq p;exact .cons ⟨c,k,e,hc,hk⟩ (iU r q s λ x hx=>al x (AK _ hx))
theorem Dt.rowq {K:AV} {p:Addr} {H:Hp} {v:V} {d:PyData} (h:Dt p H v d):(aV d=none/\∃T,Ty K H v T/\(T == "list" || T == "tuple")=false)\/∃a xs ds T,aV d=some ds/\v=.ref a/\Sq H a xs/\Dts p H xs ds/\Ty K H v T/\(T == "list" || T == "tuple")=true:=h.row
theorem jv {ks:List Kd} {w h:Int} {d:PyData} (e:aV d=none):aU ks w h d=false:=by unfold aU; rw [e]
theorem jw {ks:List Kd} {w h:Int} {d d1 d2 d3 d4:PyData} (e:aV d=some [d1,d2,d3,d4]):aU ks w h d=eF ks w h d1 d2 d3 d4:=by unfold aU; rw [e]
theorem lu {ks:List Kd} {w h:Int} {d:PyData} {ds:List PyData} (e:aV d=some ds) (l:ds.length≠4):aU ks w h d=false:=by
 unfold aU;rw [e]
 match ds,l with
 | [],_=>rfl
 | [_],_=>rfl
 | [_,_],_=>rfl
 | [_,_,_],_=>rfl
 | [_,_,_,_],l=>exact absurd rfl l
 | _ :: _ :: _ :: _ :: _ :: _,_=>rfl
theorem bG {ks:List Kd} {w h:Int} {p:Addr} {H:Hp} {x1 x2 x3 x4:V} {d1 d2 d3 d4:PyData} (h1:Dt p H x1 d1) (h2:Dt p H x2 d2) (h3:Dt p H x3 d3) (h4:Dt p H x4 d4) (hn:aE x1 0=false\/fz x2=false\/bf ks x1 x2=false\/aE x3 0=false\/aE x4 0=false):eF ks w h d1 d2 d3 d4=false:=by
 unfold eF
 split
 ·cases h1; cases h2; cases h3; cases h4;unfold cw;rcases hn with e | e | e | e | e
  ·rename_i i c x y
   have:bf ks (.int i) (.bl c)=false:=by show (decide (0<=i) && _)=false;rw [show decide (0<=i)=false from e]; rfl
   rw [this]; rfl
  ·cases e
  ·rw [e]; rfl
  ·rw [e,Bool.and_false,Bool.false_and,Bool.false_and]
  ·rw [e,Bool.and_false,Bool.false_and]
 ·rfl
theorem lw {ks:List Kd} {w h:Int} {q:Pq} {k:Kd} (hk:ks[q.k]? = some k) (ly:bf ks (.int q.k) (.bl q.c)=true) (x0:0<=q.x) (y0:0<=q.y):cw ks w h (.int q.k) (.bl q.c) (.int q.x) (.int q.y)=bi ks w h [] q:=by
 unfold cw bi onB;rw [ly,bn hk,show aE (.int q.x) 0=true from decide_eq_true x0,show aE (.int q.y) 0=true from decide_eq_true y0];show (true && true && true && (match ks[(q.k:Int).toNat]? with
  | some k=>decide (q.x + sd1 k q.c<=w) && decide (q.y + sd2 k q.c<=h)
  | none=>false))=(!(decide (w < q.x + sd1 k q.c) || decide (h < q.y + sd2 k q.c)) && true)
 rw [Int.toNat_natCast,hk]
 by_cases c1:w < q.x + sd1 k q.c <;> by_cases c2:h < q.y + sd2 k q.c <;> simp [c1,c2] <;> omega
theorem lx {ks:List Kd} {w h:Int} {d:PyData} {ds:List PyData} (e:aV d=some ds):cV ks w h d↔cV ks w h (.list ds):=by
 constructor
 ·rintro ⟨ds',ps,e',r⟩;rw [e] at e'; cases e';exact ⟨ds,ps,Z,r⟩
 ·rintro ⟨ds',ps,e',r⟩;cases e';exact ⟨ds,ps,e,r⟩
theorem lz {ks:List Kd} {i:Int} {c:Bool} (i0:0<=i):((lyK ks 0).map λ q=>((q.1:Int),q.2)).any (λ q=>eI (.int i) q.1 && eB (.bl c) q.2)=bf ks (.int i) (.bl c):=by
 obtain ⟨n,rfl⟩:=Int.eq_ofNat_of_zero_le i0;cases e:bf ks (.int (n:Int)) (.bl c) with
 | true =>
  refine List.any_eq_true.mpr ⟨((n:Int),c),List.mem_map.mpr ⟨(n,c),fL e,Z⟩,?_⟩;simp [eI,eB]
 | false =>
  refine Bool.eq_false_iff.mpr λ z=>?_;obtain ⟨y,hy,hq⟩:=List.any_eq_true.mp z;obtain ⟨q,hq',rfl⟩:=List.mem_map.mp hy;have hq:=AX.mp hq;have e1:(q.1:Int)=n:=by simpa [eI] using hq.1
  have e2:q.2=c:=by simpa [eB] using hq.2
  obtain ⟨_,_,hl⟩:=cX (show (q.1,q.2)∈lyK ks 0 from hq');rw [e1,e2,e] at hl;cases hl
section
variable {P:Am} {w:Ao} {K:AV} {mg:Str->Option Ap} {base:Heap}
inductive spPlacC (vs:List V) (H:Hp) (Q:VK) (E_:XK):Prop
 | mk (s0 t kl:Addr) (b W h:Int) (ks:List Kd) (v:V) (d:PyData) (e_1:vs=[.ref t,.int W,.int h,v]) (e_2:LS H t b ks kl) (e_3:ks.length<=8) (e_4:Dt s0 H v d) (e_5:∀H',Same H H'->Q (.bl (aU ks W h d)) H'):spPlacC vs H Q E_
inductive spJudC (vs:List V) (H:Hp) (Q:VK) (E_:XK):Prop
 | mk (s0 t kl:Addr) (b W h:Int) (ks:List Kd) (v:V) (d:PyData) (e_1:vs=[.ref t,.int W,.int h,v]) (e_2:LS H t b ks kl) (e_3:ks.length<=8) (e_4:Dt s0 H v d) (e_5:(∀ds,aV d=some ds->ds.length<=90)) (e_6:∀ (r:Bool) (H':Hp),(r=true↔cV ks W h d)->Same H H'->Q (.bl r) H'):spJudC vs H Q E_
theorem mR:FnScope ["_law_thing","_law_least"] ["_law_thing","_law_least"] (defScope fG):=⟨Z,Z,Z,by decide +kernel,Z,by decide +kernel,by decide +kernel⟩
theorem lA {f:Addr} {fd:An} (F:Fun K "_law_plain" "_law_plain" fG f fd) (B:Blt mg):FnOk P w K mg base CX0 1 f fd ["_law_thing","_law_least"] (bu K):=by
 refine F.ok mR (λ vs H Q E h=>?_) (λ cdv A outer s H vs Q E hr h=>?_)
 ·obtain ⟨x,T,l,rfl,_⟩:=h
  rfl
 obtain ⟨x,T,l,rfl,⟨tn,ty⟩,q⟩:=h;refine ⟨_,(@af _ _ _ (@au _ _ _ _ (bH (@aw _ _ _ _ _ _ _ _ _ aZ Z B.isi PyProof.Rows.boot_isinstance ((pv 0)^^^((bc (v:=.ty "int") Z B.int PyProof.Rows.boot_int Z)^^^ab)) (by decide) (by decide) Z Z) (bH (fm (@aw _ _ _ _ _ _ _ _ _ aZ Z B.isi PyProof.Rows.boot_isinstance ((pv 0)^^^((bc (v:=.ty "bool") Z B.bool PyProof.Rows.boot_bool Z)^^^ab)) (by decide) (by decide) Z Z)) (bU (@aY _ _ _ _ _ _ _ _ kq (pv 0) (pv 1) (aA _))))))),?_⟩;refine ⟨_,Z,x,_,_,_,_,Z,ty,Z,iH T tn,_,Z,?_⟩;have tb:=dH ty;refine bO (λ c=>?_) (λ c=>?_)
 ·refine ⟨_,Z,x,_,_,_,_,Z,ty,Z,cq T tn,_,Z,_,Z,?_⟩;refine bO (λ c2=>?_) (λ c2=>?_)
  ·have hT:(T == "int")=true:=by
    have:(T == "bool")=false:=by simpa using c2
    rw [this,Bool.or_false] at c; exact c
   obtain ⟨i,rfl⟩:=kO ty tn hT;exact ⟨_,Z,_,Z,_,_,Z,Z,q⟩
  ·have hT:fz x=true:=by
    rw [<- tb];cases e:(T == "bool") with
    | true=>rfl
    | false=>rw [e] at c2; exact absurd rfl c2
   cases x <;> first | exact q | (exact absurd hT AI)
 ·have hx:aE x l=false:=by
   cases x with
   | int i =>
    exfalso;have ty':=ty;generalize hv:Value.type T=tv at ty';cases ty' with
    | int=>cases hv; exact c rfl
   | _=>rfl
  rw [hx] at q;exact q
theorem scplacc:FnScope ["_law_shop_here","_law_wide","_law_high","_law_thing"] ["_law_shop_here","_law_wide","_law_high","_law_thing"] (defScope dR):=⟨Z,Z,Z,by decide +kernel,Z,by decide +kernel,by decide +kernel⟩
theorem lB {f:Addr} {fd:An} (F:Fun K "_law_placed" "_law_placed" dR f fd) (B:Blt mg) (DPl:Dn P w K mg base "_law_plain" ["_law_thing","_law_least"] 1 (bu K)) (DLy:Dn P w K mg base "_law_lyings" ["_law_shop_here"] 1 (spLyingsC)) (DFi:Dn P w K mg base "_law_fits" ["_law_shop_here","_law_wide","_law_high","_law_pieces","_law_piece"] 3 (spFitsC)):FnOk P w K mg base CX0 4 f fd ["_law_shop_here","_law_wide","_law_high","_law_thing"] (spPlacC):=by
 refine F.ok scplacc (λ vs H Q E h=>?_) (λ cdv A outer s H vs Q E hr h=>?_)
 ·obtain ⟨s0,t,kl,b,W,h1,ks,v,d,rfl,_⟩:=h
  rfl
 obtain ⟨s0,t,kl,b,W,h1,ks,v,d,rfl,sh,k8,hd,q⟩:=h;have nd:=scplacc.nd;have hu65:=Nat.lt_of_succ_lt hr.units66;refine ⟨_,(@ae _ _ _ _ _ (@aK _ _ _ _ _ _ _ _ (PW.pt (bg (@aF _ _ _ _ (@aB _ _ _ (@aw _ _ _ _ _ _ _ _ _ ce Z B.isi PyProof.Rows.boot_isinstance ((pv 3)^^^((@aR _ _ _ _ _ ((bc (v:=.ty "list") Z B.list PyProof.Rows.boot_list Z)^^^((bc (v:=.ty "tuple") Z B.tuple PyProof.Rows.boot_tuple Z)^^^ab)))^^^ab)) (by decide) (by decide) Z Z) (by intro _; rfl))) (bd (@aH _ _ _ _ _ _ _ _ dZ (@aw _ _ _ _ _ _ _ _ _ aI Z B.len PySem.boot_len ((pv 3)^^^ab) (by decide) (by decide) Z Z) ad (aA _))))) (@af _ _ _ (@au _ _ _ _ aX)) ax) (@ae _ _ _ _ _ (@aK _ _ _ _ _ _ _ _ (PW.pt (bg (@aF _ _ _ _ (@aB _ _ _ (@ai _ _ _ _ _ _ _ _ _ _ DPl (hr.mono (by decide)) Z ((@am _ _ _ _ _ _ _ bm (pv 3) ad (λ _ _=>Z))^^^(ad^^^ab)) (by decide) Z Z) (by intro _; rfl))) (bg (@aF _ _ _ _ (@aB _ _ _ (@aw _ _ _ _ _ _ _ _ _ aZ Z B.isi PyProof.Rows.boot_isinstance ((@am _ _ _ _ _ _ _ bm (pv 3) ad (λ _ _=>Z))^^^((bc (v:=.ty "bool") Z B.bool PyProof.Rows.boot_bool Z)^^^ab)) (by decide) (by decide) Z Z) (by intro _; rfl))) (bd (@aH _ _ _ _ _ _ _ _ (jk hu65) (@aW _ _ _ _ _ _ _ _ _ be Z B.tuple PyProof.Rows.boot_tuple ((@bj _ _ _ _ _ _ _ _ _ _ (SlR.or dG di) (pv 3) bz (bA ad))^^^ab) (by decide) (by decide) Z Z) (@ai _ _ _ _ _ _ _ _ _ _ DLy (hr.mono (by decide)) Z ((pv 0)^^^ab) (by decide) Z Z) Z))))) (@af _ _ _ (@au _ _ _ _ aX)) ax) (@af _ _ _ (@au _ _ _ _ (bH (@ai _ _ _ _ _ _ _ _ _ _ DPl (hr.mono (by decide)) Z ((@am _ _ _ _ _ _ _ bm (pv 3) ad (λ _ _=>Z))^^^(ad^^^ab)) (by decide) Z Z) (bH (@ai _ _ _ _ _ _ _ _ _ _ DPl (hr.mono (by decide)) Z ((@am _ _ _ _ _ _ _ bm (pv 3) ad (λ _ _=>Z))^^^(ad^^^ab)) (by decide) Z Z) (bU (@ai _ _ _ _ _ _ _ _ _ _ DFi hr Z ((pv 0)^^^((pv 1)^^^((pv 2)^^^((@aN _ _ _ _ ab)^^^((pv 3)^^^ab))))) (by decide) Z Z)))))))),?_⟩;have sz:(1000:Nat) < sizeLine:=by decide
 refine aj (λ σ' H'=>σ'=[some (.ref t),some (.int W),some (.int h1),some v]/\Same H H'/\∃a x1 x2 x3 x4 d1 d2 d3 d4,v=.ref a/\aV d=some [d1,d2,d3,d4]/\Sq H a [x1,x2,x3,x4]/\Dt s0 H x1 d1/\Dt s0 H x2 d2/\Dt s0 H x3 d3/\Dt s0 H x4 d4) (λ R hR=>?_) ?_
 ·refine ⟨_,Z,zS2,λ tp htp=>?_⟩;obtain ⟨H1, e1, k1, s1⟩:∃H', upd H tp (.tup [.ty "list", .ty "tuple"])=H'/\H' tp=some (.tup [.ty "list", .ty "tuple"])/\Same H H':=⟨_, Z, ag, Aq htp⟩
  rw [show upd H tp _=H1 from e1];have q1:=q _ s1;rcases hd.rowq (K:=K) with ⟨e,T,ty,hT⟩ | ⟨a,xs,ds,T,e,rfl,hx,dx,ty,hT⟩
  ·refine ⟨v,tp,_,_,_,_,Z,(Ty.same s1 ty).2,k1,Z,cR T ty.1,_,Z,?_⟩;rw [hT];rw [jv e] at q1;exact aO (aO q1)
  ·refine ⟨_,tp,_,_,_,_,Z,(Ty.same s1 ty).2,k1,Z,cR T ty.1,_,Z,?_⟩;rw [hT];refine aJ ⟨_,rfl,a,_,rfl,(hx.same s1).imp (λ z=>As z) (λ z=>Ar z),rfl,_,rfl,?_⟩;have len:=dx.length
   by_cases l4:xs.length=4
   ·rw [show (!decide (V.int (xs.length:Int)=V.int 4))=false by rw [l4]; rfl];refine aJ (hR _ _ ⟨rfl,s1,?_⟩)
    match xs,ds,l4,dx with
    | [x1,x2,x3,x4],[d1,d2,d3,d4],_,.cons h1 (.cons h2 (.cons h3 (.cons h4 .nil)))=>exact ⟨a,x1,x2,x3,x4,d1,d2,d3,d4,Z,e,hx,h1,h2,h3,h4⟩
   ·rw [show (!decide (V.int (xs.length:Int)=V.int 4))=true by rw [decide_eq_false (λ z=>l4 (by have:=V.int.inj z; omega))]; rfl];rw [lu e (by omega)] at q1;exact aO q1
 rintro _ H1 ⟨rfl,s1,a,x1,x2,x3,x4,d1,d2,d3,d4,rfl,e,hx,h1',h2',h3',h4'⟩;rw [jw e] at q;have hx1:=hx.same s1;obtain ⟨T1,ty1⟩:=(h1'.same s1).ty (K:=K);refine aj (λ σ' H'=>σ'=[some (.ref t),some (.int W),some (.int h1),some (.ref a)]/\Same H H'/\∃ (i:Int) (c:Bool),x1=.int i/\x2=.bl c/\0<=i/\bf ks (.int i) (.bl c)=true) (λ R hR=>?_) ?_
 ·refine ⟨_,Z,ixS hx1 (bB (Int.le_refl _) rfl) ⟨x1,_,0,Z,ty1,_,Z,?_⟩⟩;cases w1:aE x1 0 with
  | false=>exact aO (aO (by have q1:=q _ s1; rw [bG h1' h2' h3' h4' (.inl w1)] at q1; exact q1))
  | true =>
  obtain ⟨T2,ty2⟩:=(h2'.same s1).ty (K:=K);have tb:=dH ty2.2;refine aJ ⟨_,rfl,ixS hx1 (bB (by decide) rfl) ⟨x2,_,_,_,_,rfl,ty2.2,rfl,cq T2 ty2.1,_,rfl,?_⟩⟩;rw [tb];cases b2:fz x2 with
  | false=>exact aO (aO (by have q1:=q _ s1; rw [bG h1' h2' h3' h4' (.inr (.inl b2))] at q1; exact q1))
  | true =>
  obtain ⟨i,rfl⟩:∃i,x1=.int i:=by cases x1 <;> first | exact ⟨_,Z⟩ | cases w1
  obtain ⟨c,rfl⟩:∃c,x2=.bl c:=by cases x2 <;> first | exact ⟨_,Z⟩ | cases b2
  have i0:0<=i:=AR w1;refine aJ ⟨_,rfl,_,rfl,?_⟩;have cut:bR [V.int i,V.bl c,x3,x4] none (some 2)=[.int i,.bl c]:=rfl;rcases hx1 with hx1 | hx1
  ·refine .inl ⟨a,_,Z,As hx1,λ l1 hl1=>?_⟩;rw [cut];obtain ⟨H2,e2,k2,s2⟩:∃H',upd H1 l1 (.lst [.int i,.bl c])=H'/\H' l1=some (.lst [.int i,.bl c])/\Same H1 H':=⟨_,Z,ag,Aq hl1⟩
   rw [show upd H1 l1 _=H2 from e2];refine ⟨l1,_,Z,.inl ⟨As k2,λ tt htt=>?_⟩⟩;obtain ⟨H3,e3,k3,s3⟩:∃H',upd H2 tt (.tup [.int i,.bl c])=H'/\H' tt=some (.tup [.int i,.bl c])/\Same H2 H':=⟨_,Z,ag,Aq htt⟩
   rw [show upd H2 tt _=H3 from e3];have s13:=s1.trans (s2.trans s3);refine ⟨_,Z,t,kl,b,ks,Z,sh.same s13,k8,λ ll ys H5 hll fll pl s5=>?_⟩;refine ⟨tt,ll,_,_,ys,_,Z,Z,s5 _ _ k3,.inr (.inr (.inl ⟨i,Z⟩)),.inr (.inl ⟨c,Z⟩),hll,lp pl,_,Z,?_⟩;rw [lz i0];cases lc:bf ks (.int i) (.bl c) with
   | false=>exact aO (by have q1:=q _ (s13.trans s5); rw [bG h1' h2' h3' h4' (.inr (.inr (.inl lc)))] at q1; exact q1)
   | true=>exact aJ (hR _ _ ⟨rfl,s13.trans s5,i,c,rfl,rfl,i0,lc⟩)
  ·refine .inr ⟨a,_,Z,Ar hx1,(λ z=>absurd z.2 (show ¬ HT.sIx 4 4 (some 2)=4 by decide)),λ tt htt=>?_⟩;rw [cut];obtain ⟨H3,e3,k3,s3⟩:∃H',upd H1 tt (.tup [.int i,.bl c])=H'/\H' tt=some (.tup [.int i,.bl c])/\Same H1 H':=⟨_,Z,ag,Aq htt⟩
   rw [show upd H1 tt _=H3 from e3];refine ⟨tt,_,Z,.inr ⟨Ar k3,?_⟩⟩;have s13:=s1.trans s3;refine ⟨_,Z,t,kl,b,ks,Z,sh.same s13,k8,λ ll ys H5 hll fll pl s5=>?_⟩;refine ⟨tt,ll,_,_,ys,_,Z,Z,s5 _ _ k3,.inr (.inr (.inl ⟨i,Z⟩)),.inr (.inl ⟨c,Z⟩),hll,lp pl,_,Z,?_⟩;rw [lz i0];cases lc:bf ks (.int i) (.bl c) with
   | false=>exact aO (by have q1:=q _ (s13.trans s5); rw [bG h1' h2' h3' h4' (.inr (.inr (.inl lc)))] at q1; exact q1)
   | true=>exact aJ (hR _ _ ⟨rfl,s13.trans s5,i,c,rfl,rfl,i0,lc⟩)
 rintro _ H2 ⟨rfl,s2,i,c,rfl,rfl,i0,ly⟩;obtain ⟨n,rfl⟩:=Int.eq_ofNat_of_zero_le i0;obtain ⟨k,hk,_⟩:=cX (fL ly);have hx2:=hx.same s2;obtain ⟨T3,ty3⟩:=(h3'.same s2).ty (K:=K);refine ⟨_,Z,ixS hx2 (bB (by decide) rfl) ⟨x3,_,0,Z,ty3,_,Z,?_⟩⟩;cases w3:aE x3 0 with
 | false=>exact aJ (by have q1:=q _ s2; rw [bG h1' h2' h3' h4' (.inr (.inr (.inr (.inl w3))))] at q1; exact q1)
 | true =>
 obtain ⟨T4,ty4⟩:=(h4'.same s2).ty (K:=K);refine aO ⟨_,rfl,ixS hx2 (bB (by decide) rfl) ⟨x4,_,0,rfl,ty4,_,rfl,?_⟩⟩;cases w4:aE x4 0 with
 | false=>exact aJ (by have q1:=q _ s2; rw [bG h1' h2' h3' h4' (.inr (.inr (.inr (.inr w4))))] at q1; exact q1)
 | true =>
 obtain ⟨x,rfl⟩:∃i,x3=.int i:=by cases x3 <;> first | exact ⟨_,Z⟩ | cases w3
 obtain ⟨y,rfl⟩:∃i,x4=.int i:=by cases x4 <;> first | exact ⟨_,Z⟩ | cases w4
 refine aO ⟨_,rfl,_,rfl,_,rfl,by decide,λ l3 hl3=>?_⟩;obtain ⟨H3,e3,k3,s3⟩:∃H',upd H2 l3 (.lst [])=H'/\H' l3=some (.lst [])/\Same H2 H':=⟨_,Z,ag,Aq hl3⟩
 rw [show upd H2 l3 _=H3 from e3];have s23:=s2.trans s3;refine ⟨_,Z,t,kl,l3,a,b,W,h1,ks,[],[],⟨n,c,x,y⟩,k,Z,sh.same s23,k3,.nil,Ae _,hx.same s23,hk,λ H4 s4=>?_⟩;have q1:=q _ (s23.trans s4);cases h1'; cases h2'; cases h3'; cases h4';have e1:eF ks W h1 (.int (n:Int)) (.bool c) (.int x) (.int y)=bi ks W h1 [] ⟨n,c,x,y⟩:=lw (q:=⟨n,c,x,y⟩) hk ly (AR w3) (AR w4);rw [e1] at q1;exact q1
theorem scjudc:FnScope ["_law_shop_here","_law_wide","_law_high","_law_thing","_law_found","_law_piece"] ["_law_shop_here","_law_wide","_law_high","_law_thing"] (defScope dS):=⟨Z,Z,Z,by decide +kernel,Z,by decide +kernel,by decide +kernel⟩
theorem mS {f:Addr} {fd:An} (F:Fun K "_law_judged" "_law_judged" dS f fd) (B:Blt mg) (DFi:Dn P w K mg base "_law_fits" ["_law_shop_here","_law_wide","_law_high","_law_pieces","_law_piece"] 3 (spFitsC)) (DPc:Dn P w K mg base "_law_placed" ["_law_shop_here","_law_wide","_law_high","_law_thing"] 4 (spPlacC)):FnOk P w K mg base CX0 5 f fd ["_law_shop_here","_law_wide","_law_high","_law_thing"] (spJudC):=by
 refine F.ok scjudc (λ vs H Q E h=>?_) (λ cdv A outer s H vs Q E hr h=>?_)
 ·obtain ⟨s0,t,kl,b,W,h1,ks,v,d,rfl,_⟩:=h
  rfl
 obtain ⟨s0,t,kl,b,W,h1,ks,v,d,rfl,sh,k8,hd,ln,q⟩:=h;have nd:=scjudc.nd;refine ⟨_,(@ae _ _ _ _ _ (@aK _ _ _ _ _ _ _ _ (@aF _ _ _ _ (@aB _ _ _ (@aw _ _ _ _ _ _ _ _ _ ce Z B.isi PyProof.Rows.boot_isinstance ((pv 3)^^^((@aR _ _ _ _ _ ((bc (v:=.ty "list") Z B.list PyProof.Rows.boot_list Z)^^^((bc (v:=.ty "tuple") Z B.tuple PyProof.Rows.boot_tuple Z)^^^ab)))^^^ab)) (by decide) (by decide) Z Z) (by intro _; rfl))) (@af _ _ _ (@au _ _ _ _ aX)) ax) (@ae _ _ _ _ _ (@aD _ _ 4 _ _ _ _ nd Z (Or.inl Z) (@aN _ _ _ _ ab) Z (Or.inl Z)) (@ae _ _ _ _ _ (@bN _ _ _ _ _ _ _ _ Ab Z (eo (pv 3)) (ay (i:=5) nd Z (Or.inl Z)) (@ae _ _ _ _ _ (@aK _ _ _ _ _ _ _ _ (PW.pt (bg (@aF _ _ _ _ (@aB _ _ _ (@ai _ _ _ _ _ _ _ _ _ _ DPc hr Z ((pv 0)^^^((pv 1)^^^((pv 2)^^^((pv 5)^^^ab)))) (by decide) Z Z) (by intro _; rfl))) (bd (@aF _ _ _ _ (@aB _ _ _ (@ai _ _ _ _ _ _ _ _ _ _ DFi (hr.mono (by decide)) Z ((pv 0)^^^((pv 1)^^^((pv 2)^^^((pv 4)^^^((pv 5)^^^ab))))) (by decide) Z Z) (by intro _; rfl)))))) (@af _ _ _ (@au _ _ _ _ aX)) ax) (@af _ _ _ (@bV _ _ _ _ (@eU _ _ _ _ _ _ _ _ _ _ _ _ Ak PySem.F.slot_list_append PySem.F.type_list_append bS (pv 4) ((pv 5)^^^ab) Z Z Z Z Z) Z))) (by intro _; rfl)) (@af _ _ _ (@au _ _ _ _ aX))))),?_⟩;have sz:(1000:Nat) < sizeLine:=by decide
 refine aj (λ σ' H'=>σ'=[some (.ref t),some (.int W),some (.int h1),some v,none,none]/\Same H H'/\∃a xs ds,v=.ref a/\aV d=some ds/\Sq H a xs/\Dts s0 H xs ds) (λ R hR=>?_) ?_
 ·refine ⟨_,Z,zS2,λ tp htp=>?_⟩;obtain ⟨H1, e1, k1, s1⟩:∃H', upd H tp (.tup [.ty "list", .ty "tuple"])=H'/\H' tp=some (.tup [.ty "list", .ty "tuple"])/\Same H H':=⟨_, Z, ag, Aq htp⟩
  rw [show upd H tp _=H1 from e1];rcases hd.rowq (K:=K) with ⟨e,T,ty,hT⟩ | ⟨a,xs,ds,T,e,rfl,hx,dx,ty,hT⟩
  ·refine ⟨v,tp,_,_,_,_,Z,(Ty.same s1 ty).2,k1,Z,cR T ty.1,_,Z,?_⟩;rw [hT];exact aO (q false _ ⟨(λ z=>by cases z),(λ ⟨_,_,e',_⟩=>by rw [e] at e'; cases e')⟩ s1)
  ·refine ⟨_,tp,_,_,_,_,Z,(Ty.same s1 ty).2,k1,Z,cR T ty.1,_,Z,?_⟩;rw [hT];exact aJ (hR _ _ ⟨rfl,s1,a,xs,ds,rfl,e,hx,dx⟩)
 rintro _ H1 ⟨rfl,s1,a,xs,ds,rfl,e,hx,dx⟩;have lr:=lx (ks:=ks) (w:=W) (h:=h1) e;have l90:=ln ds e;have dl:=dx.length;refine aj (λ σ' H'=>∃fo,σ'=[some (.ref t),some (.int W),some (.int h1),some (.ref a),some (.ref fo),none]/\H fo=none/\H' fo=some (.lst [])/\Same H H') (λ R hR=>?_) ?_
 ·exact ⟨by decide,λ fo hfo=>hR _ _ ⟨fo,Z,s1.free hfo,ag,s1.trans (Aq hfo)⟩⟩
 rintro _ H2 ⟨fo,rfl,fo0,hfo,s2⟩;clear s1;have nfa:a≠fo:=λ z=>by rcases hx with hx | hx <;> (rw [z,fo0] at hx; cases hx)
 have dfo:Dts fo H xs ds:=dx.fresh fo0;refine aj (λ σ' H'=>Same H H'/\cV ks W h1 d) (λ R hR=>?_) ?_
 ·refine fY (j:=3) (a:=a) (xs:=xs) rfl (hx.same s2) (λ i σ' H'=>∃ (v5:Option V) (ps:List Pq),σ'=[some (.ref t),some (.int W),some (.int h1),some (.ref a),some (.ref fo),v5]/\H' fo=some (.lst (xs.take i))/\Same H H'/\Paired PqD (ds.take i) ps/\(∀x∈ds.take i,aU ks W h1 x=true)/\fe ks ps) ⟨none,[],rfl,hfo,s2,.nil,(λ x z=>by simp at z),λ i p z=>by simp at z⟩ (λ i σ Hx _ h o e=>by
   obtain ⟨_,_,_,_,sx,_⟩:=h;rcases hx with hx | hx
   ·rw [s2 _ _ hx] at e; cases e; exact sx _ _ hx
   ·rw [s2 _ _ hx] at e; cases e; exact sx _ _ hx) ?_ ?_
  ·rintro i v σ Hx hi ⟨v5,ps,rfl,hfx,sx,pp,al,ok⟩;have hin:i < xs.length:=(AD.mp hi).1;obtain ⟨dv,hdv,hv⟩:=dx.get hi;obtain ⟨dv',hdv',hv'⟩:=dfo.get hi;have pl:=Aa pp;rw [List.length_take] at pl;have key:cV ks W h1 d->∃p k,PqD dv p/\(p.k,p.c)∈lyK ks 0/\ks[p.k]? = some k/\0<=p.x/\0<=p.y/\bi ks W h1 ps p=true:=λ ld=>mO (lr.mp ld) hdv pp;have bad:∀ {Hy:Hp},Same Hx Hy->¬ cV ks W h1 d->Q (.bl false) Hy:=λ sy n=>q false _ ⟨(λ z=>by cases z),(λ z=>absurd z n)⟩ (sx.trans sy);refine aj (λ σ' H'=>σ'=[some (.ref t),some (.int W),some (.int h1),some (.ref a),some (.ref fo),some v]/\Same Hx H'/\aU ks W h1 dv=true/\∃p,PqD dv p/\bi ks W h1 ps p=true) (λ R hR=>?_) ?_
   ·refine ⟨_,Z,_,Z,_,Z,_,Z,s0,t,kl,b,W,h1,ks,v,dv,Z,sh.same sx,k8,hv.same sx,λ H3 s3=>⟨_,Z,?_⟩⟩;cases pc:aU ks W h1 dv with
    | false=>exact aO (aO (bad s3 λ ld=>by
      obtain ⟨ds',ps',e',_,al',_⟩:=ld;rw [e] at e'; cases e';rw [al' dv (List.mem_of_getElem? hdv)] at pc;cases pc))
    | true =>
     obtain ⟨p,k,pd,_,hk,x0,y0,_⟩:=dW pc;obtain ⟨ap,rfl,hap⟩:=(hv.same (sx.trans s3)).pq pd;have pairS:Paired (PqS ks H3) (xs.take i) ps:=iU (dx.take i) pp (sx.trans s3) al;refine aJ ⟨_,rfl,_,rfl,_,rfl,_,rfl,_,rfl,t,kl,fo,ap,b,W,h1,ks,xs.take i,ps,p,k,rfl,sh.same (sx.trans s3),s3 _ _ hfx,pairS,(by rw [List.length_take]; omega),hap,hk,λ H4 s4=>⟨_,rfl,?_⟩⟩;cases fc:bi ks W h1 ps p with
     | false=>exact aO (bad (s3.trans s4) λ ld=>by
       obtain ⟨p',k',pd',_,_,_,_,fc'⟩:=key ld;rw [PqD.uniq _ _ _ pd pd',fc'] at fc;cases fc)
     | true=>exact aJ (hR _ _ ⟨rfl,s3.trans s4,pc,p,pd,fc⟩)
   rintro _ H3 ⟨rfl,s3,pc,p,pd,fc⟩;have hf3:=s3 _ _ hfx;refine ⟨_,Z,.inl ⟨Z,_,As hf3⟩,_,Z,fo,_,_,Z,Z,hf3,(by rw [List.length_take]; omega),?_⟩;have tk:xs.take (i + 1)=xs.take i ++ [v]:=by rw [List.take_add_one,hi]; rfl
   have tkd:ds.take (i + 1)=ds.take i ++ [dv]:=by rw [List.take_add_one,hdv]; rfl
   refine ⟨_,ps ++ [p],Z,by rw [ag,tk],λ c o e=>?_,by rw [tkd]; exact gX pp (.cons pd .nil),λ x hx=>?_,lm ok fc⟩
   ·rw [ar (λ z=>by rw [z,fo0] at e; cases e)];exact s3 _ _ (sx _ _ e)
   ·rw [tkd] at hx;rcases AT.mp hx with hx | hx
    ·exact al x hx
    ·rw [List.mem_singleton.mp hx]; exact pc
  ·rintro σ Hx ⟨v5,ps,rfl,hfx,sx,pp,al,ok⟩;rw [dl,List.take_length] at pp al;exact hR _ _ ⟨sx,ds,ps,e,pp,al,ok⟩
 rintro _ H3 ⟨s3,ld⟩;exact q true _ ⟨λ _=>ld,λ _=>rfl⟩ s3
end
def bE:List PyData:=[.none,.bool true,.bool false,.int 0,.int 1,.str "0",.str "",.list [.int 0],.tuple [.int 0],.dict [],.int (-1),.int (10 ^ 60 - 1),.int (1 - 10 ^ 60),.str "0000",fJ]
theorem fM {P:PyData->Prop} {d:PyData} (h:d∈bE) (h0:P (.none)) (h1:P (.bool true)) (h2:P (.bool false)) (h3:P (.int 0)) (h4:P (.int 1)) (h5:P (.str "0")) (h6:P (.str "")) (h7:P (.list [.int 0])) (h8:P (.tuple [.int 0])) (h9:P (.dict [])) (h10:P (.int (-1))) (h11:P (.int (10 ^ 60 - 1))) (h12:P (.int (1 - 10 ^ 60))) (h13:P (.str "0000")) (h14:P (fJ)):P d:=by simp only [bE,List.mem_cons,List.not_mem_nil,or_false] at h;rcases h with rfl | rfl | rfl | rfl | rfl | rfl | rfl | rfl | rfl | rfl | rfl | rfl | rfl | rfl | rfl <;> assumption
def SmD (d:PyData):Prop:=d∈bE\/(∃b,d=.bool b)\/∃i,d=.int i/\Short i
def ItD (d:PyData):Prop:=d∈bE\/∃es,d=.tuple es/\es.length<=5/\∀e∈es,SmD e
def ThD (d:PyData):Prop:=d∈bE\/∃ds,d=.list ds/\ds.length<=14/\∀e∈ds,ItD e
theorem gZ {d:PyData} (h:d∈bE):wt d<=5:=fM (P:=λ d=>wt d<=5) h (by simp only [wt]; decide +kernel) (by simp only [wt]; decide +kernel) (by simp only [wt]; decide +kernel) (by simp only [wt]; decide +kernel) (by simp only [wt]; decide +kernel) (by simp only [wt]; decide +kernel) (by simp only [wt]; decide +kernel) (by simp only [wt,wts]; decide +kernel) (by simp only [wt,wts]; decide +kernel) (by simp only [wt]; decide +kernel) (by simp only [wt]; decide +kernel) (by simp only [wt]; decide +kernel) (by simp only [wt]; decide +kernel) (by simp only [wt]; decide +kernel) (by simp only [wt]; decide +kernel)
def ShD (k n:Nat) (d:PyData):Prop:=d.showable=true/\d.depth<=k/\d.shown.length<=n
theorem hG {d:PyData} (h:d∈bE):ShD 3 63 d:=by
 have sb:∀i:Int,Short i->ShD 3 63 (.int i):=λ i hs=>⟨by simp [PyData.showable,hs.log],by simp [PyData.depth],hs.len⟩
 refine fM (P:=ShD 3 63) h ?_ ?_ ?_ (sb _ ?_) (sb _ ?_) ?_ ?_ ?_ ?_ ?_ (sb _ ?_) (sb _ ?_) (sb _ ?_) ?_ ?_ <;> first | exact (by unfold Short; decide) | exact ⟨by decide +kernel,by decide +kernel,by decide +kernel⟩
theorem qJ {d:PyData} (h:SmD d):ShD 3 63 d:=by
 rcases h with h | ⟨b,rfl⟩ | ⟨i,rfl,hs⟩
 ·exact hG h
 ·cases b <;> exact ⟨by decide +kernel,by decide +kernel,by decide +kernel⟩
 ·exact ⟨by simp [PyData.showable,hs.log],by simp [PyData.depth],hs.len⟩
theorem qK {d:PyData} (h:SmD d):wt d<=5:=by
 rcases h with h | ⟨b,rfl⟩ | ⟨i,rfl,hs⟩
 ·exact gZ h
 ·simp [wt]
 ·simp [wt]
theorem hI {n:Nat}:∀ {ds:List PyData},(∀d∈ds,wt d<=n)->wts ds<=n * ds.length
 | [],_=>Ae _
 | d :: r,h=>by have h1:=h d AN;have h2:=hI (ds:=r) λ x hx=>h x (AK _ hx);rw [wts,List.length_cons,Nat.mul_succ];omega
theorem qL {d:PyData} (h:ItD d):wt d<=30:=by
 rcases h with h | ⟨es,rfl,l5,he⟩
 ·have:=gZ h; omega
 ·have:=hI λ e h=>qK (he e h);rw [wt];omega
theorem qM {d:PyData} (h:ThD d):wt d<=30000:=by
 rcases h with h | ⟨es,rfl,l5,he⟩
 ·have:=gZ h; omega
 ·have:=hI λ e h=>qL (he e h);rw [wt];omega
theorem hJ {k n:Nat}:∀ {ds:List PyData},(∀d∈ds,ShD k n d)->PyData.showableAll ds=true/\PyData.depthAll ds<=k/\((PyData.shownAll ds).map (·.length)).sum<=n * ds.length/\(PyData.shownAll ds).length=ds.length
 | [],_=>⟨Z,Ae _,Ae _,Z⟩
 | d :: r,h=>by obtain ⟨d1,d2,d3⟩:=h d AN;obtain ⟨e1,e2,e3,e4⟩:=hJ (ds:=r) λ x hx=>h x (AK _ hx);refine ⟨by simp only [PyData.showableAll,d1,e1,Bool.and_self],by simp only [PyData.depthAll]; omega,?_,by simp only [PyData.shownAll,List.length_cons]; omega⟩;simp only [PyData.shownAll,List.map_cons,List.sum_cons,List.length_cons,Nat.mul_succ];omega
theorem qN {d:PyData} (h:ItD d):ShD 4 400 d:=by
 rcases h with h | ⟨es,rfl,l5,he⟩
 ·obtain ⟨h1,h2,h3⟩:=hG h;exact ⟨h1,by omega,by omega⟩
 ·obtain ⟨e1,e2,e3,e4⟩:=hJ λ e h=>qJ (he e h);refine ⟨by simp only [PyData.showable,e1],by simp only [PyData.depth]; omega,?_⟩;have:=tupleText_len_le (PyData.shownAll es);simp only [PyData.shown];omega
theorem qO {d:PyData} (h:ThD d):d.showable=true/\d.depth<=64/\d.shown.length<=sizeLine:=by
 have sz:(8000:Nat) < sizeLine:=by decide
 rcases h with h | ⟨ds,rfl,l,he⟩
 ·obtain ⟨h1,h2,h3⟩:=hG h;exact ⟨h1,by omega,by omega⟩
 ·obtain ⟨e1,e2,e3,e4⟩:=hJ λ e h=>qN (he e h);refine ⟨by simp only [PyData.showable,e1],by simp only [PyData.depth]; omega,?_⟩;have:=listText_len_le (PyData.shownAll ds);simp only [PyData.shown];omega
theorem oq {d:PyData} (h:ThD d):∀ds,aV d=some ds->ds.length<=90:=by
 rcases h with h | ⟨ds,rfl,l,he⟩
 ·refine fM (P:=λ d=>∀ds,aV d=some ds->ds.length<=90) h ?_ ?_ ?_ ?_ ?_ ?_ ?_ ?_ ?_ ?_ ?_ ?_ ?_ ?_ ?_ <;> intro ds e <;> first | (cases e; done) | (cases e; decide)
 ·intro ds' e;cases e;omega
mutual
theorem Dt.datO {K:AV} {p:Addr} {H:Hp}:∀ {v:V} {d:PyData},Dt p H v d->DatO K H v d
 | _,_,.non=>.non
 | _,_,.bl b=>.bl b
 | _,_,.int i=>.int i
 | _,_,.str z=>.str z
 | _,_,.lst n h r=>.lst (As h) r.datO
 | _,_,.tup h r=>.tup (Ar h) r.datO
 | _,_,.emp h=>.emp h
 | _,_,.odd h k=>.odd h k (.int (.bl (.int (.int .nil))))
theorem Dts.datO {K:AV} {p:Addr} {H:Hp}:∀ {vs:List V} {ds:List PyData},Dts p H vs ds->DatOs K H vs ds
 | _,_,.nil=>.nil
 | _,_,.cons a r=>.cons a.datO r.datO
end
theorem Dts.app {p:Addr} {H:Hp}:∀ {vs us:List V} {ds es:List PyData},Dts p H vs ds->Dts p H us es->Dts p H (vs ++ us) (ds ++ es)
 | _,_,_,_,.nil,h=>h
 | _,_,_,_,.cons a r,h=>.cons a (r.app h)
theorem Dts.drop {p:Addr} {H:Hp}:∀ (n:Nat) {vs:List V} {ds:List PyData},Dts p H vs ds->Dts p H (vs.drop n) (ds.drop n)
 | 0,_,_,h=>h
 | n + 1,_,_,.nil=>.nil
 | n + 1,_,_,.cons a r=>r.drop n
theorem cD {H H':Hp} {m a b:Addr} {o:HO} (h:(H'=H/\(m=a\/m=b))\/(H m=none/\H'=upd H m o)):Same H H':=by
 rcases h with ⟨rfl,_⟩ | ⟨hm,rfl⟩
 ·exact Same.refl _
 ·exact Aq hm
def pqd (q:Pq):PyData:=.tuple [.int q.k,.bool q.c,.int q.x,.int q.y]
def Pin (q:Pq):Prop:=q.k < 100/\0<=q.x/\0<=q.y/\q.x < 10 ^ 61/\q.y < 10 ^ 61
theorem nE {p a:Addr} {H:Hp} {q:Pq} (h:H a=some (.tup (pqV q))):Dt p H (.ref a) (pqd q):=.tup h (.cons (.int _) (.cons (.bl _) (.cons (.int _) (.cons (.int _) .nil))))
theorem hU {i:Int} (h0:0<=i) (h1:i < 10 ^ 61):SmD (.int i):=.inr (.inr ⟨i,Z,by
 have:(10:Int) ^ 61 < 10 ^ 62:=by decide
 have e:((10 ^ 62:Nat):Int)=10 ^ 62:=by decide
 unfold Short;omega⟩)
theorem lC {q:Pq} (h:Pin q):∀e∈[PyData.int q.k,.bool q.c,.int q.x,.int q.y],SmD e:=by
 obtain ⟨h1,h2,h3,h4,h5⟩:=h;have:(100:Int) < 10 ^ 61:=by decide
 intro e he;simp only [List.mem_cons,List.not_mem_nil,or_false] at he;rcases he with rfl | rfl | rfl | rfl
 ·exact hU (by omega) (by omega)
 ·exact .inr (.inl ⟨_,Z⟩)
 ·exact hU h2 h4
 ·exact hU h3 h5
theorem hV {p:Addr} {ks:List Kd} {H:Hp}:∀ {ys:List V} {ps:List Pq},Paired (PqT ks H) ys ps->Dts p H ys (ps.map pqd)
 | _,_,.nil=>.nil
 | _,_,.cons ⟨a,e,h,_⟩ r=>by subst e; exact .cons (nE h) (hV r)
theorem dw {p:Addr} {H:Hp} (q:Pq):Dts p H (pqV q) [.int q.k,.bool q.c,.int q.x,.int q.y]:=.cons (.int _) (.cons (.bl _) (.cons (.int _) (.cons (.int _) .nil)))
theorem gt {i:Int} (h0:-(10 ^ 61)<=i) (h1:i < 10 ^ 61):SmD (.int i):=.inr (.inr ⟨i,Z,by
 have:(10:Int) ^ 61 < 10 ^ 62:=by decide
 have e:((10 ^ 62:Nat):Int)=10 ^ 62:=by decide
 unfold Short;omega⟩)
theorem lD {q:Pq} (h:Pin q):ItD (pqd q):=.inr ⟨_,Z,(by show 4<=5; decide),lC h⟩
abbrev fN (q:Pq):List PyData:=[.int q.k,.bool q.c,.int q.x,.int q.y]
theorem fO {a b:List PyData} (ha:∀e∈a,SmD e) (hb:∀e∈b,SmD e):∀e∈a ++ b,SmD e:=λ e he=>(AT.mp he).elim (ha e) (hb e)
theorem ou (q:Pq) (hq:Pin q) {k:Int} (k0:0<=k):∃ (z:Int) (j:Nat),atI (pqV q) (2 + k % 2)=some (.int z)/\0<=z/\z < 10 ^ 61/\ixN (pqV q).length (2 + k % 2)=some j/\∀ (r:Int),∃xs ds,(pqV q).set j (.int r)=xs/\(∀p H,Dts p H xs ds)/\ds.length=4/\(SmD (.int r)->∀e∈ds,SmD e):=by
 have sm:=lC hq;obtain ⟨h1,h2,h3,h4,h5⟩:=hq;have:k % 2=0\/k % 2=1:=by omega
 rcases this with e | e <;> rw [e]
 ·refine ⟨q.x,2,Z,h2,h4,Z,λ r=>⟨_,[.int q.k,.bool q.c,.int r,.int q.y],Z,λ p H=>.cons (.int _) (.cons (.bl _) (.cons (.int _) (.cons (.int _) .nil))),Z,λ hr e he=>?_⟩⟩;simp only [List.mem_cons,List.not_mem_nil,or_false] at he;rcases he with rfl | rfl | rfl | rfl
  ·exact sm _ (by simp)
  ·exact sm _ (by simp)
  ·exact hr
  ·exact sm _ (by simp)
 ·refine ⟨q.y,3,Z,h3,h5,Z,λ r=>⟨_,[.int q.k,.bool q.c,.int q.x,.int r],Z,λ p H=>.cons (.int _) (.cons (.bl _) (.cons (.int _) (.cons (.int _) .nil))),Z,λ hr e he=>?_⟩⟩;simp only [List.mem_cons,List.not_mem_nil,or_false] at he;rcases he with rfl | rfl | rfl | rfl
  ·exact sm _ (by simp)
  ·exact sm _ (by simp)
  ·exact sm _ (by simp)
  ·exact hr
section
variable {P:Am} {w:Ao} {K:AV} {mg:Str->Option Ap} {base:Heap}
def ff:Sp:=λ vs H Q _=>∃p,vs=[.ref p]/\PotC H p/\∀ (v:V) (d:PyData) (H':Hp),Dt p H' v d->d∈bE->PotC H' p->But p H H'->Q v H'
inductive spSpc (vs:List V) (H:Hp) (Q:VK) (E_:XK):Prop
 | mk (p aq:Addr) (q0:Pq) (e_1:vs=[.ref p,.ref aq]) (e_2:PotC H p) (e_3:H aq=some (.tup (pqV q0))) (e_4:Pin q0) (e_5:q0.x < 10 ^ 60) (e_6:q0.y < 10 ^ 60) (e_7:∀ (v:V) (d:PyData) (H':Hp),Dt p H' v d->ItD d->PotC H' p->But p H H'->Q v H'):spSpc vs H Q E_
inductive spSpoilt (vs:List V) (H:Hp) (Q:VK) (E_:XK):Prop
 | mk (p l:Addr) (ks:List Kd) (ys:List V) (ps:List Pq) (e_1:vs=[.ref p,.ref l]) (e_2:PotC H p) (e_3:l≠p) (e_4:H l=some (.lst ys)) (e_5:Paired (PqT ks H) ys ps) (e_6:ys.length<=13) (e_7:(∀q∈ps,q.k < 100/\q.x < 10 ^ 60/\q.y < 10 ^ 60)) (e_8:∀ (v:V) (d:PyData) (H':Hp),Dt p H' v d->ThD d->PotC H' p->But p H H'->Q v H'):spSpoilt vs H Q E_
theorem scoddc:FnScope ["_law_pot_here","_law_some"] ["_law_pot_here"] (defScope mE):=⟨Z,Z,Z,by decide +kernel,Z,by decide +kernel,by decide +kernel⟩
theorem mT {f:Addr} {fd:An} (F:Fun K "_law_odd" "_law_odd" mE f fd) (B:Blt mg) (DD:Dn P w K mg base "_law_take" ["_law_pot_here","_law_many"] 1 (spTake)):FnOk P w K mg base CX0 2 f fd ["_law_pot_here"] (ff):=by
 refine F.ok scoddc (λ vs H Q E h=>?_) (λ cdv A outer s H vs Q E hr h=>?_)
 ·obtain ⟨p,rfl,_⟩:=h
  rfl
 obtain ⟨p,rfl,pt,q⟩:=h;have nd:=scoddc.nd;have hu0:=Nat.lt_of_le_of_lt (Nat.le_add_right _ 64) hr.units;refine ⟨_,(@ae _ _ _ _ _ (@aD _ _ 1 _ _ _ _ nd Z (Or.inl Z) (@aN _ _ _ _ (nM^^^(aX^^^(aX^^^(ad^^^(ad^^^(gy^^^(gy^^^((@aN _ _ _ _ (ad^^^ab))^^^((@aR _ _ _ _ _ (ad^^^ab))^^^(gP^^^((@nq _ _ _ _ _ _ km ad)^^^((@av _ _ _ _ _ _ _ _ de (@av _ _ _ _ _ _ _ _ cm ad ad) ad)^^^((@av _ _ _ _ _ _ _ _ de ad (@av _ _ _ _ _ _ _ _ cm ad ad))^^^ab)))))))))))))) Z (Or.inl Z)) (@ae _ _ _ _ _ (@aD _ _ 1 _ _ _ _ nd Z (Or.inl Z) (@av _ _ _ _ _ _ _ _ fw (pv 1) (@aN _ _ _ _ (gy^^^((kU hu0 (@aR _ _ _ _ _ (ad^^^(aX^^^(ad^^^(ad^^^ab))))) ad)^^^ab)))) Z (Or.inl Z)) (@af _ _ _ (@au _ _ _ _ (@am _ _ _ _ _ _ _ ix_list (pv 1) (@ai _ _ _ _ _ _ _ _ _ _ DD hr Z ((pv 0)^^^(ad^^^ab)) (by decide) Z Z) (λ _ _=>Z)))))),?_⟩;have sz:(1000:Nat) < sizeLine:=by decide
 refine aj (λ σ' H'=>∃ (l l4 t4 em:Addr), σ'=[some (.ref p), some (.ref l)]/\l≠p/\l4≠p/\H' l=some (.lst [.non, .bl true, .bl false, .int 0, .int 1, .str "0", .str "", .ref l4, .ref t4, .ref em, .int (-1), .int (10 ^ 60 - 1), .int (1 - 10 ^ 60)])/\H' l4=some (.lst [.int 0])/\H' t4=some (.tup [.int 0])/\H' em=some (.dK [])/\PotC H' p/\But p H H') (λ R hR=>?_) ?_
 ·refine ⟨zS1,λ l4 hl4=>?_⟩;obtain ⟨H1,e1,k1,n1,s1,b1,pt1⟩:=aS (o:=.lst [.int 0]) But.refl' pt hl4;rw [show upd H l4 _=H1 from e1];refine ⟨zS1,λ t4 ht4=>?_⟩;obtain ⟨H2,e2,k2,n2,s2,b2,pt2⟩:=aS (o:=.tup [.int 0]) b1 pt1 ht4;rw [show upd H1 t4 _=H2 from e2];refine λ em hem=>?_;obtain ⟨H3,e3,k3,n3,s3,b3,pt3⟩:=aS (o:=.dK []) b2 pt2 hem;rw [show upd H2 em _=H3 from e3];refine ⟨_,Z,_,_,Z,Z,⟨by decide,by decide,by decide⟩,_,_,Z,Z,_,_,Z,Z,⟨by decide,by decide,by decide⟩,_,_,Z,Z,zS13,λ l hl=>?_⟩;obtain ⟨H4,e4,k4,n4,s4,b4,pt4⟩:=aS (o:=.lst [.non,.bl true,.bl false,.int 0,.int 1,.str "0",.str "",.ref l4,.ref t4,.ref em,.int (-1),.int (10 ^ (60:Int).toNat - 1),.int (1 - 10 ^ (60:Int).toNat)]) b3 pt3 hl;rw [show upd H3 l _=H4 from e4];exact hR _ _ ⟨l,l4,t4,em,rfl,n4,n1,k4,s4 _ _ (s3 _ _ (s2 _ _ k1)),s4 _ _ (s3 _ _ k2),s4 _ _ k3,pt4,b4⟩
 rintro _ H1 ⟨l0,l4,t4,em,rfl,nl,nl4,hl,hl4,ht4,hem,pt1,b1⟩;refine aj (λ σ' H'=>∃ (l l4 t4 em od kt:Addr), σ'=[some (.ref p), some (.ref l)]/\l≠p/\l4≠p/\H' l=some (.lst ([.non, .bl true, .bl false, .int 0, .int 1, .str "0", .str "", .ref l4, .ref t4, .ref em, .int (-1), .int (10 ^ 60 - 1), .int (1 - 10 ^ 60)] ++ [.str "0000", .ref od]))/\H' l4=some (.lst [.int 0])/\H' t4=some (.tup [.int 0])/\H' em=some (.dK [])/\H' od=some (.ext (OddD od kt 0))/\H' kt=some (.tup gW)/\PotC H' p/\But p H H') (λ R hR=>?_) ?_
 ·refine ⟨_,Z,λ od hod=>?_⟩;obtain ⟨H2,e2,k2,n2,s2,b2,pt2⟩:=aS (o:=.dK []) b1 pt1 hod;rw [show upd H1 od _=H2 from e2];refine ⟨zS4,λ kt hkt=>?_⟩;obtain ⟨H3,e3,k3,n3,s3,b3,pt3⟩:=aS (o:=.tup gW) b2 pt2 hkt;rw [show upd H2 kt _=H3 from e3];refine ⟨s3 _ _ k2,kt,_,_,_,0,Z,k3,.int (.bl (.int (.int .nil))),Z,?_⟩;have nko:kt≠od:=λ z=>by rw [z,k2] at hkt; cases hkt
  obtain ⟨H4,e4,k4,c4⟩:∃H',upd H3 od (.ext (OddD od kt 0))=H'/\H' od=some (.ext (OddD od kt 0))/\But od H3 H':=⟨_,Z,ag,But.upd⟩
  rw [show upd H3 od _=H4 from e4];have s14:Same H1 H4:=λ c o e=>c4 _ _ (ah e hod) ((s2.trans s3) _ _ e);have pt4:=pt1.same s14;have b4:But p H H4:=λ c o n e=>s14 _ _ (b1 _ _ n e);refine ⟨zS2,λ l2 hl2=>?_⟩;obtain ⟨H5,e5,k5,n5,s5,b5,pt5⟩:=aS (o:=.lst [.str "0000",.ref od]) b4 pt4 hl2;rw [show upd H4 l2 _=H5 from e5];refine ⟨l0,l2,_,_,Z,Z,s5 _ _ (s14 _ _ hl),k5,zS15,λ l3 hl3=>?_⟩;obtain ⟨H6,e6,k6,n6,s6,b6,pt6⟩:=aS (o:=.lst ([.non,.bl true,.bl false,.int 0,.int 1,.str "0",.str "",.ref l4,.ref t4,.ref em,.int (-1),.int (10 ^ 60 - 1),.int (1 - 10 ^ 60)] ++ [.str "0000",.ref od])) b5 pt5 hl3;rw [show upd H5 l3 _=H6 from e6];have s16:=s14.trans (s5.trans s6);have s46:=s5.trans s6;exact hR _ _ ⟨l3,l4,t4,em,od,kt,rfl,n6,nl4,k6,s16 _ _ hl4,s16 _ _ ht4,s16 _ _ hem,s46 _ _ k4,s46 _ _ (c4 _ _ nko k3),pt6,b6⟩
 rintro _ H2 ⟨l,l4,t4,em,od,kt,rfl,nl,nl4,hl,hl4,ht4,hem,hod,hkt,pt2,b2⟩;refine ⟨_,Z,_,Z,p,15,Z,pt2,by decide,by decide,λ r H3 r0 r1 pt3 b3=>?_⟩;have hl3:=b3 _ _ nl hl;have hl43:=b3 _ _ nl4 hl4;have ht43:=cG b3 pt2 ht4;have hkt3:=cG b3 pt2 hkt;have hem3:=b3 _ _ (λ z=>by obtain ⟨_,e⟩:=gq pt2; rw [z,e] at hem; cases hem) hem;have hod3:=b3 _ _ (λ z=>by obtain ⟨_,e⟩:=gq pt2; rw [z,e] at hod; cases hod) hod;obtain ⟨x,d,hx,hd,hm⟩:∃x d,atI ([V.non,.bl true,.bl false,.int 0,.int 1,.str "0",.str "",.ref l4,.ref t4,.ref em,.int (-1),.int (10 ^ 60 - 1),.int (1 - 10 ^ 60)] ++ [.str "0000",.ref od]) r=some x/\Dt p H3 x d/\d∈bE:=by
  have:r=0\/r=1\/r=2\/r=3\/r=4\/r=5\/r=6\/r=7\/r=8\/r=9\/r=10\/r=11\/r=12\/r=13\/r=14:=by omega
  rcases this with rfl | rfl | rfl | rfl | rfl | rfl | rfl | rfl | rfl | rfl | rfl | rfl | rfl | rfl | rfl
  ·exact ⟨_,_,Z,.non,by simp [bE]⟩
  ·exact ⟨_,_,Z,.bl true,by simp [bE]⟩
  ·exact ⟨_,_,Z,.bl false,by simp [bE]⟩
  ·exact ⟨_,_,Z,.int 0,by simp [bE]⟩
  ·exact ⟨_,_,Z,.int 1,by simp [bE]⟩
  ·exact ⟨_,_,Z,.str "0",by simp [bE]⟩
  ·exact ⟨_,_,Z,.str "",by simp [bE]⟩
  ·exact ⟨_,_,Z,.lst nl4 hl43 (.cons (.int 0) .nil),by simp [bE]⟩
  ·exact ⟨_,_,Z,.tup ht43 (.cons (.int 0) .nil),by simp [bE]⟩
  ·exact ⟨_,_,Z,.emp hem3,by simp [bE]⟩
  ·exact ⟨_,_,Z,.int (-1),by simp [bE]⟩
  ·exact ⟨_,_,Z,.int (10 ^ 60 - 1),by simp [bE]⟩
  ·exact ⟨_,_,Z,.int (1 - 10 ^ 60),by simp [bE]⟩
  ·exact ⟨_,_,Z,.str "0000",by simp [bE]⟩
  ·exact ⟨_,_,Z,.odd hod3 hkt3,by simp [bE]⟩
 exact ⟨l,_,_,_,Z,Z,As hl3,hx,q x d H3 hd hm pt3 (b2.trans b3)⟩
end
section
variable {P:Am} {w:Ao} {K:AV} {mg:Str->Option Ap} {base:Heap}
theorem scspc:FnScope ["_law_pot_here","_law_piece","_law_way","_law_at","_law_moved"] ["_law_pot_here","_law_piece"] (defScope bD):=⟨Z,Z,Z,by decide +kernel,Z,by decide +kernel,by decide +kernel⟩
theorem ow {f:Addr} {fd:An} (F:Fun K "_law_spoilt_piece" "_law_spoilt_piece" bD f fd) (B:Blt mg) (DD:Dn P w K mg base "_law_take" ["_law_pot_here","_law_many"] 1 (spTake)) (DO:Dn P w K mg base "_law_odd" ["_law_pot_here"] 2 (ff)):FnOk P w K mg base CX0 3 f fd ["_law_pot_here","_law_piece"] (spSpc):=by
 refine F.ok scspc (λ vs H Q E h=>?_) (λ cdv A outer s H vs Q E hr h=>?_)
 ·obtain ⟨p,aq,q0,rfl,_⟩:=h
  rfl
 obtain ⟨p,aq,q0,rfl,pt,haq,pin,x60,y60,q⟩:=h;have nd:=scspc.nd;refine ⟨_,(@ae _ _ _ _ _ (@aD _ _ 2 _ _ _ _ nd Z (Or.inl Z) (@ai _ _ _ _ _ _ _ _ _ _ DD (hr.mono (by decide)) Z ((pv 0)^^^(ad^^^ab)) (by decide) Z Z) Z (Or.inl Z)) (@ae _ _ _ _ _ (@aD _ _ 3 _ _ _ _ nd Z (Or.inl Z) (@ai _ _ _ _ _ _ _ _ _ _ DD (hr.mono (by decide)) Z ((pv 0)^^^(ad^^^ab)) (by decide) Z Z) Z (Or.inl Z)) (@ae _ _ _ _ _ (@aK _ _ _ _ _ _ _ _ (@aH _ _ _ _ _ _ _ _ cH (pv 2) ad (aA _)) (@af _ _ _ (@au _ _ _ _ (@av _ _ _ _ _ _ _ _ dL (@bj _ _ _ _ _ _ _ _ _ _ di (pv 1) bz (bA (pv 3))) (@bj _ _ _ _ _ _ _ _ _ _ di (pv 1) (bA (@av _ _ _ _ _ _ _ _ aM (pv 3) ad)) bz)))) ax) (@ae _ _ _ _ _ (@aK _ _ _ _ _ _ _ _ (@aH _ _ _ _ _ _ _ _ cH (pv 2) ad (aA _)) (@af _ _ _ (@au _ _ _ _ (@av _ _ _ _ _ _ _ _ dL (pv 1) (@aR _ _ _ _ _ (ad^^^ab))))) ax) (@ae _ _ _ _ _ (@aK _ _ _ _ _ _ _ _ (@aH _ _ _ _ _ _ _ _ cH (pv 2) ad (aA _)) (@af _ _ _ (@au _ _ _ _ (@ai _ _ _ _ _ _ _ _ _ _ DO hr Z ((pv 0)^^^ab) (by decide) Z Z))) ax) (@ae _ _ _ _ _ (@aK _ _ _ _ _ _ _ _ (@aH _ _ _ _ _ _ _ _ cH (pv 2) ad (aA _)) (@af _ _ _ (@au _ _ _ _ (@aR _ _ _ _ _ ((@am _ _ _ _ _ _ _ ix_tup (pv 1) ad (λ _ _=>Z))^^^((fm (@am _ _ _ _ _ _ _ ix_tup (pv 1) ad (λ _ _=>Z)))^^^((@am _ _ _ _ _ _ _ ix_tup (pv 1) ad (λ _ _=>Z))^^^((@am _ _ _ _ _ _ _ ix_tup (pv 1) ad (λ _ _=>Z))^^^ab))))))) ax) (@ae _ _ _ _ _ (@aK _ _ _ _ _ _ _ _ (@aH _ _ _ _ _ _ _ _ iA (pv 2) ad (aA _)) (@ae _ _ _ _ _ (@aD _ _ 4 _ _ _ _ nd Z (Or.inl Z) (@aW _ _ _ _ _ _ _ _ _ bY Z B.list PyProof.Rows.boot_list ((pv 1)^^^ab) (by decide) (by decide) Z Z) Z (Or.inl Z)) (@ae _ _ _ _ _ (@bX _ _ _ _ _ _ (@av _ _ _ _ _ _ _ _ aM (@am _ _ _ _ _ _ _ ix_list (pv 4) (@av _ _ _ _ _ _ _ _ aM ad (@av _ _ _ _ _ _ _ _ cJ (pv 3) ad)) (λ _ _=>Z)) (@av _ _ _ _ _ _ _ _ cI (@am _ _ _ _ _ _ _ ix_list (@aN _ _ _ _ (ad^^^((@nq _ _ _ _ _ _ km ad)^^^ab))) (@av _ _ _ _ _ _ _ _ de (pv 2) ad) (λ _ _=>Z)) (@av _ _ _ _ _ _ _ _ aM ad (@ai _ _ _ _ _ _ _ _ _ _ DD (hr.mono (by decide)) Z ((pv 0)^^^(ad^^^ab)) (by decide) Z Z)))) (gA (pv 4) (@av _ _ _ _ _ _ _ _ aM ad (@av _ _ _ _ _ _ _ _ cJ (pv 3) ad)) eg) Z Z Z) (@af _ _ _ (@au _ _ _ _ (@aW _ _ _ _ _ _ _ _ _ be Z B.tuple PyProof.Rows.boot_tuple ((pv 4)^^^ab) (by decide) (by decide) Z Z))))) ax) (@af _ _ _ (@au _ _ _ _ (@av _ _ _ _ _ _ _ _ dL (@av _ _ _ _ _ _ _ _ dL (@bj _ _ _ _ _ _ _ _ _ _ di (pv 1) bz (bA (pv 3))) (@aR _ _ _ _ _ ((@ai _ _ _ _ _ _ _ _ _ _ DO hr Z ((pv 0)^^^ab) (by decide) Z Z)^^^ab))) (@bj _ _ _ _ _ _ _ _ _ _ di (pv 1) (bA (@av _ _ _ _ _ _ _ _ aM (pv 3) ad)) bz))))))))))),?_⟩;have sz:(1000:Nat) < sizeLine:=by decide
 have lq:(pqV q0).length=4:=rfl;have qb:∀ {H':Hp},But p H H'->H' aq=some (.tup (pqV q0)):=λ b=>cG b pt haq;have sm:=lC pin;refine aj (λ σ' H'=>∃k:Nat,σ'=[some (.ref p),some (.ref aq),some (.int (k:Int)),none,none]/\k < 8/\PotC H' p/\But p H H') (λ R hR=>?_) ?_
 ·refine ⟨_,Z,p,8,Z,pt,by decide,by decide,λ r H1 r0 r1 pt1 b1=>?_⟩;obtain ⟨k,rfl⟩:=Int.eq_ofNat_of_zero_le r0;exact hR _ _ ⟨k,rfl,by omega,pt1,b1⟩
 rintro _ H1 ⟨k,rfl,k8,pt1,b1⟩;refine aj (λ σ' H'=>∃i:Nat,σ'=[some (.ref p),some (.ref aq),some (.int (k:Int)),some (.int (i:Int)),none]/\i < 4/\PotC H' p/\But p H H') (λ R hR=>?_) ?_
 ·refine ⟨_,Z,p,4,Z,pt1,by decide,by decide,λ r H2 r0 r1 pt2 b2=>?_⟩;obtain ⟨i,rfl⟩:=Int.eq_ofNat_of_zero_le r0;exact hR _ _ ⟨i,rfl,by omega,pt2,b1.trans b2⟩
 rintro _ H2 ⟨i,rfl,i4,pt2,b2⟩;have ct:bR (pqV q0) none (some (i:Int))=(pqV q0).take i:=dq _ i;have cd:bR (pqV q0) (some ((i:Int) + 1)) none=(pqV q0).drop (i + 1):=eZ _ (i + 1);have l4:(fN q0).length=4:=rfl;have smT:∀e∈(fN q0).take i,SmD e:=λ e he=>sm e (List.mem_of_mem_take he);have smD:∀e∈(fN q0).drop (i + 1),SmD e:=λ e he=>sm e (List.mem_of_mem_drop he);have kk:∀j:Int,(k:Int)≠j->decide (V.int (k:Int)=V.int j)=false:=λ j z=>AH (λ e=>z (V.int.inj e));refine aj (λ σ' H'=>σ'=[some (.ref p),some (.ref aq),some (.int (k:Int)),some (.int (i:Int)),none]/\H2=H'/\k≠0) (λ R hR=>?_) ?_
 ·refine ⟨_,Z,Z,_,Z,?_⟩
  by_cases c:k=0
  ·subst c;refine aO ⟨_,rfl,_,rfl,_,rfl,aq,_,rfl,Ar (qb b2),(λ z=>?_),λ t1 ht1=>?_⟩
   ·have:=z.2;rw [HT.sIx_nat,lq] at this;omega
   rw [ct];obtain ⟨H3,e3,k3,n3,s3,b3,pt3⟩:=aS (o:=.tup ((pqV q0).take i)) b2 pt2 ht1;rw [show upd H2 t1 _=H3 from e3];refine ⟨_,Z,_,Z,_,_,Z,Z,_,Z,aq,_,Z,Ar (qb b3),(λ z=>?_),λ t2 ht2=>?_⟩
   ·have:=z.1;rw [show ((i:Int) + 1)=((i + 1:Nat):Int) from rfl,HT.sIx_nat,lq] at this;omega
   rw [cd];obtain ⟨H4,e4,k4,n4,s4,b4,pt4⟩:=aS (o:=.tup ((pqV q0).drop (i + 1))) b3 pt3 ht2;rw [show upd H3 t2 _=H4 from e4];refine ⟨t1,t2,_,_,Z,Z,s4 _ _ k3,k4,by rw [List.length_take,List.length_drop,lq]; omega,λ t5 H5 c5 k5=>?_⟩;have s5:=cD c5;exact q _ (.tuple ((fN q0).take i ++ (fN q0).drop (i + 1))) H5 (.tup k5 (((dw q0).take i).app ((dw q0).drop (i + 1)))) (.inr ⟨_,Z,by rw [List.length_append,List.length_take,List.length_drop,l4]; omega,fO smT smD⟩) (pt4.same s5) (λ a o n e=>s5 _ _ (b4 _ _ n e))
  ·rw [kk 0 (by omega)];exact aJ (hR _ _ ⟨rfl,rfl,c⟩)
 rintro _ _ ⟨rfl,rfl,c0⟩;refine aj (λ σ' H'=>σ'=[some (.ref p),some (.ref aq),some (.int (k:Int)),some (.int (i:Int)),none]/\H2=H'/\k≠1) (λ R hR=>?_) ?_
 ·refine ⟨_,Z,Z,_,Z,?_⟩
  by_cases c:k=1
  ·subst c;refine aO ⟨_,rfl,zS1,λ t1 ht1=>?_⟩;obtain ⟨H3,e3,k3,n3,s3,b3,pt3⟩:=aS (o:=.tup [.int 0]) b2 pt2 ht1;rw [show upd H2 t1 _=H3 from e3];refine ⟨aq,t1,_,_,Z,Z,qb b3,k3,by rw [lq]; show 4 + 1<=sizeLine; omega,λ t5 H5 c5 k5=>?_⟩;have s5:=cD c5;exact q _ (.tuple (fN q0 ++ [.int 0])) H5 (.tup k5 ((dw q0).app (.cons (.int 0) .nil))) (.inr ⟨_,Z,AJ _,fO sm λ e he=>by rw [List.mem_singleton.mp he]; exact gt (by decide) (by decide)⟩) (pt3.same s5) (λ a o n e=>s5 _ _ (b3 _ _ n e))
  ·rw [kk 1 (by omega)];exact aJ (hR _ _ ⟨rfl,rfl,c⟩)
 rintro _ _ ⟨rfl,rfl,c1⟩;refine aj (λ σ' H'=>σ'=[some (.ref p),some (.ref aq),some (.int (k:Int)),some (.int (i:Int)),none]/\H2=H'/\k≠2) (λ R hR=>?_) ?_
 ·refine ⟨_,Z,Z,_,Z,?_⟩
  by_cases c:k=2
  ·subst c;exact aO ⟨_,rfl,p,rfl,pt2,λ v d H3 hd hm pt3 b3=>q v d H3 hd (.inl hm) pt3 (b2.trans b3)⟩
  ·rw [kk 2 (by omega)];exact aJ (hR _ _ ⟨rfl,rfl,c⟩)
 rintro _ _ ⟨rfl,rfl,c2⟩;refine aj (λ σ' H'=>σ'=[some (.ref p),some (.ref aq),some (.int (k:Int)),some (.int (i:Int)),none]/\H2=H'/\k≠3) (λ R hR=>?_) ?_
 ·refine ⟨_,Z,Z,_,Z,?_⟩
  by_cases c:k=3
  ·subst c;have hq:=Ar (K:=K) (qb b2);refine aO ⟨_,rfl,aq,_,0,_,rfl,rfl,hq,rfl,_,rfl,aq,_,1,_,rfl,rfl,hq,rfl,_,rfl,_,rfl,aq,_,2,_,rfl,rfl,hq,rfl,_,rfl,aq,_,3,_,rfl,rfl,hq,rfl,zS4,λ t1 ht1=>?_⟩;obtain ⟨H3,e3,k3,n3,s3,b3,pt3⟩:=aS (o:=.tup [.int q0.k,.bl (!q0.c),.int q0.x,.int q0.y]) b2 pt2 ht1;rw [show upd H2 t1 _=H3 from e3];exact q _ (.tuple (fN ⟨q0.k,!q0.c,q0.x,q0.y⟩)) H3 (.tup k3 (dw ⟨q0.k,!q0.c,q0.x,q0.y⟩)) (lD (q:=⟨q0.k,!q0.c,q0.x,q0.y⟩) pin) pt3 b3
  ·rw [kk 3 (by omega)];exact aJ (hR _ _ ⟨rfl,rfl,c⟩)
 rintro _ _ ⟨rfl,rfl,c3⟩;refine aj (λ σ' H'=>σ'=[some (.ref p),some (.ref aq),some (.int (k:Int)),some (.int (i:Int)),none]/\H2=H') (λ R hR=>?_) ?_
 ·refine ⟨_,Z,_,_,Z,Z,_,Z,?_⟩
  by_cases c:(k:Int) < 6
  ·rw [decide_eq_true c];refine aO ?_;refine aj (λ σ' H'=>∃mo:Addr,σ'=[some (.ref p),some (.ref aq),some (.int (k:Int)),some (.int (i:Int)),some (.ref mo)]/\mo≠p/\H mo=none/\H' mo=some (.lst (pqV q0))/\PotC H' p/\But p H H') (λ R hR=>?_) ?_
   ·refine ⟨_,Z,aq,_,Z,.inr (Ar (qb b2)),λ mo hmo=>?_⟩;have f:=b2.freeC pt2 hmo;obtain ⟨H4,e4,k4,n4,s4,b4,pt4⟩:=aS (o:=.lst (pqV q0)) b2 pt2 hmo;rw [show upd H2 mo _=H4 from e4];exact hR _ _ ⟨mo,rfl,n4,f.2,k4,pt4,b4⟩
   rintro _ H4 ⟨mo,rfl,nmo,mo0,hmo4,pt4,b4⟩;obtain ⟨z,j,hz,z0,z1,hj,hset⟩:=ou q0 pin (Int.natCast_nonneg i);have z60:z < 10 ^ 60:=by
    have:((i:Int)) % 2=0\/((i:Int)) % 2=1:=by omega
    rcases this with e | e <;> rw [e] at hz <;> cases hz <;> assumption
   refine aj (λ σ' H'=>∃xs ds,σ'=[some (.ref p),some (.ref aq),some (.int (k:Int)),some (.int (i:Int)),some (.ref mo)]/\H' mo=some (.lst xs)/\(∀p H,Dts p H xs ds)/\ds.length=4/\(∀e∈ds,SmD e)/\PotC H' p/\But p H H') (λ R hR=>?_) ?_
   ·refine ⟨_,Z,_,Z,_,_,Z,Z,(by show (0:Int) < 2; decide),_,_,Z,Z,mo,_,_,_,Z,Z,As hmo4,hz,?_⟩;refine ⟨_,Z,zS2,λ l1 hl1=>?_⟩;obtain ⟨H5,e5,k5,n5,s5,b5,pt5⟩:=aS (o:=.lst [.int 1,.int (-1)]) b4 pt4 hl1;rw [show upd H4 l1 _=H5 from e5];obtain ⟨g,hg,gs⟩:∃g:Int,atI [V.int 1,.int (-1)] ((k:Int) - 4)=some (.int g)/\(g=1\/g=-1):=by
     have:k=4\/k=5:=by omega
     rcases this with rfl | rfl
     ·exact ⟨1,Z,.inl rfl⟩
     ·exact ⟨-1,Z,.inr rfl⟩
    refine ⟨_,Z,_,_,Z,Z,l1,_,_,_,Z,Z,As k5,hg,_,Z,p,6,Z,pt5,by decide,by decide,λ r H6 r0 r1 pt6 b6=>?_⟩;have hmo6:=b6 _ _ nmo (s5 _ _ hmo4);refine ⟨_,_,Z,Z,_,_,Z,Z,.inl ⟨by omega,by omega⟩,_,_,Z,Z,_,Z,_,Z,_,_,Z,Z,(by show (0:Int) < 2; decide),_,_,Z,Z,mo,_,_,j,Z,Z,hmo6,hj,?_⟩;obtain ⟨xs,ds,e1,e2,e3,e4⟩:=hset (z + g * (1 + r));rw [e1];have e61:(10:Int) ^ 60 + 100 < 10 ^ 61:=by decide
    have gb:-6<=g * (1 + r)/\g * (1 + r)<=6:=by rcases gs with rfl | rfl <;> omega
    exact hR _ _ ⟨xs,ds,rfl,ag,e2,e3,e4 (gt (by omega) (by omega)),pt6.put (Ne.symm nmo),λ a o n e=>by rw [ar (ah e mo0)]; exact b6 _ _ n (s5 _ _ (b4 _ _ n e))⟩
   rintro _ H5 ⟨xs,ds,rfl,hmo5,dd,dl,sd,pt5,b5⟩;refine ⟨_,Z,mo,_,Z,.inl ⟨As hmo5,λ t ht=>?_⟩⟩;obtain ⟨H6,e6,k6,n6,s6,b6,pt6⟩:=aS (o:=.tup xs) b5 pt5 ht;rw [show upd H5 t _=H6 from e6];exact q _ (.tuple ds) H6 (.tup k6 (dd _ _)) (.inr ⟨_,Z,by omega,sd⟩) pt6 b6
  ·rw [decide_eq_false c];exact aJ (hR _ _ ⟨rfl,rfl⟩)
 rintro _ _ ⟨rfl,rfl⟩;refine ⟨_,Z,_,Z,_,Z,aq,_,Z,Ar (qb b2),(λ z=>?_),λ t1 ht1=>?_⟩
 ·have:=z.2;rw [HT.sIx_nat,lq] at this;omega
 rw [ct];obtain ⟨H3,e3,k3,n3,s3,b3,pt3⟩:=aS (o:=.tup ((pqV q0).take i)) b2 pt2 ht1;rw [show upd H2 t1 _=H3 from e3];refine ⟨_,Z,p,Z,pt3,λ v d H4 hd hm pt4 b4=>⟨zS1,λ t2 ht2=>?_⟩⟩;obtain ⟨H5,e5,k5,n5,s5,b5,pt5⟩:=aS (o:=.tup [v]) (b3.trans b4) pt4 ht2;rw [show upd H4 t2 _=H5 from e5];refine ⟨t1,t2,_,_,Z,Z,s5 _ _ (cG b4 pt3 k3),k5,by rw [List.length_take,lq]; show _ + 1<=sizeLine; omega,λ t3 H6 c6 k6=>?_⟩;have s6:=cD c6;have b6:But p H H6:=λ a o n e=>s6 _ _ (b5 _ _ n e);have pt6:=pt5.same s6;refine ⟨_,Z,_,Z,_,_,Z,Z,_,Z,aq,_,Z,Ar (qb b6),(λ z=>?_),λ t4 ht4=>?_⟩
 ·have:=z.1;rw [show ((i:Int) + 1)=((i + 1:Nat):Int) from rfl,HT.sIx_nat,lq] at this;omega
 rw [cd];obtain ⟨H7,e7,k7,n7,s7,b7,pt7⟩:=aS (o:=.tup ((pqV q0).drop (i + 1))) b6 pt6 ht4;rw [show upd H6 t4 _=H7 from e7];refine ⟨t3,t4,_,_,Z,Z,s7 _ _ k6,k7,by rw [List.length_append,List.length_take,List.length_drop,lq]; show _ + 1 + _<=sizeLine; omega,λ t5 H8 c8 k8'=>?_⟩;have s8:=cD c8;refine q _ (.tuple ((fN q0).take i ++ [d] ++ (fN q0).drop (i + 1))) H8 (.tup k8' ((((dw q0).take i).app (.cons (hd.same (s5.trans (s6.trans (s7.trans s8)))) .nil)).app ((dw q0).drop (i + 1)))) (.inr ⟨_,Z,?_,fO (fO smT λ e he=>by rw [List.mem_singleton.mp he]; exact .inl hm) smD⟩) (pt7.same s8) (λ a o n e=>s8 _ _ (b7 _ _ n e));rw [List.length_append,List.length_append,List.length_take,List.length_drop,l4,List.length_singleton]; omega
theorem scspoiltc:FnScope ["_law_pot_here","_law_pieces","_law_at","_law_way"] ["_law_pot_here","_law_pieces"] (defScope dU):=⟨Z,Z,Z,by decide +kernel,Z,by decide +kernel,by decide +kernel⟩
theorem hX {f:Addr} {fd:An} (F:Fun K "_law_spoilt" "_law_spoilt" dU f fd) (B:Blt mg) (DD:Dn P w K mg base "_law_take" ["_law_pot_here","_law_many"] 1 (spTake)) (DO:Dn P w K mg base "_law_odd" ["_law_pot_here"] 2 (ff)) (DSpc:Dn P w K mg base "_law_spoilt_piece" ["_law_pot_here","_law_piece"] 3 (spSpc)):FnOk P w K mg base CX0 4 f fd ["_law_pot_here","_law_pieces"] (spSpoilt):=by
 refine F.ok scspoiltc (λ vs H Q E h=>?_) (λ cdv A outer s H vs Q E hr h=>?_)
 ·obtain ⟨p,l,ks,ys,ps,rfl,_⟩:=h
  rfl
 obtain ⟨p,l,ks,ys,ps,rfl,pt,nl,hl,pz,y9,pin0,q⟩:=h;have nd:=scspoiltc.nd;have hu:=hr.units;refine ⟨_,(@ae _ _ _ _ _ (@aK _ _ _ _ _ _ _ _ (PW.pt (bg (@aH _ _ _ _ _ _ _ _ (nZ hu) (pv 1) (@aN _ _ _ _ ab) (aA _)) (bd (@aH _ _ _ _ _ _ _ _ cH (@ai _ _ _ _ _ _ _ _ _ _ DD (hr.mono (by decide)) Z ((pv 0)^^^(ad^^^ab)) (by decide) Z Z) ad (aA _))))) (@af _ _ _ (@au _ _ _ _ (@ai _ _ _ _ _ _ _ _ _ _ DO (hr.mono (by decide)) Z ((pv 0)^^^ab) (by decide) Z Z))) ax) (@ae _ _ _ _ _ (@aD _ _ 2 _ _ _ _ nd Z (Or.inl Z) (@ai _ _ _ _ _ _ _ _ _ _ DD (hr.mono (by decide)) Z ((pv 0)^^^((@aw _ _ _ _ _ _ _ _ _ aI Z B.len PySem.boot_len ((pv 1)^^^ab) (by decide) (by decide) Z Z)^^^ab)) (by decide) Z Z) Z (Or.inl Z)) (@ae _ _ _ _ _ (@aD _ _ 3 _ _ _ _ nd Z (Or.inl Z) (@ai _ _ _ _ _ _ _ _ _ _ DD (hr.mono (by decide)) Z ((pv 0)^^^(ad^^^ab)) (by decide) Z Z) Z (Or.inl Z)) (@ae _ _ _ _ _ (@aK _ _ _ _ _ _ _ _ (@aH _ _ _ _ _ _ _ _ cH (pv 3) ad (aA _)) (@af _ _ _ (@au _ _ _ _ (@av _ _ _ _ _ _ _ _ fw (pv 1) (@aN _ _ _ _ ((@am _ _ _ _ _ _ _ ix_list (pv 1) (pv 2) (λ _ _=>Z))^^^ab))))) ax) (@af _ _ _ (@au _ _ _ _ (@av _ _ _ _ _ _ _ _ fw (@av _ _ _ _ _ _ _ _ fw (@bj _ _ _ _ _ _ _ _ _ _ dG (pv 1) bz (bA (pv 2))) (@aN _ _ _ _ ((@ai _ _ _ _ _ _ _ _ _ _ DSpc hr Z ((pv 0)^^^((@am _ _ _ _ _ _ _ ix_list (pv 1) (pv 2) (λ _ _=>Z))^^^ab)) (by decide) Z Z)^^^ab))) (@bj _ _ _ _ _ _ _ _ _ _ dG (pv 1) (bA (@av _ _ _ _ _ _ _ _ aM (pv 2) ad)) bz)))))))),?_⟩;have sz:(1000:Nat) < sizeLine:=by decide
 have yl:=Aa pz;have pin:∀q∈ps,Pin q:=λ q hq=>by
  obtain ⟨h1,h2,h3⟩:=pin0 q hq;obtain ⟨j,hj⟩:=List.mem_iff_getElem?.mp hq;have hjl:=(AD.mp hj).1;obtain ⟨q',hq',a,_,_,_,x0,y0⟩:=Au pz (Ag (show j < ys.length by omega));rw [hj] at hq';cases hq';have e:(10:Int) ^ 60 < 10 ^ 61:=by decide
  exact ⟨h1,x0,y0,by omega,by omega⟩
 have D0:Dts p H ys (ps.map pqd):=hV pz;have al:∀d∈ps.map pqd,ItD d:=λ d hd=>by obtain ⟨q,hq,rfl⟩:=List.mem_map.mp hd;exact lD (pin q hq)
 have pl:(ps.map pqd).length=ys.length:=by rw [List.length_map,yl]
 have Db:∀ {H':Hp},But p H H'->Dts p H' ys (ps.map pqd):=λ b=>D0.but (gq pt) b;have odd:∀ {Hx:Hp},PotC Hx p->But p H Hx->qk (kC ff [] E0 (iC (tVar 0) mf)) { nx:=λ x H'=>Q V.non H',rt:=Q } [some (.ref p),some (.ref l),none,none] Hx:=λ ptx bx=>⟨_,Z,p,Z,ptx,λ v d H3 hd hm pt3 b3=>q v d H3 hd (.inl hm) pt3 (bx.trans b3)⟩
 refine aj (λ σ' H'=>σ'=[some (.ref p),some (.ref l),none,none]/\ys≠[]/\PotC H' p/\But p H H') (λ R hR=>?_) ?_
 ·refine ⟨_,Z,by decide,λ e he=>?_⟩;obtain ⟨H1,e1,k1,n1,s1,b1,pt1⟩:=aS (o:=.lst []) But.refl' pt he;rw [show upd H e _=H1 from e1];obtain ⟨ds,d1,d2,d3,d4⟩:=oo (K:=K) (At pz λ v q h=>h.keep λ a xs e=>s1 _ _ e);obtain ⟨sh1,sh2,sh3⟩:=li d3 d4;refine ⟨.list ds,.list [],.lst (As (s1 _ _ hl)) d1,.lst (As k1) .nil,sh1,by decide +kernel,_,Z,?_⟩
  by_cases hz0:ys=[]
  ·rw [sh2 (by rw [hz0] at d2; exact List.eq_nil_of_length_eq_zero d2)];exact aO (aO (odd pt1 b1))
  rw [sh3 (λ z=>hz0 (by rw [z] at d2; exact List.eq_nil_of_length_eq_zero d2.symm))];refine aJ ⟨_,rfl,p,9,rfl,pt1,by decide,by decide,λ r H2 r0 r1 pt2 b2=>⟨rfl,_,rfl,?_⟩⟩;refine bO (λ cc=>?_) (λ cc=>?_)
  ·exact odd pt2 (b1.trans b2)
  ·exact hR _ _ ⟨rfl,hz0,pt2,b1.trans b2⟩
 rintro _ H1 ⟨rfl,ne,pt1,b1⟩;have ypos:1<=ys.length:=Nat.pos_of_ne_zero (λ z=>ne (List.eq_nil_of_length_eq_zero z));refine aj (λ σ' H'=>∃i:Nat,σ'=[some (.ref p),some (.ref l),some (.int (i:Int)),none]/\i < ys.length/\PotC H' p/\But p H H') (λ R hR=>?_) ?_
 ·refine ⟨_,Z,_,Z,l,_,Z,.inl (As (b1 _ _ nl hl)),p,_,Z,pt1,by omega,by omega,λ r H2 r0 r1 pt2 b2=>?_⟩;obtain ⟨i,rfl⟩:=Int.eq_ofNat_of_zero_le r0;exact hR _ _ ⟨i,rfl,by omega,pt2,b1.trans b2⟩
 rintro _ H2 ⟨i,rfl,hi,pt2,b2⟩;obtain ⟨v0,hv0⟩:∃v,ys[i]? = some v:=⟨_,Ag hi⟩
 obtain ⟨q0,hq0,aq,rfl,haq,hqly,q0x,q0y⟩:=Au pz hv0;have pq0:=pin q0 (AL hq0);obtain ⟨_,q0x1,q0y1⟩:=pin0 q0 (AL hq0);have qb:∀ {H':Hp},But p H H'->H' aq=some (.tup (pqV q0)):=λ b=>cG b pt haq;refine aj (λ σ' H'=>∃k:Nat,σ'=[some (.ref p),some (.ref l),some (.int (i:Int)),some (.int (k:Int))]/\PotC H' p/\But p H H') (λ R hR=>?_) ?_
 ·refine ⟨_,Z,p,8,Z,pt2,by decide,by decide,λ r H3 r0 r1 pt3 b3=>?_⟩;obtain ⟨k,rfl⟩:=Int.eq_ofNat_of_zero_le r0;exact hR _ _ ⟨k,rfl,pt3,b2.trans b3⟩
 rintro _ H3 ⟨k,rfl,pt3,b3⟩;have ix:atI ys (i:Int)=some (.ref aq):=bB (Int.natCast_nonneg i) (by rw [Int.toNat_natCast]; exact hv0);refine aj (λ σ' H'=>σ'=[some (.ref p),some (.ref l),some (.int (i:Int)),some (.int (k:Int))]/\H3=H') (λ R hR=>?_) ?_
 ·refine ⟨_,Z,Z,_,Z,?_⟩;refine bO (λ cc=>?_) (λ cc=>?_)
  ·refine ⟨_,Z,_,Z,_,Z,l,_,_,_,Z,Z,As (b3 _ _ nl hl),ix,zS1,λ a1 h1=>?_⟩;obtain ⟨H4,e4,k4,n4,s4,b4,pt4⟩:=aS (o:=.lst [.ref aq]) b3 pt3 h1;rw [show upd H3 a1 _=H4 from e4];refine ⟨l,a1,ys,_,Z,Z,b4 _ _ nl hl,k4,by show ys.length + 1<=sizeLine; omega,λ a2 h2=>?_⟩;obtain ⟨H5,e5,k5,n5,s5,b5,pt5⟩:=aS (o:=.lst (ys ++ [.ref aq])) b4 pt4 h2;rw [show upd H4 a2 _=H5 from e5];refine q _ (.list (ps.map pqd ++ [pqd q0])) H5 (.lst n5 k5 ((Db b5).app (.cons (nE (qb b5)) .nil))) (.inr ⟨_,Z,?_,λ e he=>?_⟩) pt5 b5
   ·rw [List.length_append,pl,List.length_singleton]; omega
   ·rcases AT.mp he with he | he
    ·exact al e he
    ·rw [List.mem_singleton.mp he]; exact lD pq0
  ·exact hR _ _ ⟨rfl,rfl⟩
 rintro _ _ ⟨rfl,rfl⟩;have ct:bR ys none (some (i:Int))=ys.take i:=dq ys i;have cd:bR ys (some ((i:Int) + 1)) none=ys.drop (i + 1):=eZ ys (i + 1);have lt:(ys.take i).length<=13:=by rw [List.length_take]; omega
 have ld:(ys.drop (i + 1)).length<=13:=by rw [List.length_drop]; omega
 refine ⟨_,Z,_,Z,_,Z,l,_,Z,As (b3 _ _ nl hl),λ a3 h3=>?_⟩;rw [ct];obtain ⟨H4,e4,k4,n4,s4,b4,pt4⟩:=aS (o:=.lst (ys.take i)) b3 pt3 h3;rw [show upd H3 a3 _=H4 from e4];refine ⟨_,Z,_,Z,_,Z,l,_,_,_,Z,Z,As (b4 _ _ nl hl),ix,p,aq,q0,Z,pt4,qb b4,pq0,q0x1,q0y1,λ v d H5 hd hm pt5 b5=>⟨zS1,λ a4 h4=>?_⟩⟩;obtain ⟨H6,e6,k6,n6,s6,b6,pt6⟩:=aS (o:=.lst [v]) (b4.trans b5) pt5 h4;rw [show upd H5 a4 _=H6 from e6];refine ⟨a3,a4,_,_,Z,Z,s6 _ _ (b5 _ _ n4 k4),k6,by show _ + 1<=sizeLine; omega,λ a5 h5=>?_⟩;obtain ⟨H7,e7,k7,n7,s7,b7,pt7⟩:=aS (o:=.lst (ys.take i ++ [v])) b6 pt6 h5;rw [show upd H6 a5 _=H7 from e7];refine ⟨_,Z,_,Z,_,_,Z,Z,_,Z,l,_,Z,As (b7 _ _ nl hl),λ a6 h6=>?_⟩;rw [cd];obtain ⟨H8,e8,k8,n8,s8,b8,pt8⟩:=aS (o:=.lst (ys.drop (i + 1))) b7 pt7 h6;rw [show upd H7 a6 _=H8 from e8];refine ⟨a5,a6,_,_,Z,Z,s8 _ _ k7,k8,by rw [List.length_append,List.length_singleton]; omega,λ a7 h7=>?_⟩;obtain ⟨H9,e9,k9,n9,s9,b9,pt9⟩:=aS (o:=.lst (ys.take i ++ [v] ++ ys.drop (i + 1))) b8 pt8 h7;rw [show upd H8 a7 _=H9 from e9];refine q _ (.list ((ps.map pqd).take i ++ [d] ++ (ps.map pqd).drop (i + 1))) H9 (.lst n9 k9 ((((Db b9).take i).app (.cons (hd.same (s6.trans (s7.trans (s8.trans s9)))) .nil)).app ((Db b9).drop (i + 1)))) (.inr ⟨_,Z,?_,λ e he=>?_⟩) pt9 b9
 ·rw [List.length_append,List.length_append,List.length_take,List.length_drop,pl,List.length_singleton]; omega
 ·rcases AT.mp he with he | he
  ·rcases AT.mp he with he | he
   ·exact al e (List.mem_of_mem_take he)
   ·rw [List.mem_singleton.mp he]; exact hm
  ·exact al e (List.mem_of_mem_drop he)
end
theorem jx {C x dx:Addr} {H:Hp} (hx:H x=none) (hd:H dx=none):Same H (upd (upd H dx (.own x)) x (.ins C dx [])):=λ c o e=>by rw [ar (ah e hx),ar (ah e hd)]; exact e
theorem dC {C p s:Addr} {H H':Hp} {b:Int} {ks:List Kd} (pt:PotC H p) (bt:But p H H') (S:ShopAt C H s b ks):ShopAt C H' s b ks:=by obtain ⟨_,hp⟩:=gq pt;exact S.keep (λ c xs e=>bt _ _ (λ z=>by rw [z,hp] at e; cases e) e) (λ c C' d fs e=>bt _ _ (λ z=>by rw [z,hp] at e; cases e) e)
theorem lE {ks:List Kd} {W h:Int} {H:Hp} {ys:List V} {ps:List Pq} (pz:Paired (PqT ks H) ys ps) (ld:Laid ks W h ps) (gk:∀k∈ks,Good k) (k8:ks.length<=8) (hW:W < 10 ^ 58) (hh:h < 10 ^ 58):∀q∈ps,q.k < 100/\q.x < 10 ^ 60/\q.y < 10 ^ 60:=λ q hq=>by
 obtain ⟨i,hi⟩:=List.mem_iff_getElem?.mp hq;obtain ⟨k,hin,hk,x0,y0,on,h1,h2,_⟩:=ld.at pz hi;have g:=gk k (AL hk);have g1:=g.w;have g2:=g.h;have e:(10:Int) ^ 58 < 10 ^ 60:=by decide
 have kl:=(AD.mp hk).1;have s1:1<=sd1 k q.c:=by unfold sd1; cases q.c <;> assumption
 have s2:1<=sd2 k q.c:=by unfold sd2; cases q.c <;> assumption
 exact ⟨by omega,by omega,by omega⟩
theorem gu:∀ps:List Pq,Paired PqD (ps.map pqd) ps
 | []=>.nil
 | _ :: r=>.cons rfl (gu r)
theorem lF {ks:List Kd} {W h:Int} {H:Hp} {ys:List V} {ps:List Pq} (pz:Paired (PqT ks H) ys ps) (ld:Laid ks W h ps):cV ks W h (.list (ps.map pqd)):=by
 refine ⟨_,ps,Z,gu ps,λ d hd=>?_,λ i p hp o ho=>?_⟩
 ·obtain ⟨q,hq,rfl⟩:=List.mem_map.mp hd;obtain ⟨i,hi⟩:=List.mem_iff_getElem?.mp hq;obtain ⟨k,hin,hk,x0,y0,on,_⟩:=ld.at pz hi;obtain ⟨_,_,ly⟩:=cX hin;exact iS rfl ly hk x0 y0 on
 ·obtain ⟨k,_,_,_,_,_,_,_,hv⟩:=ld.at pz hp;exact hv o ho
section
variable {P:Am} {w:Ao} {K:AV} {mg:Str->Option Ap} {base:Heap}
inductive spRight (C:Addr) (vs:List V) (H:Hp) (Q:VK) (E_:XK):Prop
 | mk (p t kl x:Addr) (b W h:Int) (ks:List Kd) (v:V) (d:PyData) (e_1:vs=[.ref t,.ref x,.int W,.int h,v]) (e_2:LS H t b ks kl) (e_3:ks.length<=8) (e_4:ShopAt C H x b ks) (e_5:1<=W) (e_6:1<=h) (e_7:Dt p H v d) (e_8:ThD d) (e_9:∀H',Same H H'->Q (.bl true) H'):spRight C vs H Q E_
inductive spLaw (K:AV) (vs:List V) (H:Hp) (Q:VK) (E_:XK):Prop
 | mk (a:Addr) (ns:List Int) (e_1:vs=[.ref a]) (e_2:SqL K H a (ns.map V.int)) (e_3:ns.length<=63) (e_4:∀H',Q (.bl true) H'):spLaw K vs H Q E_
theorem scrightc:FnScope ["_law_shop_here","_law_made","_law_wide","_law_high","_law_thing","_law_kept","_law_found"] ["_law_shop_here","_law_made","_law_wide","_law_high","_law_thing"] (defScope fH):=⟨Z,Z,Z,by decide +kernel,Z,by decide +kernel,by decide +kernel⟩
theorem jy {f C:Addr} {fd:An} (F:Fun K "_law_right" "_law_right" fH f fd) (B:Blt mg) (SM:SysIn K) (DIs:Dn P w K mg base "is_laying" ["shop","wide","high","thing"] 6 (spIsLay C)) (DJ:Dn P w K mg base "_law_judged" ["_law_shop_here","_law_wide","_law_high","_law_thing"] 5 (spJudC)):FnOk P w K mg base CX0 7 f fd ["_law_shop_here","_law_made","_law_wide","_law_high","_law_thing"] (spRight C):=by
 refine F.ok scrightc (λ vs H Q E h=>?_) (λ cdv A outer s H vs Q E hr h=>?_)
 ·obtain ⟨p,t,kl,x,b,W,h1,ks,v,d,rfl,_⟩:=h
  rfl
 obtain ⟨p,t,kl,x,b,W,h1,ks,v,d,rfl,sh,k8,S0,w0,h0,hd,th,q⟩:=h;have nd:=scrightc.nd;have hg:=hr.gd;have hu6:=hr.units66;refine ⟨_,(@ae _ _ _ _ _ (@aD _ _ 5 _ _ _ _ nd Z (Or.inl Z) (@aw _ _ _ _ _ _ _ _ _ (eE SM hg hu6) Z B.repr PyProof.Rows.boot_repr ((pv 4)^^^ab) (by decide) (by decide) Z Z) Z (Or.inl Z)) (@ae _ _ _ _ _ (@aD _ _ 6 _ _ _ _ nd Z (Or.inl Z) (@ai _ _ _ _ _ _ _ _ _ _ DIs hr Z ((pv 1)^^^((pv 2)^^^((pv 3)^^^((pv 4)^^^ab)))) (by decide) Z Z) Z (Or.inl Z)) (@ae _ _ _ _ _ (@aK _ _ _ _ _ _ _ _ (PW.pt (bg (@aF _ _ _ _ (@aB _ _ _ (@aw _ _ _ _ _ _ _ _ _ aZ Z B.isi PyProof.Rows.boot_isinstance ((pv 6)^^^((bc (v:=.ty "bool") Z B.bool PyProof.Rows.boot_bool Z)^^^ab)) (by decide) (by decide) Z Z) (by intro _; rfl))) (bg (@aH _ _ _ _ _ _ _ _ dZ (pv 6) (@ai _ _ _ _ _ _ _ _ _ _ DJ (hr.mono (by decide)) Z ((pv 0)^^^((pv 2)^^^((pv 3)^^^((pv 4)^^^ab)))) (by decide) Z Z) (aA _)) (bd (@aH _ _ _ _ _ _ _ _ dZ (@aw _ _ _ _ _ _ _ _ _ (eE SM hg hu6) Z B.repr PyProof.Rows.boot_repr ((pv 4)^^^ab) (by decide) (by decide) Z Z) (pv 5) (aA _)))))) (@af _ _ _ (@au _ _ _ _ aX)) ax) (@af _ _ _ (@au _ _ _ _ (@aY _ _ _ _ _ _ _ _ cH (@ai _ _ _ _ _ _ _ _ _ _ DIs hr Z ((pv 1)^^^((pv 2)^^^((pv 3)^^^((pv 4)^^^ab)))) (by decide) Z Z) (pv 6) (aA _))))))),?_⟩;obtain ⟨sh1,sh2,sh3⟩:=qO th;have wd:=qM th;refine aj (λ σ' H'=>σ'=[some (.ref t),some (.ref x),some (.int W),some (.int h1),some v,some (.str d.shown),none]/\H=H') (λ R hR=>?_) ?_
 ·exact ⟨_,Z,v,d,Z,hd.datO,sh1,sh2,sh3,hR _ _ ⟨Z,Z⟩⟩
 rintro _ _ ⟨rfl,rfl⟩;refine aj (λ σ' H'=>∃r:Bool,σ'=[some (.ref t),some (.ref x),some (.int W),some (.int h1),some v,some (.str d.shown),some (.bl r)]/\(r=true↔cV ks W h1 d)/\Same H H') (λ R hR=>?_) ?_
 ·exact ⟨_,Z,_,Z,_,Z,_,Z,p,x,b,W,h1,ks,v,d,Z,S0,w0,h0,hd,wd,λ r H1 hr1 s1=>hR _ _ ⟨r,Z,hr1,s1⟩⟩
 rintro _ H1 ⟨r,rfl,hr1,s1⟩;have same:∀r2:Bool,(r2=true↔cV ks W h1 d)->r2=r:=λ r2 h2=>by cases r <;> cases r2 <;> first | rfl | (exfalso; first | exact AI (hr1.mpr (h2.mp rfl)) | exact AI (h2.mpr (hr1.mp rfl)))
 refine aj (λ σ' H'=>σ'=[some (.ref t),some (.ref x),some (.int W),some (.int h1),some v,some (.str d.shown),some (.bl r)]/\Same H H') (λ R hR=>?_) ?_
 ·refine ⟨_,Z,_,_,_,_,_,Z,(Ty.bl (K:=K)).2,Z,cq "bool" (by simp [aL]),_,Z,aJ ?_⟩;refine ⟨_,Z,_,Z,_,Z,_,Z,_,Z,p,t,kl,b,W,h1,ks,v,d,Z,sh.same s1,k8,hd.same s1,oq th,λ r2 H2 hr2 s2=>⟨Z,_,Z,?_⟩⟩;rw [show (!decide (V.bl r=V.bl r2))=false by rw [same r2 hr2,decide_eq_true rfl]; rfl];refine aJ ⟨_,rfl,v,d,rfl,(hd.same (s1.trans s2)).datO,sh1,sh2,sh3,_,rfl,rfl,_,rfl,?_⟩;rw [show (!decide (V.str d.shown=V.str d.shown))=false by rw [decide_eq_true rfl]; rfl];exact aJ (hR _ _ ⟨rfl,s1.trans s2⟩)
 rintro _ H2 ⟨rfl,s2⟩;refine ⟨_,Z,_,Z,_,Z,_,Z,p,x,b,W,h1,ks,v,d,Z,cj s2 S0,w0,h0,hd.same s2,wd,λ r3 H3 hr3 s3=>⟨_,Z,Z,?_⟩⟩;rw [show decide (V.bl r3=V.bl r)=true by rw [same r3 hr3,decide_eq_true rfl]];exact q _ (s2.trans s3)
theorem sclaw:FnScope ["_law_script","_law_k","_law_pot_here","_law_unit_here","_law_shop_here","_law_made","_law_wide","_law_high","_law_pieces","_law_j"] ["_law_script"] (defScope gn):=⟨Z,Z,Z,by decide +kernel,Z,by decide +kernel,by decide +kernel⟩
theorem ox {f C:Addr} {fd:An} (F:Fun K "law" "law" gn f fd) (B:Blt mg) (DC:Dn P w K mg base "_law_cell" ["_law_script","_law_k"] 1 (gQ K)) (DP:Dn P w K mg base "_law_pot" ["_law_cell_here","_law_k"] 1 (spPotC)) (DD:Dn P w K mg base "_law_take" ["_law_pot_here","_law_many"] 1 (spTake)) (DU:Dn P w K mg base "_law_unit" ["_law_pot_here"] 2 (spUnit)) (DSp:Dn P w K mg base "_law_shop" ["_law_pot_here","_law_unit_here"] 3 (spShopC)) (DSi:Dn P w K mg base "_law_side" ["_law_pot_here","_law_unit_here","_law_most"] 2 (spSideC)) (DSc:Dn P w K mg base "_law_scattered" ["_law_pot_here","_law_shop_here","_law_wide","_law_high","_law_pieces","_law_many"] 4 (spScat)) (DHa:Dn P w K mg base "_law_handed" ["_law_pot_here","_law_pieces"] 2 (spHand)) (DO:Dn P w K mg base "_law_odd" ["_law_pot_here"] 2 (ff)) (DSo:Dn P w K mg base "_law_spoilt" ["_law_pot_here","_law_pieces"] 4 (spSpoilt)) (DJ:Dn P w K mg base "_law_judged" ["_law_shop_here","_law_wide","_law_high","_law_thing"] 5 (spJudC)) (DIs:Dn P w K mg base "is_laying" ["shop","wide","high","thing"] 6 (spIsLay C)) (DR:Dn P w K mg base "_law_right" ["_law_shop_here","_law_made","_law_wide","_law_high","_law_thing"] 7 (spRight C)) (DSh:Kn P w K mg base "Shop" C ["self","blade","kinds"] 3 (gM C)):FnOk P w K mg base CX0 8 f fd ["_law_script"] (spLaw K):=by
 refine F.ok sclaw (λ vs H Q E h=>?_) (λ cdv A outer s H vs Q E hr h=>?_)
 ·obtain ⟨a,ns,rfl,_⟩:=h
  rfl
 obtain ⟨a,ns,rfl,hS,n63,q⟩:=h;have nd:=sclaw.nd;refine ⟨_,(@ae _ _ _ _ _ (@bN _ _ _ _ _ _ _ _ Ab Z (cy Z B.range ((@aw _ _ _ _ _ _ _ _ _ (eN Z) Z B.max PyProof.Rows.boot_max (ad^^^((@aw _ _ _ _ _ _ _ _ _ (iY Z) Z B.min PyProof.Rows.boot_min (ad^^^((@aw _ _ _ _ _ _ _ _ _ aI Z B.len PySem.boot_len ((pv 0)^^^ab) (by decide) (by decide) Z Z)^^^ab)) (by decide) (by decide) Z Z)^^^ab)) (by decide) (by decide) Z Z)^^^ab)) (ay (i:=1) nd Z (Or.inl Z)) (@ae _ _ _ _ _ (@aD _ _ 2 _ _ _ _ nd Z (Or.inl Z) (@ai _ _ _ _ _ _ _ _ _ _ DP (hr.mono (by decide)) Z ((@ai _ _ _ _ _ _ _ _ _ _ DC (hr.mono (by decide)) Z ((pv 0)^^^((pv 1)^^^ab)) (by decide) Z Z)^^^((pv 1)^^^ab)) (by decide) Z Z) Z (Or.inl Z)) (@ae _ _ _ _ _ (@aD _ _ 3 _ _ _ _ nd Z (Or.inl Z) (@ai _ _ _ _ _ _ _ _ _ _ DU (hr.mono (by decide)) Z ((pv 2)^^^ab) (by decide) Z Z) Z (Or.inl Z)) (@ae _ _ _ _ _ (@aD _ _ 4 _ _ _ _ nd Z (Or.inl Z) (@ai _ _ _ _ _ _ _ _ _ _ DSp (hr.mono (by decide)) Z ((pv 2)^^^((pv 3)^^^ab)) (by decide) Z Z) Z (Or.inl Z)) (@ae _ _ _ _ _ (@aD _ _ 5 _ _ _ _ nd Z (Or.inl Z) (qB DSh (hr.mono (by decide)) Z ((@am _ _ _ _ _ _ _ ix_tup (pv 4) ad (λ _ _=>Z))^^^((@am _ _ _ _ _ _ _ ix_tup (pv 4) ad (λ _ _=>Z))^^^ab))) Z (Or.inl Z)) (@ae _ _ _ _ _ (nP Z nd Z Z (i:=6) (j:=7) (by decide) Z Z ((@ai _ _ _ _ _ _ _ _ _ _ DSi (hr.mono (by decide)) Z ((pv 2)^^^((pv 3)^^^(ad^^^ab))) (by decide) Z Z)^^^((@ai _ _ _ _ _ _ _ _ _ _ DSi (hr.mono (by decide)) Z ((pv 2)^^^((pv 3)^^^(ad^^^ab))) (by decide) Z Z)^^^ab)) Z) (@ae _ _ _ _ _ (@aD _ _ 8 _ _ _ _ nd Z (Or.inl Z) (@ai _ _ _ _ _ _ _ _ _ _ DSc (hr.mono (by decide)) Z ((pv 2)^^^((pv 4)^^^((pv 6)^^^((pv 7)^^^((@aN _ _ _ _ ab)^^^((@ai _ _ _ _ _ _ _ _ _ _ DD (hr.mono (by decide)) Z ((pv 2)^^^(ad^^^ab)) (by decide) Z Z)^^^ab)))))) (by decide) Z Z) Z (Or.inl Z)) (@ae _ _ _ _ _ (@aK _ _ _ _ _ _ _ _ (PW.pt (bg (@aF _ _ _ _ (@aB _ _ _ (@ai _ _ _ _ _ _ _ _ _ _ DJ (hr.mono (by decide)) Z ((pv 4)^^^((pv 6)^^^((pv 7)^^^((pv 8)^^^ab)))) (by decide) Z Z) (by intro _; rfl))) (bd (@aF _ _ _ _ (@aB _ _ _ (@ai _ _ _ _ _ _ _ _ _ _ DIs (hr.mono (by decide)) Z ((pv 5)^^^((pv 6)^^^((pv 7)^^^((@ai _ _ _ _ _ _ _ _ _ _ DHa (hr.mono (by decide)) Z ((pv 2)^^^((pv 8)^^^ab)) (by decide) Z Z)^^^ab)))) (by decide) Z Z) (by intro _; rfl)))))) (@af _ _ _ (@au _ _ _ _ aX)) ax) (@ae _ _ _ _ _ (@bN _ _ _ _ _ _ _ _ Ab Z (cy Z B.range (ad^^^ab)) (ay (i:=9) nd Z (Or.inl Z)) (@af _ _ _ (@aK _ _ _ _ _ _ _ _ (@aF _ _ _ _ (@aB _ _ _ (@ai _ _ _ _ _ _ _ _ _ _ DR hr Z ((pv 4)^^^((pv 5)^^^((pv 6)^^^((pv 7)^^^((@ai _ _ _ _ _ _ _ _ _ _ DSo (hr.mono (by decide)) Z ((pv 2)^^^((pv 8)^^^ab)) (by decide) Z Z)^^^ab))))) (by decide) Z Z) (by intro _; rfl))) (@af _ _ _ (@au _ _ _ _ aX)) ax)) (by intro _; rfl)) (@af _ _ _ (@aK _ _ _ _ _ _ _ _ (PW.pt (bg (@aF _ _ _ _ (@aB _ _ _ (@ai _ _ _ _ _ _ _ _ _ _ DR hr Z ((pv 4)^^^((pv 5)^^^((pv 6)^^^((pv 7)^^^((@aN _ _ _ _ ab)^^^ab))))) (by decide) Z Z) (by intro _; rfl))) (bd (@aF _ _ _ _ (@aB _ _ _ (@ai _ _ _ _ _ _ _ _ _ _ DR hr Z ((pv 4)^^^((pv 5)^^^((pv 6)^^^((pv 7)^^^((@ai _ _ _ _ _ _ _ _ _ _ DO (hr.mono (by decide)) Z ((pv 2)^^^ab) (by decide) Z Z)^^^ab))))) (by decide) Z Z) (by intro _; rfl)))))) (@af _ _ _ (@au _ _ _ _ aX)) ax)))))))))) (by intro _; rfl)) (@af _ _ _ (@au _ _ _ _ aX))),?_⟩;have sz:(10000:Nat) < sizeLine:=by decide
 have ln:(ns.map V.int).length=ns.length:=List.length_map _;refine aj (λ σ' H'=>True) (λ R hR=>?_) ?_
 ·refine ⟨_,Z,a,_,Z,.inl hS,_,_,Z,_,_,Z,_,Z,?_,?_,?_⟩
  ·rw [ln]; split <;> omega
  ·rw [ln]; split <;> omega
  generalize hn:(Int.toNat _)=n;have n8:n<=8:=by
   rw [<- hn]
   split <;> (try split) <;> omega
  refine cz (n:=n) (λ i σ H'=>∃v1 v2 v3 v4 v5 v6 v7 v8 v9:Option V,σ=[some (.ref a),v1,v2,v3,v4,v5,v6,v7,v8,v9]/\Same H H') ⟨_,_,_,_,_,_,_,_,_,rfl,Same.refl _⟩ ?_ (λ σ Hx _=>hR _ _ trivial);rintro i σ Hx hi ⟨v1,v2,v3,v4,v5,v6,v7,v8,v9,rfl,sx⟩;refine aj (λ σ' H'=>∃p,σ'=[some (.ref a),some (.int (0 + (i:Int))),some (.ref p),v3,v4,v5,v6,v7,v8,v9]/\Hx p=none/\PotC H' p/\But p Hx H') (λ R hR=>?_) ?_
  ·exact ⟨_,Z,_,Z,a,ns,_,Z,sx.seq hS,by omega,λ c=>⟨_,Z,c,_,Z,by omega,by omega,λ p Hb hp ptb sb=>hR _ _ ⟨p,Z,hp,ptb,Pc.Same.but sb⟩⟩⟩
  rintro _ H1 ⟨p,rfl,hp,pt1,b1⟩;refine aj (λ σ' H'=>∃u:Int,σ'=[some (.ref a),some (.int (0 + (i:Int))),some (.ref p),some (.int u),v4,v5,v6,v7,v8,v9]/\1<=u/\u < 2 * 10 ^ 56/\PotC H' p/\But p Hx H') (λ R hR=>?_) ?_
  ·exact ⟨_,Z,p,Z,pt1,λ u H2 u1 u2 pt2 b2=>hR _ _ ⟨u,Z,u1,u2,pt2,b1.trans b2⟩⟩
  rintro _ H2 ⟨u,rfl,u1,u2,pt2,b2⟩;refine aj (λ σ' H'=>∃ (t kl:Addr) (b:Int) (ks:List Kd),σ'=[some (.ref a),some (.int (0 + (i:Int))),some (.ref p),some (.int u),some (.ref t),v5,v6,v7,v8,v9]/\LS H' t b ks kl/\kl≠p/\(∀k∈ks,Good k)/\1<=ks.length/\ks.length<=8/\0<=b/\PotC H' p/\But p Hx H') (λ R hR=>?_) ?_
  ·exact ⟨_,Z,_,Z,p,u,Z,pt2,u1,u2,λ t kl b ks H3 ls nk _ gk k1 k8 b0 _ pt3 b3=>hR _ _ ⟨t,kl,b,ks,Z,ls,nk,gk,k1,k8,b0,pt3,b2.trans b3⟩⟩
  rintro _ H3 ⟨t,kl,b,ks,rfl,ls3,nk,gk,k1,kn8,b0,pt3,b3⟩;refine aj (λ σ' H'=>∃x:Addr,σ'=[some (.ref a),some (.int (0 + (i:Int))),some (.ref p),some (.int u),some (.ref t),some (.ref x),v6,v7,v8,v9]/\LS H' t b ks kl/\ShopAt C H' x b ks/\PotC H' p/\But p Hx H') (λ R hR=>?_) ?_
  ·obtain ⟨rs,q1,q2,q3⟩:=id ls3;have rl:=Aa q3;refine ⟨_,Z,t,_,0,_,Z,Z,Ar q1,Z,_,Z,t,_,1,_,Z,Z,Ar q1,Z,λ x dx hx hdx ne0=>?_⟩;have sm:Same H3 (upd (upd H3 dx (.own x)) x (.ins C dx [])):=jx hx hdx;refine ⟨x,dx,kl,b,rs,ks,Z,ag,b0,.inl (sm _ _ q2),At (Tups.keep (λ c xs e=>sm _ _ e) q3) (λ v k h=>.inl h),gk,by omega,by omega,λ Hb Sb kb=>⟨Z,?_⟩⟩;have sb:Same H3 Hb:=λ c o e=>kb c o (ah e hx) (sm _ _ e);exact hR _ _ ⟨x,rfl,ls3.same sb,Sb,pt3.same sb,λ c o n e=>sb _ _ (b3 _ _ n e)⟩
  rintro _ H4 ⟨x,rfl,ls4,sh4,pt4,b4⟩;refine aj (λ σ' H'=>∃W h1:Int,σ'=[some (.ref a),some (.int (0 + (i:Int))),some (.ref p),some (.int u),some (.ref t),some (.ref x),some (.int W),some (.int h1),v8,v9]/\1<=W/\W < 10 ^ 58/\1<=h1/\h1 < 10 ^ 58/\LS H' t b ks kl/\ShopAt C H' x b ks/\PotC H' p/\But p Hx H') (λ R hR=>?_) ?_
  ·exact ⟨_,Z,_,Z,p,u,24,Z,pt4,u1,u2,by decide,by decide,λ W H5 w0 w58 pt5 b5=>⟨_,Z,_,Z,p,u,24,Z,pt5,u1,u2,by decide,by decide,λ h1 H6 h0 h58 pt6 b6=>⟨_,_,Z,hR _ _ ⟨W,h1,Z,w0,w58,h0,h58,(ls4.but nk pt4 b5).but nk pt5 b6,dC pt5 b6 (dC pt4 b5 sh4),pt6,b4.trans (b5.trans b6)⟩⟩⟩⟩
  rintro _ H5 ⟨W,h1,rfl,w0,w58,h0,h58,ls5,sh5,pt5,b5⟩;refine aj (λ σ' H'=>∃ (l:Addr) (ys:List V) (ps:List Pq),σ'=[some (.ref a),some (.int (0 + (i:Int))),some (.ref p),some (.int u),some (.ref t),some (.ref x),some (.int W),some (.int h1),some (.ref l),v9]/\l≠p/\H' l=some (.lst ys)/\Paired (PqT ks H') ys ps/\Laid ks W h1 ps/\ys.length<=12/\LS H' t b ks kl/\ShopAt C H' x b ks/\PotC H' p/\But p Hx H') (λ R hR=>?_) ?_
  ·refine ⟨_,Z,_,Z,_,Z,_,Z,by decide,λ pl hpl=>?_⟩;obtain ⟨H6,e6,k6,n6,s6,b6,pt6⟩:=aS (o:=.lst []) b5 pt5 hpl;rw [show upd H5 pl _=H6 from e6];refine ⟨_,Z,p,13,Z,pt6,by decide,by decide,λ mm H7 m0 m1 pt7 b7=>?_⟩;have ls7:=(ls5.same s6).but nk pt6 b7;refine ⟨p,t,kl,pl,b,W,h1,mm,ks,[],[],Z,pt7,ls7,nk,k1,kn8,gk,b0,w0,w58,h0,h58,m0,by omega,n6,b7 _ _ n6 k6,.nil,Ae _,λ i p hp=>by simp at hp,λ l zs qs H8 hl0 nl hl pz ld zl pt8 b8=>hR _ _ ⟨l,zs,qs,Z,nl,hl,pz,ld,?_,ls7.but nk pt7 b8,dC pt7 b8 (dC pt6 b7 (cj s6 sh5)),pt8,(b6.trans b7).trans b8⟩⟩;have zl:(zs.length:Int)<=0 + mm:=zl;omega
  rintro _ H6 ⟨l,ys,ps,rfl,nl,hl6,pz6,ld,y9,ls6,sh6,pt6,b6⟩;have pin:=lE pz6 ld gk kn8 w58 h58;have lay:=lF pz6 ld;have Lp:=ld.lay pz6;have yl:=Aa pz6;have pl:(ps.map pqd).length=ys.length:=by rw [List.length_map,yl]
  have Dp:∀ {H':Hp},H' l=some (.lst ys)->Paired (PqT ks H') ys ps->Dt p H' (.ref l) (.list (ps.map pqd)):=λ h z=>.lst nl h (hV z);refine aj (λ σ' H'=>σ'=[some (.ref a),some (.int (0 + (i:Int))),some (.ref p),some (.int u),some (.ref t),some (.ref x),some (.int W),some (.int h1),some (.ref l),v9]/\H' l=some (.lst ys)/\Paired (PqT ks H') ys ps/\LS H' t b ks kl/\ShopAt C H' x b ks/\PotC H' p/\But p Hx H') (λ R hR=>?_) ?_
  ·refine ⟨_,Z,_,Z,_,Z,_,Z,p,t,kl,b,W,h1,ks,_,_,Z,ls6,kn8,Dp hl6 pz6,(λ es e=>by cases e; rw [pl]; omega),λ r H7 hr7 s7=>⟨_,Z,?_⟩⟩;rw [hr7.mpr lay];have pz7:Paired (PqT ks H7) ys ps:=At pz6 λ v q h=>h.keep λ a xs e=>s7 _ _ e;have pt7:=pt6.same s7;have b7:But p Hx H7:=λ c o n e=>s7 _ _ (b6 _ _ n e);refine aJ ⟨_,rfl,_,rfl,_,rfl,_,rfl,_,rfl,p,l,ys,ps,rfl,pt7,nl,s7 _ _ hl6,At pz7 λ v q h=>h.u,by omega,λ ll zs qs H8 nll sq pzi perm pt8 b8=>?_⟩;obtain ⟨ds,D8,pd,wd⟩:=iT pzi;obtain ⟨d,hd,hrow⟩:∃d,Dt p H8 (.ref ll) d/\aV d=some ds:=by
    rcases sq with sq | sq
    ·exact ⟨_,.lst nll sq D8,Z⟩
    ·exact ⟨_,.tup sq D8,Z⟩
   have ql:=perm.length_eq;have ld8:cV ks W h1 d:=qI (Lp.perm perm.symm) hrow pd;refine ⟨p,x,b,W,h1,ks,_,d,Z,dC pt7 b8 (cj s7 sh6),w0,h0,hd,(by rw [eH hrow]; omega),λ r H9 hr9 s9=>⟨_,Z,?_⟩⟩;rw [hr9.mpr ld8];have pz8:Paired (PqT ks H8) ys ps:=At pz7 λ v q h=>h.keep λ a xs e=>cG b8 pt7 e;exact aJ (hR _ _ ⟨rfl,s9 _ _ (b8 _ _ nl (s7 _ _ hl6)),At pz8 λ v q h=>h.keep λ a xs e=>s9 _ _ e,((ls6.same s7).but nk pt7 b8).same s9,cj s9 (dC pt7 b8 (cj s7 sh6)),pt8.same s9,λ c o n e=>s9 _ _ ((b7.trans b8) _ _ n e)⟩)
  rintro _ H7 ⟨rfl,hl7,pz7,ls7,sh7,pt7,b7⟩;clear hl6 pz6 ls6 sh6 pt6 b6;refine aj (λ σ' H'=>(∃v9,σ'=[some (.ref a),some (.int (0 + (i:Int))),some (.ref p),some (.int u),some (.ref t),some (.ref x),some (.int W),some (.int h1),some (.ref l),v9])/\H' l=some (.lst ys)/\Paired (PqT ks H') ys ps/\LS H' t b ks kl/\ShopAt C H' x b ks/\PotC H' p/\But p Hx H') (λ R hR=>?_) ?_
  ·refine ⟨_,Z,by decide,by decide,?_⟩;refine cz (lo:=0) (n:=3) (λ j σ' H'=>(∃v9,σ'=[some (.ref a),some (.int (0 + (i:Int))),some (.ref p),some (.int u),some (.ref t),some (.ref x),some (.int W),some (.int h1),some (.ref l),v9])/\H' l=some (.lst ys)/\Paired (PqT ks H') ys ps/\LS H' t b ks kl/\ShopAt C H' x b ks/\PotC H' p/\But p Hx H') ⟨⟨_,rfl⟩,hl7,pz7,ls7,sh7,pt7,b7⟩ ?_ (λ σ' H' e=>hR _ _ e);rintro j _ H8 hj ⟨⟨v9',rfl⟩,hl8,pz8,ls8,sh8,pt8,b8⟩;refine ⟨_,Z,_,Z,_,Z,_,Z,_,Z,_,Z,p,l,ks,ys,ps,Z,pt8,nl,hl8,pz8,by omega,pin,λ v d H9 hd th pt9 b9=>?_⟩;have ls9:=ls8.but nk pt8 b9;have sh9:=dC pt8 b9 sh8;refine ⟨p,t,kl,x,b,W,h1,ks,v,d,Z,ls9,kn8,sh9,w0,h0,hd,th,λ H10 s10=>⟨_,Z,aJ ?_⟩⟩;exact ⟨⟨_,Z⟩,s10 _ _ (b9 _ _ nl hl8),At pz8 λ v q h=>h.keep λ a xs e=>s10 _ _ (cG b9 pt8 e),ls9.same s10,cj s10 sh9,pt9.same s10,λ c o n e=>s10 _ _ ((b8.trans b9) _ _ n e)⟩
  rintro _ H8 ⟨⟨v9',rfl⟩,hl8,pz8,ls8,sh8,pt8,b8⟩;refine ⟨_,Z,_,Z,_,Z,_,Z,by decide,λ e he=>?_⟩;obtain ⟨H9,e9,k9,n9,s9,b9,pt9⟩:=aS (o:=.lst []) b8 pt8 he;rw [show upd H8 e _=H9 from e9];refine ⟨p,t,kl,x,b,W,h1,ks,_,.list [],Z,ls8.same s9,kn8,cj s9 sh8,w0,h0,.lst n9 k9 .nil,.inr ⟨[],Z,Ae _,λ e he=>by cases he⟩,λ H10 s10=>⟨_,Z,aJ ?_⟩⟩;have pt10:=pt9.same s10;have b10:But p Hx H10:=λ c o n e=>s10 _ _ (b9 _ _ n e);refine ⟨_,Z,_,Z,_,Z,_,Z,_,Z,p,Z,pt10,λ v d H11 hd hm pt11 b11=>?_⟩;refine ⟨p,t,kl,x,b,W,h1,ks,v,d,Z,((ls8.same s9).same s10).but nk pt10 b11,kn8,dC pt10 b11 (cj s10 (cj s9 sh8)),w0,h0,hd,.inl hm,λ H12 s12=>⟨_,Z,aJ ?_⟩⟩;exact ⟨_,_,_,_,_,_,_,_,_,Z,λ c o e=>s12 _ _ ((b10.trans b11) _ _ (ah (sx _ _ e) hp) (sx _ _ e))⟩
 rintro _ H1 _;exact q H1
end
theorem xl {α:Type} {us:List α} (h:us.length=1):∃a,us=[a]:=by
 match us,h with
 | [a],_=>exact ⟨a,Z⟩
theorem oy {α:Type} {us:List α} (h:us.length=2):∃a b,us=[a,b]:=by
 match us,h with
 | [a,b],_=>exact ⟨a,b,Z⟩
theorem oz {α:Type} {us:List α} (h:us.length=3):∃a b c,us=[a,b,c]:=by
 match us,h with
 | [a,b,c],_=>exact ⟨a,b,c,Z⟩
theorem xm {α:Type} {us:List α} (h:us.length=4):∃a b c d,us=[a,b,c,d]:=by
 match us,h with
 | [a,b,c,d],_=>exact ⟨a,b,c,d,Z⟩
theorem xn {α:Type} {us:List α} (h:us.length=5):∃a b c d e,us=[a,b,c,d,e]:=by
 match us,h with
 | [a,b,c,d,e],_=>exact ⟨a,b,c,d,e,Z⟩
abbrev DI (K:AV) (n:Str) (st:Stmt) (f:Addr):Prop:=∃ (od an:Option Addr) (sl:Array (Option Ap)) (oc kV dc pm cd ct:Ap),PySem.W.nsIn K mainGlobals n=some (some (.ref f))/\K.lookup f=some ⟨oc,od,.func (Ac n n (defArgs st) (defBody st) (defScope st) .none kV dc pm an cd ct),sl⟩/\PySem.W.codeIn K cd n=true/\PySem.W.keepIn K (.ref f)=true
abbrev MI (K:AV) (C:Addr) (n q:Str) (st:Stmt) (f:Addr):Prop:=∃ (od an:Option Addr) (sl:Array (Option Ap)) (oc kV dc pm cd ct:Ap),PySem.W.findIn K (.ref C) n=some (some (.ref f))/\PySem.W.isFn K (.ref f)=true/\K.lookup f=some ⟨oc,od,.func (Ac n q (defArgs st) (defBody st) (defScope st) .none kV dc pm an cd ct),sl⟩/\PySem.W.codeIn K cd q=true/\PySem.W.keepIn K (.ref f)=true
theorem diM {K:AV} {n:Str} {st:Stmt} {f:Addr} {od an:Option Addr} {sl:Array (Option Ap)} {oc kV dc pm cd ct:Ap} (a:PySem.W.nsIn K mainGlobals n=some (some (.ref f))) (l:K.lookup f=some ⟨oc,od,.func (Ac n n (defArgs st) (defBody st) (defScope st) .none kV dc pm an cd ct),sl⟩) (c:PySem.W.codeIn K cd n=true) (k:PySem.W.keepIn K (.ref f)=true):DI K n st f:=⟨_,_,_,_,_,_,_,_,_,a,l,c,k⟩
theorem miM {K:AV} {C:Addr} {n q:Str} {st:Stmt} {f:Addr} {od an:Option Addr} {sl:Array (Option Ap)} {oc kV dc pm cd ct:Ap} (a:PySem.W.findIn K (.ref C) n=some (some (.ref f))) (i:PySem.W.isFn K (.ref f)=true) (l:K.lookup f=some ⟨oc,od,.func (Ac n q (defArgs st) (defBody st) (defScope st) .none kV dc pm an cd ct),sl⟩) (c:PySem.W.codeIn K cd q=true) (k:PySem.W.keepIn K (.ref f)=true):MI K C n q st f:=⟨_,_,_,_,_,_,_,_,_,a,i,l,c,k⟩
inductive DE (K:AV) (mg:Str->Option Value) (n:Str) (st:Stmt) (f:Addr) (ps:List Str):Prop
 | mk (fd:An) (F:Fun K n n st f fd) (b:Binds K fd ps []) (k:PySem.W.keepIn K (.ref f)=true) (q:mg n=some (.ref f)):DE K mg n st f ps
theorem diE {K:AV} {h:Heap} {mg:Str->Option Ap} {n:Str} {st:Stmt} {f:Addr} (X:K.In h) (G:h.Ns mainGlobals mg) (d:DI K n st f) (ps:List Str) (hb:∀ (kV dc pm:Ap) (an:Option Addr) (cd ct:Ap) (us:List Ap),us.length=ps.length->bindArgs (Ac n n (defArgs st) (defBody st) (defScope st) .none kV dc pm an cd ct) ⟨us,[]⟩=pure (ps.zip us)):DE K mg n st f ps:=by obtain ⟨_,_,_,_,_,_,_,_,_,a,l,c,k⟩:=d;have F:=gL (st:=st) l c k;exact ⟨_,F,F.binds hb,k,PySem.W.mg_of X G a⟩
inductive ME (K:AV) (C:Addr) (n q:Str) (st:Stmt) (f:Addr) (ps:List Str):Prop
 | mk (fd:An) (F:Fun K n q st f fd) (b:Binds K fd ps []) (k:PySem.W.keepIn K (.ref f)=true) (a:PySem.W.findIn K (.ref C) n=some (some (.ref f))) (i:PySem.W.isFn K (.ref f)=true):ME K C n q st f ps
theorem miE {K:AV} {C:Addr} {n q:Str} {st:Stmt} {f:Addr} (d:MI K C n q st f) (ps:List Str) (hb:∀ (kV dc pm:Ap) (an:Option Addr) (cd ct:Ap) (us:List Ap),us.length=ps.length->bindArgs (Ac n q (defArgs st) (defBody st) (defScope st) .none kV dc pm an cd ct) ⟨us,[]⟩=pure (ps.zip us)):ME K C n q st f ps:=by obtain ⟨_,_,_,_,_,_,_,_,_,a,i,l,c,k⟩:=d;have F:=gL (st:=st) l c k;exact ⟨_,F,F.binds hb,k,a,i⟩
theorem bd1 {n q:Str} {st:Stmt} {a:Str} (h:∀ (kV dc pm:Ap) (an:Option Addr) (cd ct ua:Ap),bindArgs (Ac n q (defArgs st) (defBody st) (defScope st) .none kV dc pm an cd ct) ⟨[ua],[]⟩=pure [(a,ua)]):∀ (kV dc pm:Ap) (an:Option Addr) (cd ct:Ap) (us:List Ap),us.length=[a].length->bindArgs (Ac n q (defArgs st) (defBody st) (defScope st) .none kV dc pm an cd ct) ⟨us,[]⟩=pure ([a].zip us):=by intro _ _ _ _ _ _ us hl;obtain ⟨_,rfl⟩:=xl hl;exact h _ _ _ _ _ _ _
theorem bd2 {n q:Str} {st:Stmt} {a b:Str} (h:∀ (kV dc pm:Ap) (an:Option Addr) (cd ct ua ub:Ap),bindArgs (Ac n q (defArgs st) (defBody st) (defScope st) .none kV dc pm an cd ct) ⟨[ua,ub],[]⟩=pure [(a,ua),(b,ub)]):∀ (kV dc pm:Ap) (an:Option Addr) (cd ct:Ap) (us:List Ap),us.length=[a,b].length->bindArgs (Ac n q (defArgs st) (defBody st) (defScope st) .none kV dc pm an cd ct) ⟨us,[]⟩=pure ([a,b].zip us):=by intro _ _ _ _ _ _ us hl;obtain ⟨_,_,rfl⟩:=oy hl;exact h _ _ _ _ _ _ _ _
theorem bd3 {n q:Str} {st:Stmt} {a b c:Str} (h:∀ (kV dc pm:Ap) (an:Option Addr) (cd ct ua ub uc:Ap),bindArgs (Ac n q (defArgs st) (defBody st) (defScope st) .none kV dc pm an cd ct) ⟨[ua,ub,uc],[]⟩=pure [(a,ua),(b,ub),(c,uc)]):∀ (kV dc pm:Ap) (an:Option Addr) (cd ct:Ap) (us:List Ap),us.length=[a,b,c].length->bindArgs (Ac n q (defArgs st) (defBody st) (defScope st) .none kV dc pm an cd ct) ⟨us,[]⟩=pure ([a,b,c].zip us):=by intro _ _ _ _ _ _ us hl;obtain ⟨_,_,_,rfl⟩:=oz hl;exact h _ _ _ _ _ _ _ _ _
theorem bd4 {n q:Str} {st:Stmt} {a b c d:Str} (h:∀ (kV dc pm:Ap) (an:Option Addr) (cd ct ua ub uc ud:Ap),bindArgs (Ac n q (defArgs st) (defBody st) (defScope st) .none kV dc pm an cd ct) ⟨[ua,ub,uc,ud],[]⟩=pure [(a,ua),(b,ub),(c,uc),(d,ud)]):∀ (kV dc pm:Ap) (an:Option Addr) (cd ct:Ap) (us:List Ap),us.length=[a,b,c,d].length->bindArgs (Ac n q (defArgs st) (defBody st) (defScope st) .none kV dc pm an cd ct) ⟨us,[]⟩=pure ([a,b,c,d].zip us):=by intro _ _ _ _ _ _ us hl;obtain ⟨_,_,_,_,rfl⟩:=xm hl;exact h _ _ _ _ _ _ _ _ _ _
theorem bd5 {n q:Str} {st:Stmt} {a b c d e:Str} (h:∀ (kV dc pm:Ap) (an:Option Addr) (cd ct ua ub uc ud ue:Ap),bindArgs (Ac n q (defArgs st) (defBody st) (defScope st) .none kV dc pm an cd ct) ⟨[ua,ub,uc,ud,ue],[]⟩=pure [(a,ua),(b,ub),(c,uc),(d,ud),(e,ue)]):∀ (kV dc pm:Ap) (an:Option Addr) (cd ct:Ap) (us:List Ap),us.length=[a,b,c,d,e].length->bindArgs (Ac n q (defArgs st) (defBody st) (defScope st) .none kV dc pm an cd ct) ⟨us,[]⟩=pure ([a,b,c,d,e].zip us):=by intro _ _ _ _ _ _ us hl;obtain ⟨_,_,_,_,_,rfl⟩:=xn hl;exact h _ _ _ _ _ _ _ _ _ _ _
theorem lx6 {α:Type} {us:List α} (h:us.length=6):∃a b c d e f,us=[a,b,c,d,e,f]:=by
 match us,h with
 | [a,b,c,d,e,f],_=>exact ⟨a,b,c,d,e,f,Z⟩
theorem bd6 {n q:Str} {st:Stmt} {a b c d e f:Str} (h:∀ (kV dc pm:Ap) (an:Option Addr) (cd ct ua ub uc ud ue uf:Ap),bindArgs (Ac n q (defArgs st) (defBody st) (defScope st) .none kV dc pm an cd ct) ⟨[ua,ub,uc,ud,ue,uf],[]⟩=pure [(a,ua),(b,ub),(c,uc),(d,ud),(e,ue),(f,uf)]):∀ (kV dc pm:Ap) (an:Option Addr) (cd ct:Ap) (us:List Ap),us.length=[a,b,c,d,e,f].length->bindArgs (Ac n q (defArgs st) (defBody st) (defScope st) .none kV dc pm an cd ct) ⟨us,[]⟩=pure ([a,b,c,d,e,f].zip us):=by intro _ _ _ _ _ _ us hl;obtain ⟨_,_,_,_,_,_,rfl⟩:=lx6 hl;exact h _ _ _ _ _ _ _ _ _ _ _ _
theorem lx7 {α:Type} {us:List α} (h:us.length=7):∃a b c d e f g,us=[a,b,c,d,e,f,g]:=by
 match us,h with
 | [a,b,c,d,e,f,g],_=>exact ⟨a,b,c,d,e,f,g,Z⟩
theorem bd7 {n q:Str} {st:Stmt} {a b c d e f g:Str} (h:∀ (kV dc pm:Ap) (an:Option Addr) (cd ct ua ub uc ud ue uf ug:Ap),bindArgs (Ac n q (defArgs st) (defBody st) (defScope st) .none kV dc pm an cd ct) ⟨[ua,ub,uc,ud,ue,uf,ug],[]⟩=pure [(a,ua),(b,ub),(c,uc),(d,ud),(e,ue),(f,uf),(g,ug)]):∀ (kV dc pm:Ap) (an:Option Addr) (cd ct:Ap) (us:List Ap),us.length=[a,b,c,d,e,f,g].length->bindArgs (Ac n q (defArgs st) (defBody st) (defScope st) .none kV dc pm an cd ct) ⟨us,[]⟩=pure ([a,b,c,d,e,f,g].zip us):=by intro _ _ _ _ _ _ us hl;obtain ⟨_,_,_,_,_,_,_,rfl⟩:=lx7 hl;exact h _ _ _ _ _ _ _ _ _ _ _ _ _
theorem yu {α:Type} {us:List α} (h:us.length=6):∃a b c d e f,us=[a,b,c,d,e,f]:=by
 match us,h with
 | [a,b,c,d,e,f],_=>exact ⟨a,b,c,d,e,f,Z⟩
theorem yw {α:Type} {us:List α} (h:us.length=7):∃a b c d e f g,us=[a,b,c,d,e,f,g]:=by
 match us,h with
 | [a,b,c,d,e,f,g],_=>exact ⟨a,b,c,d,e,f,g,Z⟩
open PySem.W in
theorem all_mk {l:OpenLaw} {w:Ao} {K:Frag} {h:Heap} {mg:Str->Option Ap} {fa f0 f1 f2 f3 f4 f5 f6 f7 f8 f9 f10 f11 f12 f13 f14 f15 f16 f17 f18 f19 f20 f21 f22 f23 f24 f25 f26 f27 f28 f29 f30 f31 f32 C fm0 fm1 fm2:Addr} (X:K.In h) (G:h.Ns mainGlobals mg) (hfa:mg "law" = some (.ref fa))
  {tc0:Tok} {tc1:Tok} {tc2:Tok}
  (d0:DI K "is_whole" fB f0)
  (d1:DI K "is_truth" fC f1)
  (d2:DI K "is_row" mB f2)
  (d3:DI K "is_kind" dN f3)
  (d4:DI K "can_lie_turned" dO f4)
  (d5:DI K "check_plate" bM f5)
  (d6:DI K "lies_in" dM f6)
  (d7:DI K "meet" iL f7)
  (d8:DI K "spans_of" cU f8)
  (d9:DI K "is_placed" cC f9)
  (d10:DI K "is_laying" bF f10)
  (d11:DI K "_law_cell" iM f11)
  (d12:DI K "_law_pot" mC f12)
  (d13:DI K "_law_take" iN f13)
  (d14:DI K "_law_unit" iO f14)
  (d15:DI K "_law_side" iP f15)
  (d16:DI K "_law_worth" fD f16)
  (d17:DI K "_law_shop" iQ f17)
  (d18:DI K "_law_sides" fE f18)
  (d19:DI K "_law_lyings" dP f19)
  (d20:DI K "_law_box" mD f20)
  (d21:DI K "_law_apart" fF f21)
  (d22:DI K "_law_fits" gm f22)
  (d23:DI K "_law_scattered" ci f23)
  (d24:DI K "_law_handed" dQ f24)
  (d25:DI K "_law_plain" fG f25)
  (d26:DI K "_law_placed" dR f26)
  (d27:DI K "_law_judged" dS f27)
  (d28:DI K "_law_odd" mE f28)
  (d29:DI K "_law_spoilt_piece" bD f29)
  (d30:DI K "_law_spoilt" dU f30)
  (d31:DI K "_law_right" fH f31)
  (d32:DI K "law" gn f32)
  (aC:nsIn K mainGlobals "Shop" = some (some (.ref C)))
  (dm0:MI K C "__init__" "Shop.__init__" bT fm0)
  (dm1:MI K C "is_lying" "Shop.is_lying" bC fm1)
  (dm2:MI K C "sides" "Shop.sides" cg fm2)
  (pg:plainGet K C Str.empty=true)
  (hd:hasDictIn K C=true)
  (po:plainOver K C=true)
  (sa:findIn K (.ref C) "__setattr__" = some (some (.builtin "object.__setattr__")))
  (mk:makesIn K C=true)
  (kc:keepIn K (.ref C)=true)
  (n0:findIn K (.ref C) "blade_width" = some none)
  (n1:findIn K (.ref C) "kind_rows" = some none)
  (sysm:(K.lookup sysModules).map (·.cls)=some (.type "dict"))
  (z0:nsIn K mainGlobals "isinstance" = some none)
  (z1:nsIn K mainGlobals "int" = some none)
  (z2:nsIn K mainGlobals "bool" = some none)
  (z3:nsIn K mainGlobals "list" = some none)
  (z4:nsIn K mainGlobals "tuple" = some none)
  (z5:nsIn K mainGlobals "len" = some none)
  (z6:nsIn K mainGlobals "range" = some none)
  (z7:nsIn K mainGlobals "max" = some none)
  (z8:nsIn K mainGlobals "min" = some none)
  (z9:nsIn K mainGlobals "abs" = some none)
  (z10:nsIn K mainGlobals "divmod" = some none)
  (z11:nsIn K mainGlobals "sum" = some none)
  (z12:nsIn K mainGlobals "sorted" = some none)
  (z13:nsIn K mainGlobals "all" = some none)
  (z14:nsIn K mainGlobals "repr" = some none)
  (z15:nsIn K mainGlobals "zip" = some none)
  (z16:nsIn K mainGlobals "enumerate" = some none)
  (z17:nsIn K mainGlobals "str" = some none)
  (uc0:nsIn K mainGlobals "MOST_KINDS" = some (some (.int 8 tc0)))
  (uc1:nsIn K mainGlobals "THINGS_OF_A_KIND" = some (some (.int 5 tc1)))
  (uc2:nsIn K mainGlobals "THINGS_OF_A_PIECE" = some (some (.int 4 tc2))) :
  ∃fd:An,(∀ (s:Al) (v:Ap),BindsTo s fd ⟨[v],[]⟩ [("_law_script",v)])/\∀base:Heap,K.In base->base.Ns mainGlobals mg->FnOk l.prog w K mg base CX0 8 fa fd ["_law_script"] (spLaw K):=by
 obtain ⟨_,F0,b0,k0,q0⟩:=diE X G d0 ["thing","least"] (bd2 λ _ _ _ _ _ _ _ _=>rfl);obtain ⟨_,F1,b1,k1,q1⟩:=diE X G d1 ["thing"] (bd1 λ _ _ _ _ _ _ _=>rfl);obtain ⟨_,F2,b2,k2,q2⟩:=diE X G d2 ["thing"] (bd1 λ _ _ _ _ _ _ _=>rfl);obtain ⟨_,F3,b3,k3,q3⟩:=diE X G d3 ["thing"] (bd1 λ _ _ _ _ _ _ _=>rfl);obtain ⟨_,F4,b4,k4,q4⟩:=diE X G d4 ["kind"] (bd1 λ _ _ _ _ _ _ _=>rfl);obtain ⟨_,F5,b5,k5,q5⟩:=diE X G d5 ["wide","high"] (bd2 λ _ _ _ _ _ _ _ _=>rfl);obtain ⟨_,F6,b6,k6,q6⟩:=diE X G d6 ["shop","wide","high","kind","turned","x","y"] (bd7 λ _ _ _ _ _ _ _ _ _ _ _ _ _=>rfl);obtain ⟨_,F7,b7,k7,q7⟩:=diE X G d7 ["one","other"] (bd2 λ _ _ _ _ _ _ _ _=>rfl);obtain ⟨_,F8,b8,k8,q8⟩:=diE X G d8 ["shop","piece"] (bd2 λ _ _ _ _ _ _ _ _=>rfl);obtain ⟨_,F9,b9,k9,q9⟩:=diE X G d9 ["shop","wide","high","thing"] (bd4 λ _ _ _ _ _ _ _ _ _ _=>rfl);obtain ⟨_,F10,b10,k10,q10⟩:=diE X G d10 ["shop","wide","high","thing"] (bd4 λ _ _ _ _ _ _ _ _ _ _=>rfl);obtain ⟨_,F11,b11,k11,q11⟩:=diE X G d11 ["_law_script","_law_k"] (bd2 λ _ _ _ _ _ _ _ _=>rfl);obtain ⟨_,F12,b12,k12,q12⟩:=diE X G d12 ["_law_cell_here","_law_k"] (bd2 λ _ _ _ _ _ _ _ _=>rfl);obtain ⟨_,F13,b13,k13,q13⟩:=diE X G d13 ["_law_pot_here","_law_many"] (bd2 λ _ _ _ _ _ _ _ _=>rfl);obtain ⟨_,F14,b14,k14,q14⟩:=diE X G d14 ["_law_pot_here"] (bd1 λ _ _ _ _ _ _ _=>rfl);obtain ⟨_,F15,b15,k15,q15⟩:=diE X G d15 ["_law_pot_here","_law_unit_here","_law_most"] (bd3 λ _ _ _ _ _ _ _ _ _=>rfl);obtain ⟨_,F16,b16,k16,q16⟩:=diE X G d16 ["_law_pot_here"] (bd1 λ _ _ _ _ _ _ _=>rfl);obtain ⟨_,F17,b17,k17,q17⟩:=diE X G d17 ["_law_pot_here","_law_unit_here"] (bd2 λ _ _ _ _ _ _ _ _=>rfl);obtain ⟨_,F18,b18,k18,q18⟩:=diE X G d18 ["_law_shop_here","_law_kind","_law_turned"] (bd3 λ _ _ _ _ _ _ _ _ _=>rfl);obtain ⟨_,F19,b19,k19,q19⟩:=diE X G d19 ["_law_shop_here"] (bd1 λ _ _ _ _ _ _ _=>rfl);obtain ⟨_,F20,b20,k20,q20⟩:=diE X G d20 ["_law_shop_here","_law_piece"] (bd2 λ _ _ _ _ _ _ _ _=>rfl);obtain ⟨_,F21,b21,k21,q21⟩:=diE X G d21 ["_law_one","_law_other"] (bd2 λ _ _ _ _ _ _ _ _=>rfl);obtain ⟨_,F22,b22,k22,q22⟩:=diE X G d22 ["_law_shop_here","_law_wide","_law_high","_law_pieces","_law_piece"] (bd5 λ _ _ _ _ _ _ _ _ _ _ _=>rfl);obtain ⟨_,F23,b23,k23,q23⟩:=diE X G d23 ["_law_pot_here","_law_shop_here","_law_wide","_law_high","_law_pieces","_law_many"] (bd6 λ _ _ _ _ _ _ _ _ _ _ _ _=>rfl);obtain ⟨_,F24,b24,k24,q24⟩:=diE X G d24 ["_law_pot_here","_law_pieces"] (bd2 λ _ _ _ _ _ _ _ _=>rfl);obtain ⟨_,F25,b25,k25,q25⟩:=diE X G d25 ["_law_thing","_law_least"] (bd2 λ _ _ _ _ _ _ _ _=>rfl);obtain ⟨_,F26,b26,k26,q26⟩:=diE X G d26 ["_law_shop_here","_law_wide","_law_high","_law_thing"] (bd4 λ _ _ _ _ _ _ _ _ _ _=>rfl);obtain ⟨_,F27,b27,k27,q27⟩:=diE X G d27 ["_law_shop_here","_law_wide","_law_high","_law_thing"] (bd4 λ _ _ _ _ _ _ _ _ _ _=>rfl);obtain ⟨_,F28,b28,k28,q28⟩:=diE X G d28 ["_law_pot_here"] (bd1 λ _ _ _ _ _ _ _=>rfl);obtain ⟨_,F29,b29,k29,q29⟩:=diE X G d29 ["_law_pot_here","_law_piece"] (bd2 λ _ _ _ _ _ _ _ _=>rfl);obtain ⟨_,F30,b30,k30,q30⟩:=diE X G d30 ["_law_pot_here","_law_pieces"] (bd2 λ _ _ _ _ _ _ _ _=>rfl);obtain ⟨_,F31,b31,k31,q31⟩:=diE X G d31 ["_law_shop_here","_law_made","_law_wide","_law_high","_law_thing"] (bd5 λ _ _ _ _ _ _ _ _ _ _ _=>rfl);obtain ⟨_,an,_,_,kV,dc,pm,cd,ct,a32,l32,c32,k32⟩:=d32;have F32:=gL (st:=gn) l32 c32 k32;obtain ⟨_,Fm0,bm0,km0,am0,im0⟩:=miE dm0 ["self","blade","kinds"] (bd3 λ _ _ _ _ _ _ _ _ _=>rfl);obtain ⟨_,Fm1,bm1,km1,am1,im1⟩:=miE dm1 ["self","kind","turned"] (bd3 λ _ _ _ _ _ _ _ _ _=>rfl);obtain ⟨_,Fm2,bm2,km2,am2,im2⟩:=miE dm2 ["self","kind","turned"] (bd3 λ _ _ _ _ _ _ _ _ _=>rfl);have e:=hfa.symm.trans (mg_of X G a32);cases e;have y0:=mg_none_of X G z0;have y1:=mg_none_of X G z1;have y2:=mg_none_of X G z2;have y3:=mg_none_of X G z3;have y4:=mg_none_of X G z4;have y5:=mg_none_of X G z5;have y6:=mg_none_of X G z6;have y7:=mg_none_of X G z7;have y8:=mg_none_of X G z8;have y9:=mg_none_of X G z9;have y10:=mg_none_of X G z10;have y11:=mg_none_of X G z11;have y12:=mg_none_of X G z12;have y13:=mg_none_of X G z13
 have y14:=mg_none_of X G z14;have y15:=mg_none_of X G z15;have y16:=mg_none_of X G z16;have y17:=mg_none_of X G z17;have u0:=mg_of X G uc0;have u1:=mg_of X G uc1;have u2:=mg_of X G uc2;have qC:=mg_of X G aC;refine ⟨fnOf "law" "law" (defArgs gn) (defBody gn) (defScope gn) .none kV dc pm an cd ct,λ s v=>.of_eq rfl,λ base _ _=>?_⟩;have B:Blt mg:=⟨y0,y1,y2,y3,y4,y5,y6,y7,y8,y9,y10,y11,y12,y13,y14,y15,y16,⟨_,u0⟩,⟨_,u1⟩⟩
 have T:ShopTxt K C:=⟨⟨pg,hd,po,sa⟩,n0,n1⟩
 have SM:L2.SysIn K:=by
  cases e:K.lookup sysModules with
  | none=>rw [e] at sysm; cases sysm
  | some o=>rw [e] at sysm; exact ⟨o,e,AO sysm⟩
 have D0:Dn l.prog w K mg base "is_whole" ["thing","least"] 1 (bu K):=⟨_,_,kW F0 B,b0,k0,q0⟩
 have D1:Dn l.prog w K mg base "is_truth" ["thing"] 1 (dI K):=⟨_,_,kX F1 B,b1,k1,q1⟩
 have D2:Dn l.prog w K mg base "is_row" ["thing"] 1 (eW K):=⟨_,_,oh F2 B,b2,k2,q2⟩
 have D3:Dn l.prog w K mg base "is_kind" ["thing"] 2 (cS K):=⟨_,_,jm F3 B D0 D1 D2,b3,k3,q3⟩
 have D4:Dn l.prog w K mg base "can_lie_turned" ["kind"] 1 (eC K):=⟨_,_,jn F4,b4,k4,q4⟩
 have MI:Mn l.prog w K mg base C "is_lying" ["self","kind","turned"] 2 (cB K C):=⟨_,_,gU Fm1 B T D0 D1 D4,bm1,⟨am1,im1,km1⟩⟩
 have MS:Mn l.prog w K mg base C "sides" ["self","kind","turned"] 3 (spSides K C):=⟨_,_,kZ Fm2 T MI,bm2,⟨am2,im2,km2⟩⟩
 have DS:Kn l.prog w K mg base "Shop" C ["self","blade","kinds"] 3 (gM C):=⟨_,_,⟨mk,am0,im0,kc⟩,mH Fm0 B T D0 D2 D3,bm0,qC⟩
 have D5:Dn l.prog w K mg base "check_plate" ["wide","high"] 2 (spCP):=⟨_,_,ju F5 D0,b5,k5,q5⟩
 have D6:Dn l.prog w K mg base "lies_in" ["shop","wide","high","kind","turned","x","y"] 4 (spLiesG K C):=⟨_,_,lb F6 T D0 MI MS,b6,k6,q6⟩
 have D7:Dn l.prog w K mg base "meet" ["one","other"] 1 (spMeet):=⟨_,_,mM F7,b7,k7,q7⟩
 have D8:Dn l.prog w K mg base "spans_of" ["shop","piece"] 4 (spSpans C):=⟨_,_,lh F8 T MS,b8,k8,q8⟩
 have D9:Dn l.prog w K mg base "is_placed" ["shop","wide","high","thing"] 5 (spPlaced C):=⟨_,_,jt F9 B u2 D2 D6,b9,k9,q9⟩
 have D10:Dn l.prog w K mg base "is_laying" ["shop","wide","high","thing"] 6 (spIsLay C):=⟨_,_,lj F10 B D5 D2 D9 D8 D7,b10,k10,q10⟩
 have D11:Dn l.prog w K mg base "_law_cell" ["_law_script","_law_k"] 1 (gQ K):=⟨_,_,mI F11 B,b11,k11,q11⟩
 have D12:Dn l.prog w K mg base "_law_pot" ["_law_cell_here","_law_k"] 1 (spPotC):=⟨_,_,mJ F12 B,b12,k12,q12⟩
 have D13:Dn l.prog w K mg base "_law_take" ["_law_pot_here","_law_many"] 1 (spTake):=⟨_,_,mK F13 B,b13,k13,q13⟩
 have D14:Dn l.prog w K mg base "_law_unit" ["_law_pot_here"] 2 (spUnit):=⟨_,_,mL F14 B D13,b14,k14,q14⟩
 have D15:Dn l.prog w K mg base "_law_side" ["_law_pot_here","_law_unit_here","_law_most"] 2 (spSideC):=⟨_,_,jp F15 B D13,b15,k15,q15⟩
 have D16:Dn l.prog w K mg base "_law_worth" ["_law_pot_here"] 2 (spWorthC):=⟨_,_,jq F16 B D13,b16,k16,q16⟩
 have D17:Dn l.prog w K mg base "_law_shop" ["_law_pot_here","_law_unit_here"] 3 (spShopC):=⟨_,_,le F17 B D13 D15 D16,b17,k17,q17⟩
 have D18:Dn l.prog w K mg base "_law_sides" ["_law_shop_here","_law_kind","_law_turned"] 1 (spSidesC):=⟨_,_,js F18 B,b18,k18,q18⟩
 have D19:Dn l.prog w K mg base "_law_lyings" ["_law_shop_here"] 1 (spLyingsC):=⟨_,_,gY F19 B,b19,k19,q19⟩
 have D20:Dn l.prog w K mg base "_law_box" ["_law_shop_here","_law_piece"] 2 (spBox):=⟨_,_,oj F20 B D18,b20,k20,q20⟩
 have D21:Dn l.prog w K mg base "_law_apart" ["_law_one","_law_other"] 1 (spApart):=⟨_,_,lf F21,b21,k21,q21⟩
 have D22:Dn l.prog w K mg base "_law_fits" ["_law_shop_here","_law_wide","_law_high","_law_pieces","_law_piece"] 3 (spFitsC):=⟨_,_,lg F22 B D20 D21,b22,k22,q22⟩
 have D23:Dn l.prog w K mg base "_law_scattered" ["_law_pot_here","_law_shop_here","_law_wide","_law_high","_law_pieces","_law_many"] 4 (spScat):=⟨_,_,mN F23 B D13 D19 D20 D22,b23,k23,q23⟩
 have D24:Dn l.prog w K mg base "_law_handed" ["_law_pot_here","_law_pieces"] 2 (spHand):=⟨_,_,mQ F24 B D13,b24,k24,q24⟩
 have D25:Dn l.prog w K mg base "_law_plain" ["_law_thing","_law_least"] 1 (bu K):=⟨_,_,lA F25 B,b25,k25,q25⟩
 have D26:Dn l.prog w K mg base "_law_placed" ["_law_shop_here","_law_wide","_law_high","_law_thing"] 4 (spPlacC):=⟨_,_,lB F26 B D25 D19 D22,b26,k26,q26⟩
 have D27:Dn l.prog w K mg base "_law_judged" ["_law_shop_here","_law_wide","_law_high","_law_thing"] 5 (spJudC):=⟨_,_,mS F27 B D22 D26,b27,k27,q27⟩
 have D28:Dn l.prog w K mg base "_law_odd" ["_law_pot_here"] 2 (ff):=⟨_,_,mT F28 B D13,b28,k28,q28⟩
 have D29:Dn l.prog w K mg base "_law_spoilt_piece" ["_law_pot_here","_law_piece"] 3 (spSpc):=⟨_,_,ow F29 B D13 D28,b29,k29,q29⟩
 have D30:Dn l.prog w K mg base "_law_spoilt" ["_law_pot_here","_law_pieces"] 4 (spSpoilt):=⟨_,_,hX F30 B D13 D28 D29,b30,k30,q30⟩
 have D31:Dn l.prog w K mg base "_law_right" ["_law_shop_here","_law_made","_law_wide","_law_high","_law_thing"] 7 (spRight C):=⟨_,_,jy F31 B SM D10 D27,b31,k31,q31⟩
 exact ox F32 B D11 D12 D13 D14 D17 D15 D23 D24 D28 D30 D27 D10 D31 DS
theorem walk {l:PySem.W.OpenLaw} {q:Am} {loose:List Str} {XP:(Str->Option Ap)->Heap->Prop} {YP:Ao->Heap->Prop} {d:DefRec} {K:Params->AV} (hn:l.most=some 63) (hdf:d.params.defaults=[])
  (hY:∀ (w:Ao) (h:Heap),YP w h->(K w.params).In h)
  (F:∀ (w:Ao) (mg:Str->Option Ap) (fa:Addr) (h:Heap),(K w.params).In h->h.Ns mainGlobals mg->mg d.name=some (.ref fa) ->
   ∃fd:An,(∀ (s:Al) (u:Ap),BindsTo s fd ⟨[u],[]⟩ [("_law_script",u)])/\∀base:Heap,(K w.params).In base->base.Ns mainGlobals mg->FnOk l.prog w (K w.params) mg base CX0 8 fa fd ["_law_script"] (spLaw (K w.params))) :
  PySem.W.WalkO q loose XP YP l.row.toRowW d [] (λ f vs=>PySem.call f vs) :=
 L2.walk_of (n:=63) (k:=8) (x := "_law_script") (CX:=λ _=>CX0) (sp:=λ w=>spLaw (K w.params)) hn (by decide) hdf ⟨rfl,by decide,by decide,rfl⟩ hY F (λ _ _ a ns hl _ hS=>⟨a,ns,Z,hS,hl,λ _=>rfl⟩) λ _ _ _ _ _ z=>z
end Pc
namespace Pc
open PySem L2
section
open PySem.W
def kE (P:Params) (n:Str) (t:Nat) (v:Ap):DictEntry:=⟨PyData.keyHash P n,.str n t,v⟩
def kO3 (P:Params):Obj:=⟨(.type "dict"),none,(.dict #[kE P "__name__" 165 (.str "law_platecuts_k31_layings_judged" 484),kE P "__doc__" 166 .none,kE P "__package__" 167 .none,kE P "__loader__" 168 (.builtin "__main__.__loader__#opaque"),kE P "__spec__" 169 .none,kE P "__annotations__" 170 (.ref 6),kE P "__builtins__" 171 (.ref 4),kE P "__file__" 173 (.str "/claim/cut.py" 172),kE P "__cached__" 174 .none,kE P "_wall" 193 (.ref 21),kE P "PlateError" 213 (.ref 31),kE P "NoBlade" 229 (.ref 44),kE P "NoKinds" 245 (.ref 56),kE P "NoKind" 261 (.ref 68),kE P "NoLying" 277 (.ref 80),kE P "NoPlate" 293 (.ref 92),kE P "is_whole" 303 (.ref 101),kE P "is_truth" 310 (.ref 108),kE P "is_row" 317 (.ref 115),kE P "check_plate" 325 (.ref 122),kE P "lies_in" 342 (.ref 129),kE P "THINGS_OF_A_PIECE" 346 (.int 4 345),kE P "is_placed" 356 (.ref 136),kE P "spans_of" 370 (.ref 143),kE P "meet" 378 (.ref 150),kE P "is_laying" 384 (.ref 155),kE P "MOST_KINDS" 388 (.int 8 387),kE P "THINGS_OF_A_KIND" 390 (.int 5 389),kE P "is_kind" 402 (.ref 162),kE P "can_lie_turned" 409 (.ref 169),kE P "Shop" 483 (.ref 224),kE P "_law_cell" 493 (.ref 235),kE P "_law_pot" 501 (.ref 242),kE P "_law_take" 510 (.ref 249),kE P "_law_unit" 518 (.ref 256),kE P "_law_side" 527 (.ref 263),kE P "_law_worth" 535 (.ref 270),kE P "_law_shop" 548 (.ref 277),kE P "_law_sides" 559 (.ref 284),kE P "_law_lyings" 569 (.ref 291),kE P "_law_box" 578 (.ref 298),kE P "_law_apart" 586 (.ref 305),kE P "_law_fits" 592 (.ref 310),kE P "_law_scattered" 612 (.ref 317),kE P "_law_handed" 622 (.ref 324),kE P "_law_plain" 630 (.ref 331),kE P "_law_placed" 640 (.ref 338),kE P "_law_judged" 652 (.ref 345),kE P "_law_odd" 660 (.ref 352),kE P "_law_spoilt_piece" 671 (.ref 359),kE P "_law_spoilt" 681 (.ref 366),kE P "_law_right" 694 (.ref 373),kE P "law" 710 (.ref 380)] 53),#[]⟩
def gk0 (x0:Str)(x1:Nat)(x2:Str)(x3 x4 x5 x6 x7 x8 x9 x10 x11 x12 x13:Nat)(P:Params):Obj:=⟨(.type "code"),none,(.fields #[.str x0 x1,.str x2 x3,.str "/claim/cut.py" x4,.int x5 0,.int x6 0,.int 0 0,.int 0 0,.int 3 0,.ref x7,.bool true,.int 181 0,.ref x8,.none,.ref x9,.ref x10,.ref x11,.int x12 0,.int x5 0,.str "/claim/cut.py" x13]),#[]⟩
def xo:=gk0 "_wall" 187 "_wall" 188 189 1 1 15 16 17 18 19 191 192
def gk1 (x0 x1:Str)(x2:Stmt)(x3:Str)(x4 x5:Nat)(P:Params):Obj:=⟨(.type "function"),none,(.func (fnOf x0 x1 (defArgs x2) (defBody x2) (defScope x2) .none .none .none (.str x3 x4) none (.ref x5) .none)),#[]⟩
def xq:=gk1 "_wall" "_wall" qF "__main__" 164 20
def xt (P:Params):Obj:=⟨(.type "dict"),none,(.dict #[kE P "__module__" 203 (.str "platecuts.errors" 194),kE P "__firstlineno__" 207 (.int 5 206),kE P "__static_attributes__" 208 (.ref 29),kE P "__weakref__" 210 (.ref 32),kE P "__doc__" 211 .none] 3),#[]⟩
def xu (P:Params):Obj:=⟨(.type "type"),none,(.cls ⟨"PlateError",[.type "ValueError"],[.ref 31,.type "ValueError",.type "Exception",.type "BaseException",.type "object"],30,"PlateError",true,[],[.ref 44,.ref 56,.ref 68,.ref 80,.ref 92],false,none,false⟩),#[some (.ref 22),none,some (.str "PlateError" 196),some (.str "PlateError" 204),some (.builtin "ValueError.__new__"),some (.bool true)]⟩
def gk2 (x0 x1 x2 x3 x4 x5 x6:Nat)(P:Params):Obj:=⟨(.type "dict"),none,(.dict #[kE P "__module__" x0 (.str "platecuts.errors" 194),kE P "__firstlineno__" x1 (.int x2 x3),kE P "__static_attributes__" x4 (.ref x5),kE P "__doc__" x6 .none] 2),#[]⟩
def xw:=gk2 221 225 7 224 226 42 227
def gk3 (x0:Str)(x1 x2 x3 x4 x5:Nat)(P:Params):Obj:=⟨(.type "type"),none,(.cls ⟨x0,[.ref 31],[.ref x1,.ref 31,.type "ValueError",.type "Exception",.type "BaseException",.type "object"],x2,x0,true,[],[],false,none,false⟩),#[some (.ref x3),none,some (.str x0 x4),some (.str x0 x5),some (.builtin "ValueError.__new__"),some (.bool true)]⟩
def xy:=gk3 "NoBlade" 44 43 35 214 222
def xz:=gk2 237 241 9 240 242 54 243
def xA:=gk3 "NoKinds" 56 55 47 230 238
def xB:=gk2 253 257 11 256 258 66 259
def xC:=gk3 "NoKind" 68 67 59 246 254
def xD:=gk2 269 273 13 272 274 78 275
def xE:=gk3 "NoLying" 80 79 71 262 270
def xF:=gk2 285 289 15 288 290 90 291
def xG:=gk3 "NoPlate" 92 91 83 278 286
def qQ:=gk0 "is_whole" 296 "is_whole" 297 298 18 2 95 96 97 98 99 301 302
def qR:=gk1 "is_whole" "is_whole" fB "platecuts.checks" 294 100
def qS:=gk0 "is_truth" 304 "is_truth" 305 306 20 1 102 103 104 105 106 308 309
def qT:=gk1 "is_truth" "is_truth" fC "platecuts.checks" 294 107
def qU:=gk0 "is_row" 311 "is_row" 312 313 22 1 109 110 111 112 113 315 316
def qV:=gk1 "is_row" "is_row" mB "platecuts.checks" 294 114
def qW:=gk0 "check_plate" 318 "check_plate" 319 320 24 2 116 117 118 119 120 323 324
def qX:=gk1 "check_plate" "check_plate" bM "platecuts.checks" 294 121
def qY:=gk0 "lies_in" 328 "lies_in" 329 330 28 7 123 124 125 126 127 340 341
def qZ:=gk1 "lies_in" "lies_in" dM "platecuts.parts" 326 128
def rc:=gk0 "is_placed" 347 "is_placed" 348 349 35 4 130 131 132 133 134 354 355
def rd:=gk1 "is_placed" "is_placed" cC "platecuts.layings" 343 135
def re:=gk0 "spans_of" 357 "spans_of" 358 359 39 2 137 138 139 140 141 368 369
def rf:=gk1 "spans_of" "spans_of" cU "platecuts.layings" 343 142
def rg:=gk0 "meet" 371 "meet" 372 373 43 2 144 145 146 147 148 376 377
def rh:=gk1 "meet" "meet" iL "platecuts.layings" 343 149
def gk4 (x0:Str)(x1:Nat)(x2:Str)(x3 x4 x5 x6 x7 x8 x9 x10 x11:Nat)(P:Params):Obj:=⟨(.type "code"),none,(.fields #[.str x0 x1,.str x2 x3,.str "/claim/cut.py" x4,.int x5 0,.int x6 0,.int 0 0,.int 0 0,.int 3 0,.ref x7,.bool true,.int 181 0,.ref x8,.none,.none,.none,.ref x9,.int x10 0,.int x5 0,.str "/claim/cut.py" x11]),#[]⟩
def rj:=gk4 "is_laying" 379 "is_laying" 380 381 45 4 151 152 153 382 383
def rm:=gk1 "is_laying" "is_laying" bF "platecuts.layings" 343 154
def rn:=gk0 "is_kind" 391 "is_kind" 392 393 58 1 156 157 158 159 160 400 401
def rp:=gk1 "is_kind" "is_kind" dN "platecuts.shops" 385 161
def rq:=gk0 "can_lie_turned" 403 "can_lie_turned" 404 405 65 1 163 164 165 166 167 407 408
def rA:=gk1 "can_lie_turned" "can_lie_turned" dO "platecuts.shops" 385 168
def rB:=gk4 "__init__" 422 "Shop.__init__" 423 424 69 3 177 178 179 425 426
def rC:=gk1 "__init__" "Shop.__init__" bT "platecuts.shops" 385 180
def rD:=gk0 "blade" 428 "Shop.blade" 429 430 80 1 182 183 184 185 186 432 433
def rE:=gk1 "blade" "Shop.blade" gS "platecuts.shops" 385 187
def rF:=gk0 "kinds" 435 "Shop.kinds" 436 437 83 1 189 190 191 192 193 439 440
def rG:=gk1 "kinds" "Shop.kinds" gT "platecuts.shops" 385 194
def rH:=gk4 "wanted" 442 "Shop.wanted" 443 444 86 1 196 197 198 445 446
def rJ:=gk1 "wanted" "Shop.wanted" gj "platecuts.shops" 385 199
def rK:=gk0 "lyings" 448 "Shop.lyings" 449 450 89 1 201 202 203 204 205 452 453
def rL:=gk1 "lyings" "Shop.lyings" gl "platecuts.shops" 385 206
def rM:=gk0 "is_lying" 455 "Shop.is_lying" 456 457 92 3 208 209 210 211 212 461 462
def rN:=gk1 "is_lying" "Shop.is_lying" bC "platecuts.shops" 385 213
def rO:=gk0 "sides" 464 "Shop.sides" 465 466 97 3 215 216 217 218 219 471 472
def rP:=gk1 "sides" "Shop.sides" cg "platecuts.shops" 385 220
def rQ (P:Params):Obj:=⟨(.type "dict"),none,(.dict #[kE P "__module__" 417 (.str "platecuts.shops" 385),kE P "__firstlineno__" 421 (.int 67 420),kE P "__init__" 427 (.ref 181),kE P "blade" 434 (.ref 188),kE P "kinds" 441 (.ref 195),kE P "wanted" 447 (.ref 200),kE P "lyings" 454 (.ref 207),kE P "is_lying" 463 (.ref 214),kE P "sides" 473 (.ref 221),kE P "__static_attributes__" 476 (.ref 222),kE P "__dict__" 478 (.ref 225),kE P "__weakref__" 480 (.ref 226),kE P "__doc__" 481 .none] 4),#[]⟩
def rR (P:Params):Obj:=⟨(.type "type"),none,(.cls ⟨"Shop",[.type "object"],[.ref 224,.type "object"],223,"Shop",true,[],[],false,none,false⟩),#[none,none,some (.str "Shop" 410),some (.str "Shop" 418),some (.builtin "object.__new__"),some (.bool true)]⟩
def rS:=gk0 "_law_cell" 486 "_law_cell" 487 488 105 2 229 230 231 232 233 491 492
def rT:=gk1 "_law_cell" "_law_cell" iM "law_platecuts_k31_layings_judged" 484 234
def rV:=gk0 "_law_pot" 494 "_law_pot" 495 496 109 2 236 237 238 239 240 499 500
def rW:=gk1 "_law_pot" "_law_pot" mC "law_platecuts_k31_layings_judged" 484 241
def rX:=gk0 "_law_take" 502 "_law_take" 503 504 111 2 243 244 245 246 247 508 509
def rY:=gk1 "_law_take" "_law_take" iN "law_platecuts_k31_layings_judged" 484 248
def rZ:=gk0 "_law_unit" 511 "_law_unit" 512 513 118 1 250 251 252 253 254 516 517
def se:=gk1 "_law_unit" "_law_unit" iO "law_platecuts_k31_layings_judged" 484 255
def sf:=gk0 "_law_side" 519 "_law_side" 520 521 121 3 257 258 259 260 261 525 526
def sg:=gk1 "_law_side" "_law_side" iP "law_platecuts_k31_layings_judged" 484 262
def si:=gk0 "_law_worth" 528 "_law_worth" 529 530 125 1 264 265 266 267 268 533 534
def sj:=gk1 "_law_worth" "_law_worth" fD "law_platecuts_k31_layings_judged" 484 269
def sk:=gk0 "_law_shop" 536 "_law_shop" 537 538 128 2 271 272 273 274 275 546 547
def sn:=gk1 "_law_shop" "_law_shop" iQ "law_platecuts_k31_layings_judged" 484 276
def sr:=gk0 "_law_sides" 549 "_law_sides" 550 551 136 3 278 279 280 281 282 557 558
def su:=gk1 "_law_sides" "_law_sides" fE "law_platecuts_k31_layings_judged" 484 283
def sv:=gk0 "_law_lyings" 560 "_law_lyings" 561 562 139 1 285 286 287 288 289 567 568
def sC:=gk1 "_law_lyings" "_law_lyings" dP "law_platecuts_k31_layings_judged" 484 290
def sD:=gk0 "_law_box" 570 "_law_box" 571 572 146 2 292 293 294 295 296 576 577
def sE:=gk1 "_law_box" "_law_box" mD "law_platecuts_k31_layings_judged" 484 297
def sG:=gk0 "_law_apart" 579 "_law_apart" 580 581 149 2 299 300 301 302 303 584 585
def sH:=gk1 "_law_apart" "_law_apart" fF "law_platecuts_k31_layings_judged" 484 304
def sI:=gk4 "_law_fits" 587 "_law_fits" 588 589 151 5 306 307 308 590 591
def sJ:=gk1 "_law_fits" "_law_fits" gm "law_platecuts_k31_layings_judged" 484 309
def sK:=gk0 "_law_scattered" 593 "_law_scattered" 594 595 156 6 311 312 313 314 315 610 611
def sL:=gk1 "_law_scattered" "_law_scattered" ci "law_platecuts_k31_layings_judged" 484 316
def sM:=gk0 "_law_handed" 613 "_law_handed" 614 615 170 2 318 319 320 321 322 620 621
def sN:=gk1 "_law_handed" "_law_handed" dQ "law_platecuts_k31_layings_judged" 484 323
def sO:=gk0 "_law_plain" 623 "_law_plain" 624 625 175 2 325 326 327 328 329 628 629
def sP:=gk1 "_law_plain" "_law_plain" fG "law_platecuts_k31_layings_judged" 484 330
def sQ:=gk0 "_law_placed" 631 "_law_placed" 632 633 177 4 332 333 334 335 336 638 639
def sR:=gk1 "_law_placed" "_law_placed" dR "law_platecuts_k31_layings_judged" 484 337
def sS:=gk0 "_law_judged" 641 "_law_judged" 642 643 183 4 339 340 341 342 343 650 651
def sT:=gk1 "_law_judged" "_law_judged" dS "law_platecuts_k31_layings_judged" 484 344
def sU:=gk0 "_law_odd" 653 "_law_odd" 654 655 192 1 346 347 348 349 350 658 659
def sV:=gk1 "_law_odd" "_law_odd" mE "law_platecuts_k31_layings_judged" 484 351
def sW:=gk0 "_law_spoilt_piece" 661 "_law_spoilt_piece" 662 663 196 2 353 354 355 356 357 669 670
def sX:=gk1 "_law_spoilt_piece" "_law_spoilt_piece" bD "law_platecuts_k31_layings_judged" 484 358
def sY:=gk0 "_law_spoilt" 672 "_law_spoilt" 673 674 212 2 360 361 362 363 364 679 680
def td:=gk1 "_law_spoilt" "_law_spoilt" dU "law_platecuts_k31_layings_judged" 484 365
def tf:=gk0 "_law_right" 682 "_law_right" 683 684 220 5 367 368 369 370 371 692 693
def tj:=gk1 "_law_right" "_law_right" fH "law_platecuts_k31_layings_judged" 484 372
def tm:=gk0 "law" 695 "law" 696 697 226 1 374 375 376 377 378 708 709
def tq:=gk1 "law" "law" gn "law_platecuts_k31_layings_judged" 484 379
def kK:Params->Frag:=λ P=>(nat_lit 1,boot_o_1 P) :: (nat_lit 3,kO3 P) :: (nat_lit 20,xo P) :: (nat_lit 21,xq P) :: (nat_lit 30,xt P) :: (nat_lit 31,xu P) :: (nat_lit 43,xw P) :: (nat_lit 44,xy P) :: (nat_lit 55,xz P) :: (nat_lit 56,xA P) :: (nat_lit 67,xB P) :: (nat_lit 68,xC P) :: (nat_lit 79,xD P) :: (nat_lit 80,xE P) :: (nat_lit 91,xF P) :: (nat_lit 92,xG P) :: (nat_lit 100,qQ P) :: (nat_lit 101,qR P) :: (nat_lit 107,qS P) :: (nat_lit 108,qT P) :: (nat_lit 114,qU P) :: (nat_lit 115,qV P) :: (nat_lit 121,qW P) :: (nat_lit 122,qX P) :: (nat_lit 128,qY P) :: (nat_lit 129,qZ P) :: (nat_lit 135,rc P) :: (nat_lit 136,rd P) :: (nat_lit 142,re P) :: (nat_lit 143,rf P) :: (nat_lit 149,rg P) :: (nat_lit 150,rh P) :: (nat_lit 154,rj P) :: (nat_lit 155,rm P) :: (nat_lit 161,rn P) :: (nat_lit 162,rp P) :: (nat_lit 168,rq P) :: (nat_lit 169,rA P) :: (nat_lit 180,rB P) :: (nat_lit 181,rC P) :: (nat_lit 187,rD P) :: (nat_lit 188,rE P) :: (nat_lit 194,rF P) :: (nat_lit 195,rG P) :: (nat_lit 199,rH P) :: (nat_lit 200,rJ P) :: (nat_lit 206,rK P) :: (nat_lit 207,rL P) :: (nat_lit 213,rM P) :: (nat_lit 214,rN P) :: (nat_lit 220,rO P) :: (nat_lit 221,rP P) :: (nat_lit 223,rQ P) :: (nat_lit 224,rR P) :: (nat_lit 234,rS P) :: (nat_lit 235,rT P) :: (nat_lit 241,rV P) :: (nat_lit 242,rW P) :: (nat_lit 248,rX P) :: (nat_lit 249,rY P) :: (nat_lit 255,rZ P) :: (nat_lit 256,se P) :: (nat_lit 262,sf P) :: (nat_lit 263,sg P) :: (nat_lit 269,si P) :: (nat_lit 270,sj P) :: (nat_lit 276,sk P) :: (nat_lit 277,sn P) :: (nat_lit 283,sr P) :: (nat_lit 284,su P) :: (nat_lit 290,sv P) :: (nat_lit 291,sC P) :: (nat_lit 297,sD P) :: (nat_lit 298,sE P) :: (nat_lit 304,sG P) :: (nat_lit 305,sH P) :: (nat_lit 309,sI P) :: (nat_lit 310,sJ P) :: (nat_lit 316,sK P) :: (nat_lit 317,sL P) :: (nat_lit 323,sM P) :: (nat_lit 324,sN P) :: (nat_lit 330,sO P) :: (nat_lit 331,sP P) :: (nat_lit 337,sQ P) :: (nat_lit 338,sR P) :: (nat_lit 344,sS P) :: (nat_lit 345,sT P) :: (nat_lit 351,sU P) :: (nat_lit 352,sV P) :: (nat_lit 358,sW P) :: (nat_lit 359,sX P) :: (nat_lit 365,sY P) :: (nat_lit 366,td P) :: (nat_lit 372,tf P) :: (nat_lit 373,tj P) :: (nat_lit 379,tm P) :: (nat_lit 380,tq P) :: []
end
end Pc
abbrev PySem.W.Fast.tw10108296857312551334:PySem.Program:=PySem.Challenge.pw_platecuts_k31_layings_judged
theorem PySem.W.Fast.te10108296857312551334:PySem.Challenge.pw_platecuts_k31_layings_judged=PySem.W.Fast.tw10108296857312551334:=rfl
namespace Hd
open PySem PySem.W
def S0:Str:="__name__"
def S2:Str:="__doc__"
def S3:Str:="__package__"
def S4:Str:="__loader__"
def S5:Str:="__spec__"
def tw:Str:="__main__"
def tz:Str:="__annotations__"
def tD:Str:="__builtins__"
def tE:Str:="__file__"
def gv:Str:=⟨⟨[47,99,108,97,105,109,47,99,117,116,46,112,121]⟩⟩
def tF:Str:="__cached__"
def xH:Str:="<module>"
def hZ:Str:="platecuts.shops"
def ia:Str:="_wall"
def fP:Str:="PlateError"
def jz:Str:="NoBlade"
def jA:Str:="NoKinds"
def jB:Str:="NoKind"
def jC:Str:="NoLying"
def jD:Str:="NoPlate"
def ic:Str:="is_whole"
def ie:Str:="is_truth"
def ig:Str:="is_row"
def ii:Str:="check_plate"
def ij:Str:="lies_in"
def oA:Str:="THINGS_OF_A_PIECE"
def ik:Str:="is_placed"
def il:Str:="spans_of"
def im:Str:="meet"
def io:Str:="is_laying"
def oB:Str:="MOST_KINDS"
def oC:Str:="THINGS_OF_A_KIND"
def ip:Str:="is_kind"
def iq:Str:="can_lie_turned"
def xI:Str:="k"
def lG:Str:="__module__"
def fQ:Str:="platecuts.errors"
def tG:Str:="__qualname__"
def lH:Str:="__firstlineno__"
def lI:Str:="__static_attributes__"
def oE:Str:="__weakref__"
def lJ:Str:="thing"
def xJ:Str:="least"
def mU:Str:="platecuts.checks"
def lK:Str:="wide"
def lL:Str:="high"
def oF:Str:="shop"
def lM:Str:="kind"
def mV:Str:="turned"
def tH:Str:="x"
def tI:Str:="y"
def xK:Str:="piece_wide"
def xL:Str:="piece_high"
def xM:Str:="platecuts.parts"
def mW:Str:="platecuts.layings"
def xN:Str:="piece"
def xO:Str:="one"
def xP:Str:="other"
def xQ:Str:="worth"
def jE:Str:="wanted"
def xR:Str:="turns"
def bJ:Str:="law_platecuts_k31_layings_judged"
def gw:Str:="Shop"
def jF:Str:="_law_cell"
def jG:Str:="_law_pot"
def jH:Str:="_law_take"
def jI:Str:="_law_unit"
def jJ:Str:="_law_side"
def jK:Str:="_law_worth"
def jL:Str:="_law_shop"
def jM:Str:="_law_sides"
def jN:Str:="_law_lyings"
def jO:Str:="_law_box"
def jP:Str:="_law_apart"
def jQ:Str:="_law_fits"
def jR:Str:="_law_scattered"
def jS:Str:="_law_handed"
def jT:Str:="_law_plain"
def jU:Str:="_law_placed"
def jV:Str:="_law_judged"
def jW:Str:="_law_odd"
def jX:Str:="_law_spoilt_piece"
def jY:Str:="_law_spoilt"
def jZ:Str:="_law_right"
def lN:Str:="law"
def lO:Str:="__init__"
def lP:Str:="blade"
def lQ:Str:="kinds"
def lR:Str:="lyings"
def lS:Str:="is_lying"
def lT:Str:="sides"
def oG:Str:="Shop.__init__"
def lU:Str:="self"
def oH:Str:="Shop.blade"
def oI:Str:="Shop.kinds"
def oJ:Str:="Shop.wanted"
def oK:Str:="Shop.lyings"
def oM:Str:="Shop.is_lying"
def xS:Str:="row"
def oN:Str:="Shop.sides"
def xT:Str:="blade_width"
def xU:Str:="kind_rows"
def tJ:Str:="__dict__"
def tK:Str:="_law_script"
def ke:Str:="_law_k"
def xV:Str:="_law_cell_here"
def eK:Str:="_law_pot_here"
def tL:Str:="_law_many"
def xW:Str:="_law_digit"
def mX:Str:="_law_some"
def oO:Str:="_law_unit_here"
def xX:Str:="_law_most"
def xY:Str:="_law_blade"
def xZ:Str:="_law_kinds"
def ir:Str:="_law_wide"
def iu:Str:="_law_high"
def gx:Str:="_law_shop_here"
def oP:Str:="_law_kind"
def tM:Str:="_law_turned"
def lV:Str:="_law_found"
def mY:Str:="_law_piece"
def ya:Str:="_law_own"
def yb:Str:="_law_one"
def yc:Str:="_law_other"
def mZ:Str:="_law_pieces"
def yd:Str:="_law_x"
def ye:Str:="_law_y"
def yf:Str:="_law_box_here"
def ng:Str:="_law_thing"
def yg:Str:="_law_least"
def tN:Str:="_law_way"
def tO:Str:="_law_at"
def yh:Str:="_law_moved"
def tP:Str:="_law_made"
def yi:Str:="_law_kept"
def yj:Str:="_law_j"
abbrev HK:Hook:=kHook Pc.kK [nat_lit 1,nat_lit 3,nat_lit 20,nat_lit 21,nat_lit 30,nat_lit 31,nat_lit 43,nat_lit 44,nat_lit 55,nat_lit 56,nat_lit 67,nat_lit 68,nat_lit 79,nat_lit 80,nat_lit 91,nat_lit 92,nat_lit 100,nat_lit 101,nat_lit 107,nat_lit 108,nat_lit 114,nat_lit 115,nat_lit 121,nat_lit 122,nat_lit 128,nat_lit 129,nat_lit 135,nat_lit 136,nat_lit 142,nat_lit 143,nat_lit 149,nat_lit 150,nat_lit 154,nat_lit 155,nat_lit 161,nat_lit 162,nat_lit 168,nat_lit 169,nat_lit 180,nat_lit 181,nat_lit 187,nat_lit 188,nat_lit 194,nat_lit 195,nat_lit 199,nat_lit 200,nat_lit 206,nat_lit 207,nat_lit 213,nat_lit 214,nat_lit 220,nat_lit 221,nat_lit 223,nat_lit 224,nat_lit 234,nat_lit 235,nat_lit 241,nat_lit 242,nat_lit 248,nat_lit 249,nat_lit 255,nat_lit 256,nat_lit 262,nat_lit 263,nat_lit 269,nat_lit 270,nat_lit 276,nat_lit 277,nat_lit 283,nat_lit 284,nat_lit 290,nat_lit 291,nat_lit 297,nat_lit 298,nat_lit 304,nat_lit 305,nat_lit 309,nat_lit 310,nat_lit 316,nat_lit 317,nat_lit 323,nat_lit 324,nat_lit 330,nat_lit 331,nat_lit 337,nat_lit 338,nat_lit 344,nat_lit 345,nat_lit 351,nat_lit 352,nat_lit 358,nat_lit 359,nat_lit 365,nat_lit 366,nat_lit 372,nat_lit 373,nat_lit 379,nat_lit 380] (λ _=>by kernel_rfl)
abbrev pt:Am:=PySem.W.Fast.tw10108296857312551334
theorem pt_eq:PySem.Challenge.pw_platecuts_k31_layings_judged=pt:=PySem.W.Fast.te10108296857312551334
def tp (i:Nat):Stmt:=pt.main.body.getD i (.Pass ⟨0,0,0,0⟩)
abbrev f (o:Params->Obj) (l r:Params->BT):Params->BT:=λ P=>.node (o P) (l P) (r P)
abbrev z:Params->BT:=λ _=>.nil
abbrev e (P:Params) (n:Str) (t:Nat) (v:Ap):DictEntry:=⟨PyData.keyHash P n,.str n t,v⟩
abbrev m0:Nat:=nat_lit 11
abbrev an:Option Ap:=(some (.ref 6))
abbrev en:Env:={ scope:=pt.main.scope,locals:=mainNs,globals:=mainNs,cells:=[],code:=(.ref 13),frame:=some 14 }
abbrev cE:Code:=.body (behindTheImports pt) en
abbrev qP:Pos:=⟨0,0,0,0⟩
abbrev B:List Frame:=[topFrame qP]
abbrev L0:=SL.s14018661285674007319x4
abbrev L1:=SL.s11665532747177232413x24
abbrev L2:=SL.s15183661809925369436x15
abbrev L3:=SL.s13915890719876406383x10
abbrev L4:=SL.s13459172003223722735x3
abbrev L5:=SL.s10557405761357834076x3
abbrev L6:=SL.s4233737765568776869x3
abbrev L7:=SL.s2508922471967985374x5
abbrev L8:=SL.s15574269061696679450x3
abbrev L9:=SL.s6016482663378992977x10
abbrev L10:=SL.s5596568736180474577x8
abbrev L11:=SL.s2839554839881490554x3
abbrev L12:=SL.s725004073602090463x7
abbrev L13:=SL.s9436932552931045734x7
abbrev L14:=SL.s2754603736356183583x3
abbrev L15:=SL.s15185746759980889043x6
abbrev L16:=SL.s8192189862530294059x4
abbrev L17:=SL.s7038307821325472102x4
abbrev L18:=SL.s5662562618415449548x6
abbrev L19:=SL.s15281542589158584767x7
abbrev L20:=SL.s17651547275483570877x7
abbrev L21:=SL.s4036449017235975746x7
abbrev L22:=SL.s8879979712987360175x4
abbrev L23:=SL.s1801250619170735830x3
abbrev L24:=SL.s17659931425627118568x2
abbrev L25:=SL.s6063217899685152688x5
abbrev L26:=SL.s8008927332132565319x10
abbrev L27:=SL.s3544116645089599534x10
abbrev L28:=SL.s13761710972054866084x4
abbrev L29:=SL.s12896375587409280029x5
abbrev L30:=SL.s13014049009108672802x3
abbrev L31:=SL.s13935586738268321596x6
abbrev L32:=SL.s8200498257699607233x3
abbrev L33:=SL.s14114244577727609259x3
abbrev L34:=SL.s1499430450269397089x4
abbrev L35:=SL.s8755793994789770505x5
abbrev L36:=SL.s15725212667919936108x3
abbrev L37:=SL.s15791221867095933363x3
abbrev L38:=SL.s81309575031448614x3
abbrev L39:=SL.s8069831620301644142x5
abbrev L40:=SL.s10061844253413749634x4
abbrev L41:=SL.s9496514870978017513x5
abbrev L42:=SL.s8899691144933366716x7
abbrev L43:=SL.s15201008993051130160x6
abbrev L44:=SL.s741896355592496720x3
abbrev L45:=SL.s17925004256654032244x4
abbrev L46:=SL.s11695548795398191787x4
abbrev L47:=SL.s4156966113859768872x10
abbrev L48:=SL.s9501651726347032510x9
abbrev L49:=SL.s15722918466584999320x5
abbrev L50:=SL.s591115383303110208x11
abbrev L51:=SL.s15721156781594690315x7
abbrev L52:=SL.s14340494229221121180x9
abbrev L53:=SL.s13429844117177748173x6
abbrev L54:=SL.s16463266125957815391x5
abbrev L55:=SL.s4922535414793169389x9
abbrev L56:=SL.s8101838861749082086x8
abbrev L57:=SL.s7066276694103001551x3
abbrev L58:=SL.s9222952809800978799x4
abbrev L59:=SL.s462964344163437139x3
abbrev L60:=SL.s2742458400755230247x6
abbrev L61:=SL.s1438033511350832697x5
abbrev L62:=SL.s14365286008749172514x8
abbrev L63:=SL.s3642769012341782148x3
abbrev L64:=SL.s4674234679698826739x5
abbrev L65:=SL.s16656946322747308186x12
abbrev L66:=SL.s10796804682411823810x3
abbrev L67:=SL.s4290257624100764138x5
abbrev L68:=SL.s2766695959194262286x5
abbrev L69:=SL.s17162191345867700912x4
abbrev L70:=SL.s14339709457334898076x3
abbrev L71:=SL.s4278001404047624695x13
abbrev L72:=SL.s6585700554429387442x18
abbrev L73:=SL.s5946037652744460706x9
abbrev L74:=SL.s7410770068591931388x13
abbrev L75:=SL.s11817881795495490833x17
abbrev L76:=SL.s15679963881808890155x10
abbrev L77:=SL.s3871700062485845797x15
abbrev L78:=SL.s7689518266570723881x14
abbrev L79:=SL.s9001593270443806431x14
abbrev L80:=SL.s6882542574934516792x11
abbrev L81:=SL.s14403400214490484960x8
abbrev L82:=SL.s14457978657717015782x11
abbrev L83:=SL.s1753610191782819921x11
abbrev L84:=SL.s14119380538032626715x11
abbrev L85:=SL.s11437920000406562045x9
abbrev L86:=SL.s10852414792293593619x7
abbrev L87:=SL.s14816307405966870543x14
abbrev L88:=SL.s8682627914449686677x12
abbrev L89:=SL.s4428170145600203450x18
abbrev L90:=SL.s5991306692159431302x13
abbrev L91:=SL.s16067994140765818257x11
abbrev L92:=SL.s2327743974964600596x11
abbrev L93:=SL.s2804747833354056582x9
abbrev L94:=SL.s6070975301684473832x10
abbrev L95:=SL.s14270485950484850486x7
abbrev L96:=SL.s12041534306414923332x18
abbrev L97:=SL.s2531307568338490285x13
abbrev L98:=SL.s631175304937289666x17
abbrev L99:=SL.s5144983644357021410x12
abbrev yx:=SL.s18039099521571816885x18
abbrev yz:=SL.s6011586214260557989x15
abbrev yA:=SL.s5430567037509283100x13
abbrev yB:=SL.s8117915138073963741x13
abbrev yC:=SL.s3423317712779056401x25
abbrev yD:=SL.s2007317383269046180x15
abbrev yE:=SL.s17481586968713580700x14
abbrev yF:=SL.s2450899226349176912x13
abbrev yG:=SL.s16626165730633575011x14
abbrev yH:=SL.s14288496050688921416x11
abbrev yI:=SL.s5735081916595925998x15
abbrev yJ:=SL.s3865607918536308442x17
abbrev yK:=SL.s13337502604062700212x15
abbrev yL:=SL.s13114017843053701147x15
abbrev yM:=SL.s17467278006356818441x17
abbrev yN:=SL.s17722149559621369488x16
abbrev yO:=SL.s7855274175708717672x17
abbrev yP:=SL.s13351283678309829046x18
abbrev yQ:=SL.s6668348653404991179x15
abbrev yR:=SL.s12913350958174193794x18
abbrev yS:=SL.s16115879512475548326x12
abbrev yT:=SL.s15920661018069861047x16
abbrev yU:=SL.s10779130036587390575x21
abbrev yV:=SL.s7801419657504700863x10
abbrev yW:=SL.s1688129525768580628x8
abbrev yX:=SL.s1031832959479892071x19
abbrev yY:=SL.s8991790508128307865x19
abbrev yZ:=SL.s14539662485746970245x23
abbrev za:=SL.s11643622729373238714x14
abbrev zb:=SL.s3386828779285465597x17
abbrev zc:=SL.s13042696260734638735x12
abbrev zd:=SL.s18239426817015966623x15
abbrev ze:=SL.s1270395311379034370x22
abbrev zf:=SL.s10696252587037064777x22
abbrev zg:=SL.s7852717498200857586x20
abbrev zh:=SL.s6377248116197321094x8
abbrev zi:=SL.s3834378056692298002x18
abbrev zj:=SL.s17586630440231065808x18
abbrev zk:=SL.s15234114252648025395x21
abbrev zm:=SL.s8496462677383758984x14
abbrev zn:=SL.s16789243406116112673x4
abbrev zo:=SL.s14400166428656793546x20
abbrev zp:=SL.s5857708277339239366x20
abbrev zr:=SL.s7804999707787243718x20
abbrev tQ:=SL.s7097527257260152453x26
abbrev zt:=SL.s6658869562736209489x6
abbrev oQ:=SL.s5856160107412720595x4
abbrev yk:=SL.s658472552662922059x5
abbrev sZ (w:Ao) (os:OsState):Al:=⟨boot_heap w.params,Array.mk [],boot_drawn,boot_toks,os⟩
def o11 (P:Params):Obj:=⟨(.type L68),none,(.seq #[] 0),#[]⟩
def o12 (P:Params):Obj:=⟨.none,none,(.fields #[]),#[]⟩
def g0 (x0:Str)(x1 x2 x3:Nat)(P:Params):Obj:=⟨(.type oQ),none,(.fields #[.str x0 x1,.str x0 (x1+1),.str gv (x1+2),.int x2 0,.int 0 0,.int 0 0,.int 0 0,.int 0 0,.ref x3,.bool false,.int 181 0,.ref (x3+1),.none,.none,.none,.none,.int (x1+3) 0,.int x2 0,.str gv (x1+4)]),#[]⟩
def o13:=g0 xH 182 1 11
def g1 (x0 x1:Nat)(x2:Str)(x3:Nat)(P:Params):Obj:=⟨(.type yk),none,.plain,#[some (.ref x0),some (.ref 3),some (.ref x1),none,some (.str x2 x3),none,some (.ref 0)]⟩
def o14:=g1 13 3 tw 164
def hA (P:Params):Heap:=⟨⟨[boot_o_0 P,boot_o_1 P,boot_o_2 P,boot_o_3 P,boot_o_4 P,boot_o_5 P,boot_o_6 P,boot_o_7 P,boot_o_8 P,boot_o_9 P,boot_o_10 P,o11 P,o12 P,o13 P,o14 P]⟩,{ }⟩
abbrev sA (w:Ao) (os:OsState):Al:=⟨hA w.params,(Array.mk []),⟨0,0,0,0⟩,187,os⟩
abbrev pA:Pos:=⟨0,0,0,0⟩
theorem pre (w:Ao):(λ os=>topGo treeTable pt w m0 an 12 (sZ w os) (topStub pt))=λ os=>some (sA w os,(⟨denote treeTable cE,cE,pA,B⟩:Thread)):=by rw [PySem.W.Fast.te15667345088766844465,PySem.W.Fast.te14364793385576792824,PySem.W.Fast.te11892475500146522536]; kernel_rfl
def tB:Params->BT:=(f boot_o_0 (f boot_o_1 (f boot_o_3 (f boot_o_7 z z) (f o11 z z)) (f boot_o_5 (f boot_o_9 z z) (f o13 z z))) (f boot_o_2 (f boot_o_4 (f boot_o_8 z z) (f o12 z z)) (f boot_o_6 (f boot_o_10 z z) (f o14 z z))))
abbrev sB (w:Ao) (os:OsState):SharedT:=⟨tB w.params,15,{ },(Array.mk []),⟨0,0,0,0⟩,187,os⟩
abbrev pB:Pos:=⟨0,0,0,0⟩
theorem blk (w:Ao):(λ os=>segRun treeTable pt w m0 an 1 1 (sA w os) ⟨(blockStart (behindTheImports pt) en).wrap (λ _=>doneF .next) deadEnd id id,cE,pA,B⟩)=λ os=>some (.next,(sB w os).abs,cE,pB):=by rw [PySem.W.Fast.te14374325043358763698,PySem.W.Fast.te14364793385576792824,PySem.W.Fast.te1066825118222455980]; kernel_rfl
def ym (P:Params):Obj:=⟨(.type L0),none,(.dict #[e P S0 165 (.str hZ 385),e P S2 166 .none,e P S3 167 .none,e P S4 168 (.builtin tQ),e P S5 169 .none,e P tz 170 (.ref 6),e P tD 171 (.ref 4),e P tE 173 (.str gv 172),e P tF 174 .none,e P ia 193 (.ref 21),e P fP 213 (.ref 31),e P jz 229 (.ref 44),e P jA 245 (.ref 56),e P jB 261 (.ref 68),e P jC 277 (.ref 80),e P jD 293 (.ref 92),e P ic 303 (.ref 101),e P ie 310 (.ref 108),e P ig 317 (.ref 115),e P ii 325 (.ref 122),e P ij 342 (.ref 129),e P oA 346 (.int 4 345),e P ik 356 (.ref 136),e P il 370 (.ref 143),e P im 378 (.ref 150),e P io 384 (.ref 155),e P oB 388 (.int 8 387),e P oC 390 (.int 5 389),e P ip 402 (.ref 162),e P iq 409 (.ref 169)] 30),#[]⟩
def tR (P:Params):Obj:=⟨.none,none,(.fields #[.int 1 0,.int 0 0,.ref 20,.int 5 0,.int 0 0,.ref 27,.int 7 0,.int 0 0,.ref 40,.int 9 0,.int 0 0,.ref 52,.int 11 0,.int 0 0,.ref 64,.int 13 0,.int 0 0,.ref 76,.int 15 0,.int 0 0,.ref 88,.int 18 0,.int 0 0,.ref 100,.int 20 0,.int 0 0,.ref 107,.int 22 0,.int 0 0,.ref 114,.int 24 0,.int 0 0,.ref 121,.int 28 0,.int 0 0,.ref 128,.int 35 0,.int 0 0,.ref 135,.int 39 0,.int 0 0,.ref 142,.int 43 0,.int 0 0,.ref 149,.int 45 0,.int 0 0,.ref 154,.int 58 0,.int 0 0,.ref 161,.int 65 0,.int 0 0,.ref 168]),#[]⟩
def g2 (x0:Str)(x1:Nat)(P:Params):Obj:=⟨(.type L68),none,(.seq #[.str x0 x1] 0),#[]⟩
def o17:=g2 xI 190
def g3 (x0:Str)(x1:Nat)(P:Params):Obj:=⟨.none,none,(.func ⟨x0,x0,L2.defArgs (tp x1),(.stmts (L2.defBody (tp x1))),L2.defScope (tp x1),0,[],.none,.none,.none,.none,none,.none,.none,0⟩),#[]⟩
def o19:=g3 ia 0
def g4 (x0:Str)(x1:Nat)(x2:Str)(x3 x4 x5 x6:Nat)(P:Params):Obj:=⟨(.type oQ),none,(.fields #[.str x0 x1,.str x2 (x1+1),.str gv (x1+2),.int x3 0,.int x4 0,.int 0 0,.int 0 0,.int 3 0,.ref x5,.bool true,.int 181 0,.ref (x5+1),.none,.ref (x5+2),.ref (x5+3),.ref (x5+4),.int x6 0,.int x3 0,.str gv (x6+1)]),#[]⟩
def o20:=g4 ia 187 ia 1 1 15 191
abbrev tS:=SL.s7174869446012820540x8
def g5 (x0:Str)(x1:Nat)(x2:Str)(x3 x4:Nat)(P:Params):Obj:=⟨(.type tS),none,(.func ⟨x0,x0,L2.defArgs (tp x1),(.stmts (L2.defBody (tp x1))),L2.defScope (tp x1),3,[],.none,.none,.none,.str x2 x3,none,.ref x4,.none,0⟩),#[]⟩
def o21:=g5 ia 0 tw 164 20
def o22 (P:Params):Obj:=⟨(.type L68),none,(.seq #[.type L94] 0),#[]⟩
abbrev tT:=SL.s11030030927630378310x26
abbrev yn:=SL.s10062305145149207511x16
def o23 (P:Params):Obj:=⟨(.type tT),none,(.fields #[.builtin yn,.type L69]),#[]⟩
def g6 (x0:Nat)(x1:Str)(x2 x3:Nat)(P:Params):Obj:=⟨(.type L0),none,(.dict #[e P lG x0 (.str fQ 194),e P tG (x0+2) (.str x1 (x0+1)),e P lH (x0+4) (.int x2 (x0+3)),e P lI (x0+5) (.ref x3)] 4),#[]⟩
def o24:=g6 203 fP 5 29
def o27:=g0 fP 198 5 25
def o28:=g1 27 24 fQ 194
def o30 (P:Params):Obj:=⟨(.type L0),none,(.dict #[e P lG 203 (.str fQ 194),e P lH 207 (.int 5 206),e P lI 208 (.ref 29),e P oE 210 (.ref 32),e P S2 211 .none] 3),#[]⟩
abbrev tU:=SL.s4209523147560561109x18
def o31 (P:Params):Obj:=⟨(.type L69),none,(.cls ⟨fP,[.type L94],[.ref 31,.type L94,.type L73,.type L71,.type L60],30,fP,true,[],[.ref 44,.ref 56,.ref 68,.ref 80,.ref 92],false,none,false⟩),#[some (.ref 22),none,some (.str fP 196),some (.str fP 204),some (.builtin tU),some (.bool true)]⟩
abbrev tV:=SL.s14755015743595814543x17
abbrev yo:=SL.s10220274742760427390x26
def g7 (x0 x1:Nat)(P:Params):Obj:=⟨(.type tV),none,(.fields #[.str oE x0,.ref x1,.builtin yo,.none]),#[]⟩
def o32:=g7 209 31
def g8 (x0:Nat)(P:Params):Obj:=⟨(.type L67),none,(.fields #[.ref x0,.ref x0,.ref x0]),#[]⟩
def o33:=g8 31
abbrev yp:=SL.s4860613602091757760x24
def g9 (x0:Nat)(P:Params):Obj:=⟨(.type tT),none,(.fields #[.builtin yp,.ref x0]),#[]⟩
def o34:=g9 31
def o35 (P:Params):Obj:=⟨(.type L68),none,(.seq #[.ref 31] 0),#[]⟩
def o37:=g6 221 jz 7 42
def o40:=g0 jz 216 7 38
def o41:=g1 40 37 fQ 194
def g10 (x0 x1 x2:Nat)(P:Params):Obj:=⟨(.type L0),none,(.dict #[e P lG x0 (.str fQ 194),e P lH (x0+4) (.int x1 (x0+3)),e P lI (x0+5) (.ref x2),e P S2 (x0+6) .none] 2),#[]⟩
def o43:=g10 221 7 42
def g11 (x0:Str)(x1 x2 x3 x4:Nat)(P:Params):Obj:=⟨(.type L69),none,(.cls ⟨x0,[.ref 31],[.ref x1,.ref 31,.type L94,.type L73,.type L71,.type L60],x2,x0,true,[],[],false,none,false⟩),#[some (.ref x3),none,some (.str x0 x4),some (.str x0 (x4+8)),some (.builtin tU),some (.bool true)]⟩
def o44:=g11 jz 44 43 35 214
def o45:=g8 44
def o46:=g9 44
def o49:=g6 237 jA 9 54
def o52:=g0 jA 232 9 50
def o53:=g1 52 49 fQ 194
def o55:=g10 237 9 54
def o56:=g11 jA 56 55 47 230
def o57:=g8 56
def o58:=g9 56
def o61:=g6 253 jB 11 66
def o64:=g0 jB 248 11 62
def o65:=g1 64 61 fQ 194
def o67:=g10 253 11 66
def o68:=g11 jB 68 67 59 246
def o69:=g8 68
def o70:=g9 68
def o73:=g6 269 jC 13 78
def o76:=g0 jC 264 13 74
def o77:=g1 76 73 fQ 194
def o79:=g10 269 13 78
def o80:=g11 jC 80 79 71 262
def o81:=g8 80
def o82:=g9 80
def o85:=g6 285 jD 15 90
def o88:=g0 jD 280 15 86
def o89:=g1 88 85 fQ 194
def o91:=g10 285 15 90
def o92:=g11 jD 92 91 83 278
def o93:=g8 92
def o94:=g9 92
def g12 (x0:Str)(x1:Nat)(x2:Str)(P:Params):Obj:=⟨(.type L68),none,(.seq #[.str x0 x1,.str x2 (x1+1)] 0),#[]⟩
def o97:=g12 lJ 299 xJ
def o99:=g3 ic 9
def oR:=g4 ic 296 ic 18 2 95 301
def oS:=g5 ic 9 mU 294 100
def oT:=g2 lJ 307
def oU:=g3 ie 10
def oV:=g4 ie 304 ie 20 1 102 308
def oW:=g5 ie 10 mU 294 107
def oX:=g2 lJ 314
def oY:=g3 ig 11
def oZ:=g4 ig 311 ig 22 1 109 315
def pb:=g5 ig 11 mU 294 114
def pe:=g12 lK 321 lL
def pf:=g3 ii 12
def ph:=g4 ii 318 ii 24 2 116 323
def pi:=g5 ii 12 mU 294 121
def pj (P:Params):Obj:=⟨(.type L68),none,(.seq #[.str oF 331,.str lK 332,.str lL 333,.str lM 334,.str mV 335,.str tH 336,.str tI 337,.str xK 338,.str xL 339] 0),#[]⟩
def pk:=g3 ij 14
def pr:=g4 ij 328 ij 28 7 123 340
def pw:=g5 ij 14 xM 326 128
def g13 (x0:Str)(x1:Nat)(x2 x3 x4:Str)(P:Params):Obj:=⟨(.type L68),none,(.seq #[.str x0 x1,.str x2 (x1+1),.str x3 (x1+2),.str x4 (x1+3)] 0),#[]⟩
def pC:=g13 oF 350 lK lL lJ
def pE:=g3 ik 17
def pF:=g4 ik 347 ik 35 4 130 354
def pG:=g5 ik 17 mW 343 135
def pH (P:Params):Obj:=⟨(.type L68),none,(.seq #[.str oF 360,.str xN 361,.str lM 362,.str mV 363,.str tH 364,.str tI 365,.str lK 366,.str lL 367] 0),#[]⟩
def pI:=g3 il 18
def pJ:=g4 il 357 il 39 2 137 368
def pK:=g5 il 18 mW 343 142
def pL:=g12 xO 374 xP
def pM:=g3 im 19
def pN:=g4 im 371 im 43 2 144 376
def pO:=g5 im 19 mW 343 149
def pP:=g3 io 20
def g14 (x0:Str)(x1:Nat)(x2:Str)(x3 x4 x5:Nat)(P:Params):Obj:=⟨(.type oQ),none,(.fields #[.str x0 x1,.str x2 (x1+1),.str gv (x1+2),.int x3 0,.int x4 0,.int 0 0,.int 0 0,.int 3 0,.ref x5,.bool true,.int 181 0,.ref (x5+1),.none,.none,.none,.ref (x5+2),.int (x1+3) 0,.int x3 0,.str gv (x1+4)]),#[]⟩
def pQ:=g14 io 379 io 45 4 151
def pR:=g5 io 20 mW 343 154
def g15 (x0:Str)(x1:Nat)(x2 x3 x4 x5 x6:Str)(P:Params):Obj:=⟨(.type L68),none,(.seq #[.str x0 x1,.str x2 (x1+1),.str x3 (x1+2),.str x4 (x1+3),.str x5 (x1+4),.str x6 (x1+5)] 0),#[]⟩
def pS:=g15 lJ 394 lK lL xQ jE xR
def pT:=g3 ip 24
def pU:=g4 ip 391 ip 58 1 156 400
def pV:=g5 ip 24 hZ 385 161
def pW:=g2 lM 406
def pX:=g3 iq 25
def pY:=g4 iq 403 iq 65 1 163 407
def pZ:=g5 iq 25 hZ 385 168
def t0:Params->BT:=(f boot_o_0 (f boot_o_1 (f ym (f boot_o_7 (f o11 (f o31 (f o12 (f pk z z) z) (f o11 (f o11 z z) z)) (f o35 (f o79 (f pK z z) z) (f oX z z))) (f o23 (f o12 (f o35 (f pF z z) z) (f o12 (f pX z z) z)) (f o55 (f o12 (f o11 z z) z) (f o11 z z)))) (f o11 (f o19 (f o35 (f o67 (f o12 z z) z) (f o99 (f o11 z z) z)) (f o12 (f o35 (f o11 z z) z) (f pb z z))) (f o27 (f o43 (f o12 (f pH z z) z) (f oV z z)) (f o35 (f o91 (f pR z z) z) (f o11 z z))))) (f boot_o_5 (f boot_o_9 (f o17 (f o33 (f o65 (f pw z z) z) (f o97 (f pU z z) z)) (f o49 (f o81 (f o12 z z) z) (f oY z z))) (f o11 (f o41 (f o73 (f o11 z z) z) (f o11 (f pZ z z) z)) (f o57 (f o89 (f pP z z) z) (f ph z z)))) (f o13 (f o21 (f o37 (f o69 (f o11 z z) z) (f oS (f pW z z) z)) (f o53 (f o85 (f pN z z) z) (f o12 z z))) (f o11 (f o45 (f o77 (f pI z z) z) (f o11 z z)) (f o61 (f o93 (f o12 z z) z) (f pj z z)))))) (f boot_o_2 (f boot_o_4 (f boot_o_8 (f o12 (f o32 (f o64 (f pr z z) z) (f o12 (f pT z z) z)) (f o23 (f o80 (f o11 z z) z) (f o11 z z))) (f o24 (f o40 (f o23 (f pG z z) z) (f oT (f pY z z) z)) (f o56 (f o88 (f o12 z z) z) (f pf z z)))) (f tR (f o20 (f o23 (f o68 (f pC z z) z) (f oR (f o12 z z) z)) (f o52 (f o23 (f pM z z) z) (f o11 z z))) (f o28 (f o44 (f o76 (f o11 z z) z) (f oW z z)) (f o23 (f o92 (f o11 z z) z) (f o12 z z))))) (f boot_o_6 (f boot_o_10 (f o11 (f o34 (f o11 (f o11 z z) z) (f o11 (f pV z z) z)) (f o11 (f o82 (f pL z z) z) (f oZ z z))) (f o12 (f o11 (f o11 (f o12 z z) z) (f oU z z)) (f o58 (f o11 (f pQ z z) z) (f pi z z)))) (f o14 (f o22 (f o11 (f o70 (f pE z z) z) (f o11 (f o11 z z) z)) (f o11 (f o11 (f pO z z) z) (f pe z z))) (f o30 (f o46 (f o11 (f pJ z z) z) (f o12 z z)) (f o11 (f o94 (f pS z z) z) (f o11 z z)))))))
abbrev s0 (w:Ao) (os:OsState):SharedT:=⟨t0 w.params,170,{ },(Array.mk []),⟨0,0,0,0⟩,410,os⟩
abbrev p0:Pos:=⟨65,0,66,41⟩
abbrev st0:List Stmt:=(pt.main.body.drop 0).take 26
theorem q0 (w:Ao):(λ os=>segRunT treeTable pt w m0 an 1 1695 (sB w os) ⟨(execs st0 en).wrap doneF deadEnd id id,cE,pB,B⟩)=λ os=>some (.next,s0 w os,cE,p0):=by rw [PySem.W.Fast.te10110043849684766642,PySem.W.Fast.te14364793385576792824,PySem.W.Fast.te12563942051412417395]; kernel_rfl
def tW (P:Params):Obj:=⟨(.type L0),none,(.dict #[e P S0 165 (.str bJ 484),e P S2 166 .none,e P S3 167 .none,e P S4 168 (.builtin tQ),e P S5 169 .none,e P tz 170 (.ref 6),e P tD 171 (.ref 4),e P tE 173 (.str gv 172),e P tF 174 .none,e P ia 193 (.ref 21),e P fP 213 (.ref 31),e P jz 229 (.ref 44),e P jA 245 (.ref 56),e P jB 261 (.ref 68),e P jC 277 (.ref 80),e P jD 293 (.ref 92),e P ic 303 (.ref 101),e P ie 310 (.ref 108),e P ig 317 (.ref 115),e P ii 325 (.ref 122),e P ij 342 (.ref 129),e P oA 346 (.int 4 345),e P ik 356 (.ref 136),e P il 370 (.ref 143),e P im 378 (.ref 150),e P io 384 (.ref 155),e P oB 388 (.int 8 387),e P oC 390 (.int 5 389),e P ip 402 (.ref 162),e P iq 409 (.ref 169),e P gw 483 (.ref 224),e P jF 493 (.ref 235),e P jG 501 (.ref 242),e P jH 510 (.ref 249),e P jI 518 (.ref 256),e P jJ 527 (.ref 263),e P jK 535 (.ref 270),e P jL 548 (.ref 277),e P jM 559 (.ref 284),e P jN 569 (.ref 291),e P jO 578 (.ref 298),e P jP 586 (.ref 305),e P jQ 592 (.ref 310),e P jR 612 (.ref 317),e P jS 622 (.ref 324),e P jT 630 (.ref 331),e P jU 640 (.ref 338),e P jV 652 (.ref 345),e P jW 660 (.ref 352),e P jX 671 (.ref 359),e P jY 681 (.ref 366),e P jZ 694 (.ref 373),e P lN 710 (.ref 380)] 53),#[]⟩
def nF (P:Params):Obj:=⟨.none,none,(.fields #[.int 1 0,.int 0 0,.ref 20,.int 5 0,.int 0 0,.ref 27,.int 7 0,.int 0 0,.ref 40,.int 9 0,.int 0 0,.ref 52,.int 11 0,.int 0 0,.ref 64,.int 13 0,.int 0 0,.ref 76,.int 15 0,.int 0 0,.ref 88,.int 18 0,.int 0 0,.ref 100,.int 20 0,.int 0 0,.ref 107,.int 22 0,.int 0 0,.ref 114,.int 24 0,.int 0 0,.ref 121,.int 28 0,.int 0 0,.ref 128,.int 35 0,.int 0 0,.ref 135,.int 39 0,.int 0 0,.ref 142,.int 43 0,.int 0 0,.ref 149,.int 45 0,.int 0 0,.ref 154,.int 58 0,.int 0 0,.ref 161,.int 65 0,.int 0 0,.ref 168,.int 67 0,.int 0 0,.ref 175,.int 105 0,.int 0 0,.ref 234,.int 109 0,.int 0 0,.ref 241,.int 111 0,.int 0 0,.ref 248,.int 118 0,.int 0 0,.ref 255,.int 121 0,.int 0 0,.ref 262,.int 125 0,.int 0 0,.ref 269,.int 128 0,.int 0 0,.ref 276,.int 136 0,.int 0 0,.ref 283,.int 139 0,.int 0 0,.ref 290,.int 146 0,.int 0 0,.ref 297,.int 149 0,.int 0 0,.ref 304,.int 151 0,.int 0 0,.ref 309,.int 156 0,.int 0 0,.ref 316,.int 170 0,.int 0 0,.ref 323,.int 175 0,.int 0 0,.ref 330,.int 177 0,.int 0 0,.ref 337,.int 183 0,.int 0 0,.ref 344,.int 192 0,.int 0 0,.ref 351,.int 196 0,.int 0 0,.ref 358,.int 212 0,.int 0 0,.ref 365,.int 220 0,.int 0 0,.ref 372,.int 226 0,.int 0 0,.ref 379]),#[]⟩
def tX (P:Params):Obj:=⟨(.type L0),none,(.dict #[e P lG 417 (.str hZ 385),e P tG 419 (.str gw 418),e P lH 421 (.int 67 420),e P lO 427 (.ref 181),e P lP 434 (.ref 188),e P lQ 441 (.ref 195),e P jE 447 (.ref 200),e P lR 454 (.ref 207),e P lS 463 (.ref 214),e P lT 473 (.ref 221),e P lI 476 (.ref 222)] 11),#[]⟩
def tY (P:Params):Obj:=⟨.none,none,(.fields #[.int 69 0,.int 4 0,.ref 180,.int 80 0,.int 4 0,.ref 187,.int 83 0,.int 4 0,.ref 194,.int 86 0,.int 4 0,.ref 199,.int 89 0,.int 4 0,.ref 206,.int 92 0,.int 4 0,.ref 213,.int 97 0,.int 4 0,.ref 220]),#[]⟩
def tZ:=g0 gw 412 67 173
def uh:=g1 175 172 hZ 385
def g16 (x0 x1:Str)(x2:Nat)(P:Params):Obj:=⟨.none,none,(.func ⟨x0,x1,L2.defArgs (L2.inClass (tp 26) x2),(.stmts (L2.defBody (L2.inClass (tp 26) x2))),L2.defScope (L2.inClass (tp 26) x2),0,[],.none,.none,.none,.none,none,.none,.none,0⟩),#[]⟩
def ui:=g16 lO oG 0
def uj:=g14 lO 422 oG 69 3 177
def g17 (x0 x1:Str)(x2 x3:Nat)(P:Params):Obj:=⟨(.type tS),none,(.func ⟨x0,x1,L2.defArgs (L2.inClass (tp 26) x2),(.stmts (L2.defBody (L2.inClass (tp 26) x2))),L2.defScope (L2.inClass (tp 26) x2),3,[],.none,.none,.none,.str hZ 385,none,.ref x3,.none,0⟩),#[]⟩
def uk:=g17 lO oG 0 180
def um:=g2 lU 431
def uo:=g16 lP oH 1
def up:=g4 lP 428 oH 80 1 182 432
def uq:=g17 lP oH 1 187
def ur:=g2 lU 438
def ut:=g16 lQ oI 2
def uu:=g4 lQ 435 oI 83 1 189 439
def uv:=g17 lQ oI 2 194
def uw:=g16 jE oJ 3
def ux:=g14 jE 442 oJ 86 1 196
def uy:=g17 jE oJ 3 199
def uz:=g2 lU 451
def uA:=g16 lR oK 4
def uB:=g4 lR 448 oK 89 1 201 452
def uC:=g17 lR oK 4 206
def g18 (x0:Str)(x1:Nat)(x2 x3:Str)(P:Params):Obj:=⟨(.type L68),none,(.seq #[.str x0 x1,.str x2 (x1+1),.str x3 (x1+2)] 0),#[]⟩
def uD:=g18 lU 458 lM mV
def uE:=g16 lS oM 5
def uF:=g4 lS 455 oM 92 3 208 461
def uG:=g17 lS oM 5 213
def uH:=g13 lU 467 lM mV xS
def uI:=g16 lT oN 6
def uJ:=g4 lT 464 oN 97 3 215 471
def uK:=g17 lT oN 6 220
def uL:=g12 xT 474 xU
def uM (P:Params):Obj:=⟨(.type L0),none,(.dict #[e P lG 417 (.str hZ 385),e P lH 421 (.int 67 420),e P lO 427 (.ref 181),e P lP 434 (.ref 188),e P lQ 441 (.ref 195),e P jE 447 (.ref 200),e P lR 454 (.ref 207),e P lS 463 (.ref 214),e P lT 473 (.ref 221),e P lI 476 (.ref 222),e P tJ 478 (.ref 225),e P oE 480 (.ref 226),e P S2 481 .none] 4),#[]⟩
abbrev yq:=SL.s11443829558043349243x14
def uN (P:Params):Obj:=⟨(.type L69),none,(.cls ⟨gw,[.type L60],[.ref 224,.type L60],223,gw,true,[],[],false,none,false⟩),#[none,none,some (.str gw 410),some (.str gw 418),some (.builtin yq),some (.bool true)]⟩
abbrev yr:=SL.s6511155373996960695x17
abbrev yt:=SL.s12411053484034534018x21
def uO (P:Params):Obj:=⟨(.type tV),none,(.fields #[.str tJ 477,.ref 224,.builtin yr,.builtin yt]),#[]⟩
def uP:=g7 479 224
def uQ:=g8 224
def uR:=g9 224
def uS:=g12 tK 489 ke
def uT:=g3 jF 28
def uU:=g4 jF 486 jF 105 2 229 491
def uV:=g5 jF 28 bJ 484 234
def uW:=g12 xV 497 ke
def uX:=g3 jG 29
def uY:=g4 jG 494 jG 109 2 236 499
def uZ:=g5 jG 29 bJ 484 241
def va:=g18 eK 505 tL xW
def vb:=g3 jH 30
def vc:=g4 jH 502 jH 111 2 243 508
def vd:=g5 jH 30 bJ 484 248
def ve:=g12 eK 514 mX
def vf:=g3 jI 31
def vg:=g4 jI 511 jI 118 1 250 516
def vh:=g5 jI 31 bJ 484 255
def vi:=g18 eK 522 oO xX
def vj:=g3 jJ 32
def vk:=g4 jJ 519 jJ 121 3 257 525
def vm:=g5 jJ 32 bJ 484 262
def vn:=g12 eK 531 mX
def vo:=g3 jK 33
def vp:=g4 jK 528 jK 125 1 264 533
def vq:=g5 jK 33 bJ 484 269
def g19 (x0:Str)(x1:Nat)(x2 x3 x4 x5 x6 x7:Str)(P:Params):Obj:=⟨(.type L68),none,(.seq #[.str x0 x1,.str x2 (x1+1),.str x3 (x1+2),.str x4 (x1+3),.str x5 (x1+4),.str x6 (x1+5),.str x7 (x1+6)] 0),#[]⟩
def vt:=g19 eK 539 oO xY xZ ke ir iu
def vw:=g3 jL 34
def vy:=g4 jL 536 jL 128 2 271 546
def vz:=g5 jL 34 bJ 484 276
def g20 (x0:Str)(x1:Nat)(x2 x3 x4 x5:Str)(P:Params):Obj:=⟨(.type L68),none,(.seq #[.str x0 x1,.str x2 (x1+1),.str x3 (x1+2),.str x4 (x1+3),.str x5 (x1+4)] 0),#[]⟩
def vA:=g20 gx 552 oP tM ir iu
def vB:=g3 jM 35
def vC:=g4 jM 549 jM 136 3 278 557
def vD:=g5 jM 35 bJ 484 283
def vE:=g13 gx 563 lV ke oP
def vF:=g3 jN 36
def vG:=g4 jN 560 jN 139 1 285 567
def vH:=g5 jN 36 bJ 484 290
def vI:=g18 gx 573 mY ya
def vJ:=g3 jO 37
def vK:=g4 jO 570 jO 146 2 292 576
def vL:=g5 jO 37 bJ 484 297
def vM:=g12 yb 582 yc
def vN:=g3 jP 38
def vO:=g4 jP 579 jP 149 2 299 584
def vP:=g5 jP 38 bJ 484 304
def vQ:=g3 jQ 39
def vR:=g14 jQ 587 jQ 151 5 306
def vS:=g5 jQ 39 bJ 484 309
def vT (P:Params):Obj:=⟨(.type L68),none,(.seq #[.str eK 596,.str gx 597,.str ir 598,.str iu 599,.str mZ 600,.str tL 601,.str mX 602,.str lV 603,.str ke 604,.str oP 605,.str tM 606,.str yd 607,.str ye 608,.str yf 609] 0),#[]⟩
def vU:=g3 jR 40
def vV:=g4 jR 593 jR 156 6 311 610
def vW:=g5 jR 40 bJ 484 316
def vX:=g13 eK 616 mZ lV mY
def vY:=g3 jS 41
def vZ:=g4 jS 613 jS 170 2 318 620
def wc:=g5 jS 41 bJ 484 323
def we:=g12 ng 626 yg
def wf:=g3 jT 42
def wg:=g4 jT 623 jT 175 2 325 628
def wj:=g5 jT 42 bJ 484 330
def wk:=g13 gx 634 ir iu ng
def wm:=g3 jU 43
def wn:=g4 jU 631 jU 177 4 332 638
def wq:=g5 jU 43 bJ 484 337
def wr:=g15 gx 644 ir iu ng lV mY
def wu:=g3 jV 44
def wv:=g4 jV 641 jV 183 4 339 650
def ww:=g5 jV 44 bJ 484 344
def wx:=g12 eK 656 mX
def wy:=g3 jW 45
def wz:=g4 jW 653 jW 192 1 346 658
def wA:=g5 jW 45 bJ 484 351
def wB:=g20 eK 664 mY tN tO yh
def wC:=g3 jX 46
def wD:=g4 jX 661 jX 196 2 353 669
def wE:=g5 jX 46 bJ 484 358
def wF:=g13 eK 675 mZ tO tN
def wG:=g3 jY 47
def wH:=g4 jY 672 jY 212 2 360 679
def wI:=g5 jY 47 bJ 484 365
def wJ:=g19 gx 685 tP ir iu ng yi lV
def wK:=g3 jZ 48
def wL:=g4 jZ 682 jZ 220 5 367 692
def wM:=g5 jZ 48 bJ 484 372
def wN (P:Params):Obj:=⟨(.type L68),none,(.seq #[.str tK 698,.str ke 699,.str eK 700,.str oO 701,.str gx 702,.str tP 703,.str ir 704,.str iu 705,.str mZ 706,.str yj 707] 0),#[]⟩
def wO:=g3 lN 49
def wP:=g4 lN 695 lN 226 1 374 708
def wQ:=g5 lN 49 bJ 484 379
def t1:Params->BT:=(f boot_o_0 (f boot_o_1 (f tW (f boot_o_7 (f o11 (f o31 (f o12 (f pk (f vg z z) z) (f ur (f o12 z z) z)) (f o11 (f o11 (f vE z z) z) (f uM (f wz z z) z))) (f o35 (f o79 (f pK (f o11 z z) z) (f uC (f o11 z z) z)) (f oX (f tZ (f vN z z) z) (f o11 (f o11 z z) z)))) (f o23 (f o12 (f o35 (f pF (f vm z z) z) (f ux (f we z z) z)) (f o12 (f pX (f o11 z z) z) (f uS (f wE z z) z))) (f o55 (f o12 (f o11 (f o12 z z) z) (f o11 (f wu z z) z)) (f o11 (f o12 (f o11 z z) z) (f vb (f o12 z z) z))))) (f o11 (f o19 (f o35 (f o67 (f o12 (f vi z z) z) (f uv (f vZ z z) z)) (f o99 (f o11 (f vH z z) z) (f uQ (f wB z z) z))) (f o12 (f o35 (f o11 (f vw z z) z) (f o11 (f o11 z z) z)) (f pb (f ui (f o12 z z) z) (f o11 (f wK z z) z)))) (f o27 (f o43 (f o12 (f pH (f o11 z z) z) (f uz (f wj z z) z)) (f oV (f o23 (f o11 z z) z) (f uV (f o11 z z) z))) (f o35 (f o91 (f pR (f vC z z) z) (f uI (f o12 z z) z)) (f o11 (f up (f vU z z) z) (f o12 (f wP z z) z)))))) (f boot_o_5 (f boot_o_9 (f o17 (f o33 (f o65 (f pw (f o11 z z) z) (f ut (f o11 z z) z)) (f o97 (f pU (f vF z z) z) (f uO (f o11 z z) z))) (f o49 (f o81 (f o12 (f vt z z) z) (f o12 (f wn z z) z)) (f oY (f o11 (f vP z z) z) (f uY (f wJ z z) z)))) (f o11 (f o41 (f o73 (f o11 (f o12 z z) z) (f o11 (f wf z z) z)) (f o11 (f pZ (f vK z z) z) (f uT (f o12 z z) z))) (f o57 (f o89 (f pP (f o11 z z) z) (f uH (f ww z z) z)) (f ph (f o11 (f vT z z) z) (f vd (f o11 z z) z))))) (f o13 (f o21 (f o37 (f o69 (f o11 (f vj z z) z) (f o12 (f o11 z z) z)) (f oS (f pW (f o12 z z) z) (f o11 (f wC z z) z))) (f o53 (f o85 (f pN (f vz z z) z) (f uF (f wr z z) z)) (f o12 (f uk (f vR z z) z) (f va (f wM z z) z)))) (f o11 (f o45 (f o77 (f pI (f vp z z) z) (f uA (f o12 z z) z)) (f o11 (f o11 (f vM z z) z) (f o12 (f wH z z) z))) (f o61 (f o93 (f o12 (f o11 z z) z) (f uK (f o11 z z) z)) (f pj (f o11 (f vW z z) z) (f o11 z z))))))) (f boot_o_2 (f boot_o_4 (f boot_o_8 (f o12 (f o32 (f o64 (f pr (f vh z z) z) (f o11 (f vX z z) z)) (f o12 (f pT (f o11 z z) z) (f uN (f wA z z) z))) (f o23 (f o80 (f o11 (f o12 z z) z) (f o11 (f wm z z) z)) (f o11 (f uh (f vO z z) z) (f uX (f o12 z z) z)))) (f o24 (f o40 (f o23 (f pG (f o11 z z) z) (f uy (f o11 z z) z)) (f oT (f pY (f vJ z z) z) (f o11 (f o11 z z) z))) (f o56 (f o88 (f o12 (f vA z z) z) (f o12 (f wv z z) z)) (f pf (f um (f o12 z z) z) (f vc (f wN z z) z))))) (f nF (f o20 (f o23 (f o68 (f pC (f o11 z z) z) (f o11 (f wc z z) z)) (f oR (f o12 (f o11 z z) z) (f uR (f o11 z z) z))) (f o52 (f o23 (f pM (f vy z z) z) (f uE (f o12 z z) z)) (f o11 (f uj (f vQ z z) z) (f o12 (f wL z z) z)))) (f o28 (f o44 (f o76 (f o11 (f vo z z) z) (f o11 (f o11 z z) z)) (f oW (f tX (f o12 z z) z) (f o11 (f wG z z) z))) (f o23 (f o92 (f o11 (f vD z z) z) (f uJ (f wx z z) z)) (f o12 (f uq (f vV z z) z) (f ve (f wQ z z) z)))))) (f boot_o_6 (f boot_o_10 (f o11 (f o34 (f o11 (f o11 (f o12 z z) z) (f uu (f vY z z) z)) (f o11 (f pV (f vG z z) z) (f uP (f o12 z z) z))) (f o11 (f o82 (f pL (f o11 z z) z) (f uD (f wq z z) z)) (f oZ (f o12 (f o11 z z) z) (f uZ (f o11 z z) z)))) (f o12 (f o11 (f o11 (f o12 (f vn z z) z) (f o12 (f wg z z) z)) (f oU (f o11 (f vL z z) z) (f uU (f wF z z) z))) (f o58 (f o11 (f pQ (f vB z z) z) (f o11 (f o11 z z) z)) (f pi (f uo (f o11 z z) z) (f o11 (f wO z z) z))))) (f o14 (f o22 (f o11 (f o70 (f pE (f vk z z) z) (f uw (f o12 z z) z)) (f o11 (f o11 (f vI z z) z) (f o12 (f wD z z) z))) (f o11 (f o11 (f pO (f o11 z z) z) (f uG (f o11 z z) z)) (f pe (f o11 (f vS z z) z) (f o11 (f o11 z z) z)))) (f o30 (f o46 (f o11 (f pJ (f vq z z) z) (f uB (f wk z z) z)) (f o12 (f tY (f o11 z z) z) (f uW (f wI z z) z))) (f o11 (f o94 (f pS (f o12 z z) z) (f uL (f wy z z) z)) (f o11 (f o12 (f o11 z z) z) (f vf z z))))))))
abbrev s1 (w:Ao) (os:OsState):SharedT:=⟨t1 w.params,381,{ },(Array.mk []),⟨0,0,0,0⟩,711,os⟩
abbrev p1:Pos:=⟨226,0,241,15⟩
abbrev st1:List Stmt:=(pt.main.body.drop 26).take 24
theorem q1 (w:Ao):(λ os=>segRunT treeTable pt w m0 an 1 1124 (s0 w os) ⟨(execs st1 en).wrap doneF deadEnd id id,cE,p0,B⟩)=λ os=>some (.next,s1 w os,cE,p1):=by rw [PySem.W.Fast.te10110043849684766642,PySem.W.Fast.te14364793385576792824,PySem.W.Fast.te12563942051412417395]; kernel_rfl
def hF (P:Params):Heap:=⟨⟨[boot_o_0 P,boot_o_1 P,boot_o_2 P,tW P,boot_o_4 P,boot_o_5 P,boot_o_6 P,boot_o_7 P,boot_o_8 P,boot_o_9 P,boot_o_10 P,o11 P,nF P,o13 P,o14 P,o11 P,o12 P,o17 P,o11 P,o19 P,o20 P,o21 P,o22 P,o23 P,o24 P,o11 P,o12 P,o27 P,o28 P,o11 P,o30 P,o31 P,o32 P,o33 P,o34 P,o35 P,o23 P,o37 P,o11 P,o12 P,o40 P,o41 P,o11 P,o43 P,o44 P,o45 P,o46 P,o35 P,o23 P,o49 P,o11 P,o12 P,o52 P,o53 P,o11 P,o55 P,o56 P,o57 P,o58 P,o35 P,o23 P,o61 P,o11 P,o12 P,o64 P,o65 P,o11 P,o67 P,o68 P,o69 P,o70 P,o35 P,o23 P,o73 P,o11 P,o12 P,o76 P,o77 P,o11 P,o79 P,o80 P,o81 P,o82 P,o35 P,o23 P,o85 P,o11 P,o12 P,o88 P,o89 P,o11 P,o91 P,o92 P,o93 P,o94 P,o11 P,o12 P,o97 P,o11 P,o99 P,oR P,oS P,o11 P,o12 P,oT P,o11 P,oU P,oV P,oW P,o11 P,o12 P,oX P,o11 P,oY P,oZ P,pb P,o11 P,o12 P,pe P,o11 P,pf P,ph P,pi P,o11 P,o12 P,pj P,o11 P,pk P,pr P,pw P,o11 P,o12 P,pC P,o11 P,pE P,pF P,pG P,o11 P,o12 P,pH P,o11 P,pI P,pJ P,pK P,o11 P,o12 P,pL P,o11 P,pM P,pN P,pO P,o11 P,o12 P,pP P,pQ P,pR P,o11 P,o12 P,pS P,o11 P,pT P,pU P,pV P,o11 P,o12 P,pW P,o11 P,pX P,pY P,pZ P,o11 P,o23 P,tX P,o11 P,tY P,tZ P,uh P,o11 P,o12 P,ui P,uj P,uk P,o11 P,o12 P,um P,o11 P,uo P,up P,uq P,o11 P,o12 P,ur P,o11 P,ut P,uu P,uv P,o11 P,o12 P,uw P,ux P,uy P,o11 P,o12 P,uz P,o11 P,uA P,uB P,uC P,o11 P,o12 P,uD P,o11 P,uE P,uF P,uG P,o11 P,o12 P,uH P,o11 P,uI P,uJ P,uK P,uL P,uM P,uN P,uO P,uP P,uQ P,uR P,o11 P,o12 P,uS P,o11 P,uT P,uU P,uV P,o11 P,o12 P,uW P,o11 P,uX P,uY P,uZ P,o11 P,o12 P,va P,o11 P,vb P,vc P,vd P,o11 P,o12 P,ve P,o11 P,vf P,vg P,vh P,o11 P,o12 P,vi P,o11 P,vj P,vk P,vm P,o11 P,o12 P,vn P,o11 P,vo P,vp P,vq P,o11 P,o12 P,vt P,o11 P,vw P,vy P,vz P,o11 P,o12 P,vA P,o11 P,vB P,vC P,vD P,o11 P,o12 P,vE P,o11 P,vF P,vG P,vH P,o11 P,o12 P,vI P,o11 P,vJ P,vK P,vL P,o11 P,o12 P,vM P,o11 P,vN P,vO P,vP P,o11 P,o12 P,vQ P,vR P,vS P,o11 P,o12 P,vT P,o11 P,vU P,vV P,vW P,o11 P,o12 P,vX P,o11 P,vY P,vZ P,wc P,o11 P,o12 P,we P,o11 P,wf P,wg P,wj P,o11 P,o12 P,wk P,o11 P,wm P,wn P,wq P,o11 P,o12 P,wr P,o11 P,wu P,wv P,ww P,o11 P,o12 P,wx P,o11 P,wy P,wz P,wA P,o11 P,o12 P,wB P,o11 P,wC P,wD P,wE P,o11 P,o12 P,wF P,o11 P,wG P,wH P,wI P,o11 P,o12 P,wJ P,o11 P,wK P,wL P,wM P,o11 P,o12 P,wN P,o11 P,wO P,wP P,wQ P]⟩,{ }⟩
abbrev sF (w:Ao) (os:OsState):Al:=⟨hF w.params,(Array.mk []),⟨0,0,0,0⟩,711,os⟩
theorem fin (w:Ao):(λ os=>topRun treeTable pt w m0 an 2 (s1 w os).abs ⟨doneF .next,cE,p1,B⟩)=λ os=>some (sF w os):=by rw [PySem.W.Fast.te14082659384304107361,PySem.W.Fast.te14364793385576792824]; kernel_rfl
theorem nh:behindTheImports pt=st0 ++ (st1 ++ ([])):=by kernel_rfl
abbrev MM:Nat:=12 + (1 + (1695 + (1124 + 2)))
theorem qa (w:Ao) (os:OsState):topRun treeTable pt w m0 an MM (sZ w os) (topStub pt)=some (sF w os) :=
 go_top (congrFun (pre w) os) (piece_block (congrFun (blk w) os) (nh ▸ (piece_app (l:=st0) (segRun_of (congrFun (q0 w) os)) (piece_app (l:=st1) (segRun_of (congrFun (q1 w) os)) (piece_nil (congrFun (fin w) os))))))
def loose:List Str:=[ia,fP,jz,jA,jB,jC,jD,ic,ie,ig,ii,ij,oA,ik,il,im,io,oB,oC,ip,iq,gw,jF,jG,jH,jI,jJ,jK,jL,jM,jN,jO,jP,jQ,jR,jS,jT,jU,jV,jW,jX,jY,jZ]
abbrev NN:Nat:=5760
abbrev q:Am:=view pt [49]
abbrev Xt:Al->Bool:=λ s=>xlAt q [] s && recOk [] s
theorem size (w:Ao):((boot_heap w.params).isNs mainGlobals && (Array.mk []:Array GenState).size == 0,(boot_heap w.params).objs.size,(boot_heap w.params).nsMap mainGlobals "__annotations__")=(true,m0,an):=by rw [PySem.W.Fast.te8920871248978507458]; kernel_rfl
theorem wR (w:Ao):(λ os=>((staticsOk (importedModules pt.main.body) (boot_heap w.params) (hF w.params) && namesBound pt (hF w.params) && gensDone (sF w os) && laidKept (boot_heap w.params) (hF w.params)),openSeen q loose (importedModules pt.main.body) Xt true (sF w os),HK.obs (sF w os)))=λ _=>(true,openGood q loose,HK.val w):=by rw [PySem.W.Fast.te4187177175401517315,PySem.W.Fast.te5923862056798008813]; kernel_rfl
theorem left:LeftO pt q loose Xt HK.obs HK.val NN true:=LeftO.of_pieces (boot_open (by kernel_rfl) (by decide) (λ s=>rfl)) size qa (by decide) wR
end Hd
open PySem PySem.W PyProof.Rows
set_option maxRecDepth 100000 in
set_option maxHeartbeats 0 in
theorem PySem.Challenge.cw_platecuts_k31_layings_judged_holds : PySem.Challenge.rw_platecuts_k31_layings_judged.Holds := by
 w_on; o_law
 refine holds_open (q:=view PySem.Challenge.pw_platecuts_k31_layings_judged [49]) (loose:=Hd.loose) (Xt:=λ s=>xlAt (view PySem.Challenge.pw_platecuts_k31_layings_judged [49]) [] s && recOk [] s) (XP:=XL (view PySem.Challenge.pw_platecuts_k31_layings_judged [49]) []) (Yf:=Hook.obs Hd.HK) (Ya:=Hook.val Hd.HK) (YP:=InK Pc.kK) (N:=Hd.NN) ?hl (Hook.of Hd.HK) (Hook.keeps Hd.HK) (λ s e=>xl_of s (AX.mp e).1) XL.keeps (by rfl) (by rfl) (by rfl) (λ s e=>recFacts_of (AX.mp e).2) (by rfl) (by first | assumption | decide +kernel) (by decide +kernel) ⟨rfl,rfl,rfl,rfl,rfl,by decide +kernel⟩ ?hw ?hc
 case hl=>exact Hd.pt_eq ▸ Hd.left
 case hw=>w_witness2
 k_fill
 refine Pc.walk (l:=PySem.Challenge.rw_platecuts_k31_layings_judged) rfl rfl (λ w h Y=>Y) ?F
 case F =>
  intro w mg fa h KX G hmg;refine' Pc.all_mk KX G hmg ?d0 ?d1 ?d2 ?d3 ?d4 ?d5 ?d6 ?d7 ?d8 ?d9 ?d10 ?d11 ?d12 ?d13 ?d14 ?d15 ?d16 ?d17 ?d18 ?d19 ?d20 ?d21 ?d22 ?d23 ?d24 ?d25 ?d26 ?d27 ?d28 ?d29 ?d30 ?d31 ?d32 ?aC ?dm0 ?dm1 ?dm2 ?pg ?hd ?po ?sa ?mk ?kc ?n0 ?n1 ?sysm ?z0 ?z1 ?z2 ?z3 ?z4 ?z5 ?z6 ?z7 ?z8 ?z9 ?z10 ?z11 ?z12 ?z13 ?z14 ?z15 ?z16 ?z17 ?uc0 ?uc1 ?uc2
  (case d0 | d1 | d2 | d3 | d4 | d5 | d6 | d7 | d8 | d9 | d10 | d11 | d12 | d13 | d14 | d15 | d16 | d17 | d18 | d19 | d20 | d21 | d22 | d23 | d24 | d25 | d26 | d27 | d28 | d29 | d30 | d31 | d32=>refine' Pc.diM ?a ?l ?c ?k; (case a=>k_is); (case l=>k_is); (case c=>k_is); (case k=>k_is))
  (case aC=>k_is)
  (case dm0 | dm1 | dm2=>refine' Pc.miM ?a ?i ?l ?c ?k; (case a=>k_is); (case i=>k_is); (case l=>k_is); (case c=>k_is); (case k=>k_is))
  (case pg | hd | po | sa | mk | kc | n0 | n1=>k_is)
  (case sysm=>kernel_rfl)
  (case z0 | z1 | z2 | z3 | z4 | z5 | z6 | z7 | z8 | z9 | z10 | z11 | z12 | z13 | z14 | z15 | z16 | z17 | uc0 | uc1 | uc2=>k_is)