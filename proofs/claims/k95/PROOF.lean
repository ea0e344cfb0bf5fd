import PyProof.Rows.All
import Wide.All
import OpenK.AllK
import Wide.FinOn
import Lean
import PyProof.EqAt
import PyProof.EqKinds
import PyProof.TupleCall
import PyProof.Draws
import PyProof.WalksMore
import PyProof.EnumMake
import PyProof.ReprRoads
import PyProof.Rows.SortWalk
import PyProof.Rows.SumAny
import PyProof.FitsBits
import KE.KSortTup
import PyProof.LongRange
import KE.KDictOf
import PyProof.DictItems
import PySem.Challenge.RW_platecuts_k95_whole_no_less_with_more
set_option maxRecDepth 100000
set_option maxHeartbeats 0
local macro_rules|`(def $i $s:optDeclSig $v:declVal)=>`(noncomputable def $i $s:optDeclSig $v:declVal)
local macro_rules|`(abbrev $i $s:optDeclSig $v:declVal)=>`(noncomputable abbrev $i $s:optDeclSig $v:declVal)
section
open PySem PySem.W PySem.Spec PyProof PyProof.Rows
abbrev KB:=@Shared
abbrev KC:=@Program
abbrev KD:=@FuncData
abbrev KF:=@World
abbrev KG:=@Value
abbrev A0:=@wpAny_bind
abbrev A1:=@wpAny_pure
abbrev A3:=@wpS_bind
abbrev A4:=@wpS_pure
abbrev A5:=@List.mem_append_right
abbrev A6:=@List.getElem?_eq_some_iff
abbrev A7:=@Heap.get?_push_of_some
abbrev A8:=@Heap.get?_push_size
abbrev A9:=@Heap.lt_size
abbrev B0:=@decide_eq_true
abbrev B1:=@decide_eq_false
abbrev B2:=@Bool.false_ne_true
abbrev B3:=@Nat.le_refl
abbrev B4:=@List.mem_cons_of_mem
abbrev B5:=@List.mem_of_getElem?
abbrev B6:=@List.mem_append_left
abbrev B7:=@List.mem_cons_self
abbrev B8:=@Option.some.inj
abbrev B9:=@Nat.ne_of_lt
abbrev C0:=@of_decide_eq_true
abbrev C1:=@Nat.lt_of_lt_of_le
abbrev C2:=@List.mem_append
abbrev C3:=@beq_iff_eq
abbrev C4:=@PySem.W.Frag
abbrev C5:=@Nat.le_trans
abbrev C6:=@Nat.lt_of_le_of_lt
abbrev C7:=@Nat.le_of_lt
abbrev C8:=@List.getElem?_eq_none
abbrev C9:=@Bool.and_eq_true_iff
abbrev E1:=@Nat.lt_irrefl
abbrev E2:=@List.Perm.trans
abbrev E3:=@List.mem_singleton
abbrev E4:=@Paired.length
abbrev E5:=@PassesOwn.never
abbrev E6:=@Int.le_refl
abbrev E7:=@PySem.W.fnOf
abbrev E8:=@False.elim
abbrev E9:=@Nat.zero_le
abbrev G0:=@Nat.not_lt_zero
abbrev G1:=@Nat.lt_succ_self
abbrev G2:=@List.getElem?_eq_getElem
abbrev G4:=@wpAny_truthy_bool
abbrev G9:=@wpAny_call_entry
abbrev J0:=@wpAny_newObj_type
abbrev J9:=@Builtin.Tuple.tupleHashOf
abbrev KA:=@PySem.F.plainAttrs_list
end
theorem zS2:2<=PySem.sizeLine:=by decide
theorem zS5:5<=PySem.sizeLine:=by decide
theorem zS1:1<=PySem.sizeLine:=by decide
theorem zS4:4<=PySem.sizeLine:=by decide
theorem zS3:3<=PySem.sizeLine:=by decide
theorem Y{α:Sort _}{a:α}:a=a:=rfl
set_option Elab.async false
set_option linter.all false
namespace L2
open PySem PySem.Spec PyProof.Rows
abbrev Key:=Sum Int Str
def iC:Key->KG->Bool
 | .inl k,v=>Value.isInt k v
 | .inr x,v=>Value.isStrOf x v
def GP (w:KF):Key->Int
 | .inl k=>hashInt k
 | .inr x=>hashStr w x
theorem bn:∀ {k:Key} {v:KG},iC k v=true->(∃i t,k=Sum.inl i/\v=Value.int i t)\/(∃x t,k=Sum.inr x/\v=Value.str x t)
 | .inl i,v,h=>by obtain ⟨t,e⟩:=Value.isInt_shape (k:=i) (v:=v) h;exact .inl ⟨i,t,Y,e⟩
 | .inr x,v,h=>by obtain ⟨t,e⟩:=Value.isStrOf_shape (x:=x) (v:=v) h;exact .inr ⟨x,t,Y,e⟩
theorem pR (i:Int) (t:Tok):iC (.inl i) (.int i t)=true:=by simp [iC,Value.isInt]
theorem pS (x:Str) (t:Tok):iC (.inr x) (.str x t)=true:=by simp [iC,Value.isStrOf]
theorem xg (a b:Int):decide ((Sum.inl a:Key)=Sum.inl b)=(a == b):=by
 by_cases e:a=b
 ·subst e; simp
 ·have h:¬ (Sum.inl a:Key)=Sum.inl b:=λ q=>e (Sum.inl.inj q);rw [decide_eq_false h];exact (beq_eq_false_iff_ne.mpr e).symm
theorem xh (a b:Str):decide ((Sum.inr a:Key)=Sum.inr b)=decide (a=b):=by
 by_cases e:a=b
 ·subst e; simp
 ·have h:¬ (Sum.inr a:Key)=Sum.inr b:=λ q=>e (Sum.inr.inj q);rw [decide_eq_false h,decide_eq_false e]
theorem xi (a:Int) (b:Str):decide ((Sum.inl a:Key)=Sum.inr b)=false:=B1 (λ q=>nomatch q)
theorem xj (a:Str) (b:Int):decide ((Sum.inr a:Key)=Sum.inl b)=false:=B1 (λ q=>nomatch q)
def aZ (prog:KC) (w:KF):PySem.KeyKind prog w Key where
 is:=iC
 hash:=GP w
 inj:=λ v a b ha hb=>by
  rcases bn ha with ⟨i,t,rfl,rfl⟩ | ⟨x,t,rfl,rfl⟩
  ·rcases bn hb with ⟨j,u,rfl,e⟩ | ⟨y,u,rfl,e⟩
   ·injection e with e1 _; rw [e1]
   ·exact nomatch e
  ·rcases bn hb with ⟨j,u,rfl,e⟩ | ⟨y,u,rfl,e⟩
   ·exact nomatch e
   ·injection e with e1 _; rw [e1]
 byValue:=λ k v h=>by rcases bn h with ⟨i,t,rfl,rfl⟩ | ⟨x,t,rfl,rfl⟩ <;> rfl
 pyHash:=λ hv h=>by
  rcases bn hv with ⟨i,t,rfl,rfl⟩ | ⟨x,t,rfl,rfl⟩
  ·exact wpAny_pyHash_int h
  ·exact wpAny_pyHash_str h
 eqBool:=λ hu hv h=>by
  rcases bn hu with ⟨i,t,rfl,rfl⟩ | ⟨x,t,rfl,rfl⟩
  ·rcases bn hv with ⟨j,u,rfl,rfl⟩ | ⟨y,u,rfl,rfl⟩
   ·rw [xg] at h; exact wpAny_eqBool_int h
   ·rw [xi] at h; exact SeqAt.EqAt.int_str i t y u _ _ _ _ h
  ·rcases bn hv with ⟨j,u,rfl,rfl⟩ | ⟨y,u,rfl,rfl⟩
   ·rw [xj] at h; exact SeqAt.EqAt.str_int x t j u _ _ _ _ h
   ·rw [xh] at h; exact wpAny_eqBool_str h
 «strs» := λ k x t v h=>by
  rcases bn h with ⟨i,u,rfl,e⟩ | ⟨y,u,rfl,e⟩
  ·exact nomatch e
  ·injection e with e1 _
   subst e1;cases v <;> rfl
theorem jV (prog:KC) (w:KF) (i:Int) (t:Tok):(aZ prog w).is (.inl i) (.int i t)=true:=pR i t
theorem jW (prog:KC) (w:KF) (x:Str) (t:Tok):(aZ prog w).is (.inr x) (.str x t)=true:=pS x t
inductive V where
 | non | bl (b:Bool) | int (i:Int) | str (x:Str) | byt (b:Array UInt8) | flt (b:UInt64) | ref (a:Addr) | ty (n:String)
 deriving DecidableEq
def RelV:V->KG->Prop
 | .non,u=>u=Value.none
 | .bl b,u=>u=Value.bool b
 | .int i,u=>∃t,u=Value.int i t
 | .str x,u=>∃t,u=Value.str x t
 | .byt b,u=>∃t,u=Value.bytes b t
 | .flt b,u=>∃t,u=Value.float b t
 | .ref a,u=>u=Value.ref a
 | .ty n,u=>u=Value.type n
abbrev Vals:List V->List KG->Prop:=Paired RelV
theorem Vals.length {xs:List V} {us:List KG} (r:Vals xs us):xs.length=us.length:=E4 r
theorem Vals.get:∀ {xs:List V} {us:List KG} {i:Nat} {x:V},Vals xs us->xs[i]? = some x->∃u,us[i]? = some u/\RelV x u
 | _,_,_,_,.nil,e=>by simp at e
 | _,_,0,_,.cons r _,e=>by simp at e; subst e; exact ⟨_,Y,r⟩
 | _,_,i + 1,x,.cons _ t,e=>by obtain ⟨u,h1,h2⟩:=Vals.get (i:=i) (x:=x) t (by simpa using e);exact ⟨u,by simpa using h1,h2⟩
theorem Vals.set {x:V} {u:KG} (r:RelV x u):∀ {xs:List V} {us:List KG} (i:Nat),Vals xs us->Vals (xs.set i x) (us.set i u)
 | _,_,_,.nil=>.nil
 | _,_,0,.cons _ t=>.cons r t
 | _,_,i + 1,.cons q t=>.cons q (Vals.set r i t)
theorem Vals.append:∀ {xs ys:List V} {us ws:List KG},Vals xs us->Vals ys ws->Vals (xs ++ ys) (us ++ ws)
 | _,_,_,_,.nil,s=>s
 | _,_,_,_,.cons r t,s=>.cons r (Vals.append t s)
theorem Vals.take:∀ {xs:List V} {us:List KG} (n:Nat),Vals xs us->Vals (xs.take n) (us.take n)
 | _,_,0,_=>.nil
 | _,_,_ + 1,.nil=>.nil
 | _,_,n + 1,.cons r t=>.cons r (Vals.take n t)
theorem Vals.drop:∀ {xs:List V} {us:List KG} (n:Nat),Vals xs us->Vals (xs.drop n) (us.drop n)
 | _,_,0,r=>r
 | _,_,_ + 1,.nil=>.nil
 | _,_,n + 1,.cons _ t=>Vals.drop n t
def RelO:Option V->Option KG->Prop
 | some v,some u=>RelV v u
 | none,none=>True
 | _,_=>False
def KV {κ:Type}:List (κ×V)->List (κ×KG)->Prop:=Paired λ (p:κ×V) (q:κ×KG)=>p.1=q.1/\RelV p.2 q.2
def kV:Key->V
 | .inl i=>.int i
 | .inr x=>.str x
inductive HO where
 | lst (xs:List V)
 | tup (xs:List V)
 | dK (kvs:List (Key×V)) | dT (kvs:List (List Key×V))
 | set (S:Int->Bool) (n:Nat)
 | ins (C dx:Addr) (fs:List (Str×V))
 | own (x:Addr)
 | xd (fs:List (Str×V))
 | met (f x:Addr)
 | rng (lo hi:Int)
 | frz (o:Obj) (u:HO)
 | tbl (ps:Array KG)
 | ext (φ:Heap->Prop)
abbrev Hp:=Addr->Option HO
def upd (H:Hp) (a:Addr) (o:HO):Hp:=λ b=>if b=a then some o else H b
theorem ae {H:Hp} {a:Addr} {o:HO}:upd H a o a=some o:=by unfold upd; rw [if_pos rfl]
theorem aj {H:Hp} {a b:Addr} {o:HO} (h:b≠a):upd H a o b=H b:=by unfold upd; rw [if_neg h]
theorem CC {H:Hp} {a b:Addr} {o u:HO} (h:H a=some o) (h':H b=some u) (d:o≠u):a≠b:=by intro e; subst e; rw [h] at h'; exact d (B8 h')
theorem am {H:Hp} {a b:Addr} {o:HO} (h:H a=some o) (h':H b=none):a≠b:=by intro e; subst e; rw [h] at h'; cases h'
section
variable (P:KC) (w:KF)
def ObjOk (H:Hp) (h:Heap) (a:Addr):HO->Prop
 | .lst xs=>xs.length<=sizeLine/\∃ (its:List KG) (n:Nat),Vals xs its/\h.get? a=some { cls:=.type "list",data:=.seq its.toArray n }
 | .tup xs=>xs.length<=sizeLine/\∃its:List KG,Vals xs its/\IsTup h a its.toArray
 | .dK kvs=>kvs.length<=sizeLine/\(a == sysModules)=false/\∃vs,KV kvs vs/\h.DictOf (aZ P w) a vs
 | .dT kvs=>kvs.length<=sizeLine/\(a == sysModules)=false/\∃xs:List (List Key×Addr×KG),
   Paired (λ (p:List Key×V) (q:List Key×Addr×KG)=>p.1=q.1/\H q.2.1=some (.tup (p.1.map kV))/\RelV p.2 q.2.2) kvs xs /\
   ∃o es ep,h.get? a=some o/\o.ExactDict/\o.data=.dict es ep/\es.toList=xs.map (entryOfKey (tupleKind (aZ P w)))/\(xs.map (·.1)).Nodup
 | .set S n=>h.SetOf (intKind P w) a S n
 | .ins C dx fs=>H dx=some (.own a)/\fs.length<=1000/\dx≠a/\h.get? a=some (PySem.W.instObj C dx) /\
   ∃mA,h.Ns1 dx mA/\(∀f,RelO (fs.lookup f) (mA f))/\PySem.Within mA (fs.map (·.1))
 | .own _=>∃o,h.get? a=some o
 | .xd fs=>∃mA,h.Ns1 a mA/\∀f,RelO (fs.lookup f) (mA f)
 | .rng lo hi=>∃t u v,h.get? a=some { cls:=.type "range",data:=.fields #[.int lo t,.int hi u,.int 1 v] }
 | .frz o u=>h.get? a=some o/\ObjOk H h a u
 | .tbl ps=>h.get? a=some { cls:=.none,data:=.fields ps }
 | .met f x=>h.get? a=some (PySem.W.methodObj (.ref f) (.ref x))
 | .ext φ=>φ h/\(∃o,h.get? a=some o)/\∀h1 h2:Heap,φ h1->(∀o,h1.get? a=some o->h2.get? a=some o)->φ h2
def HOk (H:Hp) (h:Heap):Prop:=∀a o,H a=some o->ObjOk P w H h a o
end
section
variable {P:KC} {w:KF} {H H':Hp} {h h':Heap} {a:Addr} {o:HO}
theorem ObjOk.lt (x:ObjOk P w H h a o):a < h.objs.size:=by
 cases o with
 | lst xs=>obtain ⟨_,_,_,_,e⟩:=x; exact A9 e
 | tup xs=>obtain ⟨_,_,_,p⟩:=x; exact p.lt
 | dK kvs=>obtain ⟨_,_,_,_,o,_,_,e,_⟩:=x; exact A9 e
 | dT kvs=>obtain ⟨_,_,_,_,o,_,_,e,_⟩:=x; exact A9 e
 | set S n=>obtain ⟨o,_,_,_,e,_⟩:=x; exact A9 e
 | ins C dx fs=>obtain ⟨_,_,_,e,_⟩:=x; exact A9 e
 | own y=>obtain ⟨_,e⟩:=x; exact A9 e
 | xd fs=>obtain ⟨_,⟨_,_,_,e,_⟩,_⟩:=x; exact A9 e
 | rng lo hi=>obtain ⟨_,_,_,e⟩:=x; exact A9 e
 | frz ob u=>obtain ⟨e,_⟩:=x; exact A9 e
 | tbl ps=>exact A9 (show h.get? a=some _ from x)
 | met f y=>exact A9 (show h.get? a=some _ from x)
 | ext φ=>obtain ⟨_,⟨_,e⟩,_⟩:=x; exact A9 e
theorem Paired.mapP {α β:Type} {F G:α->β->Prop}:∀ {l₁:List α} {l₂:List β},Paired F l₁ l₂->(∀a b,F a b->G a b)->Paired G l₁ l₂
 | _,_,.nil,_=>.nil
 | _,_,.cons r t,f=>.cons (f _ _ r) (Paired.mapP t f)
abbrev KK:=@Paired.mapP
theorem ObjOk.stay (x:ObjOk P w H h a o) (k:∀b u,(b=a\/H b=some (.own a))->h.get? b=some u->h'.get? b=some u)
  (ho:∀b,H b=some (.own a)->H' b=some (.own a)) (ht:∀b xs,H b=some (.tup xs)->H' b=some (.tup xs)):ObjOk P w H' h' a o:=by
 induction o with
 | lst xs=>obtain ⟨z,its,n,r,e⟩:=x; exact ⟨z,its,n,r,k _ _ (.inl rfl) e⟩
 | tup xs=>obtain ⟨z,its,r,ob,e,c⟩:=x; exact ⟨z,its,r,ob,k _ _ (.inl rfl) e,c⟩
 | dK kvs=>obtain ⟨z,y,vs,r,ob,es,ep,e,c⟩:=x; exact ⟨z,y,vs,r,ob,es,ep,k _ _ (.inl rfl) e,c⟩
 | dT kvs =>
  obtain ⟨z,y,xs,r,ob,es,ep,e,c⟩:=x;exact ⟨z,y,xs,KK r λ p q z=>⟨z.1,ht _ _ z.2.1,z.2.2⟩,ob,es,ep,k _ _ (.inl rfl) e,c⟩
 | set S n=>obtain ⟨ob,es,ep,t,e,c⟩:=x; exact ⟨ob,es,ep,t,k _ _ (.inl rfl) e,c⟩
 | ins C dx fs =>
  obtain ⟨d,z,ne,e,mA,⟨od,es,ep,e2,c⟩,r⟩:=x;exact ⟨ho _ d,z,ne,k _ _ (.inl rfl) e,mA,⟨od,es,ep,k _ _ (.inr d) e2,c⟩,r⟩
 | own y=>obtain ⟨ob,e⟩:=x; exact ⟨ob,k _ _ (.inl rfl) e⟩
 | xd fs=>obtain ⟨mA,⟨od,es,ep,e,c⟩,r⟩:=x; exact ⟨mA,⟨od,es,ep,k _ _ (.inl rfl) e,c⟩,r⟩
 | rng lo hi=>obtain ⟨t,u,v,e⟩:=x; exact ⟨t,u,v,k _ _ (.inl rfl) e⟩
 | frz ob u ih=>obtain ⟨e,q⟩:=x; exact ⟨k _ _ (.inl rfl) e,ih q⟩
 | tbl ps =>
  have e:h.get? a=some { cls:=.none,data:=.fields ps }:=x;show h'.get? a=some { cls:=.none,data:=.fields ps };exact k a _ (.inl rfl) e
 | met f y =>
  have e:h.get? a=some (PySem.W.methodObj (.ref f) (.ref y)):=x;show h'.get? a=some (PySem.W.methodObj (.ref f) (.ref y));exact k a _ (.inl rfl) e
 | ext φ=>obtain ⟨p,⟨o,e⟩,st⟩:=x; exact ⟨st _ _ p λ o q=>k _ _ (.inl rfl) q,⟨o,k _ _ (.inl rfl) e⟩,st⟩
theorem HOk.lt (x:HOk P w H h) (e:H a=some o):a < h.objs.size:=(x a o e).lt
theorem HOk.fresh (x:HOk P w H h) (e:h.objs.size<=a):H a=none:=by
 cases q:H a with
 | none=>rfl
 | some u=>exact absurd (C1 (x.lt q) e) (E1 _)
theorem HOk.kept (x:HOk P w H h) (k:∀b u,h.get? b=some u->h'.get? b=some u):HOk P w H h':=λ a o e =>
 (x a o e).stay (λ b u _ q=>k b u q) (λ _ q=>q) λ _ _ q=>q
theorem HOk.laid (x:HOk P w H h) (k:∀b u,h.get? b=some u->h'.get? b=some u) (hp:h.objs.size<=a) (new:ObjOk P w (upd H a o) h' a o):HOk P w (upd H a o) h':=λ b u e=>by
 have hn:=x.fresh hp
 by_cases hb:b=a
 ·subst hb; rw [ae] at e; cases e; exact new
 ·rw [aj hb] at e;exact (x b u e).stay (λ c v _ q=>k c v q) (λ c q=>by rw [aj (am q hn)]; exact q) λ c xs q=>by rw [aj (am q hn)]; exact q
end
def Rd (H:Hp) (a:Addr) (u:HO):Prop:=H a=some u\/∃o,H a=some (.frz o u)
theorem Rd.ok {P:KC} {w:KF} {H:Hp} {h:Heap} {a:Addr} {u:HO} (r:Rd H a u) (x:HOk P w H h):ObjOk P w H h a u:=by
 rcases r with r | ⟨o,r⟩
 ·exact x a u r
 ·obtain ⟨_,q⟩:=x a _ r;exact q
def Mut:Option HO->Prop
 | some (.lst _)=>True
 | some (.dK _)=>True
 | some (.dT _)=>True
 | some (.set _ _)=>True
 | some (.ins _ _ _)=>True
 | some (.ext _)=>True
 | _=>False
section
variable {P:KC} {w:KF} {H:Hp} {h h':Heap} {x e:Addr} {o':HO}
theorem HOk.write (ok:HOk P w H h) (mu:Mut (H x)) (he:e=x\/H e=some (.own x)) (k:∀b u,b≠e->h.get? b=some u->h'.get? b=some u) (heo:∃u,h'.get? e=some u)
  (new:ObjOk P w (upd H x o') h' x o'):HOk P w (upd H x o') h':=λ b u q=>by
 have nown:∀c y,H c=some (.own y)->c≠x:=λ c y r z=>by subst z; rw [r] at mu; exact mu
 have ntup:∀c xs,H c=some (.tup xs)->c≠x:=λ c xs r z=>by subst z; rw [r] at mu; exact mu
 by_cases hb:b=x
 ·subst hb; rw [ae] at q; cases q; exact new
 ·rw [aj hb] at q
  by_cases hbe:b=e
  ·have q':H b=some (.own x):=by
    rcases he with z | z
    ·exact absurd (hbe.trans z) hb
    ·rw [hbe]; exact z
   rw [q] at q'; cases q';obtain ⟨v,hv⟩:=heo;exact ⟨v,by rw [hbe]; exact hv⟩
  ·refine (ok b u q).stay (λ c v hc r=>k c v ?_ r) (λ c r=>by rw [aj (nown c b r)]; exact r) λ c xs r=>by rw [aj (ntup c xs r)]; exact r
   rcases hc with rfl | hc
   ·exact hbe
   ·rintro rfl;rcases he with z | z
    ·exact nown c b hc z
    ·rw [hc] at z; cases z; exact hb rfl
end
structure Un (fs ex:List Addr) (H H':Hp) (h h':Heap):Prop where
 keep:∀b o,h.get? b=some o->H b=none->b∉fs->b∉ex->h'.get? b=some o
 slot:∀b o,h.get? b=some o->H b=none->b∈fs->b∉ex->∃sl,h'.get? b=some { o with slots:=sl }
 free:∀b o,h.get? b=some o->H b=none->b∉ex->H' b=none
 there:∀b o,h.get? b=some o->b∉ex->∃o',h'.get? b=some o'
 tups:∀b xs,H b=some (.tup xs)->H' b=some (.tup xs)
 frzs:∀b o u,H b=some (.frz o u)->H' b=some (.frz o u)
 tbls:∀b ps,H b=some (.tbl ps)->∃more,H' b=some (.tbl (ps ++ more))
section
variable {fs fs' ex ex':List Addr} {H H1 H2:Hp} {h h1 h2 h':Heap} {a x e:Addr} {o:HO}
theorem Un.any (u:Un fs ex H H1 h h1) {b:Addr} {ob:Obj} (q:h.get? b=some ob) (n:H b=none) (hx:b∉ex):∃sl,h1.get? b=some { ob with slots:=sl }:=by
 by_cases hb:b∈fs
 ·exact u.slot b ob q n hb hx
 ·exact ⟨ob.slots,u.keep b ob q n hb hx⟩
theorem Un.kept (k:∀b u,h.get? b=some u->h'.get? b=some u):Un fs ex H H h h' :=
 ⟨λ b ob q _ _ _=>k b ob q,λ b ob q _ _ _=>⟨ob.slots,k b ob q⟩,λ _ _ _ n _=>n,λ b ob q _=>⟨ob,k b ob q⟩,λ _ _ q=>q,λ _ _ _ q=>q,λ _ ps q=>⟨#[],by rw [q]; simp⟩⟩
theorem Un.refl:Un fs ex H H h h:=Un.kept λ _ _ q=>q
theorem Un.laid (k:∀b u,h.get? b=some u->h'.get? b=some u) (hp:h.objs.size<=a) (hn:H a=none):Un fs ex H (upd H a o) h h' where
 keep:=λ b u q _ _ _=>k b u q
 slot:=λ b u q _ _ _=>⟨u.slots,k b u q⟩
 free:=λ b u q n _=>by rw [aj (Nat.ne_of_lt (Nat.lt_of_lt_of_le (Heap.lt_size q) hp))]; exact n
 there:=λ b u q _=>⟨u,k b u q⟩
 tups:=λ b xs q=>by rw [aj (am q hn)]; exact q
 frzs:=λ b u xs q=>by rw [aj (am q hn)]; exact q
 tbls:=λ b ps q=>⟨#[],by rw [aj (am q hn),q]; simp⟩
theorem Un.write (mu:Mut (H x)) (he:e=x\/H e=some (.own x)) (k:∀b u,b≠e->h.get? b=some u->h'.get? b=some u) (heo:∃u,h'.get? e=some u):Un fs ex H (upd H x o) h h':=by
 have hx:∀b,H b=none->b≠x:=λ b n z=>by subst z; rw [n] at mu; exact mu
 have hb:∀b,H b=none->b≠e:=λ b n z=>by
  subst z;rcases he with r | r
  ·exact hx b n r
  ·rw [n] at r; cases r
 have hm:∀b u,H b=some u->¬ Mut (some u)->b≠x:=λ b u q nm z=>by subst z; rw [q] at mu; exact nm mu
 refine ⟨λ b u q n _ _=>k b u (hb b n) q,λ b u q n _ _=>⟨u.slots,k b u (hb b n) q⟩,λ b u q n _=>by rw [aj (hx b n)]; exact n,λ b u q _=>?_,
  λ b xs q=>by rw [aj (hm b _ q λ z=>z)]; exact q,λ b u xs q=>by rw [aj (hm b _ q λ z=>z)]; exact q,λ b ps q=>⟨#[],by rw [aj (hm b _ q λ z=>z),q]; simp⟩⟩
 by_cases hbe:b=e
 ·subst hbe; exact heo
 ·exact ⟨u,k b u hbe q⟩
end
def trk (h:Heap) (H:Hp):List Addr:=(List.range h.objs.size).filter λ a=>(H a).isSome
def jg (h:Heap) (H:Hp):Heap:=PySem.W.hideAll h (trk h H)
theorem pT (h:Heap) (H:Hp):(jg h H).objs.size=h.objs.size:=PySem.W.hideAll_size _ _
theorem rF {h:Heap} {H:Hp} {b:Addr} {o:Obj} (e:h.get? b=some o) (n:H b=none):(jg h H).get? b=some o :=
 PySem.W.hideAll_get _ e λ hm=>by have q:(H b).isSome=true:=(List.mem_filter.mp hm).2;rw [n] at q; simp at q
theorem uQ {h:Heap} {H:Hp} {b:Addr} {o:Obj} (e:(jg h H).get? b=some o):h.get? b=some o/\H b=none:=by
 have e':h.get? b=some o:=PySem.W.of_hideAll (trk h H) e;refine ⟨e',?_⟩;cases q:H b with
 | none=>rfl
 | some x =>
  have hm:b∈trk h H:=List.mem_filter.mpr ⟨List.mem_range.mpr (A9 e'),by simp [q]⟩;have z:(jg h H).get? b=none:=PySem.W.hideAll_none (trk h H) hm;rw [z] at e; cases e
def uR (g h:Heap) (L:Addr):List (Addr×Obj):=(List.range h.objs.size).filterMap λ a=>if a=L\/(g.get? a).isSome=true then none else (h.get? a).map λ o=>(a,o)
def rest (g h:Heap) (L d:Addr):List (Addr×Obj):=(uR g h L).filter λ p=>decide (p.1≠d)
structure Mod (K:C4) (mg:Str->Option Value) (base:Heap):Prop where
 kin:K.In base
 glob:base.Ns mainGlobals mg
 blt:∃mb,base.Ns builtinsNs mb/\∀x:Str,x ≠ "__name__" -> mb x=bootBuiltins x
 nolimit:base.NoLimit
/-- the context: a def's body (or a comprehension's block) running. base: fixed through the aQ law; s₀,H₀: the entry; outer: the frames whose slots others may change (a def's callers); stack: all frames that run;
   ex: iterators that were made ahead of the entry and are walked here (a comprehension's); fn: the names whose cells were made at the entry (a def: all; a comprehension's block: its own); calm: not within an except suite; pn: pins that every state bears; xe: what is wanted of an exception that leaves the code -/
structure Cx where
 prog:Program
 w:World
 K:C4
 mg:Str->Option Value
 base:Heap
 A:Around
 N:List Str
 s₀:Shared
 H₀:Hp
 env:Env
 outer:List Env
 stack:List Env
 ex:List Addr
 fn:Str->Bool
 calm:Bool
 pn:List (Addr×Obj)
 xe:KG->KB->Prop
def frs (l:List Env):List Addr:=l.filterMap (·.frame)
abbrev Cx.fs (X:Cx):List Addr:=frs X.outer
def Vis (sc:Scope) (x:Str):Prop:=sc.names.lookup x=some .local\/sc.names.lookup x=some .cell\/sc.names.lookup x=some .free
def Loc (sc:Scope) (x:Str):Prop:=sc.names.lookup x=some .local\/sc.names.lookup x=some .cell
def GQ (env:Env) (h:Heap) (m:Str->Option KG) (x:Str) (u:KG):Prop :=
 (env.kindOf x=some .local/\m x=some u)\/((env.kindOf x=some .cell\/env.kindOf x=some .free)/\∃c,env.cells.lookup x=some c/\h.IsCell c (some u))
structure Cx.Ok (X:Cx):Prop where
 mod:Mod X.K X.mg X.base
 kind:X.env.scope.kind=.function
 glob:X.env.globals=mainGlobals
 blt:X.env.builtins=builtinsNs
 above:X.s₀.heap.objs.size<=X.env.locals
 inj:∀x y c,X.env.cells.lookup x=some c->X.env.cells.lookup y=some c->x=y
 has:∀x,(X.env.kindOf x=some .cell\/X.env.kindOf x=some .free)->∃c,X.env.cells.lookup x=some c
 cab:∀x c,X.fn x=true->X.env.cells.lookup x=some c->X.s₀.heap.objs.size<=c
 hd:X.calm=true->X.A.handled=none
 frames:X.A.frames=some X.stack
 stk:X.stack=X.outer\/(X.stack=X.env :: X.outer/\X.env.frame=some X.env.locals)
 exf:∀b∈X.ex,b≠X.env.locals/\∀x c,X.env.cells.lookup x=some c->c≠b
 bs:∀b o,X.base.get? b=some o->X.s₀.heap.get? b=some o/\X.H₀ b=none
 bsz:X.base.objs.size<=X.s₀.heap.objs.size
 noex:∀b o,X.base.get? b=some o->b∉X.ex
 exfs:∀b∈X.ex,b∉X.fs
 funs:X.s₀.heap.FunFrames X.base X.outer
 frf:∀b∈X.fs,X.H₀ b=none
structure Inv (X:Cx) (pins:List (Addr×Obj)) (σ:List (Option V)) (H:Hp) (s:Shared):Prop where
 ok:X.Ok
 os:s.os=X.s₀.os
 bare:AllBare s.gens
 base:Un X.fs X.ex X.H₀ H X.s₀.heap s.heap
 loc:∃m,s.heap.Ns X.env.locals m/\∀ (i:Nat) (x:Str) (v:V),X.N[i]? = some x->σ[i]? = some (some v)->Vis X.env.scope x->∃u,RelV v u/\GQ X.env s.heap m x u
 cell:∀x c,X.env.cells.lookup x=some c->∃v,s.heap.IsCell c v
 free:H X.env.locals=none
 freeC:∀x c,X.env.cells.lookup x=some c->H c=none
 pin:∀p∈X.pn ++ pins,s.heap.get? p.1=some p.2/\H p.1=none/\p.1≠X.env.locals/\p.1∉X.fs/\∀v,p.2.data≠.cell v
 hok:HOk X.prog X.w H s.heap
 len:σ.length=X.N.length
section
variable {X:Cx} {pins:List (Addr×Obj)} {σ:List (Option V)} {H H':Hp} {s:KB} {h':Heap}
theorem Cx.Ok.nofr (ok:X.Ok) {b:Addr} {o:Obj} (e:X.base.get? b=some o):b∉X.fs:=λ hb=>by have:=(ok.funs.mem hb).1;rw [e] at this; cases this
theorem Inv.bs (I:Inv X pins σ H s):∀b o,X.base.get? b=some o->s.heap.get? b=some o/\H b=none:=λ b o e =>
 ⟨I.base.keep b o (I.ok.bs b o e).1 (I.ok.bs b o e).2 (I.ok.nofr e) (I.ok.noex b o e),I.base.free b o (I.ok.bs b o e).1 (I.ok.bs b o e).2 (I.ok.noex b o e)⟩
theorem Inv.bk (I:Inv X pins σ H s):∀b o,X.base.get? b=some o->s.heap.get? b=some o:=λ b o e=>(I.bs b o e).1
theorem Inv.mod (I:Inv X pins σ H s):Mod X.K X.mg X.base:=I.ok.mod
theorem Inv.kIn (I:Inv X pins σ H s):X.K.In s.heap:=I.ok.mod.kin.keeps I.bk
theorem Inv.fr (I:Inv X pins σ H s):∃m,Fr X.base X.env.locals s.heap m :=
 let ⟨m,hn,_⟩:=I.loc
 ⟨m,hn,I.bk,C5 I.ok.bsz I.ok.above⟩
theorem Inv.lt (I:Inv X pins σ H s):X.env.locals < s.heap.objs.size:=let ⟨_,hn,_⟩:=I.loc; hn.lt
theorem Inv.sz (I:Inv X pins σ H s):X.s₀.heap.objs.size<=s.heap.objs.size:=C5 I.ok.above (C7 I.lt)
theorem Inv.nofs (I:Inv X pins σ H s) {a:Addr} (h:s.heap.objs.size<=a):a∉X.fs:=λ hb=>by obtain ⟨_,o,ho,_⟩:=I.ok.funs.mem hb;exact absurd (C1 (A9 ho) (C5 I.sz h)) (E1 _)
theorem Inv.cne (I:Inv X pins σ H s):∀x c,X.env.cells.lookup x=some c->c≠X.env.locals:=λ x c e z=>by obtain ⟨v,o,ho,hd⟩:=I.cell x c e;obtain ⟨m,⟨o',es,ep,ho',hd',_⟩,_⟩:=I.loc;rw [z,ho'] at ho; cases ho; rw [hd'] at hd; cases hd
theorem Inv.funs (I:Inv X pins σ H s):s.heap.FunFrames X.base X.outer:=by
 have all:∀ (l:List Env),(∀b∈frs l,b∈X.fs)->X.s₀.heap.FunFrames X.base l->s.heap.FunFrames X.base l:=by
  intro l
  induction l with
  | nil=>intro _ _; trivial
  | cons env r ih =>
   intro hs hl;obtain ⟨hk,⟨L,o,hf,hn,ho,hd⟩,hr⟩:=hl;have hL:L∈X.fs:=hs L (by unfold frs; rw [List.filterMap_cons,hf]; exact List.mem_cons_self);obtain ⟨sl,e⟩:=I.base.slot L o ho (I.ok.frf L hL) hL λ z=>I.ok.exfs L z hL;exact ⟨hk,⟨L,_,hf,hn,e,hd⟩,ih (λ b hb=>hs b (by unfold frs; rw [List.filterMap_cons,hf]; exact List.mem_cons_of_mem _ hb)) hr⟩
 exact all X.outer (λ _ hb=>hb) I.ok.funs
theorem Inv.stack (I:Inv X pins σ H s):s.heap.FunFrames X.base X.stack:=by
 rcases I.ok.stk with e | ⟨e,hf⟩
 ·rw [e]; exact I.funs
 ·rw [e];obtain ⟨m,hn,_⟩:=I.loc;refine .cons (by rw [I.ok.kind]; decide) hf hn ?_ I.funs;exact Heap.get?_none_of_le (C5 I.ok.bsz I.ok.above)
theorem Inv.stkSub (I:Inv X pins σ H s):∀b∈frs X.stack,b∈X.env.locals :: X.fs:=λ b hb=>by
 rcases I.ok.stk with e | ⟨e,hf⟩
 ·rw [e] at hb; exact B4 _ hb
 ·rw [e] at hb;unfold frs at hb;rw [List.filterMap_cons,hf] at hb;exact hb
theorem Inv.stkFree (I:Inv X pins σ H s):∀b∈frs X.stack,H b=none:=λ b hb=>by
 rcases List.mem_cons.mp (I.stkSub b hb) with e | hb
 ·rw [e]; exact I.free
 ·obtain ⟨_,o,ho,_⟩:=I.ok.funs.mem hb;exact I.base.free b o ho (I.ok.frf b hb) λ z=>I.ok.exfs b z hb
theorem Inv.step {g':Array GenState} {t':Nat} {d':Drawn} {ch:List Addr} (I:Inv X pins σ H s)
  (hch:∀b∈ch,(b∈X.ex\/X.s₀.heap.objs.size<=b)/\b≠X.env.locals/\(∀x c,X.env.cells.lookup x=some c->c≠b)/\∀p∈X.pn ++ pins,p.1≠b)
  (keep:∀b o,b≠X.env.locals->b∉X.fs->b∉ch->s.heap.get? b=some o->H b=none->h'.get? b=some o)
  (slot:∀b o,b≠X.env.locals->b∈X.fs->b∉ch->s.heap.get? b=some o->H b=none->∃sl,h'.get? b=some { o with slots:=sl }) (free:∀b o,b∉ch->s.heap.get? b=some o->H b=none->H' b=none)
  (there:∀b o,b∉ch->s.heap.get? b=some o->∃o',h'.get? b=some o')
  (tups:∀b xs,H b=some (.tup xs)->H' b=some (.tup xs)) (frzs:∀b o u,H b=some (.frz o u)->H' b=some (.frz o u)) (tbls:∀b ps,H b=some (.tbl ps)->∃more,H' b=some (.tbl (ps ++ more)))
  (ns:∀m,s.heap.Ns X.env.locals m->h'.Ns X.env.locals m) (hok:HOk X.prog X.w H' h') (hg:AllBare g') :
  Inv X pins σ H' { s with heap:=h',gens:=g',drawn:=d',toks:=t' }:=by
 have neL:∀b o,X.s₀.heap.get? b=some o->b≠X.env.locals:=λ b o e=>B9 (C1 (A9 e) I.ok.above);have neC:∀b o,X.s₀.heap.get? b=some o->b∉X.ex->b∉ch:=λ b o e hx hb=>by
  rcases (hch b hb).1 with z | z
  ·exact hx z
  ·exact absurd (C1 (A9 e) z) (E1 _)
 have cellK:∀x c,X.env.cells.lookup x=some c->∀v,s.heap.IsCell c v->h'.IsCell c v:=λ x c e v ⟨o,ho,hd⟩=>by
  have nch:c∉ch:=λ z=>(hch c z).2.2.1 x c e rfl
  by_cases hc:c∈X.fs
  ·obtain ⟨sl,q⟩:=slot c o (I.cne x c e) hc nch ho (I.freeC x c e);exact ⟨_,q,hd⟩
  ·exact ⟨o,keep c o (I.cne x c e) hc nch ho (I.freeC x c e),hd⟩
 refine ⟨I.ok,I.os,hg,⟨λ b o e n hb hx=>?_,λ b o e n hb hx=>?_,λ b o e n hx=>?_,λ b o e hx=>?_,λ b xs e=>tups b xs (I.base.tups b xs e),λ b o xs e=>frzs b o xs (I.base.frzs b o xs e),λ b ps e=>?_⟩,?_,λ x c e=>?_,?_,λ x c e=>?_,λ p hp=>?_,hok,I.len⟩
 ·exact keep b o (neL b o e) hb (neC b o e hx) (I.base.keep b o e n hb hx) (I.base.free b o e n hx)
 ·obtain ⟨sl,e1⟩:=I.base.slot b o e n hb hx;obtain ⟨sl',e2⟩:=slot b _ (neL b o e) hb (neC b o e hx) e1 (I.base.free b o e n hx);exact ⟨sl',e2⟩
 ·obtain ⟨o',e1⟩:=I.base.there b o e hx;exact free b o' (neC b o e hx) e1 (I.base.free b o e n hx)
 ·obtain ⟨o',e1⟩:=I.base.there b o e hx;exact there b o' (neC b o e hx) e1
 ·obtain ⟨m1,e1⟩:=I.base.tbls b ps e;obtain ⟨m2,e2⟩:=tbls b _ e1;exact ⟨m1 ++ m2,by rw [e2,Array.append_assoc]⟩
 ·obtain ⟨m,hn,hl⟩:=I.loc;refine ⟨m,ns m hn,λ i x v e1 e2 e3=>?_⟩;obtain ⟨u,r,l⟩:=hl i x v e1 e2 e3;refine ⟨u,r,?_⟩;rcases l with l | ⟨k,c,e,z⟩
  ·exact .inl l
  ·exact .inr ⟨k,c,e,cellK x c e _ z⟩
 ·obtain ⟨v,z⟩:=I.cell x c e;exact ⟨v,cellK x c e v z⟩
 ·obtain ⟨m,⟨o,_,_,ho,_⟩,_⟩:=I.loc;exact free _ o (λ z=>(hch _ z).2.1 rfl) ho I.free
 ·obtain ⟨v,o,ho,hd⟩:=I.cell x c e;exact free c o (λ z=>(hch c z).2.2.1 x c e rfl) ho (I.freeC x c e)
 ·obtain ⟨e,n,ne,nf,d⟩:=I.pin p hp;have nch:p.1∉ch:=λ z=>(hch p.1 z).2.2.2 p hp rfl;exact ⟨keep p.1 p.2 ne nf nch e n,free p.1 p.2 nch e n,ne,nf,d⟩
theorem Inv.un {t':Nat} (I:Inv X pins σ H s) (u:Un X.fs [] H H' s.heap h') (hok:HOk X.prog X.w H' h'):Inv X pins σ H' { s with heap:=h',toks:=t' }:=by
 obtain ⟨m,⟨o,es,ep,ho,r⟩,_⟩:=id I.loc;obtain ⟨sl,hL⟩:=u.any ho I.free (by simp);exact I.step (g':=s.gens) (d':=s.drawn) (ch:=[]) (λ _ z=>nomatch z) (λ b o _ hb _ e n=>u.keep b o e n hb (by simp)) (λ b o _ hb _ e n=>u.slot b o e n hb (by simp)) (λ b o _ e n=>u.free b o e n (by simp)) (λ b o _ e=>u.there b o e (by simp)) u.tups u.frzs u.tbls (λ m' hm=>by
  obtain ⟨o',es',ep',ho',r'⟩:=hm;rw [ho] at ho'; cases ho';exact ⟨_,es',ep',hL,r'⟩) hok I.bare
theorem Inv.call {g':Array GenState} {t':Nat} {d':Drawn} {ch:List Addr} (I:Inv X pins σ H s) (u:Un (frs X.stack) ch H H' s.heap h') (hok:HOk X.prog X.w H' h') (hg:AllBare g')
  (hch:∀b∈ch,(b∈X.ex\/X.s₀.heap.objs.size<=b)/\b≠X.env.locals/\(∀x c,X.env.cells.lookup x=some c->c≠b)/\∀p∈X.pn ++ pins,p.1≠b) :
  Inv X pins σ H' { s with heap:=h',gens:=g',drawn:=d',toks:=t' }:=by
 obtain ⟨m,⟨o,es,ep,ho,r⟩,_⟩:=id I.loc;obtain ⟨sl,hL⟩:=u.any ho I.free λ z=>(hch _ z).2.1 rfl;exact I.step (ch:=ch) hch (λ b o hL hb hc e n=>u.keep b o e n (λ z=>(List.mem_cons.mp (I.stkSub b z)).elim hL hb) hc) (λ b o _ _ hc e n=>u.any e n hc) (λ b o hc e n=>u.free b o e n hc) (λ b o hc e=>u.there b o e hc) u.tups u.frzs u.tbls (λ m' hm=>by
  obtain ⟨o',es',ep',ho',r'⟩:=hm;rw [ho] at ho'; cases ho';exact ⟨_,es',ep',hL,r'⟩) hok hg
theorem Inv.turned {t':Nat} {it:Addr} (I:Inv X pins σ H s) (k:∀b o,b≠it->s.heap.get? b=some o->h'.get? b=some o) (hn:H it=none) (hL:it≠X.env.locals)
  (h1:it∈X.ex\/X.s₀.heap.objs.size<=it) (h2:∀x c,X.env.cells.lookup x=some c->c≠it) (h3:∀p∈X.pn ++ pins,p.1≠it):Inv X pins σ H { s with heap:=h',toks:=t' }:=by
 have nit:∀b u,H b=some u->b≠it:=λ b u e z=>by rw [z,hn] at e; cases e
 refine I.step (g':=s.gens) (d':=s.drawn) (ch:=[it]) (λ b hb=>?_) (λ b o _ _ hc e _=>k b o (λ z=>hc (by simp [z])) e) (λ b o _ _ hc e _=>⟨o.slots,k b o (λ z=>hc (by simp [z])) e⟩) (λ _ _ _ _ n=>n)
  (λ b o hc e=>⟨o,k b o (λ z=>hc (by simp [z])) e⟩) (λ _ _ e=>e) (λ _ _ _ e=>e) (λ b ps e=>⟨#[],by rw [e]; simp⟩) (λ m hm=>?_) (λ b u e=>?_) I.bare
 ·have e:b=it:=by simpa using hb
  subst e;exact ⟨h1,hL,h2,h3⟩
 ·obtain ⟨o,es,ep,ho,r⟩:=hm;exact ⟨o,es,ep,k _ o (Ne.symm hL) ho,r⟩
 ·refine (I.hok b u e).stay (λ c v hc q=>k c v ?_ q) (λ _ q=>q) λ _ _ q=>q;rcases hc with z | z
  ·rw [z]; exact nit b u e
  ·exact nit c _ z
theorem Inv.tok (I:Inv X pins σ H s) (t:Nat):Inv X pins σ H { s with toks:=t }:=I.un (h':=s.heap) (t':=t) Un.refl I.hok
theorem Inv.kept {t':Nat} (I:Inv X pins σ H s) (k:∀b u,s.heap.get? b=some u->h'.get? b=some u):Inv X pins σ H { s with heap:=h',toks:=t' }:=I.un (Un.kept k) (I.hok.kept k)
theorem Inv.laid {a:Addr} {o:HO} {t':Nat} (I:Inv X pins σ H s) (k:∀b u,s.heap.get? b=some u->h'.get? b=some u) (hp:s.heap.objs.size<=a) (new:ObjOk X.prog X.w (upd H a o) h' a o) :
  Inv X pins σ (upd H a o) { s with heap:=h',toks:=t' }:=I.un (Un.laid k hp (I.hok.fresh hp)) (I.hok.laid k hp new)
theorem Inv.write {x e:Addr} {o:HO} {t':Nat} (I:Inv X pins σ H s) (mu:Mut (H x)) (he:e=x\/H e=some (.own x)) (k:∀b u,b≠e->s.heap.get? b=some u->h'.get? b=some u) (heo:∃u,h'.get? e=some u)
  (new:ObjOk X.prog X.w (upd H x o) h' x o):Inv X pins σ (upd H x o) { s with heap:=h',toks:=t' }:=I.un (Un.write mu he k heo) (I.hok.write mu he k heo new)
theorem Inv.weak {σ':List (Option V)} (I:Inv X pins σ H s) (hl:σ'.length=σ.length) (w:∀ (i:Nat) v,σ'[i]? = some (some v)->σ[i]? = some (some v)):Inv X pins σ' H s :=
 ⟨I.ok,I.os,I.bare,I.base,let ⟨m,hn,hl'⟩:=I.loc; ⟨m,hn,λ i x v e1 e2 e3=>hl' i x v e1 (w i v e2) e3⟩,I.cell,I.free,I.freeC,I.pin,I.hok,hl.trans I.len⟩
theorem Inv.pins_of {pins':List (Addr×Obj)} (I:Inv X pins σ H s) (h:∀p∈pins',s.heap.get? p.1=some p.2/\H p.1=none/\p.1≠X.env.locals/\p.1∉X.fs/\∀v,p.2.data≠.cell v):Inv X pins' σ H s :=
 ⟨I.ok,I.os,I.bare,I.base,I.loc,I.cell,I.free,I.freeC,λ p hp=>(C2.mp hp).elim (λ z=>I.pin p (B6 _ z)) (h p),I.hok,I.len⟩
theorem jX {N:List Str} (hN:N.Nodup) {i j:Nat} {x:Str} (a:N[i]? = some x) (b:N[j]? = some x):i=j:=by obtain ⟨h1,e1⟩:=A6.mp a;obtain ⟨h2,e2⟩:=A6.mp b;exact (List.getElem_inj hN).mp (e1.trans e2.symm)
theorem iD {M:Model} {A:Around} {E:KG->KB->Prop} {i:Nat} {x:Str} {v:V} {u:KG} {Q:Unit->KB->Prop} (I:Inv X pins σ H s) (hN:X.N.Nodup) (hi:X.N[i]? = some x) (hx:Loc X.env.scope x) (r:RelV v u)
  (h:∀s',Inv X pins (σ.set i (some v)) H s'->(∃a,Heap.SameBut a s.heap s'.heap/\(a=X.env.locals\/X.env.cells.lookup x=some a))->Q () s') (hf:X.fn x=true\/X.env.scope.names.lookup x=some .local:=by first | exact .inl rfl | exact .inr rfl | assumption):wpAny M A (storeName X.env x u) Q E s:=by
 obtain ⟨m,hn,hl⟩:=id I.loc;have hcls:(X.env.scope.kind == .class || (X.env.scope.kind == .module && X.env.locals != X.env.globals))=false:=by rw [I.ok.kind]; rfl
 have hiσ:i < σ.length:=by rw [I.len]; exact (A6.mp hi).1
 have cne:=I.cne;have tracked:∀ {a:Addr} {h':Heap},(∃o,s.heap.get? a=some o/\H a=none)->Heap.SameBut a s.heap h'->HOk X.prog X.w H h':=λ {a h'} ha hs b ob e=>by
  obtain ⟨_,_,hfree⟩:=ha;refine (I.hok b ob e).stay (λ c w' hc q=>(hs.2 c ?_).trans q) (λ _ q=>q) λ _ _ q=>q;rintro rfl;rcases hc with rfl | hc
  ·rw [hfree] at e; cases e
  ·rw [hfree] at hc; cases hc
 rcases hx with hk | hk
 ·refine wpAny_storeName_local hk hn (λ h' hn' hs=>?_) hcls;obtain ⟨oL,_,_,hoL,_⟩:=id hn;refine h _ ⟨I.ok,I.os,I.bare,⟨λ b o e n hb hx=>?_,λ b o e n hb hx=>?_,I.base.free,λ b o e hx=>?_,I.base.tups,I.base.frzs,I.base.tbls⟩,⟨_,hn',λ j y v' e1 e2 e3=>?_⟩,λ y c e=>?_,I.free,I.freeC,λ p hp=>?_,tracked ⟨oL,hoL,I.free⟩ hs,by simpa using I.len⟩ ⟨_,hs,.inl rfl⟩
  ·exact (hs.2 b (B9 (C1 (A9 e) I.ok.above))).trans (I.base.keep b o e n hb hx)
  ·obtain ⟨sl,e1⟩:=I.base.slot b o e n hb hx;exact ⟨sl,(hs.2 b (B9 (C1 (A9 e) I.ok.above))).trans e1⟩
  ·obtain ⟨o',e1⟩:=I.base.there b o e hx;exact ⟨o',(hs.2 b (B9 (C1 (A9 e) I.ok.above))).trans e1⟩
  ·by_cases hj:j=i
   ·subst hj;rw [hi] at e1; cases e1;rw [List.getElem?_set_self hiσ] at e2;cases e2;exact ⟨u,r,.inl ⟨hk,by simp⟩⟩
   ·rw [List.getElem?_set_ne (Ne.symm hj)] at e2;obtain ⟨u',r',q⟩:=hl j y v' e1 e2 e3;refine ⟨u',r',?_⟩;rcases q with ⟨k,e⟩ | ⟨k,c,e,z⟩
    ·refine .inl ⟨k,?_⟩;have:y≠x:=λ e=>hj (jX hN e1 (e ▸ hi));simp [this,e]
    ·exact .inr ⟨k,c,e,z.sameBut hs (cne y c e)⟩
  ·obtain ⟨w',z⟩:=I.cell y c e;exact ⟨w',z.sameBut hs (cne y c e)⟩
  ·obtain ⟨e,n,ne,nf,d⟩:=I.pin p hp;exact ⟨(hs.2 p.1 ne).trans e,n,ne,nf,d⟩
 ·have hfn:X.fn x=true:=by
   rcases hf with z | z
   ·exact z
   ·rw [z] at hk; cases hk
  obtain ⟨c,hc⟩:=I.ok.has x (.inl hk);obtain ⟨w',z⟩:=I.cell x c hc;refine wpAny_storeName_cell I.ok.kind hk hc z (λ h' hc' hs=>?_);obtain ⟨oc,hoc,hocd⟩:=id z;refine h { s with heap:=h' } ⟨I.ok,I.os,I.bare,⟨λ b o e n hb hx=>?_,λ b o e n hb hx=>?_,I.base.free,λ b o e hx=>?_,I.base.tups,I.base.frzs,I.base.tbls⟩,⟨m,hn.sameBut hs (Ne.symm (cne x c hc)),λ j y v' e1 e2 e3=>?_⟩,λ y c' e=>?_,I.free,I.freeC,λ p hp=>?_,tracked ⟨oc,hoc,I.freeC x c hc⟩ hs,by simpa using I.len⟩ ⟨c,hs,.inr hc⟩
  ·exact (hs.2 b (B9 (C1 (A9 e) (I.ok.cab x c hfn hc)))).trans (I.base.keep b o e n hb hx)
  ·obtain ⟨sl,e1⟩:=I.base.slot b o e n hb hx;exact ⟨sl,(hs.2 b (B9 (C1 (A9 e) (I.ok.cab x c hfn hc)))).trans e1⟩
  ·obtain ⟨o',e1⟩:=I.base.there b o e hx;exact ⟨o',(hs.2 b (B9 (C1 (A9 e) (I.ok.cab x c hfn hc)))).trans e1⟩
  ·by_cases hj:j=i
   ·subst hj;rw [hi] at e1; cases e1;rw [List.getElem?_set_self hiσ] at e2;cases e2;exact ⟨u,r,.inr ⟨.inl hk,c,hc,hc'⟩⟩
   ·rw [List.getElem?_set_ne (Ne.symm hj)] at e2;obtain ⟨u',r',q⟩:=hl j y v' e1 e2 e3;refine ⟨u',r',?_⟩;rcases q with q | ⟨k,c',e,z'⟩
    ·exact .inl q
    ·refine .inr ⟨k,c',e,z'.sameBut hs ?_⟩;rintro rfl;exact hj (jX hN e1 (I.ok.inj _ _ _ e hc ▸ hi))
  ·by_cases hcc:c'=c
   ·subst hcc; exact ⟨_,hc'⟩
   ·obtain ⟨w2,z2⟩:=I.cell y c' e;exact ⟨w2,z2.sameBut hs hcc⟩
  ·obtain ⟨e,n,ne,nf,d⟩:=I.pin p hp;refine ⟨(hs.2 p.1 ?_).trans e,n,ne,nf,d⟩;intro q;rw [q,hoc] at e;have q':oc=p.2:=B8 e;exact d w' (by rw [<- q']; exact hocd)
theorem dU {M:Model} {A:Around} {E:KG->KB->Prop} {i:Nat} {x:Str} {v:V} {u:KG} {Q:Unit->KB->Prop} (I:Inv X pins σ H s) (hN:X.N.Nodup) (hi:X.N[i]? = some x) (hx:Loc X.env.scope x) (r:RelV v u)
  (h:∀s',Inv X pins (σ.set i (some v)) H s'->Q () s') (hf:X.fn x=true\/X.env.scope.names.lookup x=some .local:=by first | exact .inl rfl | exact .inr rfl | assumption):wpAny M A (storeName X.env x u) Q E s :=
 iD I hN hi hx r (λ s' I' _=>h s' I') hf
theorem Inv.call' {s':KB} {ch:List Addr} (I:Inv X pins σ H s) (ho:s'.os=s.os) (u:Un (frs X.stack) ch H H' s.heap s'.heap) (hok:HOk X.prog X.w H' s'.heap) (hg:AllBare s'.gens)
  (hch:∀b∈ch,(b∈X.ex\/X.s₀.heap.objs.size<=b)/\b≠X.env.locals/\(∀x c,X.env.cells.lookup x=some c->c≠b)/\∀p∈X.pn ++ pins,p.1≠b):Inv X pins σ H' s':=by
 obtain ⟨h',g',d',t',o'⟩:=s';have e:o'=s.os:=ho;subst e;exact I.call (g':=g') (t':=t') (d':=d') u hok hg hch
end
abbrev XK:=Value->Option Addr->Hp->Prop
abbrev St:=List (Option V)
abbrev VK:=V->Hp->Prop
abbrev TE:=St->Hp->VK->Prop
abbrev TT:=St->Hp->(Bool->Hp->Prop)->Prop
abbrev TA:=St->Hp->(List V->Hp->Prop)->Prop
structure Ends where
 nx:St->Hp->Prop
 rt:VK
 bk:St->Hp->Prop:=λ _ _=>False
 ct:St->Hp->Prop:=λ _ _=>False
abbrev TS:=Ends->St->Hp->Prop
def EP (X:Cx) (pins:List (Addr×Obj)) (σ:St) (Q:VK) (u:KG) (s':KB):Prop:=∃v H',Inv X pins σ H' s'/\RelV v u/\Q v H'
def TP (X:Cx) (pins:List (Addr×Obj)) (σ:St) (Q:Bool->Hp->Prop) (b:Bool) (s':KB):Prop:=∃H',Inv X pins σ H' s'/\Q b H'
def AP (X:Cx) (pins:List (Addr×Obj)) (σ:St) (Q:List V->Hp->Prop) (us:List KG) (s':KB):Prop:=∃vs H',Inv X pins σ H' s'/\Vals vs us/\Q vs H'
def SP (X:Cx) (pins:List (Addr×Obj)) (D:Ends) (f:Flow) (s':KB):Prop :=
 match f with
 | .next=>∃σ' H',Inv X pins σ' H' s'/\D.nx σ' H'
 | .brk=>∃σ' H',Inv X pins σ' H' s'/\D.bk σ' H'
 | .cont=>∃σ' H',Inv X pins σ' H' s'/\D.ct σ' H'
 | .ret u=>∃v σ' H',Inv X pins σ' H' s'/\RelV v u/\D.rt v H'
def PE (X:Cx) (e:Expr) (t:TE):Prop :=
 ∀ (pins:List (Addr×Obj)) (s:KB) (σ:St) (H:Hp) (Q:VK),Inv X pins σ H s->t σ H Q->wpAny (model X.prog X.w) X.A (eval e X.env) (EP X pins σ Q) X.xe s
def PT (X:Cx) (e:Expr) (t:TT):Prop :=
 ∀ (pins:List (Addr×Obj)) (s:KB) (σ:St) (H:Hp) (Q:Bool->Hp->Prop),Inv X pins σ H s->t σ H Q->wpAny (model X.prog X.w) X.A (isTrue e X.env (eval e X.env)) (TP X pins σ Q) X.xe s
def PW (X:Cx) (e:Expr) (t:TT):Prop :=
 ∀ (aQ:Sem KG) (pins:List (Addr×Obj)) (s:KB) (σ:St) (H:Hp) (Q:Bool->Hp->Prop),Inv X pins σ H s->t σ H Q->wpAny (model X.prog X.w) X.A (isTrue e X.env aQ) (TP X pins σ Q) X.xe s
theorem PW.pt {X:Cx} {e:Expr} {t:TT} (h:PW X e t):PT X e t:=h _
def PA (X:Cx) (es:List Expr) (t:TA):Prop :=
 ∀ (pos:Pos) (pins:List (Addr×Obj)) (s:KB) (σ:St) (H:Hp) (Q:List V->Hp->Prop),Inv X pins σ H s->t σ H Q->wpAny (model X.prog X.w) X.A (spliced (backTo pos (starEach es X.env))) (AP X pins σ Q) X.xe s
def PS (X:Cx) (st:Stmt) (t:TS):Prop :=
 ∀ (pins:List (Addr×Obj)) (s:KB) (σ:St) (H:Hp) (D:Ends),Inv X pins σ H s->t D σ H->wpAny (model X.prog X.w) X.A (exec st X.env) (SP X pins D) X.xe s
def PSs (X:Cx) (st:List Stmt) (t:TS):Prop :=
 ∀ (pins:List (Addr×Obj)) (s:KB) (σ:St) (H:Hp) (D:Ends),Inv X pins σ H s->t D σ H->wpAny (model X.prog X.w) X.A (execs st X.env) (SP X pins D) X.xe s
theorem thn {α:Type} {t:Sem α} {Q Q':α->KB->Prop} {M:Model} {A:Around} {E:KG->KB->Prop} {s:KB} (h:wpAny M A t Q E s) (hQ:∀a s,Q a s->Q' a s):wpAny M A t Q' E s:=wpAny_mono h hQ λ _ _ x=>x
section
variable {X:Cx}
theorem bin {a b:Expr} {ta tb:TE} (ha:PE X a ta) (hb:PE X b tb) {pins:List (Addr×Obj)} {s:KB} {σ:St} {H:Hp} {R:V->V->Hp->Prop} (I:Inv X pins σ H s) (h:ta σ H λ x H1=>tb σ H1 λ y H2=>R x y H2)
  {α:Type} {Q:α->KB->Prop} {f:KG->KG->Sem α}
  (hf:∀v u s2 x y H2,Inv X pins σ H2 s2->RelV x v->RelV y u->R x y H2->wpAny (model X.prog X.w) X.A (f v u) Q X.xe s2) :
  wpAny (model X.prog X.w) X.A (eval a X.env) (λ v s₁=>wpAny (model X.prog X.w) X.A (eval b X.env) (λ u s₂=>wpAny (model X.prog X.w) X.A (f v u) Q X.xe s₂) X.xe s₁) X.xe s:=by
 refine thn (ha pins s σ H _ I h) λ v s1 ⟨x,H1,I1,r1,q1⟩=>?_;refine thn (hb pins s1 σ H1 _ I1 q1) λ u s2 ⟨y,H2,I2,r2,q2⟩=>?_;exact hf v u s2 x y H2 I2 r1 r2 q2
inductive tVar (i:Nat) (σ:St) (H:Hp) (Q:VK):Prop
 | mk (v:V) (e_0:σ[i]? = some (some v)) (e_1:Q v H):tVar i σ H Q
def tC (v:V):TE:=λ _ H Q=>Q v H
theorem xk {i:Nat} {x:Str} {pos:Pos} (hN:X.N[i]? = some x) (hv:Vis X.env.scope x) (hd:(x == ("__debug__" : Str))=false:=by decide) (hcd:(x == ("__classdict__" : Str))=false:=by decide):PE X (.Name x pos) (tVar i):=by
 intro pins s σ H Q I h;obtain ⟨v,e,h⟩:=h;obtain ⟨m,hn,hl⟩:=I.loc;obtain ⟨u,r,l⟩:=hl i x v hN e hv;have fin:EP X pins σ Q u s:=⟨v,H,I,r,h⟩
 rcases l with ⟨hk,hm⟩ | ⟨hk,c,hc,hcell⟩
 ·exact wpAny_Name (wpAny_loadName_local I.ok.kind hk hn hm fin) hd
 ·rcases hk with hk | hk
  ·exact wpAny_Name (wpAny_loadName_cell I.ok.kind hk hc hcell fin) hd
  ·exact wpAny_Name (wpAny_loadName_free I.ok.kind hk hc hcell fin hcd) hd
theorem af {i j pos}:PE X (.Constant (.int i) j pos) (tC (.int i)):=λ _ _ _ H _ I h=>wpAny_Constant_int ⟨.int i,H,I.tok _,⟨_,rfl⟩,h⟩
theorem bD {b j pos}:PE X (.Constant (.bool b) j pos) (tC (.bl b)):=λ _ _ _ H _ I h=>Constant_bool ⟨.bl b,H,I,rfl,h⟩
theorem rG {j pos}:PE X (.Constant .none j pos) (tC .non):=λ _ _ _ H _ I h=>Constant_none ⟨.non,H,I,rfl,h⟩
def Gl (X:Cx) (x:Str):Prop:=X.env.kindOf x=some .globalImplicit
theorem jh {E:KG->KB->Prop} {pins:List (Addr×Obj)} {s:KB} {σ:St} {H:Hp} {x:Str} {u:KG} {pos:Pos} {Q:KG->KB->Prop} (I:Inv X pins σ H s) (hg:Gl X x) (hm:X.mg x=some u) (h:Q u s)
  (hd:(x == ("__debug__" : Str))=false:=by decide):wpAny (model X.prog X.w) X.A (eval (.Name x pos) X.env) Q E s :=
 Calls.Name_function_global I.ok.kind hg (Calls.loadGlobal_global (by rw [I.ok.glob]; exact I.mod.glob.keeps I.bk) hm h) hd
theorem dW {E:KG->KB->Prop} {pins:List (Addr×Obj)} {s:KB} {σ:St} {H:Hp} {x:Str} {u:KG} {pos:Pos} {Q:KG->KB->Prop} (I:Inv X pins σ H s) (hg:Gl X x) (hm:X.mg x=none) (hv:bootBuiltins x=some u) (h:Q u s)
  (hn:x ≠ "__name__" := by decide) (hd:(x == ("__debug__" : Str))=false:=by decide):wpAny (model X.prog X.w) X.A (eval (.Name x pos) X.env) Q E s:=by
 obtain ⟨mb,h1,h2⟩:=I.mod.blt;exact Calls.Name_function_global I.ok.kind hg (Calls.loadGlobal_builtin (by rw [I.ok.glob]; exact I.mod.glob.keeps I.bk) hm (by rw [I.ok.blt]; exact h1.keeps I.bk) ((h2 x hn).trans hv) h) hd
theorem aL {x:Str} {v:V} {u:KG} {pos:Pos} (hg:Gl X x) (hm:X.mg x=some u) (r:RelV v u) (hd:(x == ("__debug__" : Str))=false:=by decide):PE X (.Name x pos) (tC v) :=
 λ _ _ _ H _ I h=>jh I hg hm ⟨v,H,I,r,h⟩ hd
theorem cK {x:Str} {v:V} {u:KG} {pos:Pos} (hg:Gl X x) (hm:X.mg x=none) (hv:bootBuiltins x=some u) (r:RelV v u) (hn:x ≠ "__name__" := by decide) (hd:(x == ("__debug__" : Str))=false:=by decide):PE X (.Name x pos) (tC v) :=
 λ _ _ _ H _ I h=>dW I hg hm hv ⟨v,H,I,r,h⟩ hn hd
variable {a b:Expr} {ta tb:TE} {pos:Pos}
def PC (X:Cx) (op:CmpOp) (a b:Expr) (t:TE):Prop :=
 ∀ (pins:List (Addr×Obj)) (s:KB) (σ:St) (H:Hp) (Q:VK),Inv X pins σ H s->t σ H Q ->
  wpAny (model X.prog X.w) X.A (eval a X.env) (λ v s₁=>wpAny (model X.prog X.w) X.A (eval b X.env) (λ u s₂=>wpAny (model X.prog X.w) X.A (compareOp op v u) (EP X pins σ Q) X.xe s₂) X.xe s₁) X.xe s
inductive IsB (x:V) (Q:Bool->Prop):Prop
 | mk (c:Bool) (e:x=.bl c) (q:Q c):IsB x Q
def tB (t:TE):TT:=λ σ H Q=>t σ H λ x H1=>IsB x λ c=>Q c H1
theorem GR {op:CmpOp} {t:TE} (h:PC X op a b t) (h1:behindInMarks op b=false:=by first | exact nobehind _ (by decide) (by decide) | rfl):PT X (.Compare a [op] [b] pos) (tB t):=by intro pins s σ H Q I hw;refine wpAny_isTrue_Compare1 (thn (h pins s σ H _ I hw) λ v s1 h1=>thn h1 λ u s2 h2=>thn h2 λ c s3 ⟨x,H1,I1,r1,q1⟩=>?_) h1;obtain ⟨d,rfl,q⟩:=q1;cases r1;exact G4 ⟨H1,I1,q⟩
theorem aK {e:Expr} {t:TE} (h:PE X e t) (he:∀aQ,isTrue e X.env aQ=(do let v<-aQ; standAt e.pos; holding [v] (truthy v)):=by intro _; rfl):PT X e (tB t):=by intro pins s σ H Q I hw;refine isTrue_plain (thn (h pins s σ H _ I hw) λ v s1 ⟨x,H1,I1,r1,q1⟩=>?_) (he _);obtain ⟨d,rfl,q⟩:=q1;cases r1;exact G4 ⟨H1,I1,q⟩
variable {tA tB':TT} {rest:List Expr}
def GS (t u:TT):TT:=λ σ H Q=>t σ H λ c H1=>if c=true then u σ H1 Q else Q false H1
def tOr (t u:TT):TT:=λ σ H Q=>t σ H λ c H1=>if c=true then Q true H1 else u σ H1 Q
def GT (t:TT):TT:=λ σ H Q=>t σ H λ c H1=>Q (!c) H1
theorem oh (ha:PT X a tA):PW X (.BoolOp .And [a] pos) tA:=by
 intro wh pins s σ H Q I h;refine isTrue_and (thn (ha pins s σ H Q I h) λ c s1 e=>?_);cases c with
 | true=>exact isTrue_and_nil e
 | false=>exact e
theorem bK (ha:PT X a tA):PW X (.BoolOp .Or [a] pos) tA:=by
 intro wh pins s σ H Q I h;refine isTrue_or (thn (ha pins s σ H Q I h) λ c s1 e=>?_);cases c with
 | false=>exact isTrue_or_nil e
 | true=>exact e
theorem rH (ha:PT X a tA) (hb:PW X (.BoolOp .And (b :: rest) pos) tB'):PW X (.BoolOp .And (a :: b :: rest) pos) (GS tA tB'):=by
 intro wh pins s σ H Q I h;refine isTrue_and (thn (ha pins s σ H _ I h) λ c s1 ⟨H1,I1,q1⟩=>?_);cases c with
 | true=>exact hb wh pins s1 σ H1 Q I1 q1
 | false=>exact ⟨H1,I1,q1⟩
theorem bQ (ha:PT X a tA) (hb:PW X (.BoolOp .Or (b :: rest) pos) tB'):PW X (.BoolOp .Or (a :: b :: rest) pos) (tOr tA tB'):=by
 intro wh pins s σ H Q I h;refine isTrue_or (thn (ha pins s σ H _ I h) λ c s1 ⟨H1,I1,q1⟩=>?_);cases c with
 | true=>exact ⟨H1,I1,q1⟩
 | false=>exact hb wh pins s1 σ H1 Q I1 q1
theorem aR (ha:PT X a tA):PT X (.UnaryOp .Not a pos) (GT tA):=by intro pins s σ H Q I h;exact isTrue_not (ha pins s σ H (λ c H1=>Q (!c) H1) I h)
def CD (ta tb:TE):TE:=λ σ H Q=>ta σ H λ x H1=>IsB x λ c=>if c=true then tb σ H1 Q else Q (.bl false) H1
def GU (ta tb:TE):TE:=λ σ H Q=>ta σ H λ x H1=>IsB x λ c=>if c=true then Q (.bl true) H1 else tb σ H1 Q
def CF (ta:TE):TE:=λ σ H Q=>ta σ H λ x H1=>IsB x λ c=>Q (.bl (!c)) H1
theorem bV {op} {t:TE} (h:PE X a t):PE X (.BoolOp op [a] pos) t:=λ pins s σ H Q I hw=>BoolOp_one (h pins s σ H Q I hw)
theorem bL (ha:PE X a ta) (hb:PE X (.BoolOp .And (b :: rest) pos) tb):PE X (.BoolOp .And (a :: b :: rest) pos) (CD ta tb):=by
 intro pins s σ H Q I h;refine BoolOp_and (thn (ha pins s σ H _ I h) λ v s1 ⟨x,H1,I1,r1,q1⟩=>?_);obtain ⟨c,rfl,q1⟩:=q1;cases r1;refine G4 ?_;cases c with
 | true=>exact hb pins s1 σ H1 Q I1 q1
 | false=>exact ⟨.bl false,H1,I1,Y,q1⟩
theorem rJ (ha:PE X a ta) (hb:PE X (.BoolOp .Or (b :: rest) pos) tb):PE X (.BoolOp .Or (a :: b :: rest) pos) (GU ta tb):=by
 intro pins s σ H Q I h;refine BoolOp_or (thn (ha pins s σ H _ I h) λ v s1 ⟨x,H1,I1,r1,q1⟩=>?_);obtain ⟨c,rfl,q1⟩:=q1;cases r1;refine G4 ?_;cases c with
 | false=>exact hb pins s1 σ H1 Q I1 q1
 | true=>exact ⟨.bl true,H1,I1,Y,q1⟩
theorem rK (ha:PE X a ta):PE X (.UnaryOp .Not a pos) (CF ta):=by intro pins s σ H Q I h;refine UnaryOp_ (thn (ha pins s σ H _ I h) λ v s1 ⟨x,H1,I1,r1,q1⟩=>?_);obtain ⟨c,rfl,q1⟩:=q1;cases r1;exact not_of (G4 ⟨.bl (!c),H1,I1,rfl,q1⟩)
def tIf (t:TT) (ta tb:TE):TE:=λ σ H Q=>t σ H λ c H1=>if c=true then ta σ H1 Q else tb σ H1 Q
theorem gQ {c:Expr} (hc:PT X c tA) (ha:PE X a ta) (hb:PE X b tb):PE X (.IfExp c a b pos) (tIf tA ta tb):=by
 intro pins s σ H Q I h;refine wpAny_IfExp (thn (hc pins s σ H _ I h) λ d s1 ⟨H1,I1,q1⟩=>?_);cases d with
 | true=>exact ha pins s1 σ H1 Q I1 q1
 | false=>exact hb pins s1 σ H1 Q I1 q1
end
def SqL (K:C4) (H:Hp) (a:Addr) (xs:List V):Prop :=
 Rd H a (.lst xs) \/
  ∃ (o:Obj) (its:Array KG) (n:Nat),K.lookup a=some o/\o.cls=.type "list" /\ o.dict=none/\o.data=.seq its n/\its.size<=sizeLine/\Vals xs its.toList
def SqT (K:C4) (H:Hp) (a:Addr) (xs:List V):Prop :=
 Rd H a (.tup xs) \/
  ∃ (o:Obj) (its:Array KG) (n:Nat),K.lookup a=some o/\o.cls=.type "tuple" /\ o.data=.seq its n/\its.size<=sizeLine/\Vals xs its.toList
def GV:KG->Option V
 | .none=>some .non
 | .bool b=>some (.bl b)
 | .int i _=>some (.int i)
 | .str x _=>some (.str x)
 | .bytes b _=>some (.byt b)
 | .float b _=>some (.flt b)
 | .ref a=>some (.ref a)
 | .type n=>some (.ty n)
 | _=>none
theorem RelV.abs {x:V} {u:KG} (r:RelV x u):GV u=some x:=by
 cases x with
 | non=>cases r; rfl
 | bl _=>cases r; rfl
 | int _=>obtain ⟨t,rfl⟩:=r; rfl
 | str _=>obtain ⟨t,rfl⟩:=r; rfl
 | byt _=>obtain ⟨t,rfl⟩:=r; rfl
 | flt _=>obtain ⟨t,rfl⟩:=r; rfl
 | ref _=>cases r; rfl
 | ty _=>cases r; rfl
theorem RelV.inj {x y:V} {u:KG} (r:RelV x u) (q:RelV y u):x=y:=B8 (r.abs.symm.trans q.abs)
theorem Vals.inj:∀ {xs ys:List V} {us:List KG},Vals xs us->Vals ys us->xs=ys
 | _,_,_,.nil,.nil=>rfl
 | _,_,_,.cons r t,.cons r' t'=>by rw [r.inj r',Vals.inj t t']
section
variable {X:Cx} {pins:List (Addr×Obj)} {σ:St} {H:Hp} {s:KB} {a:Addr} {xs ys:List V}
theorem SqL.of {K:C4} (h:H a=some (.lst xs)):SqL K H a xs:=.inl (.inl h)
abbrev KJ:=@SqL.of
theorem SqT.of {K:C4} (h:H a=some (.tup xs)):SqT K H a xs:=.inl (.inl h)
abbrev KI:=@SqT.of
theorem Inv.list (I:Inv X pins σ H s) (h:SqL X.K H a xs):∃its:List KG,Vals xs its/\PlainL s.heap a its.toArray/\xs.length<=sizeLine:=by
 rcases h with h | ⟨o,its,n,hk,hc,hd,hs,hz,r⟩
 ·obtain ⟨z,its,n,r,e⟩:=h.ok I.hok;exact ⟨its,r,⟨_,n,e,Y,Y,Y⟩,z⟩
 ·refine ⟨its.toList,r,⟨o,n,I.kIn a o hk,hc,hd,by simpa using hs⟩,?_⟩;have e:=r.length;simp only [Array.length_toList] at e;omega
theorem Inv.tuple (I:Inv X pins σ H s) (h:SqT X.K H a xs):∃its:List KG,Vals xs its/\IsTup s.heap a its.toArray/\xs.length<=sizeLine:=by
 rcases h with h | ⟨o,its,n,hk,hc,hs,hz,r⟩
 ·obtain ⟨z,its,r,p⟩:=h.ok I.hok;exact ⟨its,r,p,z⟩
 ·refine ⟨its.toList,r,⟨o,I.kIn a o hk,hc,n,by simpa using hs⟩,?_⟩;have e:=r.length;simp only [Array.length_toList] at e;omega
theorem Inv.list_inj (I:Inv X pins σ H s) (h:SqL X.K H a xs) (h':SqL X.K H a ys):xs=ys:=by
 obtain ⟨its,r,⟨o,n,e,_,_,d⟩,_⟩:=I.list h;obtain ⟨its',r',⟨o',n',e',_,_,d'⟩,_⟩:=I.list h';rw [e] at e'; cases e';rw [d] at d';injection d' with d1 _
 have:its=its':=by simpa using congrArg Array.toList d1
 subst this;exact r.inj r'
theorem Inv.tuple_inj (I:Inv X pins σ H s) (h:SqT X.K H a xs) (h':SqT X.K H a ys):xs=ys:=by
 obtain ⟨its,r,⟨o,e,_,n,d⟩,_⟩:=I.tuple h;obtain ⟨its',r',⟨o',e',_,n',d'⟩,_⟩:=I.tuple h';rw [e] at e'; cases e';rw [d] at d';injection d' with d1 _
 have:its=its':=by simpa using congrArg Array.toList d1
 subst this;exact r.inj r'
end
abbrev Cx.wish (X:Cx) (E:KG->KB->Prop):Cx:={ X with xe:=E }
abbrev Cx.nox (X:Cx):Cx:=X.wish λ _ _=>False
theorem Cx.Ok.wish {X:Cx} (ok:X.Ok) (E:KG->KB->Prop):(X.wish E).Ok :=
 ⟨ok.mod,ok.kind,ok.glob,ok.blt,ok.above,ok.inj,ok.has,ok.cab,ok.hd,ok.frames,ok.stk,ok.exf,ok.bs,ok.bsz,ok.noex,ok.exfs,ok.funs,ok.frf⟩
theorem Cx.Ok.unwish {X:Cx} {E:KG->KB->Prop} (ok:(X.wish E).Ok):X.Ok :=
 ⟨ok.mod,ok.kind,ok.glob,ok.blt,ok.above,ok.inj,ok.has,ok.cab,ok.hd,ok.frames,ok.stk,ok.exf,ok.bs,ok.bsz,ok.noex,ok.exfs,ok.funs,ok.frf⟩
section
variable {X:Cx} {pins:List (Addr×Obj)} {σ:St} {H:Hp} {s:KB} {E:KG->KB->Prop}
theorem Inv.wish (I:Inv X pins σ H s) (E:KG->KB->Prop):Inv (X.wish E) pins σ H s:=⟨I.ok.wish E,I.os,I.bare,I.base,I.loc,I.cell,I.free,I.freeC,I.pin,I.hok,I.len⟩
theorem Inv.unwish (I:Inv (X.wish E) pins σ H s):Inv X pins σ H s:=⟨I.ok.unwish,I.os,I.bare,I.base,I.loc,I.cell,I.free,I.freeC,I.pin,I.hok,I.len⟩
theorem SP.unwish {D:Ends} {f:Flow} {s':KB} (h:SP (X.wish E) pins D f s'):SP X pins D f s':=by
 cases f with
 | next=>obtain ⟨σ',H',I,q⟩:=h; exact ⟨σ',H',I.unwish,q⟩
 | brk=>obtain ⟨σ',H',I,q⟩:=h; exact ⟨σ',H',I.unwish,q⟩
 | cont=>obtain ⟨σ',H',I,q⟩:=h; exact ⟨σ',H',I.unwish,q⟩
 | ret u=>obtain ⟨v,σ',H',I,r,q⟩:=h; exact ⟨v,σ',H',I.unwish,r,q⟩
theorem PSs.nox {st:List Stmt} {t:TS} (h:PSs X.nox st t):PSs X st t:=λ pins s σ H D I hw =>
 wpAny_mono (h pins s σ H D (I.wish _) hw) (λ _ _ q=>q.unwish) λ _ _ z=>E8 z
end
section
variable {X:Cx} {st:Stmt} {rest:List Stmt} {t u:TS} {e:Expr} {te:TE} {pos:Pos}
def CG:TS:=λ D σ H=>D.nx σ H
def uS (t u:TS):TS:=λ D σ H=>t { D with nx:=u D } σ H
theorem av:PSs X [] CG:=λ _ _ σ H _ I h=>wpAny_execs_nil ⟨σ,H,I,h⟩
theorem ad (h1:PS X st t) (h2:PSs X rest u):PSs X (st :: rest) (uS t u):=by
 intro pins s σ H D I h;refine wpAny_execs_cons (thn (h1 pins s σ H { D with nx:=u D } I h) λ f s1 q=>?_);cases f with
 | next =>
  obtain ⟨σ',H',I',q⟩:=q;exact h2 pins s1 σ' H' D I' q
 | ret v=>exact q
 | brk=>exact q
 | cont=>exact q
theorem ag (h1:PS X st t):PSs X [st] t:=by
 intro pins s σ H D I h;refine wpAny_execs_cons (thn (h1 pins s σ H D I h) λ f s1 q=>?_);cases f with
 | next=>exact wpAny_execs_nil q
 | ret v=>exact q
 | brk=>exact q
 | cont=>exact q
theorem Inv.quiet {pins:List (Addr×Obj)} {σ:St} {H:Hp} {s:KB} (I:Inv X pins σ H s):interactive X.env=false:=by simp [interactive,I.ok.kind]
def CI (te:TE):TS:=λ D σ H=>te σ H λ _ H1=>D.nx σ H1
theorem bj (he:PE X e te) (hs:swapsWith e none pos.line X.env=pure false:=by rfl):PS X (.Expr e pos) (CI te):=by intro pins s σ H D I h;exact wpAny_Expr_any (thn (he pins s σ H _ I h) λ v s1 ⟨x,H1,I1,r1,q1⟩=>⟨σ,H1,I1,q1⟩) I.quiet hs
def GW (te:TE):TS:=λ D σ H=>te σ H D.rt
theorem au (he:PE X e te):PS X (.Return (some e) pos) (GW te):=by intro pins s σ H D I h;exact wpAny_Return_some (thn (he pins s σ H _ I h) λ v s1 ⟨x,H1,I1,r1,q1⟩=>⟨x,σ,H1,I1,r1,q1⟩)
def GX (c:TT) (t u:TS):TS:=λ D σ H=>c σ H λ b H1=>if b=true then t D σ H1 else u D σ H1
theorem aI {c:Expr} {a b:List Stmt} {tc:TT} (hc:PT X c tc) (ha:PSs X a t) (hb:PSs X b u):PS X (.If c a b pos) (GX tc t u):=by
 intro pins s σ H D I h;refine wpAny_If (thn (hc pins s σ H _ I h) λ d s1 ⟨H1,I1,q1⟩=>?_);cases d with
 | true=>exact ha pins s1 σ H1 D I1 q1
 | false=>exact hb pins s1 σ H1 D I1 q1
def rL:TS:=λ _ _ _=>False
theorem cY:PS X st rL:=λ _ _ _ _ _ _ h=>h.elim
theorem gh {sts:List Stmt}:PSs X sts rL:=λ _ _ _ _ _ _ h=>h.elim
end
abbrev TG:=V->St->Hp->(St->Hp->Prop)->Prop
abbrev TGs:=List V->St->Hp->(St->Hp->Prop)->Prop
def PG (X:Cx) (target:Expr) (t:TG):Prop :=
 ∀ (pins:List (Addr×Obj)) (s:KB) (σ:St) (H:Hp) (v:V) (u:KG) (Q:St->Hp->Prop),Inv X pins σ H s->RelV v u->t v σ H Q ->
  wpAny (model X.prog X.w) X.A (assign target X.env u) (λ _ s'=>∃σ' H',Inv X pins σ' H' s'/\Q σ' H') X.xe s
def PGs (X:Cx) (ts:List Expr) (t:TGs):Prop :=
 ∀ (pins:List (Addr×Obj)) (s:KB) (σ:St) (H:Hp) (vs:List V) (us:List KG) (Q:St->Hp->Prop),Inv X pins σ H s->Vals vs us->t vs σ H Q ->
  wpAny (model X.prog X.w) X.A (assignInOrder ((assignEach ts X.env).map (·.2)) us) (λ _ s'=>∃σ' H',Inv X pins σ' H' s'/\Q σ' H') X.xe s
abbrev rM:=V->V->V->Hp->(Hp->Prop)->Prop
def xl (X:Cx) (t:rM):Prop :=
 ∀ (pins:List (Addr×Obj)) (s:KB) (σ:St) (H:Hp) (o i v:V) (ov iv u:KG) (Q:Hp->Prop),Inv X pins σ H s->RelV o ov->RelV i iv->RelV v u->t o i v H Q ->
  wpAny (model X.prog X.w) X.A (setItem ov iv u) (λ _ s'=>∃H',Inv X pins σ H' s'/\Q H') X.xe s
abbrev TIp:=V->V->Hp->VK->Prop
def PIp (X:Cx) (op:Operator) (t:TIp):Prop :=
 ∀ (pins:List (Addr×Obj)) (s:KB) (σ:St) (H:Hp) (x y:V) (v u:KG) (Q:VK),Inv X pins σ H s->RelV x v->RelV y u->t x y H Q ->
  wpAny (model X.prog X.w) X.A (inplaceOp op v u) (EP X pins σ Q) X.xe s
section
variable {X:Cx} {pos:Pos}
def jY (i:Nat):TG:=λ v σ H Q=>Q (σ.set i (some v)) H
theorem ai {i:Nat} {x:Str} (hN:X.N.Nodup) (hi:X.N[i]? = some x) (hx:Loc X.env.scope x) (hf:X.fn x=true\/X.env.scope.names.lookup x=some .local:=by first | exact .inl rfl | exact .inr rfl | assumption):PG X (.Name x pos) (jY i):=by intro pins s σ H v u Q I r h;exact wpAny_assign_Name (dU I hN hi hx r (λ s' I'=>⟨_,H,I',h⟩) hf)
def CJ:TGs:=λ vs σ H Q=>vs=[]/\Q σ H
inductive gCons (t:TG) (u:TGs) (vs:List V) (σ:St) (H:Hp) (Q:St->Hp->Prop):Prop
 | mk (v:V) (r:List V) (e_0:vs=v :: r) (e_1:t v σ H λ σ' H'=>u r σ' H' Q):gCons t u vs σ H Q
theorem aG:PGs X [] CJ:=by intro pins s σ H vs us Q I r h;obtain ⟨e,h⟩:=h;subst e;cases r;exact assignInOrder_nil ⟨σ,H,I,h⟩
theorem ah {e:Expr} {es:List Expr} {t:TG} {u:TGs} (h1:PG X e t) (h2:PGs X es u)
  (hs:(assignEach (e :: es) X.env).map (·.2)=assign e X.env :: (assignEach es X.env).map (·.2):=by rfl):PGs X (e :: es) (gCons t u):=by
 intro pins s σ H vs us Q I r h;obtain ⟨v,vr,e1,h⟩:=h;subst e1;cases r with
 | cons r rr =>
  rw [hs];refine assignInOrder_cons (thn (h1 pins s σ H _ _ _ I r h) λ _ s1 ⟨σ1,H1,I1,q1⟩=>?_);exact h2 pins s1 σ1 H1 _ _ Q I1 rr q1
inductive gTup (K:C4) (n:Nat) (t:TGs) (v:V) (σ:St) (H:Hp) (Q:St->Hp->Prop):Prop
 | mk (a:Addr) (xs:List V) (e_0:v=.ref a) (e_1:SqT K H a xs) (e_2:xs.length=n) (e_3:t xs σ H Q):gTup K n t v σ H Q
theorem aS {es:List Expr} {k:Nat} {t:TGs} {n:Nat} (hc:X.calm=true) (h:PGs X es t)
  (hn:(assignEach es X.env).length=n:=by rfl) (hst:(assignEach es X.env).findIdx? (·.1)=none:=by rfl):PG X (.Tuple es k pos) (gTup X.K n t):=by
 intro pins s σ H v u Q I r hw;obtain ⟨a,xs,e1,hq,hl,hw⟩:=hw;subst e1;cases r;obtain ⟨its,rv,ht,hz⟩:=I.tuple hq;refine assign_Tuple_tuple (I.ok.hd hc) ht (by simp [hn,<- hl,rv.length]) hst λ h' hx=>?_;have I1:Inv X pins σ H { s with heap:=h' }:=I.kept (t':=s.toks) λ b o e=>hx b o (B9 (A9 e)) e;exact h pins _ σ H xs _ Q I1 (by simpa using rv) hw
def GY (to ti:TE) (t:rM):TG:=λ v σ H Q=>to σ H λ o H1=>ti σ H1 λ i H2=>t o i v H2 λ H3=>Q σ H3
theorem rN {o i:Expr} {to ti:TE} {t:rM} (ho:PE X o to) (hi:PE X i ti) (hs:xl X t)
  (ha:∀v,assign (.Subscript o i pos) X.env v=(do
   let ov<-holding [v] (eval o X.env)
   let iv<-holding [v,ov] (eval i X.env)
   standAt pos
   holding [v,ov,iv] (setItem ov iv v)
   release [v,ov,iv] []):=by intro _; rfl):PG X (.Subscript o i pos) (GY to ti t):=by
 intro pins s σ H v u Q I r h;rw [ha];refine A0 (wpAny_holding (thn (ho pins s σ H _ I h) λ ov s1 ⟨x,H1,I1,r1,q1⟩=>?_));refine A0 (wpAny_holding (thn (hi pins s1 σ H1 _ I1 q1) λ iv s2 ⟨y,H2,I2,r2,q2⟩=>?_));refine A0 (wpAny_standAt (A0 (wpAny_holding (thn (hs pins s2 σ H2 x y v ov iv u _ I2 r1 r2 r q2) λ _ s3 ⟨H3,I3,q3⟩=>?_))));exact wpAny_release ⟨σ,H3,I3,q3⟩
def xm (te:TE) (g:TG):TS:=λ D σ H=>te σ H λ x H1=>g x σ H1 D.nx
theorem bm {tg e:Expr} {te:TE} {g:TG} (he:PE X e te) (hg:PG X tg g) (hs:swapsWithSole [tg] e pos.line X.env=pure false:=by rfl) (hw:swappedStores [tg] e X.env=pure none:=by rfl)
  (h1:(assignEach [tg] X.env).map (·.2)=[assign tg X.env]:=by rfl):PS X (.Assign [tg] e pos) (xm te g):=by
 intro pins s σ H D I h;refine wpAny_Assign_stores (thn (he pins s σ H _ I h) λ v s1 ⟨x,H1,I1,r1,q1⟩=>?_) hs hw;rw [h1];exact thn (hg pins s1 σ H1 x v _ I1 r1 q1) λ _ s2 q=>q
theorem ax {i:Nat} {x:Str} {e:Expr} {te:TE} {pos':Pos} (hN:X.N.Nodup) (hi:X.N[i]? = some x) (hx:Loc X.env.scope x) (he:PE X e te) (hs:swapsWith e (some (.Name x pos')) pos.line X.env=pure false:=by rfl) (hf:X.fn x=true\/X.env.scope.names.lookup x=some .local:=by first | exact .inl rfl | exact .inr rfl | assumption) :
  PS X (.Assign [.Name x pos'] e pos) (xm te (jY i)):=by
 intro pins s σ H D I h;refine wpAny_Assign_Name (thn (he pins s σ H _ I h) λ v s1 ⟨y,H1,I1,r1,q1⟩=>?_) hs;exact dU I1 hN hi hx r1 (λ s2 I2=>⟨_,H1,I2,q1⟩) hf
def GZ (i j:Nat) (ta:TA):TS:=λ D σ H=>ta σ H λ vs H1=>∃v w,vs=[v,w]/\D.nx ((σ.set i (some v)).set j (some w)) H1
theorem ji {i j:Nat} {x y:Str} {a b:Expr} {ta:TA} {px py pt:Pos} {kt k2 pt2} (hc:X.calm=true) (hN:X.N.Nodup) (hi:X.N[i]? = some x) (hj:X.N[j]? = some y) (hij:i≠j)
  (hx:X.env.scope.names.lookup x=some .local) (hy:X.env.scope.names.lookup y=some .local) (ha:PA X [a,b] ta)
  (hw:swappedStores [.Tuple [.Name x px,.Name y py] kt pt] (.Tuple [a,b] k2 pt2) X.env=pure (some [x,y]))
  (hs:swapsWithSole [.Tuple [.Name x px,.Name y py] kt pt] (.Tuple [a,b] k2 pt2) pos.line X.env=pure false:=by rfl) :
  PS X (.Assign [.Tuple [.Name x px,.Name y py] kt pt] (.Tuple [a,b] k2 pt2) pos) (GZ i j ta):=by
 intro pins s σ H D I h;rw [exec_Assign_arm];refine A0 (wpAny_standAt ?_);rw [hs];refine A0 (A1 ?_);rw [if_neg (by decide)];refine A0 (Tuple_ (thn (ha _ pins s σ H _ I h) λ us s1 ⟨vs,H1,I1,r1,q1⟩=>?_));obtain ⟨v,w,e1,q1⟩:=q1;subst e1;obtain ⟨u1,u2,rfl,rv,rw'⟩:∃u1 u2,us=[u1,u2]/\RelV v u1/\RelV w u2:=by
  cases r1 with
  | cons p q =>
   cases q with
   | cons p' q' =>
    cases q';exact ⟨_,_,Y,p,p'⟩
 refine J0 ?_ zS2;have I2:Inv X pins σ H1 { s1 with heap:=s1.heap.push { cls:=.type "tuple", data:=.seq [u1, u2].toArray } }:=I1.kept (t':=s1.toks) λ b o e=>A7 _ e;rw [hw];refine A0 (A1 ?_);show wpAny (model X.prog X.w) X.A (do rule "assign.swapped-stores"; let items<-unpackItems (.ref s1.heap.objs.size) 2 none; assignInOrder [λ v=>bindName X.env y v,λ v=>bindName X.env x v] items.reverse; pure Flow.next) _ _ _;refine A0 (wpAny_rule (A0 (unpackItems_tuple (items:=#[u1,u2]) (I.ok.hd hc) (IsTup.new s1.heap _) λ h' hx'=>?_)));have I3:=I2.kept (h':=h') (t':=s1.toks) λ b o e=>hx' b o (B9 (A9 e)) e;show wpAny _ _ (assignInOrder [λ v=>bindName X.env y v,λ v=>bindName X.env x v] [u2,u1] >>= λ _=>pure Flow.next) _ _ _;refine A0 (assignInOrder_cons (wpAny_bindName (dU I3 hN hj (.inl hy) rw' (λ s2 I4=>?_) (.inr hy))));refine assignInOrder_cons (wpAny_bindName (dU I4 hN hi (.inl hx) rv (λ s3 I5=>assignInOrder_nil (A1 ?_)) (.inr hx)));rw [List.set_comm _ _ (Ne.symm hij)] at I5;exact ⟨_,H1,I5,q1⟩
def Hh (i:Nat) (te:TE) (ti:TIp):TS:=λ D σ H=>∃x,σ[i]? = some (some x)/\te σ H λ y H1=>ti x y H1 λ z H2=>D.nx (σ.set i (some z)) H2
theorem xn {i:Nat} {x:Str} {e:Expr} {te:TE} {op:Operator} {ti:TIp} {pos':Pos} (hN:X.N.Nodup) (hi:X.N[i]? = some x) (hx:Loc X.env.scope x) (he:PE X e te) (ho:PIp X op ti) (hf:X.fn x=true\/X.env.scope.names.lookup x=some .local:=by first | exact .inl rfl | exact .inr rfl | assumption) :
  PS X (.AugAssign (.Name x pos') op e pos) (Hh i te ti):=by
 intro pins s σ H D I h;obtain ⟨v,e1,h⟩:=h;obtain ⟨m,hn,hl⟩:=I.loc;have vis:Vis X.env.scope x:=by rcases hx with k | k; exact .inl k; exact .inr (.inl k)
 obtain ⟨u,r,l⟩:=hl i x v hi e1 vis;refine wpAny_AugAssign_Name ?_;have go:wpAny (model X.prog X.w) X.A (eval e X.env) (λ w s₂=>wpAny (model X.prog X.w) X.A (inplaceOp op u w) (λ r s₃=>wpAny (model X.prog X.w) X.A (storeName X.env x r) (λ _=>SP X pins D .next) X.xe s₃) X.xe s₂) X.xe s:=by refine thn (he pins s σ H _ I h) λ w s1 ⟨y,H1,I1,r1,q1⟩=>?_;refine thn (ho pins s1 σ H1 v y u w _ I1 r r1 q1) λ z s2 ⟨zv,H2,I2,r2,q2⟩=>?_;exact dU I2 hN hi hx r2 (λ s3 I3=>⟨_,H2,I3,q2⟩) hf
 rcases l with ⟨hk,hm⟩ | ⟨hk,c,hc,hcell⟩
 ·exact wpAny_loadName_local I.ok.kind hk hn hm go
 ·rcases hk with hk | hk
  ·exact wpAny_loadName_cell I.ok.kind hk hc hcell go
  ·rcases hx with k | k
   ·have:X.env.scope.names.lookup x=some .free:=hk;rw [k] at this; cases this
   ·have:X.env.scope.names.lookup x=some .free:=hk;rw [k] at this; cases this
def CK (to ti te:TE) (tget:V->V->Hp->VK->Prop) (tip:TIp) (tset:rM):TS:=λ D σ H=>to σ H λ o H1=>ti σ H1 λ i H2=>tget o i H2 λ x H3=>te σ H3 λ y H4=>tip x y H4 λ z H5=>tset o i z H5 λ H6=>D.nx σ H6
def CL (X:Cx) (t:V->V->Hp->VK->Prop):Prop :=
 ∀ (pins:List (Addr×Obj)) (s:KB) (σ:St) (H:Hp) (o i:V) (ov iv:KG) (Q:VK),Inv X pins σ H s->RelV o ov->RelV i iv->t o i H Q ->
  wpAny (model X.prog X.w) X.A (getItem ov iv) (EP X pins σ Q) X.xe s
theorem uT {o i e:Expr} {to ti te:TE} {tget:V->V->Hp->VK->Prop} {tip:TIp} {tset:rM} {op:Operator} {tpos:Pos} (ho:PE X o to) (hi:PE X i ti) (hg:CL X tget) (he:PE X e te) (hp:PIp X op tip) (hs:xl X tset)
  (ha:∀ov iv new,augStore i ov iv new=(do holding [new,ov,iv] (setItem ov iv new); release [new,ov,iv] []; pure .next):=by intros; rfl):PS X (.AugAssign (.Subscript o i tpos) op e pos) (CK to ti te tget tip tset):=by
 intro pins s σ H D I h;refine wpAny_AugAssign_SubscriptAny (thn (ho pins s σ H _ I h) λ ov s1 ⟨x1,H1,I1,r1,q1⟩=>?_) ha;refine thn (hi pins s1 σ H1 _ I1 q1) λ iv s2 ⟨x2,H2,I2,r2,q2⟩=>?_;refine thn (hg pins s2 σ H2 x1 x2 ov iv _ I2 r1 r2 q2) λ old s3 ⟨x3,H3,I3,r3,q3⟩=>?_;refine thn (he pins s3 σ H3 _ I3 q3) λ v s4 ⟨x4,H4,I4,r4,q4⟩=>?_;refine thn (hp pins s4 σ H4 x3 x4 old v _ I4 r3 r4 q4) λ new s5 ⟨x5,H5,I5,r5,q5⟩=>?_;exact thn (hs pins s5 σ H5 x1 x2 x5 ov iv new _ I5 r1 r2 r5 q5) λ _ s6 ⟨H6,I6,q6⟩=>⟨σ,H6,I6,q6⟩
def ipI (f:Int->Int->Int):TIp:=λ x y H Q=>∃i j,x=.int i/\y=.int j/\Q (.int (f i j)) H
theorem rO:PIp X .Add (ipI λ i j=>i + j):=by intro pins s σ H x y v u Q I r1 r2 h;obtain ⟨i,j,e1,e2,q⟩:=h;subst e1; subst e2;obtain ⟨t,rfl⟩:=r1;obtain ⟨t',rfl⟩:=r2;exact iadd_int ⟨.int _,H,I.tok _,⟨_,rfl⟩,q⟩
end
section
variable {X:Cx} {pos:Pos}
def xo (c:TT) (tb:TS):TS:=λ D σ H=>∃W:Nat->St->Hp->Prop,(∃m,W m σ H)/\∀m σ H,W m σ H ->
 c σ H λ b H1=>if b=true then ∃N:St->Hp->Prop,(∀σ' H',N σ' H'->∃m',m' < m/\W m' σ' H')/\tb { D with nx:=N,ct:=N,bk:=D.nx } σ H1 else D.nx σ H1
theorem gR {c:Expr} {body:List Stmt} {tc:TT} {tb:TS} (hp:PassesOwn (model X.prog X.w) X.A X.env X.xe) (hc:PT X c tc) (hb:PSs X body tb):PS X (.While c body [] pos) (xo tc tb):=by
 intro pins s σ H D I h;obtain ⟨W,⟨m0,w0⟩,turn⟩:=h;refine wpAny_While (codeAny_whileLoop (λ n s'=>∃σ' H',Inv X pins σ' H' s'/\W n σ' H') ?_ m0 ⟨σ,H,I,w0⟩);rintro n s1 ⟨σ1,H1,I1,w1⟩;refine wpAny_passesOwn hp (thn (hc pins s1 σ1 H1 _ I1 (turn n σ1 H1 w1)) λ b s2 ⟨H2,I2,q2⟩=>?_);cases b with
 | true =>
  obtain ⟨N,hN,q2⟩:=q2;rw [if_pos rfl];refine wpAny_passesOwn hp (thn (hb pins s2 σ1 H2 _ I2 q2) λ f s3 q3=>?_);cases f with
  | next =>
   obtain ⟨σ3,H3,I3,n3⟩:=q3;obtain ⟨m',hm,w3⟩:=hN σ3 H3 n3;exact ⟨m',hm,σ3,H3,I3,w3⟩
  | cont =>
   obtain ⟨σ3,H3,I3,n3⟩:=q3;obtain ⟨m',hm,w3⟩:=hN σ3 H3 n3;exact ⟨m',hm,σ3,H3,I3,w3⟩
  | brk=>exact q3
  | ret v=>exact q3
 | false =>
  rw [if_neg Bool.false_ne_true];exact wpAny_execs_nil ⟨σ1,H2,I2,q2⟩
end
structure It where
 go:Nat->Hp->Prop
 yld:Nat->Hp->V->Hp->Prop
 stop:Nat->Hp->Prop
def eZ (X:Cx) (pins:List (Addr×Obj)) (H:Hp) (b:Addr):Prop :=
 H b=none/\b≠X.env.locals/\b∉X.fs/\(b∈X.ex\/X.s₀.heap.objs.size<=b)/\(∀x c,X.env.cells.lookup x=some c->c≠b)/\∀p∈X.pn ++ pins,p.1≠b
theorem Inv.fpOk {X:Cx} {pins:List (Addr×Obj)} {σ:St} {H H':Hp} {s:KB} {b:Addr} (I:Inv X pins σ H s) (hb:s.heap.objs.size<=b) (hn:H' b=none):eZ X pins H' b:=by
 refine ⟨hn,Nat.ne_of_gt (C1 I.lt hb),I.nofs hb,.inr (C5 I.sz hb),λ x c e z=>?_,λ p hp z=>?_⟩
 ·obtain ⟨v,q⟩:=I.cell x c e;exact absurd (C1 q.lt (by rw [z]; exact hb)) (E1 _)
 ·exact absurd (C1 (A9 (I.pin p hp).1) (by rw [z]; exact hb)) (E1 _)
structure Turn (P:Program) (w:World) (K:C4) (tg:Expr) (J:It) (fp:List Addr) (it:Addr) (tn:Nat->Heap->Prop):Prop where
 mem:it∈fp
 obj:∀i h,tn i h->∀b∈fp,∃o,h.get? b=some o/\∀v,o.data≠.cell v
 keep:∀i h h',tn i h->(∀b∈fp,∀o,h.get? b=some o->h'.get? b=some o)->tn i h'
 item:∀ (X:Cx),X.prog=P->X.w=w->X.K=K->X.calm=true->∀ (i:Nat) (pins:List (Addr×Obj)) (s:KB) (σ:St) (H:Hp) (E:KG->KB->Prop),Inv X pins σ H s->(∀b∈fp,eZ X pins H b)->tn i s.heap->J.go i H ->
  wpAny (model P w) X.A (pyNext (.ref it)) (λ r s1=>∃u,r=some u /\
   wpAny (model P w) X.A (letOwnedTupleGo tg (.ref it) u) (λ _ s2=>∃x H',Inv X pins σ H' s2/\RelV x u/\J.yld i H x H'/\tn (i + 1) s2.heap/\∀b∈fp,H' b=none) E s1) E s
 done:∀ (X:Cx),X.prog=P->X.w=w->X.K=K->X.calm=true->∀ (i:Nat) (pins:List (Addr×Obj)) (s:KB) (σ:St) (H:Hp) (E:KG->KB->Prop),Inv X pins σ H s->(∀b∈fp,eZ X pins H b)->tn i s.heap->J.stop i H ->
  wpAny (model P w) X.A (pyNext (.ref it)) (λ r s1=>r=none/\Inv X pins σ H s1) E s
 self:∀ (A:Around) (i:Nat) (s:KB) (Q:KG->KB->Prop) (E:KG->KB->Prop),tn i s.heap->Q (.ref it) s->wpAny (model P w) A (pyIter (.ref it)) Q E s
abbrev TI:=St->Hp->(It->Hp->Prop)->Prop
def PIE (X:Cx) (pins:List (Addr×Obj)) (σ:St) (tg:Expr) (R:It->Hp->Prop) (itv:KG) (s2:KB):Prop :=
 ∃ (it:Addr) (fp:List Addr) (tn:Nat->Heap->Prop) (J:It) (H':Hp),itv=.ref it/\Inv X pins σ H' s2/\Turn X.prog X.w X.K tg J fp it tn/\tn 0 s2.heap/\(∀b∈fp,eZ X pins H' b)/\R J H'
def PI (X:Cx) (tg iter:Expr) (wi:TI):Prop :=
 ∀ (pins:List (Addr×Obj)) (s:KB) (σ:St) (H:Hp) (R:It->Hp->Prop),Inv X pins σ H s->wi σ H R ->
  wpAny (model X.prog X.w) X.A (eval iter X.env) (λ v s1=>wpAny (model X.prog X.w) X.A (pyIter v) (PIE X pins σ tg R) X.xe s1) X.xe s
theorem oi {M:Model} {A:Around} {E:KG->KB->Prop} {s:KB} {tg:Expr} {it:Addr} {u:KG} {o:Obj} {n:String} {vs:Array KG} {Q:Unit->KB->Prop} (ho:s.heap.get? it=some o) (hc:o.cls=.type n) (hd:o.data=.fields vs)
    (hn:["enumerate","zip","dict_itemiterator","dict_reverseitemiterator","odict_iterator","itertools.zip_longest","itertools.pairwise"].contains n=false) (hQ:Q () s):wpAny M A (letOwnedTupleGo tg (.ref it) u) Q E s:=by
  unfold letOwnedTupleGo;cases tg <;> first
    | exact A1 hQ
    | (cases u <;> first
        | exact A1 hQ
        | (refine A0 (wpAny_load ho ?_)
           rw [hc,hd];show wpAny M A (if (["enumerate","zip","dict_itemiterator","dict_reverseitemiterator","odict_iterator","itertools.zip_longest","itertools.pairwise"].contains n && vs[0]? == some (rawInt _))=true then _ else _) Q E s;rw [if_neg (by intro h; rw [hn,Bool.false_and] at h; cases h)];exact A1 hQ))
def Itl (K:C4) (a:Addr):It :=
 ⟨λ i H=>∃xs x,SqL K H a xs/\xs[i]? = some x,λ i H x H'=>H'=H/\∀xs,SqL K H a xs->xs[i]? = some x,λ i H=>∃xs,SqL K H a xs/\xs.length<=i⟩
def Itt (K:C4) (a:Addr):It :=
 ⟨λ i H=>∃xs x,SqT K H a xs/\xs[i]? = some x,λ i H x H'=>H'=H/\∀xs,SqT K H a xs->xs[i]? = some x,λ i H=>∃xs,SqT K H a xs/\xs.length<=i⟩
def Itr (lo:Int) (n:Nat):It:=⟨λ i _=>i < n,λ i H x H'=>H'=H/\x=.int (lo + i),λ i _=>n<=i⟩
theorem pU {P:KC} {w:KF} {K:C4} {tg:Expr} (a it:Addr):Turn P w K tg (Itl K a) [it] it (λ i h=>h.IsListIter it a i) where
 mem:=by simp
 obj:=λ i h st b hb=>by
  have e:b=it:=by simpa using hb
  subst e;obtain ⟨o,e,c,d⟩:=st;exact ⟨o,e,λ v z=>by rw [d] at z; cases z⟩
 keep:=λ i h h' st k=>st.at λ o e=>k it (by simp) o e
 item:=by intro X hP hw hK hc i pins s σ H E I hf st hg;subst hP hw hK;obtain ⟨xs,x,hq,hx⟩:=hg;obtain ⟨its,rv,p,hz⟩:=I.list hq;obtain ⟨u,hu,ru⟩:=rv.get hx;obtain ⟨f0,f1,f2,f3,f4,f5⟩:=hf it (by simp);refine wpAny_pyNext_list_item st p.isList (x:=u) (by simpa using hu) λ h' st' sb=>?_;have I1:Inv X pins σ H { s with heap:=h' }:=I.turned (t':=s.toks) (λ b o hb e=>(sb.2 b hb).trans e) f0 f1 f3 f4 f5;obtain ⟨o,e,c,d⟩:=id st';exact ⟨u,Y,oi (s:={ s with heap:=h' }) e c d (by decide) ⟨x,H,I1,ru,⟨Y,λ ys hy=>by rw [I.list_inj hy hq]; exact hx⟩,st',λ b hb=>(hf b hb).1⟩⟩
 done:=by intro X hP hw hK hc i pins s σ H E I hf st hg;subst hP hw hK;obtain ⟨xs,hq,hx⟩:=hg;obtain ⟨its,rv,p,hz⟩:=I.list hq;obtain ⟨f0,f1,f2,f3,f4,f5⟩:=hf it (by simp);have hl:=rv.length;exact wpAny_pyNext_list_end (I.ok.hd hc) st p.isList (by simp; omega) λ h' eb=>⟨Y,I.turned (t':=s.toks) (λ b o hb e=>eb b o hb e) f0 f1 f3 f4 f5⟩
 self:=λ _ _ _ _ _ st h=>wpAny_pyIter_listiter st h
theorem lM {P:KC} {w:KF} {K:C4} {tg:Expr} (a it:Addr):Turn P w K tg (Itt K a) [it] it (λ i h=>h.IsTupleIter it a i) where
 mem:=by simp
 obj:=λ i h st b hb=>by
  have e:b=it:=by simpa using hb
  subst e;obtain ⟨o,e,c,d⟩:=st;exact ⟨o,e,λ v z=>by rw [d] at z; cases z⟩
 keep:=λ i h h' st k=>st.at λ o e=>k it (by simp) o e
 item:=by intro X hP hw hK hc i pins s σ H E I hf st hg;subst hP hw hK;obtain ⟨xs,x,hq,hx⟩:=hg;obtain ⟨its,rv,p,hz⟩:=I.tuple hq;obtain ⟨u,hu,ru⟩:=rv.get hx;obtain ⟨f0,f1,f2,f3,f4,f5⟩:=hf it (by simp);refine wpAny_pyNext_tuple_item st (show s.heap.IsTuple a its.toArray from p) (x:=u) (by simpa using hu) λ h' st' sb=>?_;have I1:Inv X pins σ H { s with heap:=h' }:=I.turned (t':=s.toks) (λ b o hb e=>(sb.2 b hb).trans e) f0 f1 f3 f4 f5;obtain ⟨o,e,c,d⟩:=id st';exact ⟨u,Y,oi (s:={ s with heap:=h' }) e c d (by decide) ⟨x,H,I1,ru,⟨Y,λ ys hy=>by rw [I.tuple_inj hy hq]; exact hx⟩,st',λ b hb=>(hf b hb).1⟩⟩
 done:=by intro X hP hw hK hc i pins s σ H E I hf st hg;subst hP hw hK;obtain ⟨xs,hq,hx⟩:=hg;obtain ⟨its,rv,p,hz⟩:=I.tuple hq;obtain ⟨f0,f1,f2,f3,f4,f5⟩:=hf it (by simp);have hl:=rv.length;exact wpAny_pyNext_tuple_end (I.ok.hd hc) st (show s.heap.IsTuple a its.toArray from p) (by simp; omega) λ h' eb=>⟨Y,I.turned (t':=s.toks) (λ b o hb e=>eb b o hb e) f0 f1 f3 f4 f5⟩
 self:=λ _ _ _ _ _ st h=>wpAny_pyIter_tupleiter st h
theorem gS {P:KC} {w:KF} {K:C4} {tg:Expr} (it:Addr) (lo:Int) (n:Nat):Turn P w K tg (Itr lo n) [it] it (λ i h=>IsRangeIter h it (lo + (i:Nat) * 1) ((n:Int) - (i:Nat)) 1) where
 mem:=by simp
 obj:=λ i h st b hb=>by
  have e:b=it:=by simpa using hb
  subst e;exact ⟨_,st,λ v z=>by
   have z':Data.fields _=Data.cell v:=z;cases z'⟩
 keep:=λ i h h' st k=>k it (by simp) _ st
 item:=by intro X hP hw hK hc i pins s σ H E I hf st hg;subst hP hw hK;obtain ⟨f0,f1,f2,f3,f4,f5⟩:=hf it (by simp);have W:=Walks.range (prog:=X.prog) (w:=X.w) (I.ok.hd hc) it lo 1 n;refine W.item i s _ _ hg st λ v h' tk hv st' kk=>?_;obtain ⟨t,rfl⟩:=hv;have I1:Inv X pins σ H { s with heap:=h',toks:=tk }:=I.turned (λ b o hb e=>kk b o (by simpa using hb) e) f0 f1 f3 f4 f5;refine ⟨_, Y, oi (s:={ s with heap:=h', toks:=tk }) (n := "range_iterator") st' rfl rfl (by decide) ⟨.int (lo + i), H, I1, ⟨t, ?_⟩, ⟨Y, Y⟩, st', λ b hb=>(hf b hb).1⟩⟩;rw [Int.mul_one]
 done:=by intro X hP hw hK hc i pins s σ H E I hf st hg;subst hP hw hK;obtain ⟨f0,f1,f2,f3,f4,f5⟩:=hf it (by simp);exact wpAny_pyNext_range_end (I.ok.hd hc) st (by have:n<=i:=hg; omega) λ h' eb=>⟨Y,I.turned (t':=s.toks) (λ b o hb e=>eb b o hb e) f0 f1 f3 f4 f5⟩
 self:=λ _ _ _ _ _ st h=>wpAny_pyIter_rangeiter st h
section
variable {X:Cx} {tg:Expr}
inductive iListA (K:C4) (R:It->Hp->Prop) (x:V) (H1:Hp):Prop
 | mk (a:Addr) (e_0:x=.ref a) (e_1:(∃xs,SqL K H1 a xs)) (e_2:R (Itl K a) H1):iListA K R x H1
def wM (K:C4) (tl:TE):TI:=λ σ H R=>tl σ H λ x H1=>iListA K R x H1
inductive iTupA (K:C4) (R:It->Hp->Prop) (x:V) (H1:Hp):Prop
 | mk (a:Addr) (e_0:x=.ref a) (e_1:(∃xs,SqT K H1 a xs)) (e_2:R (Itt K a) H1):iTupA K R x H1
def CM (K:C4) (tl:TE):TI:=λ σ H R=>tl σ H λ x H1=>iTupA K R x H1
theorem bq {l:Expr} {tl:TE} (hl:PE X l tl):PI X tg l (wM X.K tl):=by
 intro pins s σ H R I h;refine thn (hl pins s σ H _ I h) λ v s1 ⟨x,H1,I1,r1,q1⟩=>?_;obtain ⟨a,e,⟨xs,hq⟩,q⟩:=q1;subst e;cases r1;obtain ⟨its,rv,p,hz⟩:=I1.list hq;refine wpAny_pyIter_list p.isList ?_;refine ⟨s1.heap.objs.size,[s1.heap.objs.size],_,_,H1,Y,I1.kept (t':=s1.toks) λ b o e=>A7 _ e,pU a _,⟨_,A8 _ rfl,Y,Y⟩,λ b hb=>?_,q⟩;have e:b=s1.heap.objs.size:=by simpa using hb
 subst e;exact I1.fpOk (B3 _) (I1.hok.fresh (B3 _))
theorem lN {l:Expr} {tl:TE} (hl:PE X l tl):PI X tg l (CM X.K tl):=by
 intro pins s σ H R I h;refine thn (hl pins s σ H _ I h) λ v s1 ⟨x,H1,I1,r1,q1⟩=>?_;obtain ⟨a,e,⟨xs,hq⟩,q⟩:=q1;subst e;cases r1;obtain ⟨its,rv,p,hz⟩:=I1.tuple hq;refine wpAny_pyIter_tuple (show s1.heap.IsTuple a its.toArray from p) ?_;refine ⟨s1.heap.objs.size,[s1.heap.objs.size],_,_,H1,Y,I1.kept (t':=s1.toks) λ b o e=>A7 _ e,lM a _,⟨_,A8 _ rfl,Y,Y⟩,λ b hb=>?_,q⟩;have e:b=s1.heap.objs.size:=by simpa using hb
 subst e;exact I1.fpOk (B3 _) (I1.hok.fresh (B3 _))
theorem gT {pins:List (Addr×Obj)} {σ:St} {H:Hp} {s:KB} {R:It->Hp->Prop} {E:KG->KB->Prop} {lo hi:Int} {t u v:Tok} {tk:Nat} (I:Inv X pins σ H s) (h1:-(2 ^ 62)<=lo) (h2:lo < 2 ^ 62) (h3:-(2 ^ 62)<=hi) (h4:hi < 2 ^ 62)
  (q:R (Itr lo (hi - lo).toNat) H):wpAny (model X.prog X.w) X.A (pyIter (.ref s.heap.objs.size)) (PIE X pins σ tg R) E { s with heap:=s.heap.push { cls:=.type "range",data:=.fields #[.int lo t,.int hi u,.int 1 v] },toks:=tk }:=by
 refine wpAny_pyIter_range (IsRange.new ..) (small_one h1 h2 h3 h4) ?_;have I1:Inv X pins σ H { s with heap:=s.heap.push { cls:=.type "range",data:=.fields #[.int lo t,.int hi u,.int 1 v] },toks:=tk }:=I.kept λ b o e=>A7 _ e;refine ⟨(s.heap.push { cls:=.type "range",data:=.fields #[.int lo t,.int hi u,.int 1 v] }).objs.size,[(s.heap.push { cls:=.type "range",data:=.fields #[.int lo t,.int hi u,.int 1 v] }).objs.size],_,_,H,Y,
  I1.kept (t':=tk) λ b o e=>A7 _ e,gS _ lo (hi - lo).toNat,?_,λ b hb=>?_,q⟩
 ·have e1:lo + ((0:Nat):Int) * 1=lo:=by simp
  have e2:(((hi - lo).toNat:Nat):Int) - ((0:Nat):Int)=Builtin.Range.rangeSize lo hi 1:=by rw [rangeSize_one]; split <;> omega
  show IsRangeIter _ _ (lo + ((0:Nat):Int) * 1) ((((hi - lo).toNat:Nat):Int) - ((0:Nat):Int)) 1;rw [e1,e2];exact A8 _ rfl
 ·have e:b=(s.heap.push { cls:=.type "range",data:=.fields #[.int lo t,.int hi u,.int 1 v] }).objs.size:=by simpa using hb
  subst e;exact I1.fpOk (B3 _) (I1.hok.fresh (B3 _))
def CN (ta:TA):TI:=λ σ H R=>ta σ H λ vs H1=>∃j:Int,vs=[.int j]/\-(2 ^ 62)<=j/\j < 2 ^ 62/\R (Itr 0 j.toNat) H1
def CO (ta:TA):TI:=λ σ H R=>ta σ H λ vs H1=>∃i j:Int,vs=[.int i,.int j]/\(-(2 ^ 62)<=i/\i < 2 ^ 62/\-(2 ^ 62)<=j/\j < 2 ^ 62)/\R (Itr i (j - i).toNat) H1
theorem iE {a:Expr} {ta:TA} {p pos:Pos} (hg:Gl X "range") (hm:X.mg "range" = none) (ha:PA X [a] ta) (hs:starEach [a] X.env=[(false,eval a X.env)]:=by rfl):PI X tg (.Call (.Name "range" p) [a] [] pos) (CN ta):=by
 intro pins s σ H R I h;refine Call_ (dW I hg hm boot_range (PyProof.Rows.callWith_type1 (thn (ha pos pins s σ H _ I h) λ us s1 ⟨vs,H1,I1,r1,q1⟩=>?_) hs rfl));obtain ⟨j,e,q1,q2,q⟩:=q1;subst e;cases r1 with
 | cons r rr =>
  cases rr;obtain ⟨t,rfl⟩:=r;exact call_range_1 (gT I1 (by omega) (by omega) q1 q2 (by simpa using q))
theorem gi {a b:Expr} {ta:TA} {p pos:Pos} (hg:Gl X "range") (hm:X.mg "range" = none) (ha:PA X [a,b] ta) (hs:starEach [a,b] X.env=[(false,eval a X.env),(false,eval b X.env)]:=by rfl) (hs2:starEach [b] X.env=[(false,eval b X.env)]:=by rfl) :
  PI X tg (.Call (.Name "range" p) [a,b] [] pos) (CO ta):=by
 intro pins s σ H R I h;refine Call_ (dW I hg hm boot_range (PyProof.Rows.callWith_type1 (thn (ha pos pins s σ H _ I h) λ us s1 ⟨vs,H1,I1,r1,q1⟩=>?_) (by rw [hs,hs2]) (by rw [hs2]; rfl)));obtain ⟨i,j,e,⟨q1,q2,q3,q4⟩,q⟩:=q1;subst e;cases r1 with
 | cons r rr =>
  cases rr with
  | cons r' rr =>
   cases rr;obtain ⟨t,rfl⟩:=r;obtain ⟨t',rfl⟩:=r';exact call_range_2 (gT I1 q1 q2 q3 q4 q)
def CP (wi:TI) (g:TG) (tb:TS):TS:=λ D σ H=>wi σ H λ J H1=>∃W:Nat->Nat->St->Hp->Prop,(∃m,W 0 m σ H1)/\∀i m σ H,W i m σ H ->
 (J.stop i H/\D.nx σ H)\/(J.go i H/\∃N:St->Hp->Prop,(∀σ' H',N σ' H'->∃m',m' < m/\W (i + 1) m' σ' H')/\∀x H',J.yld i H x H'->g x σ H' λ σ2 H2=>tb { D with nx:=N,ct:=N,bk:=D.nx } σ2 H2)
def gU (fp:List Addr) (h:Heap):List (Addr×Obj):=fp.filterMap λ b=>(h.get? b).map λ o=>(b,o)
theorem aT {fp:List Addr} {h:Heap} {b:Addr} {o:Obj} (hb:b∈fp) (e:h.get? b=some o):(b,o)∈gU fp h:=List.mem_filterMap.mpr ⟨b,hb,by rw [e]; rfl⟩
theorem iF {fp:List Addr} {h:Heap} {p:Addr×Obj} (hp:p∈gU fp h):p.1∈fp/\h.get? p.1=some p.2:=by
 obtain ⟨b,hb,e⟩:=List.mem_filterMap.mp hp;cases q:h.get? b with
 | none=>rw [q] at e; cases e
 | some o =>
  rw [q] at e;have e':(b,o)=p:=B8 e;subst e';exact ⟨hb,q⟩
theorem Inv.pinned {pins:List (Addr×Obj)} {σ:St} {H:Hp} {s:KB} {fp:List Addr} (I:Inv X pins σ H s) (hf:∀b∈fp,eZ X pins H b) (ho:∀b∈fp,∃o,s.heap.get? b=some o/\∀v,o.data≠.cell v):Inv X (pins ++ gU fp s.heap) σ H s :=
 I.pins_of λ p hp=>(C2.mp hp).elim (λ z=>I.pin p (A5 _ z)) λ z=>by obtain ⟨hb,e⟩:=iF z;obtain ⟨f0,f1,f2,_⟩:=hf p.1 hb;obtain ⟨o,e',d⟩:=ho p.1 hb;rw [e] at e'; cases e';exact ⟨e,f0,f1,f2,d⟩
theorem Inv.unpinned {pins pl:List (Addr×Obj)} {σ:St} {H:Hp} {s:KB} (I:Inv X (pins ++ pl) σ H s):Inv X pins σ H s:=I.pins_of λ p hp=>I.pin p (A5 _ (B6 _ hp))
theorem bE {iter:Expr} {body:List Stmt} {wi:TI} {g:TG} {tb:TS} {pos:Pos} (hp:PassesOwn (model X.prog X.w) X.A X.env X.xe) (hc:X.calm=true) (hi:PI X tg iter wi) (hg:PG X tg g) (hb:PSs X body tb)
  (hs:∀x,foldedSetIterable iter X.env x=pure x:=by intro _; rfl):PS X (.For tg iter body [] pos) (CP wi g tb):=by
 intro pins s σ H D I h;refine wpAny_For (thn (hi pins s σ H _ I h) λ v s1 h1=>thn h1 λ itv s2 h2=>?_) hs;obtain ⟨it,fp,tn,J,H2,e,I2,T,st2,f2,W,⟨m0,w0⟩,turn⟩:=h2;subst e;have stat:∀ {H':Hp},(∀b∈fp,H' b=none)->∀b∈fp,eZ X pins H' b:=λ hn b hb=>⟨hn b hb,(f2 b hb).2⟩
 refine codeAny_forLoop_any (λ n s'=>∃i σ' H',Inv X pins σ' H' s'/\tn i s'.heap/\(∀b∈fp,H' b=none)/\W i n σ' H') ?_ m0 ⟨0,σ,H2,I2,st2,λ b hb=>(f2 b hb).1,w0⟩;rintro n s3 ⟨i,σ3,H3,I3,st3,fr3,w3⟩;rcases turn i n σ3 H3 w3 with ⟨stop,qn⟩ | ⟨go,N,hN,step⟩
 ·refine wpAny_passesOwn hp (thn (T.done X rfl rfl rfl hc i pins s3 σ3 H3 X.xe I3 (stat fr3) st3 stop) λ r s4 ⟨hr,I4⟩=>?_);subst hr;exact wpAny_execs_nil ⟨σ3,H3,I4,qn⟩
 ·refine wpAny_passesOwn hp (thn (T.item X rfl rfl rfl hc i pins s3 σ3 H3 X.xe I3 (stat fr3) st3 go) λ r s4 ⟨u,hr,h4⟩=>?_);subst hr;refine wpAny_passesOwn hp (thn h4 λ _ s5 ⟨x,H5,I5,r5,y5,st5,fr5⟩=>?_);have I5':=I5.pinned (stat fr5) (T.obj _ _ st5);refine wpAny_passesOwn hp (thn (hg _ s5 σ3 H5 x u _ I5' r5 (step x H5 y5)) λ _ s6 ⟨σ6,H6,I6,q6⟩=>?_);refine wpAny_passesOwn hp (thn (hb _ s6 σ6 H6 _ I6 q6) λ f s7 q7=>?_);have again:∀ {σ7:St} {H7:Hp},Inv X (pins ++ gU fp s5.heap) σ7 H7 s7->N σ7 H7->∃m,m < n/\∃i σ' H',Inv X pins σ' H' s7/\tn i s7.heap/\(∀b∈fp,H' b=none)/\W i m σ' H':=λ {σ7 H7} I7 n7=>by obtain ⟨m',hm,w7⟩:=hN σ7 H7 n7;refine ⟨m',hm,i + 1,σ7,H7,I7.unpinned,T.keep _ _ _ st5 λ b hb o e=>(I7.pin (b,o) (A5 _ (A5 _ (aT hb e)))).1,λ b hb=>?_,w7⟩;obtain ⟨o,e,d⟩:=T.obj _ _ st5 b hb;exact (I7.pin (b,o) (A5 _ (A5 _ (aT hb e)))).2.1
  cases f with
  | next=>obtain ⟨σ7,H7,I7,n7⟩:=q7; exact again I7 n7
  | cont=>obtain ⟨σ7,H7,I7,n7⟩:=q7; exact again I7 n7
  | brk=>obtain ⟨σ7,H7,I7,q7⟩:=q7; exact ⟨σ7,H7,I7.unpinned,q7⟩
  | ret v=>obtain ⟨x7,σ7,H7,I7,r7,q7⟩:=q7; exact ⟨x7,σ7,H7,I7.unpinned,r7,q7⟩
end
theorem bJ {K:C4} {a:Addr} {xs:List V} {g:TG} {tb:TS} {D:Ends} {σ:St} {H:Hp} (Pv:Nat->St->Hp->Prop) (h0:Pv 0 σ H) (hl:∀i σ H,i<=xs.length->Pv i σ H->SqL K H a xs)
  (hs:∀i x σ H,xs[i]? = some x->Pv i σ H->g x σ H λ σ2 H2=>tb { D with nx:=Pv (i + 1),ct:=Pv (i + 1),bk:=D.nx } σ2 H2) (hd:∀σ H,Pv xs.length σ H->D.nx σ H) :
  ∃W:Nat->Nat->St->Hp->Prop,(∃m,W 0 m σ H)/\∀i m σ H,W i m σ H ->
   ((Itl K a).stop i H/\D.nx σ H)\/((Itl K a).go i H/\∃N:St->Hp->Prop,(∀σ' H',N σ' H'->∃m',m' < m/\W (i + 1) m' σ' H')/\∀x H',(Itl K a).yld i H x H'->g x σ H' λ σ2 H2=>tb { D with nx:=N,ct:=N,bk:=D.nx } σ2 H2):=by
 refine ⟨λ i m σ H=>m=xs.length - i/\i<=xs.length/\Pv i σ H,⟨xs.length,by simp,E9 _,h0⟩,?_⟩;rintro i m σ H ⟨rfl,hi,p⟩;have q:=hl i σ H hi p
 by_cases hlt:i < xs.length
 ·refine .inr ⟨⟨xs,xs[i],q,by simp [hlt]⟩,Pv (i + 1),λ σ' H' p'=>⟨xs.length - (i + 1),by omega,Y,hlt,p'⟩,λ x H' y=>?_⟩;obtain ⟨e,y⟩:=y;subst e;exact hs i x σ _ (y xs q) p
 ·have e:i=xs.length:=by omega
  subst e;exact .inl ⟨⟨xs,q,B3 _⟩,hd σ H p⟩
theorem jj {K:C4} {a:Addr} {xs:List V} {g:TG} {tb:TS} {D:Ends} {σ:St} {H:Hp} (Pv:Nat->St->Hp->Prop) (h0:Pv 0 σ H) (hl:∀i σ H,i<=xs.length->Pv i σ H->SqT K H a xs)
  (hs:∀i x σ H,xs[i]? = some x->Pv i σ H->g x σ H λ σ2 H2=>tb { D with nx:=Pv (i + 1),ct:=Pv (i + 1),bk:=D.nx } σ2 H2) (hd:∀σ H,Pv xs.length σ H->D.nx σ H) :
  ∃W:Nat->Nat->St->Hp->Prop,(∃m,W 0 m σ H)/\∀i m σ H,W i m σ H ->
   ((Itt K a).stop i H/\D.nx σ H)\/((Itt K a).go i H/\∃N:St->Hp->Prop,(∀σ' H',N σ' H'->∃m',m' < m/\W (i + 1) m' σ' H')/\∀x H',(Itt K a).yld i H x H'->g x σ H' λ σ2 H2=>tb { D with nx:=N,ct:=N,bk:=D.nx } σ2 H2):=by
 refine ⟨λ i m σ H=>m=xs.length - i/\i<=xs.length/\Pv i σ H,⟨xs.length,by simp,E9 _,h0⟩,?_⟩;rintro i m σ H ⟨rfl,hi,p⟩;have q:=hl i σ H hi p
 by_cases hlt:i < xs.length
 ·refine .inr ⟨⟨xs,xs[i],q,by simp [hlt]⟩,Pv (i + 1),λ σ' H' p'=>⟨xs.length - (i + 1),by omega,Y,hlt,p'⟩,λ x H' y=>?_⟩;obtain ⟨e,y⟩:=y;subst e;exact hs i x σ _ (y xs q) p
 ·have e:i=xs.length:=by omega
  subst e;exact .inl ⟨⟨xs,q,B3 _⟩,hd σ H p⟩
theorem gj {lo:Int} {n:Nat} {g:TG} {tb:TS} {D:Ends} {σ:St} {H:Hp} (Pv:Nat->St->Hp->Prop) (h0:Pv 0 σ H)
  (hs:∀i σ H,i < n->Pv i σ H->g (.int (lo + i)) σ H λ σ2 H2=>tb { D with nx:=Pv (i + 1),ct:=Pv (i + 1),bk:=D.nx } σ2 H2) (hd:∀σ H,Pv n σ H->D.nx σ H) :
  ∃W:Nat->Nat->St->Hp->Prop,(∃m,W 0 m σ H)/\∀i m σ H,W i m σ H ->
   ((Itr lo n).stop i H/\D.nx σ H)\/((Itr lo n).go i H/\∃N:St->Hp->Prop,(∀σ' H',N σ' H'->∃m',m' < m/\W (i + 1) m' σ' H')/\∀x H',(Itr lo n).yld i H x H'->g x σ H' λ σ2 H2=>tb { D with nx:=N,ct:=N,bk:=D.nx } σ2 H2):=by
 refine ⟨λ i m σ H=>m=n - i/\i<=n/\Pv i σ H,⟨n,by simp,E9 _,h0⟩,?_⟩;rintro i m σ H ⟨rfl,hi,p⟩
 by_cases hlt:i < n
 ·refine .inr ⟨hlt,Pv (i + 1),λ σ' H' p'=>⟨n - (i + 1),by omega,Y,hlt,p'⟩,λ x H' y=>?_⟩;obtain ⟨e,y⟩:=y;subst e y;exact hs i σ _ hlt p
 ·have e:i=n:=by omega
  subst e;exact .inl ⟨B3 _,hd σ H p⟩
abbrev R2:=V->V->Hp->VK->Prop
def OpR (X:Cx) (f:KG->KG->Sem KG) (r:R2):Prop :=
 ∀ (pins:List (Addr×Obj)) (s:KB) (σ:St) (H:Hp) (x y:V) (v u:KG) (Q:VK),Inv X pins σ H s->RelV x v->RelV y u->r x y H Q ->
  wpAny (model X.prog X.w) X.A (f v u) (EP X pins σ Q) X.xe s
def cL (X:Cx) (f:KG) (r:List V->Hp->VK->Prop):Prop :=
 ∀ (pins:List (Addr×Obj)) (s:KB) (σ:St) (H:Hp) (xs:List V) (us:List KG) (Q:VK),Inv X pins σ H s->Vals xs us->r xs H Q ->
  wpAny (model X.prog X.w) X.A (call f us) (EP X pins σ Q) X.xe s
def Hi (X:Cx) (r:V->Hp->(Bool->Hp->Prop)->Prop):Prop :=
 ∀ (pins:List (Addr×Obj)) (s:KB) (σ:St) (H:Hp) (x:V) (v:KG) (Q:Bool->Hp->Prop),Inv X pins σ H s->RelV x v->r x H Q ->
  wpAny (model X.prog X.w) X.A (truthy v) (TP X pins σ Q) X.xe s
def tOp (r:R2) (ta tb:TE):TE:=λ σ H Q=>ta σ H λ x H1=>tb σ H1 λ y H2=>r x y H2 Q
inductive rI (C:Int->Int->Prop) (g:Int->Int->V) (x:V) (y:V) (H:Hp) (Q:VK):Prop
 | mk (i:Int) (j:Int) (e_0:x=.int i) (e_1:y=.int j) (e_2:C i j) (e_3:Q (g i j) H):rI C g x y H Q
inductive rI0 (g:Int->Int->V) (x:V) (y:V) (H:Hp) (Q:VK):Prop
 | mk (i:Int) (j:Int) (e_0:x=.int i) (e_1:y=.int j) (e_2:Q (g i j) H):rI0 g x y H Q
section
variable {X:Cx} {a b c:Expr} {ta tb tc:TE} {pos:Pos}
theorem xq (ha:PE X a ta) (hb:PE X b tb) {pins:List (Addr×Obj)} {s:KB} {σ:St} {H:Hp} {R:V->V->Hp->Prop} (I:Inv X pins σ H s)
  (h:ta σ H λ x H1=>tb σ H1 λ y H2=>R x y H2) {Q:KG->KB->Prop} {f:KG->KG->Sem KG}
  (hf:∀v u s2 x y H2,Inv X pins σ H2 s2->RelV x v->RelV y u->R x y H2->wpAny (model X.prog X.w) X.A (f v u) Q X.xe s2) :
  wpAny (model X.prog X.w) X.A (eval a X.env) (λ v s₁=>wpAny (model X.prog X.w) X.A (eval b X.env) (λ u s₂=>wpAny (model X.prog X.w) X.A (f v u) Q X.xe s₂) X.xe s₁) X.xe s:=by
 refine thn (ha pins s σ H _ I h) λ v s1 ⟨x,H1,I1,r1,q1⟩=>?_;refine thn (hb pins s1 σ H1 _ I1 q1) λ u s2 ⟨y,H2,I2,r2,q2⟩=>?_;exact hf v u s2 x y H2 I2 r1 r2 q2
theorem aA {op:Operator} {r:R2} (ho:OpR X (binaryOp op) r) (ha:PE X a ta) (hb:PE X b tb):PE X (.BinOp a op b pos) (tOp r ta tb):=by intro pins s σ H Q I h;exact wpAny_BinOp (xq ha hb I h λ v u s2 x y H2 I2 rx ry q=>ho pins s2 σ H2 x y v u Q I2 rx ry q)
theorem opI {f:KG->KG->Sem KG} {C:Int->Int->Prop} {g:Int->Int->Int}
  (rule:∀ (i j:Int) (t u:Tok) (s:KB) (Q:KG->KB->Prop) (E:KG->KB->Prop),C i j->Q (.int (g i j) s.toks) { s with toks:=s.toks + 1 }->wpAny (model X.prog X.w) X.A (f (.int i t) (.int j u)) Q E s) :
  OpR X f (rI C λ i j=>.int (g i j)):=by
 intro pins s σ H x y v u Q I rx ry h;obtain ⟨i,j,rfl,rfl,hc,q⟩:=h;obtain ⟨t,rfl⟩:=rx;obtain ⟨t',rfl⟩:=ry;exact rule i j t t' s _ _ hc ⟨.int (g i j),H,I.tok _,⟨_,rfl⟩,q⟩
theorem CQ {f:KG->KG->Sem KG} {g:Int->Int->Int}
  (rule:∀ (i j:Int) (t u:Tok) (s:KB) (Q:KG->KB->Prop) (E:KG->KB->Prop),Q (.int (g i j) s.toks) { s with toks:=s.toks + 1 }->wpAny (model X.prog X.w) X.A (f (.int i t) (.int j u)) Q E s) :
  OpR X f (rI0 λ i j=>.int (g i j)):=by
 intro pins s σ H x y v u Q I rx ry h;obtain ⟨i,j,rfl,rfl,q⟩:=h;obtain ⟨t,rfl⟩:=rx;obtain ⟨t',rfl⟩:=ry;exact rule i j t t' s _ _ ⟨.int (g i j),H,I.tok _,⟨_,rfl⟩,q⟩
theorem uU {f:KG->KG->Sem KG} {g:Int->Int->Bool}
  (rule:∀ (i j:Int) (t u:Tok) (s:KB) (Q:KG->KB->Prop) (E:KG->KB->Prop),Q (.bool (g i j)) s->wpAny (model X.prog X.w) X.A (f (.int i t) (.int j u)) Q E s) :
  OpR X f (rI0 λ i j=>.bl (g i j)):=by
 intro pins s σ H x y v u Q I rx ry h;obtain ⟨i,j,rfl,rfl,q⟩:=h;obtain ⟨t,rfl⟩:=rx;obtain ⟨t',rfl⟩:=ry;exact rule i j t t' s _ _ ⟨.bl (g i j),H,I,rfl,q⟩
def Hj (i j:Int):Prop:=0 < j/\j < 1073741824
def CS (i j:Int):Prop:=0<=j/\j<=1000000/\i.natAbs < 2 ^ 64
def CMul (i j:Int):Prop:=(-(2 ^ 64) < i/\i < 2 ^ 64)\/(-(2 ^ 64) < j/\j < 2 ^ 64)
theorem CMul.ok {i j:Int} (h:CMul i j):IntMulOk i j:=by
 rcases h with ⟨h1,h2⟩ | ⟨h1,h2⟩
 ·exact .of_left (intBits_le_64 h1 h2)
 ·exact .of_right (intBits_le_64 h1 h2)
theorem aM:OpR X (binaryOp .Add) (rI0 λ i j=>.int (i + j)):=CQ λ _ _ _ _ _ _ _ q=>add_int q
theorem dX:OpR X (binaryOp .Sub) (rI0 λ i j=>.int (i - j)):=CQ λ _ _ _ _ _ _ _ q=>sub_int q
theorem dA:OpR X (binaryOp .Mult) (rI CMul λ i j=>.int (i * j)):=opI λ _ _ _ _ _ _ _ hc q=>mul_int q hc.ok
theorem uV:OpR X (binaryOp .FloorDiv) (rI Hj λ i j=>.int (i / j)):=opI λ i j _ _ _ _ _ hc q=>by have h1:(0:Int) < j:=hc.1;have h2:j < 1073741824:=hc.2;exact floordiv_int (by omega) (by rw [Int.fdiv_eq_ediv_of_nonneg i (by omega)]; exact q) (.inl (PyProof.noPylong_small (by omega)))
theorem gW:OpR X (binaryOp .Mod) (rI (λ _ j=>0 < j) λ i j=>.int (i % j)):=opI λ i j _ _ _ _ _ hc q=>by have h1:(0:Int) < j:=hc;exact mod_int' (by omega) (by rw [Int.fmod_eq_emod_of_nonneg i (by omega)]; exact q)
theorem gl:OpR X (binaryOp .Pow) (rI CS λ i j=>.int (i ^ j.toNat)):=opI λ _ _ _ _ _ _ _ hc q=>pow_int_small hc.1 hc.2.1 hc.2.2 q
end
def CT:V->V->Bool
 | .non,.non=>true | .non,.int _=>true | .int _,.non=>true | .non,.bl _=>true | .bl _,.non=>true | .non,.str _=>true | .str _,.non=>true
 | .int _,.int _=>true | .bl _,.bl _=>true | .str _,.str _=>true | .byt _,.byt _=>true
 | .int _,.str _=>true | .str _,.int _=>true | .bl _,.str _=>true | .str _,.bl _=>true
 | _,_=>false
def rEq:R2:=λ x y H Q=>CT x y=true/\Q (.bl (decide (x=y))) H
def rNe:R2:=λ x y H Q=>CT x y=true/\Q (.bl (!decide (x=y))) H
theorem jk {i j:Int}:decide (V.int i=V.int j)=(i == j):=by rw [Bool.eq_iff_iff];simp
theorem rP {i j:Bool}:decide (V.bl i=V.bl j)=(i == j):=by rw [Bool.eq_iff_iff];simp
theorem oj {i j:Str}:decide (V.str i=V.str j)=(i == j):=by rw [Bool.eq_iff_iff];simp
theorem om {i j:Array UInt8}:decide (V.byt i=V.byt j)=(i.toList == j.toList):=by rw [Bool.eq_iff_iff];cases i;cases j;simp
section
variable {X:Cx} {a b c:Expr} {ta tb tc:TE} {pos:Pos}
theorem aP {pins:List (Addr×Obj)} {σ:St} {H:Hp} {s:KB} {Q:VK} {k k':Bool} (I:Inv X pins σ H s) (q:Q (.bl k) H) (e:k=k'):EP X pins σ Q (.bool k') s:=by subst e;exact ⟨.bl k,H,I,Y,q⟩
theorem fe:OpR X (compareOp .Eq) rEq:=by
 intro pins s σ H x y v u Q I rx ry h;obtain ⟨hs,q⟩:=h;cases x with
 | non =>
  cases rx;cases y with
  | non=>cases ry; exact PySem.EqNone.eq_none_none (aP I q (by simp))
  | bl j=>cases ry; exact PySem.EqNone.eq_none_bool (aP I q (by simp))
  | int j=>obtain ⟨t',rfl⟩:=ry; exact PySem.EqNone.eq_none_int (aP I q (by simp))
  | str j=>obtain ⟨t',rfl⟩:=ry; exact PySem.EqNone.eq_none_str (aP I q (by simp))
  | _=>exact absurd (show false=true from hs) B2
 | bl i =>
  cases rx;cases y with
  | non=>cases ry; exact PySem.EqNone.eq_bool_none (aP I q (by simp))
  | bl j=>cases ry; exact eq_bool (aP I q rP)
  | str j=>obtain ⟨t',rfl⟩:=ry; exact PySem.EqMixed.eq_bool_str (aP I q (by simp))
  | _=>exact absurd (show false=true from hs) B2
 | int i =>
  obtain ⟨t,rfl⟩:=rx;cases y with
  | non=>cases ry; exact PySem.EqNone.eq_int_none (aP I q (by simp))
  | int j=>obtain ⟨t',rfl⟩:=ry; exact eq_int (aP I q jk)
  | str j=>obtain ⟨t',rfl⟩:=ry; exact PySem.EqMixed.eq_int_str (aP I q (by simp))
  | _=>exact absurd (show false=true from hs) B2
 | str i =>
  obtain ⟨t,rfl⟩:=rx;cases y with
  | non=>cases ry; exact PySem.EqNone.eq_str_none (aP I q (by simp))
  | bl j=>cases ry; exact PySem.EqMixed.eq_str_bool (aP I q (by simp))
  | int j=>obtain ⟨t',rfl⟩:=ry; exact PySem.EqMixed.eq_str_int (aP I q (by simp))
  | str j=>obtain ⟨t',rfl⟩:=ry; exact eq_str (aP I q oj)
  | _=>exact absurd (show false=true from hs) B2
 | byt i =>
  obtain ⟨t,rfl⟩:=rx;cases y with
  | byt j=>obtain ⟨t',rfl⟩:=ry; exact PySem.W.eq_bytes (aP I q om)
  | _=>exact absurd (show false=true from hs) B2
 | _=>cases y <;> exact absurd (show false=true from hs) B2
theorem fg:OpR X (compareOp .NotEq) rNe:=by
 intro pins s σ H x y v u Q I rx ry h;obtain ⟨hs,q⟩:=h;cases x with
 | non =>
  cases rx;cases y with
  | non=>cases ry; exact PySem.EqNone.ne_none_none (aP I q (by simp))
  | bl j=>cases ry; exact PySem.EqNone.ne_none_bool (aP I q (by simp))
  | int j=>obtain ⟨t',rfl⟩:=ry; exact PySem.EqNone.ne_none_int (aP I q (by simp))
  | str j=>obtain ⟨t',rfl⟩:=ry; exact PySem.EqNone.ne_none_str (aP I q (by simp))
  | _=>exact absurd (show false=true from hs) B2
 | bl i =>
  cases rx;cases y with
  | non=>cases ry; exact PySem.EqNone.ne_bool_none (aP I q (by simp))
  | bl j=>cases ry; exact ne_bool (aP I q (congrArg not rP))
  | str j=>obtain ⟨t',rfl⟩:=ry; exact PySem.EqMixed.ne_bool_str (aP I q (by simp))
  | _=>exact absurd (show false=true from hs) B2
 | int i =>
  obtain ⟨t,rfl⟩:=rx;cases y with
  | non=>cases ry; exact PySem.EqNone.ne_int_none (aP I q (by simp))
  | int j=>obtain ⟨t',rfl⟩:=ry; exact ne_int (aP I q (congrArg not jk))
  | str j=>obtain ⟨t',rfl⟩:=ry; exact PySem.EqMixed.ne_int_str (aP I q (by simp))
  | _=>exact absurd (show false=true from hs) B2
 | str i =>
  obtain ⟨t,rfl⟩:=rx;cases y with
  | non=>cases ry; exact PySem.EqNone.ne_str_none (aP I q (by simp))
  | bl j=>cases ry; exact PySem.EqMixed.ne_str_bool (aP I q (by simp))
  | int j=>obtain ⟨t',rfl⟩:=ry; exact PySem.EqMixed.ne_str_int (aP I q (by simp))
  | str j=>obtain ⟨t',rfl⟩:=ry; exact ne_str (aP I q (congrArg not oj))
  | _=>exact absurd (show false=true from hs) B2
 | byt i =>
  obtain ⟨t,rfl⟩:=rx;cases y with
  | byt j=>obtain ⟨t',rfl⟩:=ry; exact PySem.W.ne_bytes (aP I q (congrArg not om))
  | _=>exact absurd (show false=true from hs) B2
 | _=>cases y <;> exact absurd (show false=true from hs) B2
theorem iG:OpR X (compareOp .Lt) (rI0 λ i j=>.bl (decide (i < j))):=uU λ _ _ _ _ _ _ _ q=>lt_int q
theorem cM:OpR X (compareOp .LtE) (rI0 λ i j=>.bl (decide (i<=j))):=uU λ _ _ _ _ _ _ _ q=>le_int q
theorem cN:OpR X (compareOp .Gt) (rI0 λ i j=>.bl (decide (j < i))):=uU λ _ _ _ _ _ _ _ q=>gt_int q
theorem oq:OpR X (compareOp .GtE) (rI0 λ i j=>.bl (decide (j<=i))):=uU λ _ _ _ _ _ _ _ q=>ge_int q
theorem uW:OpR X (compareOp .IsNot) (λ x y H Q=>y=.non/\Q (.bl (!decide (x=.non))) H):=by
 intro pins s σ H x y v u Q I rx ry h;obtain ⟨rfl,q⟩:=h;cases ry;refine isnot_none_gen (aP I q ?_);cases x <;> first
  | (cases rx; rfl)
  | (obtain ⟨t,rfl⟩:=rx; rfl)
theorem aw (b:Expr) {op:CmpOp} (h:op≠.In:=by decide) (h2:op≠.NotIn:=by decide):behindInMarks op b=false:=by
 have e1:(op == CmpOp.In)=false:=by cases op <;> first | rfl | exact absurd rfl h
 have e2:(op == CmpOp.NotIn)=false:=by cases op <;> first | rfl | exact absurd rfl h2
 cases b <;> simp [behindInMarks,e1,e2]
theorem be {op:CmpOp} {r:R2} (ho:OpR X (compareOp op) r) (ha:PE X a ta) (hb:PE X b tb) (hm:behindInMarks op b=false):PE X (.Compare a [op] [b] pos) (tOp r ta tb):=by intro pins s σ H Q I h;exact wpAny_Compare1 (xq ha hb I h λ v u s2 x y H2 I2 rx ry q=>ho pins s2 σ H2 x y v u Q I2 rx ry q) hm
def wN (t:TE):TT:=λ σ H Q=>t σ H λ x H'=>IsB x λ k=>Q k H'
theorem az {op:CmpOp} {r:R2} (ho:OpR X (compareOp op) r) (ha:PE X a ta) (hb:PE X b tb) (hm:behindInMarks op b=false):PT X (.Compare a [op] [b] pos) (wN (tOp r ta tb)):=by
 intro pins s σ H Q I h;refine wpAny_isTrue_Compare1 (thn (ha pins s σ H _ I h) λ v s1 ⟨x,H1,I1,r1,q1⟩=>thn (hb pins s1 σ H1 _ I1 q1) λ u s2 ⟨y,H2,I2,r2,q2⟩ =>
  thn (ho pins s2 σ H2 x y v u _ I2 r1 r2 q2) λ c s3 ⟨z,H3,I3,r3,k,e,q3⟩=>?_) hm
 subst e;cases r3;exact G4 ⟨H3,I3,q3⟩
def rQ (r r':R2) (ta tb tc:TE):TE:=λ σ H Q=>ta σ H λ x H1=>tb σ H1 λ y H2=>r x y H2 λ z H3=>∃k,z=.bl k /\
 (if k=true then tc σ H3 λ w' H4=>r' y w' H4 Q else Q (.bl false) H3)
theorem rR {op op':CmpOp} {r r':R2} (ho:OpR X (compareOp op) r) (ho':OpR X (compareOp op') r') (ha:PE X a ta) (hb:PE X b tb) (hc:PE X c tc)
  (hm:lastMarks [op,op'] [b,c]=false:=by with_unfolding_all rfl):PE X (.Compare a [op,op'] [b,c] pos) (rQ r r' ta tb tc):=by
 intro pins s σ H Q I h;refine Compare_chain (thn (ha pins s σ H _ I h) λ v s1 ⟨x,H1,I1,r1,q1⟩=>chain_link (thn (hb pins s1 σ H1 _ I1 q1) λ u s2 ⟨y,H2,I2,r2,q2⟩ =>
  thn (ho pins s2 σ H2 x y v u _ I2 r1 r2 q2) λ d s3 ⟨z,H3,I3,r3,k,e,q3⟩=>?_)) hm
 subst e;cases r3;refine G4 ?_;cases k with
 | false=>exact ite_ff ⟨.bl false,H3,I3,rfl,q3⟩
 | true=>exact ite_tt (chain_last (thn (hc pins s3 σ H3 _ I3 q3) λ w' s4 ⟨z',H4,I4,r4,q4⟩=>ho' pins s4 σ H4 y z' u w' Q I4 r2 r4 q4))
theorem rS {op op':CmpOp} {r r':R2} (ho:OpR X (compareOp op) r) (ho':OpR X (compareOp op') r') (ha:PE X a ta) (hb:PE X b tb) (hc:PE X c tc)
  (hm:lastMarks [op,op'] [b,c]=false:=by with_unfolding_all rfl):PT X (.Compare a [op,op'] [b,c] pos) (wN (rQ r r' ta tb tc)):=by
 intro pins s σ H Q I h;refine isTrue_chain (thn (ha pins s σ H _ I h) λ v s1 ⟨x,H1,I1,r1,q1⟩=>test_link (thn (hb pins s1 σ H1 _ I1 q1) λ u s2 ⟨y,H2,I2,r2,q2⟩ =>
  thn (ho pins s2 σ H2 x y v u _ I2 r1 r2 q2) λ d s3 ⟨z,H3,I3,r3,k,e,q3⟩=>?_)) hm
 subst e;cases r3;refine G4 ?_;cases k with
 | false =>
  obtain ⟨k',e',q'⟩:=q3;cases e';exact ite_ff ⟨H3,I3,q'⟩
 | true =>
  refine ite_tt (test_last (thn (hc pins s3 σ H3 _ I3 q3) λ w' s4 ⟨z',H4,I4,r4,q4⟩=>thn (ho' pins s4 σ H4 y z' u w' _ I4 r2 r4 q4) λ d' s5 ⟨z2,H5,I5,r5,k2,e2,q5⟩=>?_));subst e2;cases r5;exact G4 ⟨H5,I5,q5⟩
def CU (K:C4) (x:V) (H:Hp) (k:Bool):Prop :=
 match x with
 | .non=>k=false
 | .bl b=>k=b
 | .int i=>k=(i != 0)
 | .str y=>y.length<=sizeLine/\k=((y.length:Int) != 0)
 | .byt y=>y.size<=sizeLine/\k=((y.size:Int) != 0)
 | .ref p=>(∃xs,SqL K H p xs/\k=!xs.isEmpty)\/(∃xs,SqT K H p xs/\k=!xs.isEmpty)\/∃kvs,H p=some (.dK kvs)/\k=!kvs.isEmpty
 | _=>False
theorem lO {κ:Type} {kvs:List (κ×V)} {vs:List (κ×KG)} (r:KV kvs vs):(!vs.isEmpty)=!kvs.isEmpty:=by cases r <;> rfl
theorem gX {xs:List V} {its:List KG} (r:Vals xs its):(!its.toArray.isEmpty)=!xs.isEmpty:=by cases r <;> simp
theorem fo:(sizeLine:Nat) < 2 ^ 63:=by rw [sizeLine_eq]; decide
theorem xt:Hi X (λ x H Q=>∃k,CU X.K x H k/\Q k H):=by
 intro pins s σ H x v Q I rx h;obtain ⟨k,e,q⟩:=h;have hl:=fo;have hs:sizeLine=16777216:=sizeLine_eq;cases x with
 | non =>
  cases rx;have e':k=false:=e;subst e';exact truthy_none ⟨H,I,q⟩
 | bl b =>
  cases rx;have e':k=b:=e;subst e';exact G4 ⟨H,I,q⟩
 | int i =>
  obtain ⟨t,rfl⟩:=rx;have e':k=(i != 0):=e;subst e';exact PySem.P.truthy_int ⟨H,I,q⟩
 | str y =>
  obtain ⟨t,rfl⟩:=rx;obtain ⟨hy,e'⟩:y.length<=sizeLine/\k=((y.length:Int) != 0):=e;subst e';exact PySem.P.truthy_str (by omega) ⟨H,I.tok _,q⟩
 | byt y =>
  obtain ⟨t,rfl⟩:=rx;obtain ⟨hy,e'⟩:y.size<=sizeLine/\k=((y.size:Int) != 0):=e;subst e';exact PySem.W.truthy_bytes (by omega) ⟨H,I.tok _,q⟩
 | ref p =>
  cases rx;have e':(∃xs,SqL X.K H p xs/\k=!xs.isEmpty)\/(∃xs,SqT X.K H p xs/\k=!xs.isEmpty)\/∃kvs,H p=some (.dK kvs)/\k=!kvs.isEmpty:=e;rcases e' with ⟨xs,hx,e'⟩ | ⟨xs,hx,e'⟩ | ⟨kvs,hx,e'⟩
  ·subst e';obtain ⟨its,r,pl,hz⟩:=I.list hx;have hlen:=r.length;exact wpAny_truthy_list pl.isList (by simp only [List.size_toArray]; omega) ⟨H,I.tok _,by rw [gX r]; exact q⟩
  ·subst e';obtain ⟨its,r,pl,hz⟩:=I.tuple hx;have hlen:=r.length;exact truthy_tuple pl (by simp only [List.size_toArray]; omega) ⟨H,I.tok _,by rw [gX r]; exact q⟩
  ·subst e';obtain ⟨hz,hS,vs,r,m⟩:kvs.length<=sizeLine/\(p == sysModules)=false/\∃vs,KV kvs vs/\s.heap.DictOf (aZ X.prog X.w) p vs:=I.hok p _ hx;have hlen:kvs.length=vs.length:=E4 r;exact wpAny_truthy_dict hS m (by omega) ⟨H,I.tok _,by rw [lO r]; exact q⟩
 | _=>exact (show False from e).elim
theorem gY (ha:PE X a ta) (he:∀aQ,isTrue a X.env aQ=(do let v<-aQ; standAt a.pos; holding [v] (truthy v))) :
  PT X a (λ σ H Q=>ta σ H λ x H'=>∃k,CU X.K x H' k/\Q k H'):=by
 intro pins s σ H Q I h;exact isTrue_plain (thn (ha pins s σ H _ I h) λ v s1 ⟨x,H1,I1,r1,q1⟩=>xt pins s1 σ H1 x v Q I1 r1 q1) (he _)
theorem fD {x:V} {us:List KG} (r:Vals [x] us):∃u,us=[u]/\RelV x u:=by
 cases r with
 | cons r1 r2=>cases r2; exact ⟨_,Y,r1⟩
theorem wO {x y:V} {us:List KG} (r:Vals [x,y] us):∃u w',us=[u,w']/\RelV x u/\RelV y w':=by
 cases r with
 | cons r1 r2 =>
  cases r2 with
  | cons r3 r4=>cases r4; exact ⟨_,_,Y,r1,r3⟩
theorem iH (hc:X.calm=true):cL X (.builtin "max") (λ xs H Q=>∃i j,xs=[.int i,.int j]/\Q (.int (if j > i then j else i)) H):=by
 intro pins s σ H xs us Q I r h;obtain ⟨i,j,rfl,q⟩:=h;obtain ⟨u,w',rfl,⟨t,rfl⟩,⟨t',rfl⟩⟩:=wO r;refine max_two_ints (I.ok.hd hc) λ h' tk k=>⟨_,H,I.kept k,?_,q⟩
 by_cases hj:j > i
 ·rw [if_pos hj,if_pos hj]; exact ⟨_,Y⟩
 ·rw [if_neg hj,if_neg hj]; exact ⟨_,Y⟩
theorem pV (hc:X.calm=true):cL X (.builtin "min") (λ xs H Q=>∃i j,xs=[.int i,.int j]/\Q (.int (if j < i then j else i)) H):=by
 intro pins s σ H xs us Q I r h;obtain ⟨i,j,rfl,q⟩:=h;obtain ⟨u,w',rfl,⟨t,rfl⟩,⟨t',rfl⟩⟩:=wO r;refine min_two_ints (I.ok.hd hc) λ h' tk k=>⟨_,H,I.kept k,?_,q⟩
 by_cases hj:j < i
 ·rw [if_pos hj,if_pos hj]; exact ⟨_,Y⟩
 ·rw [if_neg hj,if_neg hj]; exact ⟨_,Y⟩
theorem pW:cL X (.type "int") (λ xs H Q=>(∃i,xs=[.int i]/\Q (.int i) H)\/∃k,xs=[.bl k]/\Q (.int (if k then 1 else 0)) H):=by
 intro pins s σ H xs us Q I r h;rcases h with ⟨i,rfl,q⟩ | ⟨k,rfl,q⟩
 ·obtain ⟨u,rfl,t,rfl⟩:=fD r;exact call_int_int ⟨.int i,H,I,⟨_,rfl⟩,q⟩
 ·obtain ⟨u,rfl,r1⟩:=fD r;cases r1;exact call_int_bool ⟨.int (if k then 1 else 0),H,I.tok _,⟨_,rfl⟩,q⟩
end
structure ObjM (h:Heap) (x dx C:Addr) (mA:Str->Option Value):Prop where
 obj:h.get? x=some (PySem.W.instObj C dx)
 ns:h.Ns1 dx mA
 ne:dx≠x
theorem pX {h:Heap} {dx:Addr} {mA:Str->Option KG} (n:h.Ns1 dx mA):∃od,h.get? dx=some od/\∀name,PySem.W.lookIn name od=some (mA name):=by
 obtain ⟨o,es,ep,ho,hd,hk,_,hm⟩:=n;refine ⟨o,ho,λ name=>?_⟩;have e:=hm name;unfold nsFind findBy at e;rw [<- Array.find?_toList] at e;unfold PySem.W.lookIn;rw [hd];dsimp only
 split
 ·rename_i y q
  rw [q] at e;exact congrArg some e
 ·rename_i q
  rw [q] at e;have a:es.toList.any (·.refKey)=false:=by rw [List.any_eq_false];intro y hy;obtain ⟨z,t,hkey⟩:=hk y (Array.mem_toList_iff.mp hy);simp [DictEntry.refKey,hkey]
  have a':¬ es.toList.any (·.refKey)=true:=by rw [a]; exact B2
  rw [if_neg a'];exact congrArg some e
theorem ObjM.look {h:Heap} {x dx C:Addr} {mA:Str->Option KG} (I:ObjM h x dx C mA):∃od,PySem.W.InstAt h x (PySem.W.instObj C dx) C (some od)/\∀name,PySem.W.lookIn name od=some (mA name) :=
 let ⟨od,ho,hl⟩:=pX I.ns
 ⟨od,⟨I.obj,rfl,rfl,ho⟩,hl⟩
section
variable {prog:KC} {w:KF} {A:Around} {E:KG->KB->Prop} {s:KB} {K:C4} {x dx C f:Addr} {mA:Str->Option KG} {name:Str} {v:KG}
theorem uX {expr:Bool} {Q:KG->KB->Prop} (X:K.In s.heap) (I:ObjM s.heap x dx C mA) (hg:PySem.W.plainGet K C name=true) (hh:PySem.W.hasDictIn K C=true)
  (ha:PySem.W.findIn K (.ref C) name=some none) (hv:mA name=some v) (hv':PySem.W.handedIn v=true) (h:Q v { s with toks:=s.toks + 1 }) :
  wpAny (model prog w) A (getAttr (.ref x) name expr) Q E s:=by
 obtain ⟨od,J,hl⟩:=I.look;exact PySem.W.get_value X J (PySem.W.plainGet_of hg).1 (PySem.W.findObj_own hh ha rfl (by rw [hl,hv])) hv' h
theorem rT {pl:Sem Bool} {Q:KG×List KG->KB->Prop} (X:K.In s.heap) (I:ObjM s.heap x dx C mA) (hg:PySem.W.plainGet K C name=true)
  (hf:PySem.W.findIn K (.ref C) name=some (some (.ref f))) (ht:PySem.W.isFn K (.ref f)=true) (hv:mA name=none) (h:Q (.ref f,[.ref x]) s) :
  wpAny (model prog w) A (getMethod (.ref x) name pl) Q E s:=by
 obtain ⟨od,J,hl⟩:=I.look;exact PySem.W.method_fn X J (PySem.W.plainGet_of hg).1 (PySem.W.plainGet_of hg).2 hf (C3.mp ht) (by show (PySem.W.lookIn name od).map (·.isSome)=some false; rw [hl,hv]; rfl) h
theorem uY {ns:List Str} {Q:Unit->KB->Prop} (X:K.In s.heap) (I:ObjM s.heap x dx C mA)
  (hs:PySem.W.findIn K (.ref C) "__setattr__" = some (some (.builtin "object.__setattr__"))) (hp:PySem.W.plainOver K C=true) (ht:PySem.W.takerIn K C name=some none) (hh:PySem.W.hasDictIn K C=true)
  (hw:PySem.Within mA ns) (hsz:ns.length<=sizeLine)
  (h:∀h',ObjM h' x dx C (λ y=>if y=name then some v else mA y)->Heap.SameBut dx s.heap h'->Q () { s with heap:=h',toks:=s.toks + 2 }) :
  wpAny (model prog w) A (setAttr (.ref x) name v) Q E s:=by
 obtain ⟨od,J,hl⟩:=I.look;refine PySem.W.set_plain X J hs (PySem.W.osa_open (s:={ s with toks:=s.toks + 1 }) (r:=none) X J hp ht λ b=>?_);obtain ⟨cd,hc,hd'⟩:=PySem.W.any_some hh;have hx:s.heap.get? x=some ⟨.ref C,some dx,.plain,#[]⟩:=I.obj;refine A0 (A1 (A0 (A0 (wpAny_loadPart hx (A0 (PySem.W.Looks.here (s:={ s with toks:=s.toks + 1 }) (PySem.W.looks_clsIn X hc) ?_))))));rw [hd'];refine A1 (a:=some dx) (A0 (A1 (A0 ?_)));refine wpAny_nsSet1 (s:={ s with toks:=s.toks + 1 }) I.ns λ h' hn2 hs2=>?_;obtain ⟨oD,esD,epD,hoD,hdD,hcD⟩:=hn2.count (PySem.Within.cons name v hw);refine A0 (wpAny_lookBehind hoD (by rw [hdD]; exact pastItsLine_dict (C5 hcD (by rw [List.length_cons]; omega))) ?_);exact A1 (h _ ⟨(hs2.2 _ (Ne.symm I.ne)).trans I.obj,hn2,I.ne⟩ hs2)
theorem rU {R:Result->KB->Prop} {vs:List KG} {kw:List (Str×KG)} (X:K.In s.heap) (hm:PySem.W.makesIn K C=true)
  (hi:PySem.W.findIn K (.ref C) "__init__" = some (some (.ref f))) (hf:PySem.W.typeIn K (.ref f)=some (.type "function"))
  (h:codeAny (model prog w) (A.under (.builtin "type.__call__" ⟨.ref C :: vs,kw⟩)) (.call (.ref f) ⟨.ref (s.heap.objs.size + 1) :: vs,kw⟩) (PySem.W.InitBack (s.heap.objs.size + 1) R)
   { s with heap:=(s.heap.push PySem.W.emptyDict).push (PySem.W.instObj C s.heap.objs.size) }) :
  codeAny (model prog w) A (.call (.ref C) ⟨vs,kw⟩) R s:=by
 obtain ⟨hh,g,d,t,os⟩:=s;exact PySem.W.make_core (PySem.W.makes_of X hm) (PySem.W.looks_findIn X hi) (λ self=>PySem.W.bind_fn X self hf) (.inl rfl) h
end
def cH (f:Str) (v:V):List (Str×V)->List (Str×V)
 | []=>[(f,v)]
 | (g,x) :: r=>if g=f then (g,v) :: r else (g,x) :: cH f v r
theorem bM (f g:Str) (v:V):∀fs:List (Str×V),(cH f v fs).lookup g=if g=f then some v else fs.lookup g
 | []=>by
  show List.lookup g [(f,v)]=_
  by_cases h:g=f
  ·have hb:(g == f)=true:=C3.mpr h;simp only [List.lookup,hb,if_pos h]
  ·have hb:(g == f)=false:=beq_eq_false_iff_ne.mpr h;simp only [List.lookup,hb,if_neg h]
 | (k,x) :: r=>by
  have ih:=bM f g v r;rw [show cH f v ((k,x) :: r)=(if k=f then (k,v) :: r else (k,x) :: cH f v r) from rfl]
  by_cases hk:k=f
  ·rw [if_pos hk]
   by_cases h:g=k
   ·have hb:(g == k)=true:=C3.mpr h;simp only [List.lookup,hb,if_pos (h.trans hk)]
   ·have hb:(g == k)=false:=beq_eq_false_iff_ne.mpr h;simp only [List.lookup,hb,if_neg (λ e:g=f=>h (e.trans hk.symm))]
  ·rw [if_neg hk]
   by_cases h:g=k
   ·have hb:(g == k)=true:=C3.mpr h;simp only [List.lookup,hb,if_neg (λ e:g=f=>hk (h.symm.trans e))]
   ·have hb:(g == k)=false:=beq_eq_false_iff_ne.mpr h;simp only [List.lookup,hb];exact ih
theorem gn (f:Str) (v:V):∀fs:List (Str×V),f∈(cH f v fs).map (·.1)/\∀g,g∈fs.map (·.1)->g∈(cH f v fs).map (·.1)
 | []=>⟨by simp [cH],λ g h=>by simp at h⟩
 | (k,x) :: r=>by
  obtain ⟨i1,i2⟩:=gn f v r;rw [show cH f v ((k,x) :: r)=(if k=f then (k,v) :: r else (k,x) :: cH f v r) from rfl]
  by_cases hk:k=f
  ·rw [if_pos hk];subst hk;exact ⟨by simp,λ g h=>by simpa using h⟩
  ·rw [if_neg hk];refine ⟨?_,λ g h=>?_⟩
   ·rw [List.map_cons];exact B4 _ i1
   ·rw [List.map_cons] at h ⊢;rcases List.mem_cons.mp h with e | e
    ·exact List.mem_cons.mpr (.inl e)
    ·exact B4 _ (i2 g e)
theorem dY (f:Str) (v:V):∀fs:List (Str×V),(cH f v fs).length<=fs.length + 1
 | []=>by simp [cH]
 | (k,x) :: r=>by
  have ih:=dY f v r;rw [show cH f v ((k,x) :: r)=(if k=f then (k,v) :: r else (k,x) :: cH f v r) from rfl]
  by_cases hk:k=f
  ·rw [if_pos hk,List.length_cons,List.length_cons]; omega
  ·rw [if_neg hk,List.length_cons,List.length_cons]; omega
theorem RelO.some_of {v:V} {o:Option KG} (r:RelO (some v) o):∃u,o=some u/\RelV v u:=by
 cases o with
 | none=>exact (show False from r).elim
 | some u=>exact ⟨u,Y,r⟩
theorem RelO.none_of {o:Option KG} (r:RelO none o):o=none:=by
 cases o with
 | none=>rfl
 | some u=>exact (show False from r).elim
theorem pY {v:V} {u:KG} (r:RelV v u):PySem.W.handedIn u=true:=by
 cases v with
 | non=>cases (show u=Value.none from r); rfl
 | bl b=>cases (show u=Value.bool b from r); rfl
 | int i=>obtain ⟨t,e⟩:=(show ∃t,u=Value.int i t from r); cases e; rfl
 | str x=>obtain ⟨t,e⟩:=(show ∃t,u=Value.str x t from r); cases e; rfl
 | byt b=>obtain ⟨t,e⟩:=(show ∃t,u=Value.bytes b t from r); cases e; rfl
 | flt b=>obtain ⟨t,e⟩:=(show ∃t,u=Value.float b t from r); cases e; rfl
 | ref a=>cases (show u=Value.ref a from r); rfl
 | ty n=>cases (show u=Value.type n from r); rfl
section
variable {P:KC} {w:KF} {H H':Hp} {h h':Heap} {a C dx:Addr} {fs fs':List (Str×V)}
theorem fE (hok:HOk P w H h) (e:H a=some (.ins C dx fs)):∃mA,ObjM h a dx C mA/\(∀f,RelO (fs.lookup f) (mA f))/\PySem.Within mA (fs.map (·.1))/\fs.length<=1000/\H dx=some (.own a):=by
 obtain ⟨d,z,ne,ob,mA,n,r,q⟩:=(show ObjOk P w H h a (.ins C dx fs) from hok a _ e)
 exact ⟨mA,⟨ob,n,ne⟩,r,q,z,d⟩
end
structure Cls (K:C4) (C:Addr):Prop where
 pg:PySem.W.plainGet K C Str.empty=true
 hd:PySem.W.hasDictIn K C=true
 po:PySem.W.plainOver K C=true
 sa:PySem.W.findIn K (.ref C) "__setattr__" = some (some (.builtin "object.__setattr__"))
theorem Cls.get {K:C4} {C:Addr} (c:Cls K C) (f:Str):PySem.W.plainGet K C f=true:=c.pg
def NoAttr (K:C4) (C:Addr) (f:Str):Prop:=PySem.W.findIn K (.ref C) f=some none
theorem NoAttr.taker {K:C4} {C:Addr} {f:Str} (n:NoAttr K C f):PySem.W.takerIn K C f=some none:=by
 unfold PySem.W.takerIn;rw [show PySem.W.findIn K (.ref C) f=some none from n]
 rfl
structure Con (K:C4) (C:Addr) (f:Str) (v:V) (u:Value):Prop where
 at_:PySem.W.findIn K (.ref C) f=some (some u)
 rel:RelV v u
 get:PySem.W.specialIn K u "__get__" = some none
 cp:PySem.W.copiedNames.contains f=false
structure Meth (K:C4) (C:Addr) (m:Str) (f:Addr):Prop where
 at_:PySem.W.findIn K (.ref C) m=some (some (.ref f))
 fn:PySem.W.isFn K (.ref f)=true
 kp:PySem.W.keepIn K (.ref f)=true
section
variable {X:Cx} {pins:List (Addr×Obj)} {σ:St} {H:Hp} {s:KB} {a C dx:Addr} {fs:List (Str×V)} {f:Str} {v:V} {A:Around} {E:KG->KB->Prop}
theorem lP {b:Bool} {Q:KG->KB->Prop} (I:Inv X pins σ H s) (e:H a=some (.ins C dx fs)) (c:Cls X.K C) (n:NoAttr X.K C f) (l:fs.lookup f=some v)
  (h:∀u s',Inv X pins σ H s'->RelV v u->Q u s'):wpAny (model X.prog X.w) A (getAttr (.ref a) f b) Q E s:=by
 obtain ⟨mA,O,r,_,_,_⟩:=fE I.hok e;obtain ⟨u,hu,ru⟩:=RelO.some_of (v:=v) (o:=mA f) (by rw [<- l]; exact r f);exact uX I.kIn O (c.get f) c.hd n hu (pY ru) (h u _ (I.tok _) ru)
theorem fq {m:Str} {g:Addr} {pl:Sem Bool} {Q:KG×List KG->KB->Prop} (I:Inv X pins σ H s) (e:H a=some (.ins C dx fs)) (c:Cls X.K C) (k:Meth X.K C m g) (l:fs.lookup m=none)
  (h:Q (.ref g,[.ref a]) s):wpAny (model X.prog X.w) A (getMethod (.ref a) m pl) Q E s:=by
 obtain ⟨mA,O,r,_,_,_⟩:=fE I.hok e;have hn:mA m=none:=RelO.none_of (by rw [<- l]; exact r m);exact rT I.kIn O (c.get m) k.at_ k.fn hn h
theorem lQ {y:V} {u:KG} {Q:Unit->KB->Prop} (I:Inv X pins σ H s) (e:H a=some (.ins C dx fs)) (c:Cls X.K C) (n:NoAttr X.K C f) (hl:fs.length < 1000) (ry:RelV y u)
  (h:∀s',Inv X pins σ (upd H a (.ins C dx (cH f y fs))) s'->Q () s'):wpAny (model X.prog X.w) A (setAttr (.ref a) f u) Q E s:=by
 obtain ⟨mA,O,r,wi,_,ho⟩:=fE I.hok e;have hz:(fs.map (·.1)).length<=sizeLine:=by rw [List.length_map,sizeLine_eq]; omega
 refine uY I.kIn O c.sa c.po n.taker c.hd wi hz λ h' O' sb=>h _ ?_;have hd:∃o,h'.get? dx=some o:=let ⟨o,_,_,e',_⟩:=O'.ns; ⟨o,e'⟩
 refine I.write (x:=a) (e:=dx) (by rw [e]; exact True.intro) (.inr ho) (λ b q hb z=>(sb.2 b hb).trans z) hd ?_;refine ⟨by rw [aj O.ne]; exact ho,?_,O.ne,O'.obj,_,O'.ns,λ g=>?_,λ g hg=>?_⟩
 ·have:=dY f y fs; omega
 ·show RelO ((cH f y fs).lookup g) (if g=f then some u else mA g);rw [bM]
  by_cases q:g=f
  ·rw [if_pos q,if_pos q]; exact ry
  ·rw [if_neg q,if_neg q]; exact r g
 ·by_cases q:g=f
  ·rw [q]; exact (gn f y fs).1
  ·refine (gn f y fs).2 g (wi g λ z=>hg ?_);show (if g=f then some u else mA g)=none;rw [if_neg q]; exact z
theorem Inv.made (I:Inv X pins σ H s):Inv X pins σ (upd (upd H s.heap.objs.size (.own (s.heap.objs.size + 1))) (s.heap.objs.size + 1) (.ins C s.heap.objs.size []))
  { s with heap:=(s.heap.push PySem.W.emptyDict).push (PySem.W.instObj C s.heap.objs.size) }:=by
 have e1:(s.heap.push PySem.W.emptyDict).get? s.heap.objs.size=some PySem.W.emptyDict:=A8 s.heap rfl;have e2:((s.heap.push PySem.W.emptyDict).push (PySem.W.instObj C s.heap.objs.size)).get? (s.heap.objs.size + 1)=some (PySem.W.instObj C s.heap.objs.size):=by have:=A8 (s.heap.push PySem.W.emptyDict) (o:=PySem.W.instObj C s.heap.objs.size) rfl;rwa [Heap.size_push] at this
 have e3:(s.heap.push PySem.W.emptyDict).Ns s.heap.objs.size (λ _=>none):=⟨PySem.W.emptyDict,#[],_,e1,Y,(λ e he=>absurd he (by simp)),λ _=>rfl⟩
 have I1:=I.laid (a:=s.heap.objs.size) (o:=.own (s.heap.objs.size + 1)) (h':=s.heap.push PySem.W.emptyDict) (t':=s.toks) (λ b u q=>A7 _ q) (B3 _) ⟨_,e1⟩;refine I1.laid (a:=s.heap.objs.size + 1) (o:=.ins C s.heap.objs.size []) (t':=s.toks) (λ b u q=>A7 _ q) (Nat.le_of_eq (Heap.size_push _ _)) ?_;have ne:s.heap.objs.size≠s.heap.objs.size + 1:=B9 (G1 _);refine ⟨by rw [aj ne,ae],E9 _,ne,e2,λ _=>none,(Heap.Ns1.of_empty e3).at λ o q=>A7 _ q,λ _=>True.intro,λ y hy=>absurd rfl hy⟩
theorem uZ {prog:KC} {w:KF} {env:Env} {e:Expr} {f:Str} {pos:Pos} {s:KB} {Q:KG->KB->Prop} (hb:attributeBase e f env (eval e env)=eval e env)
  (h:wpAny (model prog w) A (eval e env) (λ o s₁=>wpAny (model prog w) A (getAttr o f true) Q E s₁) E s):wpAny (model prog w) A (eval (.Attribute e f pos) env) Q E s :=
 Attribute_any_ h (by rw [arm_eval_Attribute,hb])
end
def Hk (K:C4) (ta:TE) (f:Str):TE:=λ σ H Q=>ta σ H λ x H1=>∃a C dx fs v,x=.ref a/\H1 a=some (.ins C dx fs)/\Cls K C/\NoAttr K C f/\fs.lookup f=some v/\Q v H1
def CV (K:C4) (ta tv:TE) (f:Str):TS:=λ D σ H=>tv σ H λ y H1=>ta σ H1 λ x H2=>∃a C dx fs,x=.ref a/\H2 a=some (.ins C dx fs)/\Cls K C/\NoAttr K C f/\fs.length < 1000 /\
 D.nx σ (upd H2 a (.ins C dx (cH f y fs)))
section
variable {X:Cx} {o e value:Expr} {f:Str} {pos pos' tpos:Pos} {ta tv:TE}
theorem gp (he:PE X e ta) (hb:attributeBase e f X.env (eval e X.env)=eval e X.env):PE X (.Attribute e f pos) (Hk X.K ta f):=by intro pins s σ H Q I h;refine uZ hb (thn (he pins s σ H _ I h) λ u s1 ⟨x,H1,I1,rx,a,C,dx,fs,v,ex,ea,c,n,l,q⟩=>?_);subst ex;obtain rfl:u=Value.ref a:=rx;exact lP I1 ea c n l λ u' s2 I2 ru=>⟨v,H1,I2,ru,q⟩
theorem rV (ha:PE X o ta) (hv:PE X value tv) (hs:swapsWith value (some (.Attribute o f pos')) pos.line X.env=pure false):PS X (.Assign [.Attribute o f pos'] value pos) (CV X.K ta tv f):=by intro pins s σ H D I h;refine plainObj_wpAny_Assign_Attribute (thn (hv pins s σ H _ I h) λ u s1 ⟨y,H1,I1,ry,q⟩=>thn (ha pins s1 σ H1 _ I1 q) λ ov s2 ⟨x,H2,I2,rx,a,C,dx,fs,ex,ea,c,n,l,q2⟩=>?_) hs;subst ex;obtain rfl:ov=Value.ref a:=rx;exact lQ I2 ea c n l ry λ s3 I3=>⟨σ,_,I3,q2⟩
theorem wP {pl:Sem Bool} {m:Str} {apos:Pos} {args:List Expr} {pins:List (Addr×Obj)} {s:KB} {σ:St} {H:Hp} {Q:KG->KB->Prop} {te:TE} (he:PE X e te) (I:Inv X pins σ H s)
  (h:te σ H λ x H1=>∃a C dx fs g,x=.ref a/\H1 a=some (.ins C dx fs)/\Cls X.K C/\Meth X.K C m g/\fs.lookup m=none /\
   ∀s1,Inv X pins σ H1 s1->wpAny (model X.prog X.w) X.A (callWith pos (.ref g) [.ref a] (backTo pos (starEach args X.env)) (backToKw pos (keywordEach [] X.env))) Q X.xe s1)
  (ht:eval (.Call (.Attribute e m apos) args [] pos) X.env=(do
   let ov<-eval e X.env
   standAt apos.atName
   let (f,first)<-holding [ov] (getMethod ov m pl)
   callWith pos f first (backTo pos (starEach args X.env)) (backToKw pos (keywordEach [] X.env)))) :
  wpAny (model X.prog X.w) X.A (eval (.Call (.Attribute e m apos) args [] pos) X.env) Q X.xe s:=by
 refine PySem.W.methodCall_KW (pl:=pl) (thn (he pins s σ H _ I h) λ u s1 ⟨x,H1,I1,rx,a,C,dx,fs,g,ex,ea,c,k,l,q⟩=>?_) ht;subst ex;obtain rfl:u=Value.ref a:=rx;exact fq I1 ea c k l (q s1 I1)
end
section
variable {X:Cx} {pins:List (Addr×Obj)} {σ:St} {H:Hp} {s:KB} {A:Around} {E:KG->KB->Prop} {Q:KG->KB->Prop} {c:KG} {b:Bool}
inductive TyOf (K:C4) (H:Hp):V->Value->Prop where
 | non:TyOf K H .non (.type "NoneType")
 | bl (x:Bool):TyOf K H (.bl x) (.type "bool")
 | int (i:Int):TyOf K H (.int i) (.type "int")
 | str (x:Str):TyOf K H (.str x) (.type "str")
 | flt (x:UInt64):TyOf K H (.flt x) (.type "float")
 | lst {a:Addr} {xs:List V} (e:H a=some (.lst xs)):TyOf K H (.ref a) (.type "list")
 | frz {a:Addr} {o:Obj} {xs:List V} (e:H a=some (.frz o (.lst xs))):TyOf K H (.ref a) (.type "list")
 | tup {a:Addr} {xs:List V} (e:H a=some (.tup xs)):TyOf K H (.ref a) (.type "tuple")
 | dK {a:Addr} {kvs:List (Key×V)} (e:H a=some (.dK kvs)):TyOf K H (.ref a) (.type "dict")
 | dT {a:Addr} {kvs:List (List Key×V)} (e:H a=some (.dT kvs)):TyOf K H (.ref a) (.type "dict")
 | ins {a C dx:Addr} {fs:List (Str×V)} (e:H a=some (.ins C dx fs)) (cl:Cls K C) (ha:PySem.W.findIn K (.ref C) "__class__" = some (some (.builtin "object.__class__")))
   (hn:PySem.W.specialIn K (.builtin "object.__class__") "__get__" = some (some (.builtin "getset_descriptor.__get__"))) (htk:PySem.W.takesIn K (.builtin "object.__class__")=some true)
   (hm:PySem.W.mroIn K C (.type "object")=some true):TyOf K H (.ref a) (.ref C)
theorem pZ {x:V} {u t:KG} (I:Inv X pins σ H s) (rx:RelV x u) (ty:TyOf X.K H x t) (e:PySem.W.kitOne X.K t c=some b) (h:∀tk,Q (.bool b) { s with toks:=tk }) :
  wpAny (model X.prog X.w) A (call (.builtin "isinstance") [u,c]) Q E s:=by
 cases ty with
 | non=>cases (show u=Value.none from rx); exact PySem.W.kia_one PySem.W.kitx_none I.kIn True.intro e (λ z=>nomatch z) h
 | bl y=>cases (show u=Value.bool y from rx); exact PySem.W.kia_one PySem.W.kitx_bool I.kIn True.intro e (λ z=>nomatch z) h
 | int i=>obtain ⟨t,q⟩:=(show ∃t,u=Value.int i t from rx); cases q; exact PySem.W.kia_one PySem.W.kitx_int I.kIn True.intro e (λ z=>nomatch z) h
 | str y=>obtain ⟨t,q⟩:=(show ∃t,u=Value.str y t from rx); cases q; exact PySem.W.kia_one PySem.W.kitx_str I.kIn True.intro e (λ z=>nomatch z) h
 | flt y=>obtain ⟨t,q⟩:=(show ∃t,u=Value.float y t from rx); cases q; exact PySem.W.kia_one PySem.W.kitx_float I.kIn True.intro e (λ z=>nomatch z) h
 | @lst a xs ea =>
  cases (show u=Value.ref a from rx);obtain ⟨_,_,n,_,h1⟩:=(show ObjOk X.prog X.w H s.heap a (.lst xs) from I.hok a _ ea)
  exact PySem.W.kia_one PySem.W.kitx_list I.kIn ⟨_,h1,Y⟩ e (λ z=>nomatch z) h
 | @frz a ob xs ea =>
  cases (show u=Value.ref a from rx);obtain ⟨_,_,_,n,_,h1⟩:=(show ObjOk X.prog X.w H s.heap a (.frz ob (.lst xs)) from I.hok a _ ea)
  exact PySem.W.kia_one PySem.W.kitx_list I.kIn ⟨_,h1,Y⟩ e (λ z=>nomatch z) h
 | @tup a xs ea =>
  cases (show u=Value.ref a from rx);obtain ⟨_,_,_,p⟩:=(show ObjOk X.prog X.w H s.heap a (.tup xs) from I.hok a _ ea)
  obtain ⟨o,h1,h2,_⟩:=p;exact PySem.W.kia_one PySem.W.kitx_tuple I.kIn ⟨o,h1,h2⟩ e (λ z=>nomatch z) h
 | @dK a kvs ea =>
  cases (show u=Value.ref a from rx);obtain ⟨_,_,vs,_,p⟩:=(show ObjOk X.prog X.w H s.heap a (.dK kvs) from I.hok a _ ea)
  obtain ⟨o,es,ep,h1,h2,_⟩:=p;exact PySem.W.kia_one PySem.W.kitx_dict I.kIn ⟨o,h1,h2.1⟩ e (λ z=>nomatch z) h
 | @dT a kvs ea =>
  cases (show u=Value.ref a from rx);obtain ⟨_,_,xs,_,o,es,ep,h1,h2,_⟩:=(show ObjOk X.prog X.w H s.heap a (.dT kvs) from I.hok a _ ea)
  exact PySem.W.kia_one PySem.W.kitx_dict I.kIn ⟨o,h1,h2.1⟩ e (λ z=>nomatch z) h
 | @ins a C dx fs ea cl ha hn htk hm =>
  cases (show u=Value.ref a from rx);obtain ⟨mA,O,_⟩:=fE I.hok ea;obtain ⟨od,J,_⟩:=O.look;exact PySem.W.kia_one (PySem.W.kitx_own (cl.get _) cl.hd ha hn htk hm) I.kIn J e (λ z=>nomatch z) h
end
structure Room (k:Nat) (A:Around):Prop where
 hd:A.handled=none
 dp:A.depth + 3 * k + 5 < recursionLimit
 un:A.units + 16 * k + 200 < cLine
 gd:A.guards=some []
theorem Room.mono {j k:Nat} {A:Around} (r:Room k A) (h:j<=k):Room j A:=⟨r.hd,by have:=r.dp; omega,by have:=r.un; omega,r.gd⟩
theorem Room.deeper {k:Nat} {A:Around} (r:Room (k + 1) A) (env:Env):Room k (A.deeper env) :=
 ⟨r.hd,by have:=r.dp; show A.depth + 1 + 3 * k + 5 < _; omega,by have:=r.un; show A.units + 3 + 16 * k + 200 < _; omega,r.gd⟩
theorem lR {A:Around} {C:Addr} {us:List KG} {kw:List (Str×KG)}:(A.under (.builtin "type.__call__" ⟨.ref C :: us,kw⟩)).depth=A.depth + 1:=by first | rfl | simp [Around.under,Code.weight,Code.isCreation,Code.isGuard,Code.isCaller,Code.frames,Code.isFrame,guardIds]
theorem lS {A:Around} {C:Addr} {us:List KG} {kw:List (Str×KG)}:(A.under (.builtin "type.__call__" ⟨.ref C :: us,kw⟩)).units=A.units + 1:=by first | rfl | simp [Around.under,Code.cUnits,Code.frames,Code.isFrame]
theorem jZ {A:Around} {C:Addr} {us:List KG} {kw:List (Str×KG)}:(A.under (.builtin "type.__call__" ⟨.ref C :: us,kw⟩)).guards=A.guards:=by
 have e:Code.guards (.builtin "type.__call__" ⟨.ref C :: us,kw⟩)=[]:=by
  have:(Code.builtin "type.__call__" ⟨.ref C :: us,kw⟩).isGuard=false:=by show guardIds.contains "type.__call__" = false; decide +kernel
  simp [Code.guards,this]
 unfold Around.under;dsimp only;rw [e]
 rfl
theorem Room.make {k:Nat} {A:Around} (r:Room (k + 1) A) (C:Addr) (us:List KG) (kw:List (Str×KG)):Room k (A.under (.builtin "type.__call__" ⟨.ref C :: us,kw⟩)) :=
 ⟨r.hd,by have:=r.dp; rw [lR]; omega,by have:=r.un; rw [lS]; omega,by rw [jZ]; exact r.gd⟩
theorem Room.depth {k:Nat} {A:Around} (r:Room k A):A.depth < recursionLimit:=by have:=r.dp; omega
theorem Room.units {k:Nat} {A:Around} (r:Room k A):A.units + 64 < cLine:=by have:=r.un; omega
def va:TA:=λ _ H Q=>Q [] H
def wQ (ta:TE) (tr:TA):TA:=λ σ H Q=>ta σ H λ x H1=>tr σ H1 λ xs H2=>Q (x :: xs) H2
section
variable {X:Cx} {e:Expr} {es:List Expr} {te:TE} {t:TA} {pos:Pos}
theorem ab:PA X [] va:=λ _ _ _ _ H Q I h=>Calls.spliced_nil ⟨[],H,I,.nil,h⟩
theorem aa (ha:PE X e te) (hr:PA X es t) (hs:starEach (e :: es) X.env=(false,eval e X.env) :: starEach es X.env:=by rfl):PA X (e :: es) (wQ te t):=by intro pos pins s σ H Q I h;rw [hs];show wpAny _ _ (spliced ((false,eval e X.env) :: backTo pos (starEach es X.env))) _ _ s;refine Calls.spliced_cons (thn (ha pins s σ H _ I h) λ u s1 ⟨x,H1,I1,r1,q1⟩=>?_);exact thn (hr pos pins s1 σ H1 _ I1 q1) λ us s2 ⟨xs,H2,I2,r2,q2⟩=>⟨x :: xs,H2,I2,.cons r1 r2,q2⟩
def Hl (t:TA):TE:=λ σ H Q=>t σ H λ xs H1=>xs.length<=sizeLine/\∀p,H1 p=none->Q (.ref p) (upd H1 p (.tup xs))
def Hm (t:TA):TE:=λ σ H Q=>t σ H λ xs H1=>xs.length<=sizeLine/\∀p,H1 p=none->Q (.ref p) (upd H1 p (.lst xs))
theorem aB {x1} (h:PA X es t):PE X (.Tuple es x1 pos) (Hl t):=by intro pins s σ H Q I hq;refine wpAny_Tuple_spliced (thn (h pos pins s σ H _ I hq) λ us s1 ⟨xs,H1,I1,r,z,q⟩=>⟨by rw [<- r.length]; exact z,?_⟩);have hf:H1 s1.heap.objs.size=none:=I1.hok.fresh (B3 _);refine ⟨.ref s1.heap.objs.size,upd H1 s1.heap.objs.size (.tup xs),I1.laid (t':=s1.toks) (λ b u e=>A7 _ e) (B3 _) ?_,Y,q _ hf⟩;exact ⟨z,us,r,⟨_,A8 _ rfl,Y,_,Y⟩⟩
theorem bY (h:PA X es t):PE X (.List es pos) (Hm t):=by intro pins s σ H Q I hq;refine wpAny_List_spliced (thn (h pos pins s σ H _ I hq) λ us s1 ⟨xs,H1,I1,r,z,q⟩=>⟨by rw [<- r.length]; exact z,?_⟩);have hf:H1 s1.heap.objs.size=none:=I1.hok.fresh (B3 _);refine ⟨.ref s1.heap.objs.size,upd H1 s1.heap.objs.size (.lst xs),I1.laid (t':=s1.toks) (λ b u e=>A7 _ e) (B3 _) ?_,Y,q _ hf⟩;exact ⟨z,us,0,r,A8 _ rfl⟩
end
abbrev Sp:=List V->Hp->VK->XK->Prop
abbrev CXT:=List Env->Hp->KB->XK->KG->KB->Prop
structure Env0 (P:Program) (w:World) (K:C4) (mg:Str->Option Value) (base:Heap) (A:Around) (outer:List Env) (s:Shared) (H:Hp):Prop where
 frames:A.frames=some outer
 mod:Mod K mg base
 bs:∀b o,base.get? b=some o->s.heap.get? b=some o/\H b=none
 bsz:base.objs.size<=s.heap.objs.size
 funs:s.heap.FunFrames base outer
 frf:∀b∈frs outer,H b=none
 hok:HOk P w H s.heap
 bare:AllBare s.gens
def CE (outer:List Env) (P:KC) (w:KF) (H:Hp) (s:KB) (Q:VK) (u:KG) (s':KB):Prop :=
 ∃v H',s'.os=s.os/\AllBare s'.gens/\Un (frs outer) [] H H' s.heap s'.heap/\HOk P w H' s'.heap/\RelV v u/\Q v H'
def CR (CX:CXT) (outer:List Env) (P:KC) (w:KF) (H:Hp) (s:KB) (Q:VK) (E:XK) (r:Result) (s':KB):Prop :=
 match r with
 | .ok (.ret u)=>CE outer P w H s Q u s'
 | .ok _=>False
 | .error e=>CX outer H s E e s'
structure FnOk (P:Program) (w:World) (K:C4) (mg:Str->Option Value) (base:Heap) (CX:CXT) (k:Nat) (f:Addr) (fd:FuncData) (ps:List Str) (sp:Sp):Prop where
 len:∀vs H Q E,sp vs H Q E->vs.length=ps.length
 run:∀ (A:Around) (outer:List Env) (s:KB) (H:Hp) (args:Args) (us:List KG) (vs:List V) (Q:VK) (E:XK),Room k A->Env0 P w K mg base A outer s H->BindsTo s fd args (ps.zip us)->Vals vs us->sp vs H Q E ->
  codeAny (model P w) A (.call (.ref f) args) (CR CX outer P w H s Q E) s
theorem Env0.make {P:KC} {w:KF} {K:C4} {mg:Str->Option KG} {base:Heap} {A:Around} {outer:List Env} {s:KB} {H:Hp} (e:Env0 P w K mg base A outer s H) (C:Addr) (us:List KG) (kw:List (Str×KG)) :
  Env0 P w K mg base (A.under (.builtin "type.__call__" ⟨.ref C :: us,kw⟩)) outer s H:=⟨by first | exact e.frames | (simpa [Around.under,Code.envs,Code.isFrame,pushEnvs] using e.frames),e.mod,e.bs,e.bsz,e.funs,e.frf,e.hok,e.bare⟩
section
variable {X:Cx} {pins:List (Addr×Obj)} {σ:St} {H:Hp} {s s':KB}
theorem Inv.env0 (I:Inv X pins σ H s):Env0 X.prog X.w X.K X.mg X.base X.A X.stack s H :=
 ⟨I.ok.frames,I.ok.mod,I.bs,C5 I.ok.bsz I.sz,I.stack,I.stkFree,I.hok,I.bare⟩
theorem Inv.after {Q:VK} {u:KG} (I:Inv X pins σ H s) (h:CE X.stack X.prog X.w H s Q u s'):EP X pins σ Q u s':=by obtain ⟨v,H',os,bare,un,hok,r,q⟩:=h;obtain ⟨hh,g,d,t,os'⟩:=s';obtain rfl:os'=s.os:=os;exact ⟨v,H',I.call (h':=hh) (g':=g) (d':=d) (t':=t) (ch:=[]) un hok bare (λ b z=>absurd z (by simp)),r,q⟩
end
def wR (sp:Sp) (dvs:List V) (E:XK) (t:TA):TE:=λ σ H Q=>t σ H λ vs H1=>sp (vs ++ dvs) H1 Q E
def ot (C:Addr) (m:Str) (sp:Sp) (dvs:List V) (E:XK) (ta:TE) (t:TA):TE:=λ σ H Q=>ta σ H λ x H1=>∃a dx fs,x=.ref a/\H1 a=some (.ins C dx fs)/\fs.lookup m=none /\
 t σ H1 λ vs H2=>sp (x :: (vs ++ dvs)) H2 Q E
def wT (C:Addr) (sp:Sp) (dvs:List V) (E:XK) (t:TA):TE:=λ σ H Q=>t σ H λ vs H1=>∀x dx,H1 x=none->H1 dx=none->dx≠x ->
 sp (.ref x :: (vs ++ dvs)) (upd (upd H1 dx (.own x)) x (.ins C dx [])) (λ v H2=>v=.non/\Q (.ref x) H2) E
def Binds (K:C4) (fd:KD) (ps:List Str) (ds:List KG):Prop :=
 ∀ (s:KB) (us:List KG),K.In s.heap->(us ++ ds).length=ps.length->BindsTo s fd ⟨us,[]⟩ (ps.zip (us ++ ds))
theorem Binds.all {K:C4} {fd:KD} {ps:List Str} (h:∀us:List KG,us.length=ps.length->bindArgs fd ⟨us,[]⟩=pure (ps.zip us)):Binds K fd ps []:=λ s us _ hl=>by rw [List.append_nil] at hl ⊢;exact .of_eq (h us hl)
def ft (CX:CXT) (X:Cx) (E:XK):Prop:=∀ (pins:List (Addr×Obj)) (σ:St) (H:Hp) (s:KB) (e:KG) (s':KB),Inv X pins σ H s->CX X.stack H s E e s'->X.xe e s'
section
variable {X:Cx} {CX:CXT} {k:Nat} {f C:Addr} {fd:KD} {ps:List Str} {sp:Sp} {dvs:List V} {ds:List KG} {E:XK} {x m:Str} {p pos apos:Pos} {e o:Expr} {es:List Expr} {ta:TE} {t:TA}
theorem lT {pins:List (Addr×Obj)} {σ:St} {H:Hp} {s:KB} {Q:VK} {us:List KG} {vs:List V} (F:FnOk X.prog X.w X.K X.mg X.base CX k f fd ps sp) (hr:Room k X.A) (hb:Binds X.K fd ps ds) (hd:Vals dvs ds) (hx:ft CX X E)
  (I:Inv X pins σ H s) (r:Vals vs us) (h:sp (vs ++ dvs) H Q E):wpAny (model X.prog X.w) X.A (call (.ref f) us) (EP X pins σ Q) X.xe s:=by
 have r2:Vals (vs ++ dvs) (us ++ ds):=r.append hd;have hl:(us ++ ds).length=ps.length:=by rw [<- r2.length]; exact F.len _ _ _ _ h
 refine wpAny_call (codeAny_mono (F.run X.A X.stack s H ⟨us,[]⟩ (us ++ ds) (vs ++ dvs) Q E hr I.env0 (hb s us I.kIn hl) r2 h) λ r s' hq=>?_);cases r with
 | error e=>exact hx pins σ H s e s' I hq
 | ok fl =>
  cases fl with
  | ret u=>exact I.after hq
  | next=>exact E8 hq
  | brk=>exact E8 hq
  | cont=>exact E8 hq
theorem vb (F:FnOk X.prog X.w X.K X.mg X.base CX k f fd ps sp) (hr:Room k X.A) (hg:Gl X x) (hm:X.mg x=some (.ref f)) (hk:PySem.W.keepIn X.K (.ref f)=true) (hb:Binds X.K fd ps ds) (hd:Vals dvs ds) (hx:ft CX X E)
  (ha:PA X (e :: es) t) (hdb:(x == ("__debug__" : Str))=false:=by decide) (he:starEach (e :: es) X.env=(false,eval e X.env) :: starEach es X.env:=by rfl) (hpl:(backTo pos (starEach es X.env)).any (·.1)=false:=by rfl) :
  PE X (.Call (.Name x p) (e :: es) [] pos) (wR sp dvs E t):=by
 intro pins s σ H Q I h;refine wpAny_Call_Name_kw (jh I hg hm ?_ hdb);refine PySem.W.callWith_K (h₀:=X.base) I.ok.mod.kin hk (thn (ha pos pins s σ H _ I h) λ us s1 ⟨vs,H1,I1,r,q⟩=>⟨I1.kIn,?_⟩) he hpl;exact lT F hr hb hd hx I1 r q
theorem vc {pl:Sem Bool} (he:PE X o ta) (c:Cls X.K C) (hm:Meth X.K C m f) (F:FnOk X.prog X.w X.K X.mg X.base CX k f fd ps sp) (hr:Room k X.A) (hb:Binds X.K fd ps ds) (hd:Vals dvs ds) (hx:ft CX X E) (ha:PA X (e :: es) t)
  (hst:starEach (e :: es) X.env=(false,eval e X.env) :: starEach es X.env:=by rfl) (hpl:(backTo pos (starEach es X.env)).any (·.1)=false:=by rfl)
  (ht:eval (.Call (.Attribute o m apos) (e :: es) [] pos) X.env=(do
   let ov<-eval o X.env
   standAt apos.atName
   let (f,first)<-holding [ov] (getMethod ov m pl)
   callWith pos f first (backTo pos (starEach (e :: es) X.env)) (backToKw pos (keywordEach [] X.env))):=by rfl) :
  PE X (.Call (.Attribute o m apos) (e :: es) [] pos) (ot C m sp dvs E ta t):=by
 intro pins s σ H Q I h;refine PySem.W.methodCall_KW (pl:=pl) (thn (he pins s σ H _ I h) λ u s1 ⟨x,H1,I1,rx,a,dx,fs,ex,ea,l,q⟩=>?_) ht;subst ex;obtain rfl:u=Value.ref a:=rx;refine fq I1 ea c hm l ?_;refine PySem.W.callWith_K (first:=[.ref a]) (h₀:=X.base) I.ok.mod.kin hm.kp (thn (ha pos pins s1 σ H1 _ I1 q) λ us s2 ⟨vs,H2,I2,r,q2⟩=>⟨I2.kIn,?_⟩) hst hpl;exact lT (us:=.ref a :: us) (vs:=.ref a :: vs) F hr hb hd hx I2 (.cons rfl r) q2
theorem rW {pl:Sem Bool} (he:PE X o ta) (c:Cls X.K C) (hm:Meth X.K C m f) (F:FnOk X.prog X.w X.K X.mg X.base CX k f fd ps sp) (hr:Room k X.A) (hb:Binds X.K fd ps ds) (hd:Vals dvs ds) (hx:ft CX X E)
  (ht:eval (.Call (.Attribute o m apos) [] [] pos) X.env=(do
   let ov<-eval o X.env
   standAt apos.atName
   let (f,first)<-holding [ov] (getMethod ov m pl)
   callWith pos f first (backTo pos (starEach [] X.env)) (backToKw pos (keywordEach [] X.env))):=by rfl) :
  PE X (.Call (.Attribute o m apos) [] [] pos) (ot C m sp dvs E ta va):=by
 intro pins s σ H Q I h;refine PySem.W.methodCall_KW (pl:=pl) (thn (he pins s σ H _ I h) λ u s1 ⟨x,H1,I1,rx,a,dx,fs,ex,ea,l,q⟩=>?_) ht;subst ex;obtain rfl:u=Value.ref a:=rx;refine fq I1 ea c hm l ?_;exact PySem.W.callWith_K0 (first:=[.ref a]) I1.kIn hm.kp (lT (us:=[.ref a]) (vs:=[.ref a]) F hr hb hd hx I1 (.cons rfl .nil) q)
structure Mk (K:C4) (C f:Addr):Prop where
 makes:PySem.W.makesIn K C=true
 init:PySem.W.findIn K (.ref C) "__init__" = some (some (.ref f))
 fn:PySem.W.isFn K (.ref f)=true
 kp:PySem.W.keepIn K (.ref C)=true
theorem rX {pins:List (Addr×Obj)} {σ:St} {H:Hp} {s:KB} {Q:VK} {us:List KG} {vs:List V} (M:Mk X.K C f) (F:FnOk X.prog X.w X.K X.mg X.base CX k f fd ps sp) (hr:Room (k + 1) X.A) (hb:Binds X.K fd ps ds) (hd:Vals dvs ds)
  (hx:ft CX X E) (I:Inv X pins σ H s) (r:Vals vs us)
  (h:∀x dx,H x=none->H dx=none->dx≠x->sp (.ref x :: (vs ++ dvs)) (upd (upd H dx (.own x)) x (.ins C dx [])) (λ v H2=>v=.non/\Q (.ref x) H2) E) :
  wpAny (model X.prog X.w) X.A (call (.ref C) us) (EP X pins σ Q) X.xe s:=by
 have hq:=h (s.heap.objs.size + 1) s.heap.objs.size (I.hok.fresh (Nat.le_succ _)) (I.hok.fresh (B3 _)) (B9 (G1 _));have I2:=Inv.made (C:=C) I;have r2:Vals (V.ref (s.heap.objs.size + 1) :: (vs ++ dvs)) (Value.ref (s.heap.objs.size + 1) :: (us ++ ds)):=.cons rfl (r.append hd);have hl:(Value.ref (s.heap.objs.size + 1) :: us ++ ds).length=ps.length:=by have e:=r2.length;rw [F.len _ _ _ _ hq] at e;exact e.symm
 refine wpAny_call (rU (f:=f) I.kIn M.makes M.init (C3.mp M.fn) (codeAny_mono (F.run _ X.stack _ _ ⟨Value.ref (s.heap.objs.size + 1) :: us,[]⟩ (Value.ref (s.heap.objs.size + 1) :: (us ++ ds)) _ _ E (hr.make C us [])
  (I2.env0.make C us []) (hb _ (Value.ref (s.heap.objs.size + 1) :: us) I2.kIn hl) r2 hq) λ r s' hq'=>?_))
 cases r with
 | error e=>exact hx pins σ _ _ e s' I2 hq'
 | ok fl =>
  cases fl with
  | ret u =>
   obtain ⟨v,H',I3,rv,ev,q3⟩:=I2.after hq';subst ev;exact ⟨rv,⟨V.ref (s.heap.objs.size + 1),H',I3,Y,q3⟩⟩
  | next=>exact E8 hq'
  | brk=>exact E8 hq'
  | cont=>exact E8 hq'
theorem vd (M:Mk X.K C f) (F:FnOk X.prog X.w X.K X.mg X.base CX k f fd ps sp) (hr:Room (k + 1) X.A) (hg:Gl X x) (hm:X.mg x=some (.ref C)) (hb:Binds X.K fd ps ds) (hd:Vals dvs ds) (hx:ft CX X E)
  (ha:PA X (e :: es) t) (hdb:(x == ("__debug__" : Str))=false:=by decide) (he:starEach (e :: es) X.env=(false,eval e X.env) :: starEach es X.env:=by rfl) (hpl:(backTo pos (starEach es X.env)).any (·.1)=false:=by rfl) :
  PE X (.Call (.Name x p) (e :: es) [] pos) (wT C sp dvs E t):=by
 intro pins s σ H Q I h;refine wpAny_Call_Name_kw (jh I hg hm ?_ hdb);refine PySem.W.callWith_K (h₀:=X.base) I.ok.mod.kin M.kp (thn (ha pos pins s σ H _ I h) λ us s1 ⟨vs,H1,I1,r,q⟩=>⟨I1.kIn,?_⟩) he hpl;exact rX M F hr hb hd hx I1 r q
end
section
variable {X:Cx} {CX:CXT} {k:Nat} {f C:Addr} {fd:KD} {ps ks:List Str} {sp:Sp} {E:XK} {x m:Str} {p pos apos kpos:Pos} {e o:Expr} {es:List Expr} {kws:List Keyword} {te ta:TE} {t tk:TA} {nm:Option Str}
structure KBinds (K:C4) (fd:FuncData) (ps ks:List Str) (g:List Value->List Value->List Value) (gV:List V->List V->List V):Prop where
 to:∀ (s:KB) (us ws:List KG),K.In s.heap->(g us ws).length=ps.length->BindsTo s fd ⟨us,ks.zip ws⟩ (ps.zip (g us ws))
 rel:∀ {vs:List V} {us:List KG} {zs:List V} {ws:List KG},Vals vs us->Vals zs ws->Vals (gV vs zs) (g us ws)
variable {g:List KG->List KG->List KG} {gV:List V->List V->List V}
end
structure FnScope (N P:List Str) (sc:Scope):Prop where
 kind:sc.kind=.function
 co:sc.isCoroutine=false
 gen:sc.isGenerator=false
 nd:N.Nodup
 pre:N.take P.length=P
 par:∀x∈P,sc.names.lookup x=some .local\/sc.names.lookup x=some .cell
 nofree:∀y∈sc.names,y.2≠.free
theorem iI {kindOf:Str->Option NameKind} {x:Str}:∀ {binds:List (Str×KG)} {m:Str->Option KG},(∀v,(x,v)∉binds)->bindL kindOf binds m x=m x
 | [],_,_=>rfl
 | (n,v) :: r,m,h=>by
  unfold bindL;rw [iI λ w hw=>h w (List.mem_cons_of_mem _ hw)]
  split
  ·have:x≠n:=by rintro rfl; exact h v B7
   simp [this]
  ·rfl
theorem iJ {kindOf:Str->Option NameKind} {x:Str}:∀ {binds:List (Str×KG)} {m:Str->Option KG},(∀v,(x,v)∉binds)->bindC kindOf binds m x=m x
 | [],_,_=>rfl
 | (n,v) :: r,m,h=>by
  unfold bindC;rw [iJ λ w hw=>h w (List.mem_cons_of_mem _ hw)]
  split
  ·rfl
  ·have:x≠n:=by rintro rfl; exact h v B7
   simp [this]
theorem iK {kindOf:Str->Option NameKind} {x:Str} {v:KG}:∀ {P:List Str} {vs:List KG} {i:Nat} {m:Str->Option KG},P.Nodup->P[i]? = some x->vs[i]? = some v->kindOf x=some .local ->
  bindL kindOf (P.zip vs) m x=some v
 | [],_,_,_,_,h,_,_=>by simp at h
 | _ :: _,[],_,_,_,_,h,_=>by simp at h
 | p :: P,w :: vs,0,m,nd,h1,h2,hk=>by simp at h1 h2; subst h1; subst h2;show bindL kindOf ((p,w) :: P.zip vs) m p=_;unfold bindL;rw [iI λ v hv=>(List.nodup_cons.mp nd).1 (List.of_mem_zip hv).1,if_pos hk];simp
 | p :: P,w :: vs,i + 1,m,nd,h1,h2,hk=>by show bindL kindOf ((p,w) :: P.zip vs) m x=_;unfold bindL;exact iK (i:=i) (List.nodup_cons.mp nd).2 (by simpa using h1) (by simpa using h2) hk
theorem iL {kindOf:Str->Option NameKind} {x:Str} {v:KG}:∀ {P:List Str} {vs:List KG} {i:Nat} {m:Str->Option KG},P.Nodup->P[i]? = some x->vs[i]? = some v->kindOf x≠some .local ->
  bindC kindOf (P.zip vs) m x=some v
 | [],_,_,_,_,h,_,_=>by simp at h
 | _ :: _,[],_,_,_,_,h,_=>by simp at h
 | p :: P,w :: vs,0,m,nd,h1,h2,hk=>by simp at h1 h2; subst h1; subst h2;show bindC kindOf ((p,w) :: P.zip vs) m p=_;unfold bindC;rw [iJ λ v hv=>(List.nodup_cons.mp nd).1 (List.of_mem_zip hv).1,if_neg hk];simp
 | p :: P,w :: vs,i + 1,m,nd,h1,h2,hk=>by show bindC kindOf ((p,w) :: P.zip vs) m x=_;unfold bindC;exact iL (i:=i) (List.nodup_cons.mp nd).2 (by simpa using h1) (by simpa using h2) hk
def fh (N:List Str) (vs:List V):St:=vs.map some ++ List.replicate (N.length - vs.length) none
def qc (CX:CXT) (P:KC) (w:KF) (K:C4) (mg:Str->Option KG) (base:Heap) (N:List Str) (qual:Str) (scope:Scope) (f:Addr) (cd:KG) (A:Around) (outer:List Env) (s:KB) (H:Hp) (E:XK):Cx where
 prog:=P
 w:=w
 K:=K
 mg:=mg
 base:=base
 A:=A.deeper (envOfC qual scope s.heap.objs.size f cd)
 N:=N
 s₀:=s
 H₀:=H
 env:=envOfC qual scope s.heap.objs.size f cd
 outer:=outer
 stack:=envOfC qual scope s.heap.objs.size f cd :: outer
 ex:=[]
 calm:=true
 fn:=λ _=>true
 pn:=[]
 xe:=λ e s'=>wpAny (model P w) (A.deeper (envOfC qual scope s.heap.objs.size f cd)) (leaving (envOfC qual scope s.heap.objs.size f cd) e) (λ _ s''=>CX outer H s E e s'') (λ e' s''=>CX outer H s E e' s'') s'
theorem kh {sc:Scope} {n:Nat} {x:Str} (h:sc.names.lookup x=some .cell):∃c,(cellsFrom n sc.names []).lookup x=some c:=by have q:=PySem.W.cellsFrom_some sc.names n [] (.inl h);exact Option.isSome_iff_exists.mp q
theorem qd {CX:CXT} {P:KC} {w:KF} {K:C4} {mg:Str->Option KG} {base:Heap} {N ps:List Str} {qual:Str} {scope:Scope} {f:Addr} {cd:KG} {A:Around} {outer:List Env} {s s1:KB} {H:Hp} {E:XK} {us:List KG} {vs:List V}
  (S:FnScope N ps scope) (hd:A.handled=none) (e0:Env0 P w K mg base A outer s H) (hl:vs.length=ps.length) (r:Vals vs us)
  (x:InCallC s s.heap.objs.size (bindL (envOfC qual scope s.heap.objs.size f cd).kindOf (ps.zip us) λ _=>none) (cellsFrom (s.heap.objs.size + 1) scope.names []) (bindC (envOfC qual scope s.heap.objs.size f cd).kindOf (ps.zip us) λ _=>none) s1) :
  Inv (qc CX P w K mg base N qual scope f cd A outer s H E) [] (fh N vs) H s1:=by
 have hpl:ps.length<=N.length:=by have:=congrArg List.length S.pre; rw [List.length_take] at this; omega
 obtain ⟨h1,tk,rfl,hk⟩:=x.done;have noA:∀b:Addr,b∉(qc CX P w K mg base N qual scope f cd A outer s H E).ex:=λ b z=>absurd (show b∈([]:List Addr) from z) (by simp);refine ⟨⟨e0.mod,S.kind,Y,Y,B3 _,λ y z c h1 h2=>?_,λ y hy=>?_,λ y c _ h=>?_,λ _=>hd,Around.frames_deeper e0.frames,.inr ⟨Y,Y⟩,λ b z=>absurd z (noA b),e0.bs,e0.bsz,λ b _ _=>noA b,λ b z=>absurd z (noA b),e0.funs,e0.frf⟩,
  rfl,e0.bare,Un.kept hk,⟨_,x.toInCall.ns,λ i y v h1 h2 h3=>?_⟩,λ y c h=>⟨_,x.cell y c h⟩,e0.hok.fresh (B3 _),λ y c h=>?_,λ p hp=>absurd (show p∈([]:List (Addr×Obj)) from hp) (by simp),e0.hok.kept hk,?_⟩
 ·exact name_of_addr x.apart (PySem.mem_of_lookup h1) (PySem.mem_of_lookup h2)
 ·have hy:scope.names.lookup y=some .cell\/scope.names.lookup y=some .free:=hy;rcases hy with hy | hy
  ·exact kh hy
  ·exact absurd rfl (S.nofree _ (PySem.mem_of_lookup hy))
 ·exact C7 (x.above y c (PySem.mem_of_lookup h))
 ·have hi:i < vs.length:=by
   unfold fh at h2
   by_cases hi:i < vs.length
   ·exact hi
   ·rw [List.getElem?_append_right (by simpa using hi)] at h2;rw [List.getElem?_replicate] at h2
    split at h2 <;> cases h2
  have ha:vs[i]? = some v:=by
   unfold fh at h2;rw [List.getElem?_append_left (by simpa using hi),List.getElem?_map] at h2;cases e:vs[i]? with
   | none=>rw [e] at h2; cases h2
   | some a=>rw [e] at h2; cases h2; rfl
  obtain ⟨u,hu,rv⟩:=r.get ha;have hp:ps[i]? = some y:=by rw [<- S.pre,List.getElem?_take_of_lt (by omega)]; exact h1
  have ndP:ps.Nodup:=by rw [<- S.pre]; exact S.nd.sublist (List.take_sublist _ _)
  refine ⟨u,rv,?_⟩;rcases S.par y (B5 hp) with k | k
  ·exact .inl ⟨k,iK ndP hp hu k⟩
  ·obtain ⟨c,e⟩:=kh (n:=s.heap.objs.size + 1) k;refine .inr ⟨.inl k,c,e,?_⟩;have q:=x.cell y c e;rw [iL ndP hp hu (by show scope.names.lookup y≠_; rw [k]; decide)] at q;exact q
 ·exact e0.hok.fresh (C7 (x.above y c (PySem.mem_of_lookup h)))
 ·unfold fh;show _=N.length;rw [List.length_append,List.length_map,List.length_replicate];omega
theorem CW {CX:CXT} {P:KC} {w:KF} {K:C4} {mg:Str->Option KG} {base:Heap} {k:Nat} {f:Addr} {name qual:Str} {params:Arguments} {body:List Stmt} {scope:Scope} {dV kV doc pm cdv ct oc:KG} {an od:Option Addr}
  {osl:Array (Option KG)} {N ps:List Str} {sp:Sp} (lk:K.lookup f=some ⟨oc,od,.func (E7 name qual params body scope dV kV doc pm an cdv ct),osl⟩) (hcd:PySem.W.codeIn K cdv qual=true) (S:FnScope N ps scope)
  (len:∀vs H Q E,sp vs H Q E->vs.length=ps.length)
  (hbody:∀ (A:Around) (outer:List Env) (s:KB) (H:Hp) (vs:List V) (Q:VK) (E:XK),Room k (A.deeper (envOfC qual scope s.heap.objs.size f cdv))->sp vs H Q E ->
   ∃t,PSs (qc CX P w K mg base N qual scope f cdv A outer s H E) body t/\t { nx:=λ _ H'=>Q .non H',rt:=Q } (fh N vs) H) :
  FnOk P w K mg base CX (k + 1) f (E7 name qual params body scope dV kV doc pm an cdv ct) ps sp:=by
 refine ⟨len,λ A outer s H args us vs Q E hr e0 hb r hsp=>?_⟩;have hl:=len _ _ _ _ hsp;have KX:K.In s.heap:=e0.mod.kin.keeps λ b o e=>(e0.bs b o e).1;have lim:s.heap.NoLimit:=e0.mod.nolimit.keeps λ b o e=>(e0.bs b o e).1;have hkind:∀y∈ps.zip us,scope.names.lookup y.1=some .local\/(scope.names.lookup y.1=some .cell/\((cellsFrom (s.heap.objs.size + 1) scope.names []).lookup y.1).isSome=true):=λ ⟨n,v⟩ hy=>by
  rcases S.par n (List.of_mem_zip hy).1 with q | q
  ·exact .inl q
  ·exact .inr ⟨q,PySem.W.cellsFrom_some _ _ _ (.inl q)⟩
 refine codeAny_call_function hr.depth (KX _ _ lk) rfl S.co S.gen rfl (PySem.W.codeRec_of KX hcd) (hb _ _ _ _ ?_);refine wpAny_newFunctionEnv_cells S.kind hkind λ env he s1 x=>?_;subst he;refine ⟨lim.keeps x.toInCall.keep,codeAny_func ?_⟩;obtain ⟨t,ht,hq⟩:=hbody A outer s H vs Q E (hr.deeper _) hsp;have I:Inv (qc CX P w K mg base N qual scope f cdv A outer s H E) [] (fh N vs) H s1:=qd S hr.hd e0 hl r x;refine wpAny_mono (ht [] s1 (fh N vs) H _ I hq) (λ fl s' hs=>?_) λ e s' hs=>hs;have fin:∀ {σ':St} {H':Hp} {v:V} {u:KG},Inv (qc CX P w K mg base N qual scope f cdv A outer s H E) [] σ' H' s'->RelV v u->Q v H'->CE outer P w H s Q u s' :=
  λ {σ' H' v u} J rv q=>⟨v,H',J.os,J.bare,J.base,J.hok,rv,q⟩
 cases fl with
 | ret u =>
  obtain ⟨v,σ',H',J,rv,q⟩:=hs;exact fin J rv q
 | next =>
  obtain ⟨σ',H',J,q⟩:=hs;exact fin (v:=V.non) (u:=Value.none) J rfl q
 | brk =>
  obtain ⟨_,_,_,q⟩:=hs;exact E8 q
 | cont =>
  obtain ⟨_,_,_,q⟩:=hs;exact E8 q
section
variable {X:Cx} {x:Str} {p pos:Pos} {e:Expr} {es:List Expr} {t:TA} {id T:String} {r:List V->Hp->VK->Prop}
def tCB (r:List V->Hp->VK->Prop) (t:TA):TE:=λ σ H Q=>t σ H λ vs H1=>r vs H1 Q
theorem aO (hc:cL X (.builtin id) r) (hg:Gl X x) (hm:X.mg x=none) (hv:bootBuiltins x=some (.builtin id)) (ha:PA X (e :: es) t) (hn:x ≠ "__name__" := by decide) (hdb:(x == ("__debug__" : Str))=false:=by decide)
  (he:starEach (e :: es) X.env=(false,eval e X.env) :: starEach es X.env:=by rfl) (hpl:(backTo pos (starEach es X.env)).any (·.1)=false:=by rfl):PE X (.Call (.Name x p) (e :: es) [] pos) (tCB r t):=by
 intro pins s σ H Q I h;refine wpAny_Call_Name_kw (dW I hg hm hv ?_ hn hdb);exact PyProof.Rows.callWith_builtin1 (thn (ha pos pins s σ H _ I h) λ us s1 ⟨vs,H1,I1,r1,q1⟩=>hc pins s1 σ H1 vs us Q I1 r1 q1) he hpl
theorem eJ (hc:cL X (.type T) r) (hg:Gl X x) (hm:X.mg x=none) (hv:bootBuiltins x=some (.type T)) (ha:PA X (e :: es) t) (hn:x ≠ "__name__" := by decide) (hdb:(x == ("__debug__" : Str))=false:=by decide)
  (he:starEach (e :: es) X.env=(false,eval e X.env) :: starEach es X.env:=by rfl) (hpl:(backTo pos (starEach es X.env)).any (·.1)=false:=by rfl):PE X (.Call (.Name x p) (e :: es) [] pos) (tCB r t):=by
 intro pins s σ H Q I h;refine wpAny_Call_Name_kw (dW I hg hm hv ?_ hn hdb);exact PyProof.Rows.callWith_type1 (thn (ha pos pins s σ H _ I h) λ us s1 ⟨vs,H1,I1,r1,q1⟩=>hc pins s1 σ H1 vs us Q I1 r1 q1) he hpl
end
end L2
namespace HT
open PySem PyProof.Rows
section
variable {prog:KC} {w:KF} {A:Around} {E:KG->KB->Prop} {s:KB}
theorem cat_tup {t b:Addr} {vs ws:List KG} {Q:KG->KB->Prop} (ht:IsTup s.heap t vs.toArray) (hb:IsTup s.heap b ws.toArray) (hv:vs≠[])
  (h1:ws=[]->Q (.ref t) s) (h2:ws≠[]->Q (.ref s.heap.objs.size) { s with heap:=s.heap.push { cls:=.type "tuple",data:=.seq (vs ++ ws).toArray } })
  (hsz:vs.length + ws.length<=sizeLine):wpAny (model prog w) A (binaryOp .Add (.ref t) (.ref b)) Q E s:=by
 obtain ⟨⟨cls,dd,data,sl⟩,ho,hc,n,hd⟩:=id ht;obtain ⟨⟨cls2,dd2,data2,sl2⟩,ho2,hc2,n2,hd2⟩:=id hb;simp only at hc hd hc2 hd2;subst hc hd hc2 hd2;have e:vs.toArray ++ ws.toArray=(vs ++ ws).toArray:=by simp
 by_cases hw:ws=[]
 ·exact concat_meets ⟨_,ho,rfl⟩ ⟨_,ho2,rfl⟩ noFill_tuple_add seq_tuple_add PySem.F.slot_tuple_add PySem.F.entry_tuple_add (PySem.F.args_tuple_add_2 _ _)
   (tuple_addW1 t b vs.toArray ws.toArray n n2 dd dd2 sl sl2 (by simpa using hv) (by simp [hw])) ⟨ho,ho2,h1 hw⟩
 ·refine concat_meets ⟨_,ho,rfl⟩ ⟨_,ho2,rfl⟩ noFill_tuple_add seq_tuple_add PySem.F.slot_tuple_add PySem.F.entry_tuple_add (PySem.F.args_tuple_add_2 _ _)
   (tuple_addW2 t b vs.toArray ws.toArray n n2 dd dd2 sl sl2 (by simpa using hv) (by simpa using hw) (by rw [List.size_toArray,List.size_toArray]; exact hsz)) ⟨ho,ho2,?_⟩
  rw [e];exact h2 hw
def sIx (n d:Nat):Option Int->Nat
 | none=>d
 | some v=>if v < 0 then (v + (n:Int)).toNat else min v.toNat n
theorem sIx_none (n d:Nat):sIx n d none=d:=rfl
theorem sIx_nat (n d k:Nat):sIx n d (some (k:Int))=min k n:=by show (if (k:Int) < 0 then ((k:Int) + (n:Int)).toNat else min (k:Int).toNat n)=min k n;rw [if_neg (by omega),Int.toNat_natCast]
end
end HT
namespace L2
open PySem PySem.Spec PyProof.Rows
abbrev TO:=St->Hp->(Option Int->Hp->Prop)->Prop
def PO (X:Cx) (e:Option Expr) (t:TO):Prop :=
 ∀ (pins:List (Addr×Obj)) (s:KB) (σ:St) (H:Hp) (Q:Option Int->Hp->Prop),Inv X pins σ H s->t σ H Q ->
  wpAny (model X.prog X.w) X.A (evalPart e X.env) (λ u s'=>∃o H',Inv X pins σ H' s'/\IsPart u o/\Q o H') X.xe s
def ve:TO:=λ _ H Q=>Q none H
def CY (t:TE):TO:=λ σ H Q=>t σ H λ x H1=>∃i,x=.int i/\Q (some i) H1
section
variable {X:Cx} {e:Expr} {te:TE} {lo hi:Option Expr} {tl th:TO} {pos p2:Pos}
theorem vf:PO X none ve:=by intro pins s σ H Q I h;rw [evalPart_none];exact A1 ⟨none,H,I,.none,h⟩
theorem vg (h:PE X e te):PO X (some e) (CY te):=by intro pins s σ H Q I hw;rw [evalPart_some];refine thn (h pins s σ H _ I hw) λ u s1 ⟨x,H1,I1,r1,q1⟩=>?_;obtain ⟨i,rfl,q⟩:=q1;obtain ⟨t,rfl⟩:=r1;exact ⟨some i,H1,I1,.int i t,q⟩
def SlR (X:Cx) (r:V->Option Int->Option Int->Hp->VK->Prop):Prop :=
 ∀ (pins:List (Addr×Obj)) (s:KB) (σ:St) (H:Hp) (x:V) (v vl vu:KG) (lo hi:Option Int) (sl:Addr) (Q:VK),Inv X pins σ H s->RelV x v->s.heap.IsSliceOf sl vl vu .none->IsPart vl lo->IsPart vu hi->r x lo hi H Q ->
  ∃T id,typeLookup (.type T) "__getitem__" = pure (some (.builtin id))/\s.TypeIs v T/\wpAny (model X.prog X.w) X.A (getItem v (.ref sl)) (EP X pins σ Q) X.xe s
def tSl (r:V->Option Int->Option Int->Hp->VK->Prop) (te:TE) (tl th:TO):TE:=λ σ H Q=>te σ H λ x H1=>tl σ H1 λ l H2=>th σ H2 λ u H3=>r x l u H3 Q
theorem rY {r:V->Option Int->Option Int->Hp->VK->Prop} (hr:SlR X r) (he:PE X e te) (hl:PO X lo tl) (hu:PO X hi th):PE X (.Subscript e (.Slice lo hi none p2) pos) (tSl r te tl th):=by intro pins s σ H Q I h;refine Subscript_ (thn (he pins s σ H _ I h) λ v s1 ⟨x,H1,I1,r1,q1⟩=>?_);refine wpAny_Slice (thn (hl pins s1 σ H1 _ I1 q1) λ vl s2 ⟨l,H2,I2,pl,q2⟩=>thn (hu pins s2 σ H2 _ I2 q2) λ vu s3 ⟨u,H3,I3,pu,q3⟩=>?_);rw [evalPart_none];refine A1 ?_;have I4:Inv X pins σ H3 { s3 with heap:=s3.heap.push { cls:=.type "slice", data:=.fields #[vl, vu, .none] } }:=I3.kept (t':=s3.toks) λ b ob q=>A7 _ q;obtain ⟨T,id,hT,ht,hg⟩:=hr pins { s3 with heap:=s3.heap.push { cls:=.type "slice",data:=.fields #[vl,vu,.none] } } σ H3 x v vl vu l u s3.heap.objs.size Q I4 r1 (Heap.IsSliceOf.new ..) pl pu q3;show wpAny (model X.prog X.w) X.A (subscriptTail e (.Slice lo hi none p2) v (.ref s3.heap.objs.size)) (EP X pins σ Q) X.xe { s3 with heap:=s3.heap.push { cls:=.type "slice",data:=.fields #[vl,vu,.none] } };exact tail_any (ops:=[.ref s3.heap.objs.size,v]) ht hT hg (by with_unfolding_all rfl)
def jl (xs:List V) (lo hi:Option Int):List V:=(xs.drop (HT.sIx xs.length 0 lo)).take (HT.sIx xs.length xs.length hi - HT.sIx xs.length 0 lo)
theorem kj (xs:List V) (lo hi:Option Int):(jl xs lo hi).length<=xs.length:=by unfold jl;rw [List.length_take,List.length_drop];omega
def wU (K:C4):R2:=λ x y H Q=>∃a b xs ys,x=.ref a/\y=.ref b/\SqT K H a xs/\SqT K H b ys/\xs≠[]/\xs.length + ys.length<=sizeLine /\
 (ys=[]->Q (.ref a) H)/\(ys≠[]->∀p,H p=none->Q (.ref p) (upd H p (.tup (xs ++ ys))))
theorem Vals.nil_iff {xs:List V} {us:List KG} (r:Vals xs us):us=[]↔xs=[]:=by
 cases r with
 | nil=>simp
 | cons _ _=>simp
theorem vh:OpR X (binaryOp .Add) (wU X.K):=by intro pins s σ H x y v u Q I rx ry h;obtain ⟨a,b,xs,ys,rfl,rfl,ha,hb,hx,hz,q1,q2⟩:=h;cases rx;cases ry;obtain ⟨its,r1,p1,_⟩:=I.tuple ha;obtain ⟨its2,r2,p2,_⟩:=I.tuple hb;refine HT.cat_tup p1 p2 (λ z=>hx (r1.nil_iff.mp z)) (λ z=>⟨.ref a,H,I,Y,q1 (r2.nil_iff.mp z)⟩) (λ z=>?_) (by rw [<- r1.length,<- r2.length]; exact hz);refine ⟨.ref s.heap.objs.size,_,I.laid (t':=s.toks) (o:=.tup (xs ++ ys)) (λ b ob q=>A7 _ q) (B3 _) ?_,Y,q2 (λ w=>z (r2.nil_iff.mpr w)) _ (I.hok.fresh (B3 _))⟩;exact ⟨by rw [List.length_append]; exact hz,_,r1.append r2,IsTup.new _ _⟩
end
def ixN (n:Nat) (i:Int):Option Nat:=if 0<=i then (if i < n then some i.toNat else none) else if -(n:Int)<=i then some (i + n).toNat else none
def atI {α:Type} (xs:List α) (i:Int):Option α:=(ixN xs.length i).bind λ j=>xs[j]?
theorem ou {n:Nat} {i:Int} {j:Nat} (h:ixN n i=some j):seqIndex? i n=some j/\j < n/\-(n:Int)<=i/\i < n:=by
 unfold ixN at h
 by_cases h0:0<=i
 ·rw [if_pos h0] at h
  by_cases h1:i < n
  ·rw [if_pos h1] at h;have e:i.toNat=j:=B8 h;exact ⟨by rw [seqIndex_of h0 h1,e],by omega,by omega,h1⟩
  ·rw [if_neg h1] at h; cases h
 ·rw [if_neg h0] at h
  by_cases h1:-(n:Int)<=i
  ·rw [if_pos h1] at h;have e:(i + n).toNat=j:=B8 h;exact ⟨by rw [seqIndex_neg (by omega) h1,e],by omega,h1,by omega⟩
  ·rw [if_neg h1] at h; cases h
theorem gE {α:Type} {xs:List α} {i:Int} {v:α} (h:atI xs i=some v):∃j,seqIndex? i xs.length=some j/\xs[j]? = some v/\j < xs.length/\-(xs.length:Int)<=i/\i < xs.length:=by
 unfold atI at h;cases e:ixN xs.length i with
 | none=>rw [e] at h; cases h
 | some j =>
  rw [e] at h;obtain ⟨h1,h2,h3,h4⟩:=ou e;exact ⟨j,h1,h,h2,h3,h4⟩
theorem ow {α:Type} {xs:List α} {j:Nat} {v:α} (h:xs[j]? = some v):atI xs (j:Int)=some v:=by
 have hj:j < xs.length:=(A6.mp h).1;have e:ixN xs.length (j:Int)=some j:=by unfold ixN;rw [if_pos (by omega),if_pos (by omega)]; simp
 unfold atI; rw [e]; exact h
def vi (b:Expr):Prop:=∀o i,subscripted b false o i=operate [o,i] (getItem o i)
def IxR (X:Cx) (r:R2):Prop :=
 ∀ (value slice:Expr) (pins:List (Addr×Obj)) (s:KB) (σ:St) (H:Hp) (x y:V) (v u:KG) (Q:VK),Inv X pins σ H s->RelV x v->RelV y u->r x y H Q ->
  subscripted slice false v u=operate [v,u] (getItem v u)->wpAny (model X.prog X.w) X.A (subscriptTail value slice v u) (EP X pins σ Q) X.xe s
def MtR (X:Cx) (id:String) (r:V->List V->Hp->VK->Prop):Prop :=
 ∀ (pins:List (Addr×Obj)) (s:KB) (σ:St) (H:Hp) (x:V) (xs:List V) (v:KG) (us:List KG) (Q:VK),Inv X pins σ H s->RelV x v->Vals xs us->r x xs H Q ->
  wpAny (model X.prog X.w) X.A (call (.builtin id) (v :: us)) (EP X pins σ Q) X.xe s
section
variable {X:Cx} {a b:Expr} {ta tb:TE} {pos:Pos}
theorem IxR.or {r r':R2} (h:IxR X r) (h':IxR X r'):IxR X (λ x y H Q=>r x y H Q\/r' x y H Q):=by
 intro value slice pins s σ H x y v u Q I rx ry q hs;rcases q with q | q
 ·exact h value slice pins s σ H x y v u Q I rx ry q hs
 ·exact h' value slice pins s σ H x y v u Q I rx ry q hs
theorem ay {r:R2} (hr:IxR X r) (ha:PE X a ta) (hb:PE X b tb) (hs:vi b):PE X (.Subscript a b pos) (tOp r ta tb):=by intro pins s σ H Q I h;exact Subscript_ (xq ha hb I h λ v u s2 x y H2 I2 rx ry q=>hr a b pins s2 σ H2 x y v u Q I2 rx ry q (hs _ _))
inductive rIxL (K:C4) (x:V) (y:V) (H:Hp) (Q:VK):Prop
 | mk (p:Addr) (xs:List V) (i:Int) (v:V) (e_0:x=.ref p) (e_1:y=.int i) (e_2:SqL K H p xs) (e_3:atI xs i=some v) (e_4:Q v H):rIxL K x y H Q
inductive rIxT (K:C4) (x:V) (y:V) (H:Hp) (Q:VK):Prop
 | mk (p:Addr) (xs:List V) (i:Int) (v:V) (e_0:x=.ref p) (e_1:y=.int i) (e_2:SqT K H p xs) (e_3:atI xs i=some v) (e_4:Q v H):rIxT K x y H Q
def CZ:R2:=λ x y H Q=>∃z i c,x=.str z/\y=.int i/\z.length<=sizeLine/\atI z.cps.toList i=some c/\Q (.str ⟨#[c]⟩) H
theorem ix_list:IxR X (rIxL X.K):=by
 intro value slice pins s σ H x y v u Q I rx ry h hs;obtain ⟨p,xs,i,z,rfl,rfl,hq,he,q⟩:=h;cases rx;obtain ⟨t,rfl⟩:=ry;obtain ⟨its,r,pl,hz⟩:=I.list hq;obtain ⟨j,h1,h2,h3,h4,h5⟩:=gE he;obtain ⟨w,ew,rw'⟩:=r.get h2;have hl:=r.length;have hn:=fo;have fin:EP X pins σ Q w s:=⟨z,H,I,rw',q⟩
 by_cases h0:0<=i
 ·have hj:i.toNat=j:=by rw [seqIndex_of h0 h5] at h1;exact B8 h1
  exact item_listR pl.isList h0 (by omega) (by rw [hj]; simpa using ew) fin hs
 ·have hj:(i + (its.toArray.size:Int)).toNat=j:=by rw [seqIndex_neg (by omega) h4] at h1;rw [List.size_toArray,<- hl];exact B8 h1
  exact subscriptTail_builtinR (x:=w) pl.isList.typeIs slot_list_getitem.lookup
   (wpAny_getItem_list_neg (Q:=λ r s'=>r=w/\EP X pins σ Q r s') pl.isList (by omega) (by rw [List.size_toArray] <;> omega) (by omega) (by rw [hj]; simpa using ew) ⟨rfl,fin⟩) hs
theorem ix_tup:IxR X (rIxT X.K):=by
 intro value slice pins s σ H x y v u Q I rx ry h hs;obtain ⟨p,xs,i,z,rfl,rfl,hq,he,q⟩:=h;cases rx;obtain ⟨t,rfl⟩:=ry;obtain ⟨its,r,pl,hz⟩:=I.tuple hq;obtain ⟨j,h1,h2,h3,h4,h5⟩:=gE he;obtain ⟨w,ew,rw'⟩:=r.get h2;have hl:=r.length;have hn:=fo;have fin:EP X pins σ Q w s:=⟨z,H,I,rw',q⟩
 exact subscriptTail_builtinR (x:=w) pl.typeIs slot_tuple_getitem.lookup
  (getItem_tuple (j:=j) (Q:=λ r s'=>r=w/\EP X pins σ Q r s') pl (by omega) (by omega) (by rw [List.size_toArray,<- hl]; exact h1) (by simpa using ew) ⟨rfl,fin⟩) hs
theorem xu:IxR X CZ:=by
 intro value slice pins s σ H x y v u Q I rx ry h hs;obtain ⟨z,i,c,rfl,rfl,hz,he,q⟩:=h;obtain ⟨t,rfl⟩:=rx;obtain ⟨t',rfl⟩:=ry;obtain ⟨j,h1,h2,h3,h4,h5⟩:=gE he;have hl:z.cps.toList.length=z.length:=by simp [Str.length]
 rw [hl] at h1 h4 h5;have hn:=fo;exact tail_any (typeIs_str s z t) slot_str_getitem.lookup (getItem_str (c:=c) (by
  have e1:decide (i < -(2 ^ 63:Int))=false:=B1 (by omega);have e2:decide (i≥2 ^ 63)=false:=B1 (by omega);rw [e1,e2,Bool.or_false]) (by rw [h1]; simpa using h2) ⟨.str ⟨#[c]⟩,H,I.tok _,⟨_,rfl⟩,q⟩) hs
def rIx (K:C4):R2:=λ x y H Q=>rIxL K x y H Q\/rIxT K x y H Q\/CZ x y H Q
theorem ci:IxR X (rIx X.K):=ix_list.or (ix_tup.or xu)
theorem lU (its:List KG) (n j:Nat) (u:KG):Obj.mapSeq (·.setIfInBounds j u) { cls:=.type "list",data:=.seq its.toArray n }={ cls:=.type "list",data:=.seq (its.set j u).toArray n }:=by simp [Obj.mapSeq]
theorem Inv.lst {pins:List (Addr×Obj)} {σ:St} {H:Hp} {s:KB} {p:Addr} {xs:List V} (I:Inv X pins σ H s) (h:H p=some (.lst xs)) :
  ∃ (its:List KG) (n:Nat),Vals xs its/\s.heap.get? p=some { cls:=.type "list",data:=.seq its.toArray n }/\xs.length<=sizeLine:=by
 obtain ⟨z,its,n,r,e⟩:=I.hok p _ h;exact ⟨its,n,r,e,z⟩
theorem Inv.lstUpd {pins:List (Addr×Obj)} {σ:St} {H:Hp} {s:KB} {p:Addr} {xs ys:List V} {its its':List KG} {n n':Nat} {f:Obj->Obj} (I:Inv X pins σ H s) (h:H p=some (.lst xs))
  (ho:s.heap.get? p=some { cls:=.type "list", data:=.seq its.toArray n }) (hf:f { cls:=.type "list", data:=.seq its.toArray n }={ cls:=.type "list", data:=.seq its'.toArray n' }) (r:Vals ys its') (hz:ys.length<=sizeLine) (t:Nat) :
  Inv X pins σ (upd H p (.lst ys)) { s with heap:=s.heap.update p f,toks:=t }:=by
 have e:(s.heap.update p f).get? p=some { cls:=.type "list", data:=.seq its'.toArray n' }:=by rw [Heap.get?_update_self f ho (by rw [hf] <;> rfl),hf]
 refine I.write (x:=p) (e:=p) (by rw [h]; trivial) (.inl rfl) (λ b u hb q=>(Heap.get?_update_other _ _ (Ne.symm hb)).trans q) ⟨_,e⟩ ?_;exact ⟨hz,its',n',r,e⟩
inductive rSetL (o:V) (i:V) (v:V) (H:Hp) (Q:Hp->Prop):Prop
 | mk (p:Addr) (xs:List V) (k:Int) (j:Nat) (e_0:o=.ref p) (e_1:i=.int k) (e_2:H p=some (.lst xs)) (e_3:ixN xs.length k=some j) (e_4:Q (upd H p (.lst (xs.set j v)))):rSetL o i v H Q
theorem gZ:xl X rSetL:=by
 intro pins s σ H o i v ov iv u Q I ro ri rv h;obtain ⟨p,xs,k,j,rfl,rfl,hp,hj,q⟩:=h;cases ro;obtain ⟨t,rfl⟩:=ri;obtain ⟨its,n,r,ho,hz⟩:=I.lst hp;obtain ⟨h1,h2,h3,h4⟩:=ou hj;have hl:=r.length;have hn:=fo;have I':Inv X pins σ (upd H p (.lst (xs.set j v))) { s with heap:=s.heap.update p (Obj.mapSeq (·.setIfInBounds j u)) } :=
  I.lstUpd hp ho (lU its n j u) (r.set rv j) (by rw [List.length_set]; exact hz) s.toks
 by_cases h0:0<=k
 ·have hk:k.toNat=j:=by rw [seqIndex_of h0 h4] at h1;exact B8 h1
  exact PySem.W.ki_setAt ho h0 (by omega) (by rw [List.size_toArray,<- hl]; exact h4) (by rw [hk]; exact ⟨_,I',q⟩)
 ·have hk:(k + (its.toArray.size:Int)).toNat=j:=by rw [seqIndex_neg (by omega) h3] at h1;rw [List.size_toArray,<- hl];exact B8 h1
  exact PySem.W.ki_setBack ho (by omega) (by rw [List.size_toArray,<- hl]; exact h3) (by omega) (by rw [hk]; exact ⟨_,I',q⟩)
theorem jm (lo hi:Option Int) (n:Nat):(sliceBounds lo hi none n).1=((HT.sIx n 0 lo:Nat):Int)/\(sliceBounds lo hi none n).2.1=((HT.sIx n n hi:Nat):Int)/\(sliceBounds lo hi none n).2.2=1:=by
 refine ⟨?_,?_,Y⟩
 ·cases lo with
  | none=>simp [sliceBounds,HT.sIx]
  | some i =>
   simp only [sliceBounds,HT.sIx,Option.getD_none,show (1:Int) > 0 by decide,if_true]
   by_cases h:i < 0
   ·simp only [h,if_true] <;> omega
   ·simp only [h,if_false] <;> omega
 ·cases hi with
  | none=>simp [sliceBounds,HT.sIx]
  | some i =>
   simp only [sliceBounds,HT.sIx,Option.getD_none,show (1:Int) > 0 by decide,if_true]
   by_cases h:i < 0
   ·simp only [h,if_true] <;> omega
   ·simp only [h,if_false] <;> omega
theorem ix (its:List KG) (lo hi:Option Int):slicePick its.toArray lo hi none=((its.drop (HT.sIx its.length 0 lo)).take (HT.sIx its.length its.length hi - HT.sIx its.length 0 lo)).toArray:=by obtain ⟨h1,h2,h3⟩:=jm lo hi its.toArray.size;unfold slicePick;rw [h1,h2,h3];simp only [sliceRange_one,pick_run,List.size_toArray] <;> rfl
inductive rSlL (K:C4) (x:V) (lo:Option Int) (hi:Option Int) (H:Hp) (Q:VK):Prop
 | mk (a:Addr) (xs:List V) (e_0:x=.ref a) (e_1:SqL K H a xs) (e_2:∀p,H p=none->Q (.ref p) (upd H p (.lst (jl xs lo hi)))):rSlL K x lo hi H Q
theorem vj:SlR X (rSlL X.K):=by intro pins s σ H x v vl vu lo hi sl Q I rx hs pl pu h;obtain ⟨a,xs,rfl,hx,q⟩:=h;cases rx;obtain ⟨its,r,ht,hz⟩:=I.list hx;have hlen:=r.length;refine ⟨"list",_,slot_list_getitem.lookup,ht.isList.typeIs,?_⟩;refine wpAny_getItem_list_slice ht.isList hs pl pu .none (by simp) ?_ (by rw [List.size_toArray] <;> omega);rw [ix,<- hlen];refine ⟨.ref s.heap.objs.size,_,I.laid (t':=s.toks) (o:=.lst (jl xs lo hi)) (λ b ob q=>A7 _ q) (B3 _) ?_,Y,q _ (I.hok.fresh (B3 _))⟩;exact ⟨C5 (kj xs lo hi) hz,_,0,(r.drop (HT.sIx xs.length 0 lo)).take (HT.sIx xs.length xs.length hi - HT.sIx xs.length 0 lo),A8 _ rfl⟩
def gw:V->Bool
 | .non=>true
 | .bl _=>true
 | .int _=>true
 | .str _=>true
 | _=>false
def eqV:V->V->Bool
 | .non,.non=>true
 | .bl a,.bl b=>a == b
 | .bl a,.int b=>(if a then 1 else 0) == b
 | .int a,.bl b=>a == (if b then 1 else 0)
 | .int a,.int b=>a == b
 | .str a,.str b=>a == b
 | _,_=>false
theorem xx {A:Around} {s:KB} {y x:V} {u v:KG} (ry:RelV y u) (rx:RelV x v) (fy:gw y=true) (fx:gw x=true):SeqAt.EqAt A s u v (eqV y x):=by
 cases y with
 | non =>
  cases ry;cases x with
  | non=>cases rx; exact SeqAt.EqAt.same _
  | bl b=>cases rx; exact SeqAt.EqAt.none_bool b
  | int b=>obtain ⟨t,rfl⟩:=rx; exact SeqAt.EqAt.none_int b t
  | str b=>obtain ⟨t,rfl⟩:=rx; exact SeqAt.EqAt.none_str b t
  | _=>exact absurd (show false=true from fx) B2
 | bl a =>
  cases ry;cases x with
  | non=>cases rx; exact SeqAt.EqAt.bool_none a
  | bl b=>cases rx; exact SeqAt.EqAt.bool_bool a b
  | int b=>obtain ⟨t,rfl⟩:=rx; exact SeqAt.EqAt.bool_int a b t
  | str b=>obtain ⟨t,rfl⟩:=rx; exact SeqAt.EqAt.bool_str a b t
  | _=>exact absurd (show false=true from fx) B2
 | int a =>
  obtain ⟨t',rfl⟩:=ry;cases x with
  | non=>cases rx; exact SeqAt.EqAt.int_none a t'
  | bl b=>cases rx; exact SeqAt.EqAt.int_bool a t' b
  | int b=>obtain ⟨t,rfl⟩:=rx; exact SeqAt.EqAt.int_int a t' b t
  | str b=>obtain ⟨t,rfl⟩:=rx; exact SeqAt.EqAt.int_str a t' b t
  | _=>exact absurd (show false=true from fx) B2
 | str a =>
  obtain ⟨t',rfl⟩:=ry;cases x with
  | non=>cases rx; exact SeqAt.EqAt.str_none a t'
  | bl b=>cases rx; exact SeqAt.EqAt.str_bool a t' b
  | int b=>obtain ⟨t,rfl⟩:=rx; exact SeqAt.EqAt.str_int a t' b t
  | str b=>obtain ⟨t,rfl⟩:=rx; exact SeqAt.EqAt.str_str a t' b t
  | _=>exact absurd (show false=true from fx) B2
 | _=>exact absurd (show false=true from fy) B2
def eqU (x:V) (u:KG):Bool:=match u with
 | .none=>eqV .non x
 | .bool b=>eqV (.bl b) x
 | .int i _=>eqV (.int i) x
 | .str z _=>eqV (.str z) x
 | _=>false
theorem rZ {x y:V} {u:KG} (r:RelV y u) (f:gw y=true):eqU x u=eqV y x:=by
 cases y with
 | non=>cases r; rfl
 | bl b=>cases r; rfl
 | int i=>obtain ⟨t,rfl⟩:=r; rfl
 | str z=>obtain ⟨t,rfl⟩:=r; rfl
 | _=>exact absurd (show false=true from f) B2
theorem fF {x:V}:∀ {xs:List V} {us:List KG},Vals xs us->xs.all gw=true->us.any (eqU x)=xs.any λ y=>eqV y x
 | _,_,.nil,_=>rfl
 | y :: xs,u :: us,.cons r t,f=>by rw [List.all_cons,Bool.and_eq_true] at f;rw [List.any_cons,List.any_cons,rZ r f.1,fF t f.2]
theorem dZ {A:Around} {s:KB} {x:V} {v:KG} (rx:RelV x v) (fx:gw x=true):∀ {xs:List V} {us:List KG},Vals xs us->xs.all gw=true->∀u∈us,SeqAt.EqAt A s u v (eqU x u)
 | _,_,.nil,_=>λ u hu=>by cases hu
 | y :: xs,u :: us,.cons r t,f=>λ u' hu=>by
  rw [List.all_cons,Bool.and_eq_true] at f;rcases List.mem_cons.mp hu with rfl | hu
  ·rw [rZ r f.1]; exact xx r rx f.1 fx
  ·exact dZ rx fx t f.2 u' hu
def inV (x:V) (xs:List V):Bool:=xs.any λ y=>eqV y x
def rIn (K:C4) (neg:Bool):R2:=λ x y H Q=>∃p xs,y=.ref p/\(SqL K H p xs\/SqT K H p xs)/\gw x=true/\xs.all gw=true/\Q (.bl (if neg then !inV x xs else inV x xs)) H
theorem iM:OpR X (compareOp .In) (rIn X.K false):=by
 intro pins s σ H x y v u Q I rx ry h;obtain ⟨p,xs,rfl,hq,fx,fs,q⟩:=h;cases ry;rcases hq with hq | hq
 ·obtain ⟨its,r,pl,hz⟩:=I.list hq;refine SeqAt.in_listAt (eqU x) pl.isList (λ w hw=>dZ rx fx r fs w (by simpa using hw)) ⟨.bl _,H,I,rfl,?_⟩;rw [show its.toArray.any (eqU x)=its.any (eqU x) by simp,fF r fs];exact q
 ·obtain ⟨its,r,pl,hz⟩:=I.tuple hq;refine SeqAt.in_tupleAt (eqU x) pl (λ w hw=>dZ rx fx r fs w (by simpa using hw)) ⟨.bl _,H,I,rfl,?_⟩;rw [show its.toArray.any (eqU x)=its.any (eqU x) by simp,fF r fs];exact q
theorem fG:OpR X (compareOp .NotIn) (rIn X.K true):=by
 intro pins s σ H x y v u Q I rx ry h;obtain ⟨p,xs,rfl,hq,fx,fs,q⟩:=h;cases ry;rcases hq with hq | hq
 ·obtain ⟨its,r,pl,hz⟩:=I.list hq;refine SeqAt.notIn_listAt (eqU x) pl.isList (λ w hw=>dZ rx fx r fs w (by simpa using hw)) ⟨.bl _,H,I,rfl,?_⟩;rw [show its.toArray.any (eqU x)=its.any (eqU x) by simp,fF r fs];exact q
 ·obtain ⟨its,r,pl,hz⟩:=I.tuple hq;refine SeqAt.notIn_tupleAt (eqU x) pl (λ w hw=>dZ rx fx r fs w (by simpa using hw)) ⟨.bl _,H,I,rfl,?_⟩;rw [show its.toArray.any (eqU x)=its.any (eqU x) by simp,fF r fs];exact q
theorem bG:cL X (.builtin "len") (λ xs H Q=>∃p ys,xs=[.ref p]/\(SqL X.K H p ys\/SqT X.K H p ys)/\Q (.int ys.length) H):=by
 intro pins s σ H xs us Q I r h;obtain ⟨p,ys,rfl,hq,q⟩:=h;obtain ⟨u,rfl,rx⟩:=fD r;cases rx;have hn:=fo;rcases hq with hq | hq
 ·obtain ⟨its,r',pl,hz⟩:=I.list hq;have hlen:=r'.length;exact Calls.call_len_list pl.isList (by simp only [List.size_toArray] <;> omega) ⟨.int ys.length,H,I.tok _,⟨s.toks + 1,by rw [List.size_toArray,hlen]⟩,q⟩
 ·obtain ⟨its,r',pl,hz⟩:=I.tuple hq;have hlen:=r'.length;exact len_tuple pl (by simp only [List.size_toArray] <;> omega) ⟨.int ys.length,H,I.tok _,⟨s.toks + 1,by rw [List.size_toArray,hlen]⟩,q⟩
theorem jn:cL X (.type "list") (λ xs H Q=>∃p ys,xs=[.ref p]/\(SqL X.K H p ys\/SqT X.K H p ys)/\∀l,H l=none->Q (.ref l) (upd H l (.lst ys))):=by
 intro pins s σ H xs us Q I r h;obtain ⟨p,ys,rfl,hq,q⟩:=h;obtain ⟨u,rfl,rx⟩:=fD r;cases rx;have fin:∀ (its:List KG),Vals ys its->ys.length<=sizeLine->∀ (h':Heap) (c':Nat),(∀b o',s.heap.get? b=some o'->h'.get? b=some o') ->
   h'.get? s.heap.objs.size=some { cls:=.type "list", dict:=none, data:=.seq its.toArray c', slots:=#[] }->EP X pins σ Q (.ref s.heap.objs.size) { s with heap:=h' }:=λ its r' hz h' c' kp e =>
  ⟨.ref s.heap.objs.size,_,I.laid (t':=s.toks) kp (B3 _) (show ObjOk X.prog X.w _ h' _ (.lst ys) from ⟨hz,its,c',r',e⟩),rfl,q _ (I.hok.fresh (B3 _))⟩
 rcases hq with hq | hq
 ·obtain ⟨its,r',pl,hz⟩:=I.list hq;have hlen:=r'.length;obtain ⟨o,ho,hc,n,hd⟩:=pl.isList;exact call_list_seq p (.inl rfl) ho hc hd (λ h' c' kp e=>fin its r' hz h' c' kp e) (by simp only [List.size_toArray] <;> omega)
 ·obtain ⟨its,r',pl,hz⟩:=I.tuple hq;have hlen:=r'.length;obtain ⟨o,ho,hc,n,hd⟩:=pl;exact call_list_seq p (.inr rfl) ho hc hd (λ h' c' kp e=>fin its r' hz h' c' kp e) (by simp only [List.size_toArray] <;> omega)
theorem fi:cL X (.type "tuple") (λ xs H Q=>∃p ys,xs=[.ref p]/\((SqL X.K H p ys/\∀l,H l=none->Q (.ref l) (upd H l (.tup ys)))\/(SqT X.K H p ys/\Q (.ref p) H))):=by
 intro pins s σ H xs us Q I r h;obtain ⟨p,ys,rfl,h⟩:=h;obtain ⟨u,rfl,rx⟩:=fD r;cases rx;rcases h with ⟨hq,q⟩ | ⟨hq,q⟩
 ·obtain ⟨its,r',pl,hz⟩:=I.list hq;have hlen:=r'.length;refine call_tuple_list pl.isList (λ h' kp=>?_) (by simp only [List.size_toArray] <;> omega);have I1:Inv X pins σ H { s with heap:=h' }:=I.kept (t':=s.toks) kp;have I2:Inv X pins σ (upd H h'.objs.size (.tup ys)) { s with heap:=h'.push { cls:=.type "tuple", data:=.seq its.toArray } } :=
   I1.laid (t':=s.toks) (λ b o e=>A7 _ e) (B3 _) (show ObjOk X.prog X.w _ _ _ (.tup ys) from ⟨hz,its,r',IsTup.new _ _⟩)
  exact ⟨.ref h'.objs.size,_,I2,Y,q _ (I1.hok.fresh (B3 _))⟩
 ·obtain ⟨its,r',pl,hz⟩:=I.tuple hq;exact call_tuple_same pl ⟨.ref p,H,I,rfl,q⟩
def tyV (K:C4) (T:String) (x:V) (H:Hp):Prop:=match x with
 | .str _=>T = "str"
 | .int _=>T = "int"
 | .ref p=>(T = "list" /\ ∃xs,SqL K H p xs)\/(T = "tuple" /\ ∃o,K.lookup p=some o/\o.cls=.type "tuple" /\ o.dict=none) \/
   (T = "dict" /\ ((∃kvs,H p=some (.dK kvs))\/∃kvs,H p=some (.dT kvs)))\/(T = "set" /\ ∃S n,H p=some (.set S n))
 | _=>False
theorem si {pins:List (Addr×Obj)} {σ:St} {H:Hp} {s:KB} {T:String} {x:V} {v:KG} (I:Inv X pins σ H s) (r:RelV x v) (ty:tyV X.K T x H) :
  s.TypeIs v T/\∀a,v=.ref a->∃ob,s.heap.get? a=some ob/\ob.dict=none:=by
 cases x with
 | str z =>
  obtain ⟨t,rfl⟩:=r;cases (show T = "str" from ty);exact ⟨typeIs_str s z t,λ _ e=>nomatch e⟩
 | int i =>
  obtain ⟨t,rfl⟩:=r;cases (show T = "int" from ty);exact ⟨typeIs_int s i t,λ _ e=>nomatch e⟩
 | ref p =>
  cases r;rcases ty with ⟨rfl,xs,hq⟩ | ⟨rfl,o,hk,hc,hd⟩ | ⟨rfl,hk⟩ | ⟨rfl,S,n,hk⟩
  ·obtain ⟨its,_,pl,_⟩:=I.list hq;refine ⟨pl.isList.typeIs,λ a e=>?_⟩;cases e;obtain ⟨o,n,e,c,hd,_⟩:=pl;exact ⟨o,e,hd⟩
  ·refine ⟨⟨o,I.kIn p o hk,hc⟩,λ a e=>?_⟩;cases e;exact ⟨o,I.kIn _ o hk,hd⟩
  ·have z:∃o,s.heap.get? p=some o/\o.ExactDict:=by
    rcases hk with ⟨kvs,hk⟩ | ⟨kvs,hk⟩
    ·obtain ⟨_,_,_,_,o,_,_,e,ex,_⟩:=I.hok p _ hk;exact ⟨o,e,ex⟩
    ·obtain ⟨_,_,_,_,o,_,_,e,ex,_⟩:=I.hok p _ hk;exact ⟨o,e,ex⟩
   obtain ⟨o,e,ex⟩:=z;refine ⟨⟨o,e,ex.1⟩,λ a e2=>?_⟩;cases e2;exact ⟨o,e,ex.2.1⟩
  ·obtain ⟨o,_,_,_,e,ex,_⟩:=I.hok p _ hk;refine ⟨⟨o,e,ex.1⟩,λ a e2=>?_⟩;cases e2;exact ⟨o,e,ex.2.1⟩
 | _=>exact E8 ty
def Hn (K:C4) (T:String) (r:V->List V->Hp->VK->Prop) (to:TE):TE:=λ σ H Q=>to σ H λ x H1=>tyV K T x H1/\r x [] H1 Q
def tBM (K:C4) (T:String) (r:V->List V->Hp->VK->Prop) (to:TE) (t:TA):TE:=λ σ H Q=>to σ H λ x H1=>tyV K T x H1/\t σ H1 λ xs H2=>r x xs H2 Q
variable {o e:Expr} {es:List Expr} {to:TE} {t:TA} {name:Str} {apos cpos:Pos} {T id:String} {r:V->List V->Hp->VK->Prop}
theorem lV (pa:PlainAttrs T) (slot:Slot T name id) (hty:typeOf (.builtin id)=pure (.type "method_descriptor")) (hm:MtR X id r) (ho:PE X o to)
  (hbase:attributeBase o name X.env (eval o X.env)=eval o X.env:=by rfl) (hline:(apos.endLine == cpos.line)=true:=by rfl):PE X (.Call (.Attribute o name apos) [] [] cpos) (Hn X.K T r to):=by
 intro pins s σ H Q I h;refine wpAny_Call_method0_late hbase hline (thn (ho pins s σ H _ I h) λ v s1 ⟨x,H1,I1,r1,ty,q1⟩=>?_);obtain ⟨h1,h2⟩:=si I1 r1 ty;exact ⟨T,id,pa,slot,hty,h1,h2,Calls.callWith_builtin rfl (PySem.evalArgs_none (hm pins s1 σ H1 x [] v [] Q I1 r1 .nil q1))⟩
theorem fH (pa:PlainAttrs T) (slot:Slot T name id) (hty:typeOf (.builtin id)=pure (.type "method_descriptor")) (hm:MtR X id r) (ho:PE X o to) (ha:PA X (e :: es) t)
  (hbase:attributeBase o name X.env (eval o X.env)=eval o X.env:=by rfl)
  (hfew:((backTo cpos (starEach (e :: es) X.env)).all (λ x=>!x.1) && (backToKw cpos (keywordEach [] X.env)).all (λ x=>x.1.isSome)
   && decide ((e :: es).length + ([]:List Keyword).length + (if ([]:List Keyword).isEmpty then 0 else 1) < 30))=true:=by rfl)
  (hline:(apos.endLine == cpos.line)=true:=by rfl) (hs:starEach (e :: es) X.env=(false,eval e X.env) :: starEach es X.env:=by rfl) (hplain:(backTo cpos (starEach es X.env)).any (·.1)=false:=by rfl) :
  PE X (.Call (.Attribute o name apos) (e :: es) [] cpos) (tBM X.K T r to t):=by
 intro pins s σ H Q I h;refine wpAny_Call_method_late hbase hfew hline rfl (thn (ho pins s σ H _ I h) λ v s1 ⟨x,H1,I1,r1,ty,q1⟩=>?_);obtain ⟨h1,h2⟩:=si I1 r1 ty;refine ⟨T,id,pa,slot,hty,h1,h2,?_⟩;have hA:=ha cpos pins s1 σ H1 _ I1 q1;rw [hs] at hA ⊢;refine Calls.callWith_builtin (by show (false || (backTo cpos (starEach es X.env)).any (·.1))=false; rw [hplain] <;> rfl) (Calls.evalArgs_plain ?_);exact thn hA λ us s2 ⟨vs,H2,I2,r2,q2⟩=>hm pins s2 σ H2 x vs v us Q I2 r1 r2 q2
/- xs.append(e),list.index on a module's tuple .. are MtR facts of 06m -/
end
def MtM (X:Cx) (id:String) (r:V->List V->Hp->VK->Prop):Prop :=
 ∀ (pins:List (Addr×Obj)) (s:KB) (σ:St) (H:Hp) (x:V) (xs:List V) (v:KG) (us:List KG) (Q:VK),Inv X pins σ H s->RelV x v->Vals xs us->r x xs H Q ->
  wpAny (model X.prog X.w) X.A (call (.builtin id) (v :: us)) (EP X pins σ Q) X.xe s
theorem Vals.one:∀ {x:V} {us:List KG},Vals [x] us->∃u,us=[u]/\RelV x u
 | _,_,.cons r .nil=>⟨_,Y,r⟩
theorem Vals.zero:∀ {us:List KG},Vals [] us->us=[]
 | _,.nil=>rfl
theorem Vals.dropLast {xs:List V} {us:List KG} (h:Vals xs us):Vals xs.dropLast us.dropLast:=by
 induction h with
 | nil=>exact .nil
 | cons r t ih =>
  cases t with
  | nil=>exact .nil
  | cons q t'=>exact .cons r ih
theorem lW {α:Type} (l:List α):l.eraseIdx (l.length - 1)=l.dropLast:=by
 induction l with
 | nil=>rfl
 | cons a r ih =>
  cases r with
  | nil=>rfl
  | cons b r =>
   have e:(a :: b :: r).length - 1=((b :: r).length - 1) + 1:=by have h1:(a :: b :: r).length=r.length + 2:=rfl;have h2:(b :: r).length=r.length + 1:=rfl;omega
   rw [e,List.eraseIdx_cons_succ,ih]
   all_goals rfl
section
variable {X:Cx} {pins:List (Addr×Obj)} {σ:St} {H:Hp} {s:KB} {l b:Addr} {xs ys zs:List V}
theorem Inv.lset {its its':List KG} {n:Nat} {f:Array KG->Array KG} {t':Nat} (I:Inv X pins σ H s) (hH:H l=some (.lst xs))
  (e:s.heap.get? l=some { cls:=.type "list", data:=.seq its.toArray n }) (hf:f its.toArray=its'.toArray) (hv:Vals ys its') (hz:ys.length<=sizeLine) :
  Inv X pins σ (upd H l (.lst ys)) { s with heap:=s.heap.update l (Obj.mapSeq f),toks:=t' }:=by
 have q:=PySem.IsL.update e f;rw [hf] at q;refine I.write (x:=l) (e:=l) (by rw [hH]; exact trivial) (.inl rfl) (λ b' u hb hu=>(Heap.get?_update_other s.heap (Obj.mapSeq f) (Ne.symm hb)).trans hu) ⟨_,q⟩ ?_;exact ⟨hz,its',_,hv,q⟩
theorem Inv.lnew {its:List KG} {t':Nat} (I:Inv X pins σ H s) (hv:Vals ys its) (hz:ys.length<=sizeLine) :
  Inv X pins σ (upd H s.heap.objs.size (.lst ys)) { s with heap:=s.heap.push { cls:=.type "list", data:=.seq its.toArray }, toks:=t' } :=
 I.laid (λ _ _ q=>A7 _ q) (B3 _) ⟨hz,its,0,hv,A8 _ rfl⟩
theorem Inv.fresh (I:Inv X pins σ H s):H s.heap.objs.size=none:=I.hok.fresh (B3 _)
theorem Inv.lstM (I:Inv X pins σ H s) (hH:H l=some (.lst xs)):xs.length<=sizeLine/\∃ (its:List KG) (n:Nat),Vals xs its/\xs.length=its.length/\s.heap.get? l=some { cls:=.type "list",data:=.seq its.toArray n }:=by obtain ⟨z,its,n,r,e⟩:=I.hok l _ hH;exact ⟨z,its,n,r,r.length,e⟩
theorem sj {n:Nat} (h:n<=sizeLine):Builtin.List.listTooLong n=false:=by unfold Builtin.List.listTooLong;exact B1 (by omega)
end
section
variable {X:Cx}
inductive rAppend (x:V) (vs:List V) (H:Hp) (Q:VK):Prop
 | mk (l:Addr) (xs:List V) (y:V) (e_0:x=.ref l) (e_1:vs=[y]) (e_2:H l=some (.lst xs)) (e_3:xs.length < sizeLine) (e_4:Q .non (upd H l (.lst (xs ++ [y])))):rAppend x vs H Q
theorem cD:MtM X "list.append" rAppend:=by intro pins s σ H x vs v us Q I rx rv h;obtain ⟨l,xs,y,rfl,rfl,hH,hz,q⟩:=h;cases rx;obtain ⟨u,rfl,ru⟩:=rv.one;obtain ⟨z,its,n,r,hl,e⟩:=I.lstM hH;refine call_meets F.slot_list_append ⟨_,e,Y⟩ F.entry_list_append (F.args_list_append_2 _ _) (PySem.list_append l its.toArray n u (by rw [List.size_toArray]; omega)) ⟨e,?_⟩;refine ⟨.non,_,I.lset (its':=its ++ [u]) hH e (by simp) (r.append (.cons ru .nil)) ?_,Y,q⟩;rw [List.length_append,List.length_singleton];omega
def vk:V->List V->Hp->VK->Prop:=λ x vs H Q=>∃l b xs zs,x=.ref l/\vs=[.ref b]/\H l=some (.lst xs)/\H b=some (.lst zs)/\xs.length + zs.length<=sizeLine/\Q .non (upd H l (.lst (xs ++ zs)))
theorem gq:MtM X "list.extend" vk:=by
 intro pins s σ H x vs v us Q I rx rv h;obtain ⟨l,b,xs,zs,rfl,rfl,hH,hB,hz,q⟩:=h;cases rx;obtain ⟨u,rfl,ru⟩:=rv.one;cases ru;obtain ⟨z,its,n,r,hl,e⟩:=I.lstM hH;obtain ⟨z2,its2,n2,r2,hl2,e2⟩:=I.lstM hB;have hsz:its.toArray.size + its2.toArray.size<=sizeLine:=by rw [List.size_toArray,List.size_toArray]; omega
 have hlong:¬ (!its.toArray.isEmpty && Builtin.List.listTooLong (its.toArray.size + its2.toArray.size))=true:=by rw [sj hsz,Bool.and_false];exact B2
 refine call_meets F.slot_list_extend ⟨_,e,Y⟩ F.entry_list_extend (F.args_list_extend_2 _ _)
  (AutoSeq1.list_extend_list_list_0 l its.toArray n b its2.toArray n2 hlong (by rw [List.size_toArray]; omega) (by omega)) ⟨e,e2,?_⟩
 refine ⟨.non,_,I.lset (its':=its ++ its2) hH e (by simp) (r.append r2) ?_,Y,q⟩;rw [List.length_append];omega
def Ho:V->List V->Hp->VK->Prop:=λ x vs H Q=>∃l xs y,x=.ref l/\vs=[]/\H l=some (.lst xs)/\xs[xs.length - 1]? = some y/\Q y (upd H l (.lst xs.dropLast))
theorem lX:MtM X "list.pop" Ho:=by
 intro pins s σ H x vs v us Q I rx rv h;obtain ⟨l,xs,y,rfl,rfl,hH,hy,q⟩:=h;cases rx;have hus:=rv.zero;subst hus;obtain ⟨z,its,n,r,hl,e⟩:=I.lstM hH;obtain ⟨u,hu,ru⟩:=r.get hy;have hy':its.toArray[its.toArray.size - 1]? = some u:=by show its.toArray[its.length - 1]? = some u;rw [<- Array.getElem?_toList,<- hl];exact hu
 refine call_meets F.slot_list_pop ⟨_,e,Y⟩ F.entry_list_pop (F.args_list_pop_1 _) (MeetsSeq.list_pop_last l its.toArray n u hy' (by rw [List.size_toArray]; omega)) ⟨e,?_⟩;refine ⟨y,_,I.lset (its':=its.dropLast) hH e ?_ r.dropLast ?_,ru,q⟩
 ·show its.toArray.eraseIdxIfInBounds (its.toArray.size - 1)=its.dropLast.toArray;rw [List.size_toArray,List.eraseIdxIfInBounds_toArray,lW]
 ·rw [List.length_dropLast];omega
inductive rCat (x:V) (y:V) (H:Hp) (Q:VK):Prop
 | mk (l:Addr) (b:Addr) (xs:List V) (zs:List V) (e_0:x=.ref l) (e_1:y=.ref b) (e_2:H l=some (.lst xs)) (e_3:H b=some (.lst zs)) (e_4:xs.length + zs.length<=sizeLine) (e_5:∀p,H p=none->Q (.ref p) (upd H p (.lst (xs ++ zs)))):rCat x y H Q
theorem sk:OpR X (binaryOp .Add) rCat:=by
 intro pins s σ H x y v u Q I rx ry h;obtain ⟨l,b,xs,zs,rfl,rfl,hH,hB,hz,q⟩:=h;cases rx;cases ry;obtain ⟨z,its,n,r,hl,e⟩:=I.lstM hH;obtain ⟨z2,its2,n2,r2,hl2,e2⟩:=I.lstM hB;refine PySem.P.add_list e e2 ?_ (by rw [List.size_toArray,List.size_toArray]; omega);have ea:its.toArray ++ its2.toArray=(its ++ its2).toArray:=by simp
 rw [ea];exact ⟨.ref _,_,I.lnew (t':=s.toks) (r.append r2) (by rw [List.length_append]; omega),Y,q _ I.fresh⟩
end
end L2
namespace Att
open PySem PySem.W PySem.Calls PyProof.Rows
theorem gB {P:Params} {h:Heap}:∀ (ns:List Int) (vs:List KG),WellAll P h vs (ns.map WData.int)->IntsAre vs ns:=by
 intro ns
 induction ns with
 | nil =>
  intro vs w;rw [List.map_nil] at w;cases w;exact .nil
 | cons n ns ih =>
  intro vs w;rw [List.map_cons] at w;cases w with
  | cons a b =>
   cases a;exact .cons _ _ (ih _ b)
theorem qe {l:OpenLaw} {n:Nat} (hn:l.most=some n) {P:Params} {h:Heap} {args:List WData} {vals:List KG}
  (hpre:l.row.toRowW.claim.pre args=true) (hwl:WellAll P h vals args) :
  ∃a vs ns,vals=[Value.ref a]/\args=[WData.list (ns.map WData.int)]/\h.get? a=some { cls:=.type "list",data:=.seq vs.toArray }/\IntsAre vs ns/\ns.length<=n:=by
 have hsh:WShape.hasAll [] args [.list .int]=true:=(pre_splitW hpre).1;have hc:l.pre.holds [] { args:=args }=true:=(pre_splitW hpre).2;obtain ⟨d,r,rfl,h1,h2⟩:=hasAllW_cons hsh;obtain rfl:=hasAllW_nil h2;obtain ⟨xs,rfl,h3⟩:=hasW_list h1;obtain ⟨ns,rfl⟩:=items_int h3;have hlen:ns.length<=n:=by
  unfold OpenLaw.pre at hc;have h4:(WTm.not (.lt (.lit (.int (n:Int))) (.len (.arg 0)))).holds [] { args:=[.list (ns.map .int)] }=true:=by have h4:=(holds_andW hc).1;rw [hn] at h4;exact h4
  have h5:=condW_of h4 (w_not (w_lt w_lit (w_len_list (w_arg rfl))));rw [List.length_map] at h5;refine Nat.le_of_not_lt λ q=>?_;have q':(n:Int) < ((ns.length:Nat):Int):=by omega
  first
   | (rw [decide_eq_true q'] at h5; exact absurd h5 (by decide))
   | (simp at h5; omega)
 cases hwl with
 | cons w1 w2 =>
  cases w2;cases w1 with
  | list ho hall=>exact ⟨_,_,ns,Y,Y,ho,gB ns _ hall,hlen⟩
theorem qg (l:OpenLaw) (args:List WData):l.row.toRowW.claim.post args (.bool true) args=true :=
 postW_of (r:=l.row.toRowW) (X:=(true == true))
  (show WShape.has [] (.bool true) .bool=true by first | rfl | decide | simp [WShape.has,WShape.arms,WShape.armsAll])
  (show (WTm.eq .res (.lit (.bool true))).value [] { args:=args,res:=some (.bool true),after:=args }=some (.bool (true == true)) from w_eq_bool (w_res rfl) w_lit) rfl
theorem attach_call {l:OpenLaw} {n:Nat} {q:KC} {loose:List Str} {XP:(Str->Option KG)->Heap->Prop} {YP:KF->Heap->Prop} {d:DefRec}
  (hn:l.most=some n) (hdf:d.params.defaults=[])
  (call:∀ (w:KF) (s₀ s₁:KB) (mg mb:Str->Option KG) (fa:Addr) (o:Obj) (pm cd doc:KG) (a:Addr) (vs:List KG) (ns:List Int),
   Ground q loose [] XP w s₀ mg mb s₁.heap->YP w s₁.heap ->
   s₁.heap.get? fa=some o->o.data=.func (docDef d.name d.params d.body d.scope pm cd doc)->s₁.heap.CodeRec cd d.name->mg d.name=some (.ref fa) ->
   s₁.heap.get? a=some { cls:=.type "list",data:=.seq vs.toArray }->IntsAre vs ns->ns.length<=n->s₁.gens=#[] ->
   codeAny (model l.prog w) callerA (.call (.ref fa) ⟨[.ref a],[]⟩) (λ r s'=>r=.ok (.ret (.bool true))/\OldK s₁.heap s'.heap/\s'.os=s₁.os/\AllBare s'.gens) s₁) :
  WalkO q loose XP YP l.row.toRowW d [] (λ f vs=>PySem.call f vs):=by
 intro w s₀ s₁ mg mb G YY0 fa o pm cd doc dV kV ho hd hcd hD hmg hg args vals as hpre hlay hrd hwl hlo;obtain rfl:dV=.none:=Dflts.none hD hdf;obtain rfl:kV=.none:=Dflts.noKw hD;obtain ⟨a,vs,ns,rfl,rfl,hobj,hints,hlen⟩:=qe hn hpre hwl;refine enter_call (codeAny_mono (call w s₀ s₁ mg mb fa o pm cd doc a vs ns G YY0 ho (fd_plain hd) hcd hmg hobj hints hlen hg) λ r s' hq=>?_);obtain ⟨rfl,h2,h3,h4⟩:=hq;exact ⟨.inl ⟨.bool true,.bool true,[],Y,λ _=>rfl,.bool true,qg l _,λ _=>⟨List.Pairwise.nil,λ _ hm=>(nomatch hm)⟩⟩,h2,h3,h4⟩
section
variable {prog:KC} {w:KF} {A:Around} {E:KG->KB->Prop} {s:KB} {K:Frag}
def Hq (h:Heap) (L d:Addr):List (Addr×Obj):=(List.range h.objs.size).filterMap λ a=>if a=L\/a=d then none else (h.get? a).map λ o=>(a,o)
end
end Att
namespace L2
open PySem PySem.Spec PyProof.Rows
theorem iN:∀ {vs:List KG} {ns:List Int},IntsAre vs ns->Vals (ns.map V.int) vs
 | _,_,.nil=>.nil
 | _,_,.cons n t h=>.cons ⟨t,Y⟩ (iN h)
def xy (H:Hp):Prop:=∀b,H b=none\/∃o xs,H b=some (.frz o (.lst xs))
theorem sr {P:KC} {w:KF} {K:C4} {mg mb:Str->Option KG} {CX:CXT} {k:Nat} {fa a:Addr} {fd:KD} {x:Str} {sp:Sp} {s₁:KB} {vs:List KG} {ns:List Int}
  (KX:K.In s₁.heap) (hns:s₁.heap.Ns mainGlobals mg) (hb:s₁.heap.Ns builtinsNs mb) (hbb:∀x:Str,x ≠ "__name__" -> mb x=bootBuiltins x) (hlim:s₁.heap.NoLimit) (hg:s₁.gens=#[])
  (ha:s₁.heap.get? a=some { cls:=.type "list",data:=.seq vs.toArray }) (hi:IntsAre vs ns) (hl:ns.length<=sizeLine) (hr:Room k callerA)
  (F:∀base:Heap,K.In base->base.Ns mainGlobals mg->FnOk P w K mg base CX k fa fd [x] sp) (hbind:∀ (s:KB) (u:KG),BindsTo s fd ⟨[u],[]⟩ [(x,u)])
  (hsp:∀H:Hp,xy H->SqL K H a (ns.map V.int)->sp [.ref a] H (λ v _=>v=.bl true) λ _ _ _=>False)
  (hCX:∀H e s',CX [] H s₁ (λ _ _ _=>False) e s'->False) :
  codeAny (model P w) callerA (.call (.ref fa) ⟨[.ref a],[]⟩) (λ r s'=>r=.ok (.ret (.bool true))/\OldK s₁.heap s'.heap/\s'.os=s₁.os/\AllBare s'.gens) s₁:=by
 have rv:=iN hi;have lenV:=hi.length;have core:∀H:Hp,xy H->SqL K H a (ns.map V.int)->HOk P w H s₁.heap->(∀b,H b≠none->b=a)->(H a≠none->K.lookup a=none) ->
   codeAny (model P w) callerA (.call (.ref fa) ⟨[.ref a],[]⟩) (λ r s'=>r=.ok (.ret (.bool true))/\OldK s₁.heap s'.heap/\s'.os=s₁.os/\AllBare s'.gens) s₁:=by
  intro H hO hS hok hA hK;have base_of:∀ {b:Addr} {o:Obj},s₁.heap.get? b=some o->H b=none->(jg s₁.heap H).get? b=some o:=λ e n=>rF e n;have noA:∀ {b:Addr} {o:Obj} {es:Array DictEntry} {ep:Nat},s₁.heap.get? b=some o->o.data=.dict es ep->H b=none:=λ {b o es ep} e d=>by
   cases q:H b with
   | none=>rfl
   | some u =>
    have e':b=a:=hA b (by rw [q]; simp);subst e';rw [ha] at e; cases e;have d':Data.seq vs.toArray _=Data.dict es ep:=d;cases d'
  have nsK:∀ {b:Addr} {m:Str->Option KG},s₁.heap.Ns b m->(jg s₁.heap H).Ns b m:=λ {b m} ⟨o,es,ep,e,d,r⟩=>⟨o,es,ep,base_of e (noA e d),d,r⟩
  have hKb:K.In (jg s₁.heap H):=λ b o e=>base_of (KX b o e) (by
   cases q:H b with
   | none=>rfl
   | some u =>
    have e':b=a:=hA b (by rw [q]; simp);subst e';rw [hK (by rw [q]; simp)] at e; cases e)
  have hM:Mod K mg (jg s₁.heap H):=⟨hKb,nsK hns,⟨mb,nsK hb,hbb⟩,let ⟨mc,h1,h2⟩:=hlim; ⟨mc,nsK h1,h2⟩⟩
  have e0:Env0 P w K mg (jg s₁.heap H) callerA [] s₁ H:=⟨Y,hM,λ b o e=>uQ e,Nat.le_of_eq (pT _ _),trivial,λ b hb=>absurd (show b∈([]:List Addr) from hb) (by simp),hok,.of_eq hg⟩
  refine codeAny_mono ((F _ hKb (nsK hns)).run callerA [] s₁ H ⟨[.ref a],[]⟩ [.ref a] [.ref a] _ _ hr e0 (hbind s₁ (.ref a)) (.cons rfl .nil) (hsp H hO hS)) λ r s' h=>?_;cases r with
  | error e=>exact (hCX H e s' h).elim
  | ok fl =>
   cases fl with
   | next=>exact E8 h
   | brk=>exact E8 h
   | cont=>exact E8 h
   | ret u =>
    obtain ⟨v,H',os,bare,un,hok',r',q⟩:=h;have q':v=.bl true:=q;subst q';obtain rfl:u=Value.bool true:=r';refine ⟨Y,OldK.of_keep λ b o e=>?_,os,bare⟩;cases q:H b with
    | none=>exact un.keep b o e q (by intro z; exact absurd (show b∈([]:List Addr) from z) (by simp)) (by simp)
    | some u =>
     rcases hO b with z | ⟨ob,xs,z⟩
     ·rw [q] at z; cases z
     ·have z2:=un.frzs b ob _ z;obtain ⟨e1,_⟩:=hok b _ z;obtain ⟨e2,_⟩:=hok' b _ z2;rw [e] at e1; cases e1;exact e2
 cases hk:K.lookup a with
 | some o =>
  have e:=KX a o hk;rw [ha] at e;cases e;refine core (λ _=>none) (λ _=>.inl rfl) (.inr ⟨_,vs.toArray,_,hk,Y,Y,Y,by rw [List.size_toArray,lenV]; exact hl,by simpa using rv⟩) (λ b u z=>by have z':(none:Option HO)=some u:=z; cases z') (λ b z=>absurd rfl z) λ z=>absurd rfl z
 | none =>
  refine core (λ b=>if b=a then some (.frz { cls:=.type "list",data:=.seq vs.toArray } (.lst (ns.map V.int))) else none) (λ b=>?_) (.inl (.inr ⟨{ cls:=.type "list",data:=.seq vs.toArray },if_pos rfl⟩)) (λ b u z=>?_) (λ b z=>?_) λ _=>hk
  ·by_cases hb:b=a
   ·exact .inr ⟨_,_,if_pos hb⟩
   ·exact .inl (if_neg hb)
  ·by_cases hb:b=a
   ·have z':=(if_pos hb).symm.trans z;cases z';subst hb;exact ⟨ha,by rw [List.length_map]; exact hl,vs,_,rv,ha⟩
   ·have z':=(if_neg hb).symm.trans z;cases z'
  ·by_cases hb:b=a
   ·exact hb
   ·exact absurd (if_neg hb) z
theorem walk_of {l:PySem.W.OpenLaw} {n k:Nat} {q:KC} {loose:List Str} {XP:(Str->Option KG)->Heap->Prop} {YP:KF->Heap->Prop} {d:DefRec} {K:Params->C4} {CX:KF->CXT} {sp:KF->Sp} {x:Str}
  (hn:l.most=some n) (hn2:n<=sizeLine) (hdf:d.params.defaults=[]) (hr:Room k callerA)
  (hY:∀ (w:KF) (h:Heap),YP w h->(K w.params).In h)
  (F:∀ (w:KF) (mg:Str->Option KG) (fa:Addr) (h:Heap),(K w.params).In h->h.Ns mainGlobals mg->mg d.name=some (.ref fa) ->
   ∃fd:KD,(∀ (s:KB) (u:KG),BindsTo s fd ⟨[u],[]⟩ [(x,u)]) /\
    ∀base:Heap,(K w.params).In base->base.Ns mainGlobals mg->FnOk l.prog w (K w.params) mg base (CX w) k fa fd [x] (sp w))
  (hsp:∀ (w:KF) (H:Hp) (a:Addr) (ns:List Int),ns.length<=n->xy H->SqL (K w.params) H a (ns.map V.int)->sp w [.ref a] H (λ v _=>v=.bl true) λ _ _ _=>False)
  (hCX:∀ (w:KF) (H:Hp) (s:KB) (e:KG) (s':KB),CX w [] H s (λ _ _ _=>False) e s'->False) :
  PySem.W.WalkO q loose XP YP l.row.toRowW d [] (λ f vs=>PySem.call f vs):=by
 refine Att.attach_call hn hdf λ w s₀ s₁ mg mb fa o pm cd doc a vs ns G YY0 ho hd hcd hmg hobj hints hlen hg=>?_;have KX:=hY w _ YY0;obtain ⟨fd,hb,hF⟩:=F w mg fa _ KX G.T.g hmg;exact sr KX G.T.g G.T.b G.T.builtins G.T.nolimit hg hobj hints (C5 hlen hn2) hr hF hb (λ H hO hS=>hsp w H a ns hlen hO hS) λ H e s'=>hCX w H s₁ e s'
def inClass (s:Stmt) (j:Nat):Stmt:=match s with
 | .ClassDef _ _ _ body _ _ _ _ _ _ _=>body.getD j (.Pass ⟨0,0,0,0⟩)
 | _=>.Pass ⟨0,0,0,0⟩
def defArgs (s:Stmt):Arguments:=match s with
 | .FunctionDef _ a _ _ _ _ _ _ _ _=>a
 | _=>{ posonlyargs:=[],args:=[],vararg:=none,kwonlyargs:=[],kw_defaults:=[],kwarg:=none,defaults:=[] }
def defBody (s:Stmt):List Stmt:=match s with
 | .FunctionDef _ _ b _ _ _ _ _ _ _=>b
 | _=>[]
def defScope (s:Stmt):Scope:=match s with
 | .FunctionDef _ _ _ _ _ _ sc _ _ _=>sc
 | _=>{ kind:=.function,names:=[],isGenerator:=false,isCoroutine:=false }
abbrev CX0:CXT:=λ _ _ _ _ _ _=>False
abbrev E0:XK:=λ _ _ _=>False
theorem oz {X:Cx}:ft CX0 X E0:=λ _ _ _ _ _ _ _ h=>h.elim
structure Fun (K:C4) (x qual:Str) (st:Stmt) (f:Addr) (fd:FuncData):Prop where
 ex:∃ (oc:KG) (od:Option Addr) (kV doc pm:KG) (an:Option Addr) (cdv ct:KG) (osl:Array (Option KG)),
  fd=E7 x qual (defArgs st) (defBody st) (defScope st) .none kV doc pm an cdv ct/\K.lookup f=some ⟨oc,od,.func fd,osl⟩/\PySem.W.codeIn K cdv qual=true
 kp:PySem.W.keepIn K (.ref f)=true
section
variable {P:KC} {w:KF} {K:C4} {mg:Str->Option KG} {base:Heap}
theorem Fun.ok {x qual:Str} {st:Stmt} {f:Addr} {fd:KD} {N ps:List Str} {k:Nat} {sp:Sp} (F:Fun K x qual st f fd) (S:FnScope N ps (defScope st)) (len:∀vs H Q E,sp vs H Q E->vs.length=ps.length)
  (hbody:∀ (cdv:KG) (A:Around) (outer:List Env) (s:KB) (H:Hp) (vs:List V) (Q:VK) (E:XK),Room k (A.deeper (envOfC qual (defScope st) s.heap.objs.size f cdv))->sp vs H Q E ->
   ∃t,PSs (qc CX0 P w K mg base N qual (defScope st) f cdv A outer s H E).nox (defBody st) t/\t { nx:=λ _ H'=>Q .non H',rt:=Q } (fh N vs) H):FnOk P w K mg base CX0 (k + 1) f fd ps sp:=by
 obtain ⟨oc,od,kV,doc,pm,an,cdv,ct,osl,rfl,lk,hcd⟩:=F.ex;refine CW lk hcd S len λ A outer s H vs Q E hr hsp=>?_;obtain ⟨t,h,q⟩:=hbody cdv A outer s H vs Q E hr hsp;exact ⟨t,h.nox,q⟩
theorem Fun.binds {x qual:Str} {st:Stmt} {f:Addr} {fd:KD} {ps:List Str} (F:Fun K x qual st f fd)
  (h:∀ (kV doc pm:KG) (an:Option Addr) (cdv ct:KG) (us:List KG),us.length=ps.length->bindArgs (E7 x qual (defArgs st) (defBody st) (defScope st) .none kV doc pm an cdv ct) ⟨us,[]⟩=pure (ps.zip us)):Binds K fd ps []:=by
 obtain ⟨oc,od,kV,doc,pm,an,cdv,ct,osl,rfl,lk,hcd⟩:=F.ex;exact .all (h kV doc pm an cdv ct)
theorem lY {x qual:Str} {st:Stmt} {f:Addr} {oc:KG} {od an:Option Addr} {osl:Array (Option KG)} {kV doc pm cdv ct:KG} (l:K.lookup f=some ⟨oc,od,.func (E7 x qual (defArgs st) (defBody st) (defScope st) .none kV doc pm an cdv ct),osl⟩)
  (c:PySem.W.codeIn K cdv qual=true) (k:PySem.W.keepIn K (.ref f)=true):Fun K x qual st f (E7 x qual (defArgs st) (defBody st) (defScope st) .none kV doc pm an cdv ct):=⟨⟨oc,od,kV,doc,pm,an,cdv,ct,osl,Y,l,c⟩,k⟩
end
section
variable {X:Cx}
theorem pv (i:Nat) {x:Str} {pos:Pos} (hN:X.N[i]? = some x:=by rfl) (hv:Vis X.env.scope x:=by first | exact Or.inl rfl | exact Or.inr (Or.inl rfl) | exact Or.inr (Or.inr rfl)) (hd:(x == ("__debug__" : Str))=false:=by decide)
  (hcd:(x == ("__classdict__" : Str))=false:=by decide):PE X (.Name x pos) (tVar i):=xk hN hv hd hcd
end
theorem aF {A B:Prop} (h:B):if false=true then A else B:=by rw [if_neg Bool.false_ne_true];exact h
theorem aV {A B:Prop} (h:A):if true=true then A else B:=by rw [if_pos rfl];exact h
theorem cV {c A B:Prop} [Decidable c] (h1:c->A) (h2:¬ c->B):if c then A else B:=by
 by_cases h:c
 ·rw [if_pos h];exact h1 h
 ·rw [if_neg h];exact h2 h
def Same (H H':Hp):Prop:=∀b o,H b=some o->H' b=some o
theorem Same.refl (H:Hp):Same H H:=λ _ _ h=>h
theorem Same.trans {H H1 H2:Hp} (a:Same H H1) (b:Same H1 H2):Same H H2:=λ c o h=>b c o (a c o h)
theorem Same.free {H H':Hp} (e:Same H H') {l:Addr} (h:H' l=Option.none):H l=Option.none:=by
 cases q:H l with
 | none=>rfl
 | some o =>
  rw [e l o q] at h;cases h
theorem Same.seq {K:C4} {H H':Hp} {a:Addr} {xs:List V} (e:Same H H') (h:SqL K H a xs):SqL K H' a xs:=by
 rcases h with (h | ⟨o,h⟩) | h
 ·exact .inl (.inl (e _ _ h))
 ·exact .inl (.inr ⟨o,e _ _ h⟩)
 ·exact .inr h
def bg (env:Env):List (Str×NameKind)->List (Str×Addr)->List (Str×Addr)
 | [],acc=>acc
 | (n,k) :: r,acc=>bg env r (if (k == NameKind.free)=true then (n,(env.cells.lookup n).getD 0) :: acc else acc)
theorem cw (env:Env):∀ (names:List (Str×NameKind)) (acc:List (Str×Addr)) (x:Str) (c:Addr),(∀y∈names,y.2=.free->∃c,env.cells.lookup y.1=some c) ->
  (∀x c,acc.lookup x=some c->env.cells.lookup x=some c)->(bg env names acc).lookup x=some c->env.cells.lookup x=some c
 | [],acc,x,c,_,h,e=>h x c e
 | (n,k) :: r,acc,x,c,hf,h,e=>by
  refine cw env r _ x c (λ y hy=>hf y (B4 _ hy)) (λ x c e'=>?_) e
  by_cases hk:(k == NameKind.free)=true
  ·rw [if_pos hk] at e';obtain ⟨c0,hc0⟩:=hf (n,k) B7 (by simpa using hk);have hc0':env.cells.lookup n=some c0:=hc0;rw [List.lookup_cons] at e';cases hx:x == n with
   | true =>
    rw [hx] at e';have:x=n:=by simpa using hx
    subst this;rw [hc0'] at e' ⊢;simpa using e'
   | false=>rw [hx] at e'; exact h x c e'
  ·rw [if_neg hk] at e'; exact h x c e'
theorem hG (env:Env):∀ (names:List (Str×NameKind)) (acc:List (Str×Addr)) (x:Str),(∃c,acc.lookup x=some c)->∃c,(bg env names acc).lookup x=some c
 | [],acc,x,h=>h
 | (n,k) :: r,acc,x,h=>by
  refine hG env r _ x ?_
  by_cases hk:(k == NameKind.free)=true
  ·rw [if_pos hk,List.lookup_cons];cases hx:x == n with
   | true=>exact ⟨_,Y⟩
   | false=>exact h
  ·rw [if_neg hk]; exact h
theorem gr (env:Env):∀ (names:List (Str×NameKind)) (acc:List (Str×Addr)) (x:Str),(x,NameKind.free)∈names->∃c,(bg env names acc).lookup x=some c
 | [],acc,x,h=>by simp at h
 | (n,k) :: r,acc,x,h=>by
  rcases List.mem_cons.mp h with e | e
  ·have e1:x=n:=congrArg Prod.fst e;have e2:NameKind.free=k:=congrArg Prod.snd e;subst e1;subst e2;refine hG env r _ x ?_;rw [if_pos (by simp),List.lookup_cons];simp
  ·exact gr env r _ x e
theorem fu {env:Env} {scope:Scope} (hf:∀y∈scope.names,y.2=.free->∃c,env.cells.lookup y.1=some c):closureFor scope env=pure (bg env scope.names []):=by
 have key:∀ (names:List (Str×NameKind)) (acc:List (Str×Addr)),(∀y∈names,y.2=.free->∃c,env.cells.lookup y.1=some c) ->
   (forIn names acc (λ (x:Str×NameKind) (r:List (Str×Addr))=>(if (x.2 == NameKind.free)=true then do
    let a<-cellOf env x.1
    pure (ForInStep.yield ((x.1,a) :: r)) else pure (ForInStep.yield r)) ):Sem (List (Str×Addr)))=pure (bg env names acc):=by
  intro names
  induction names with
  | nil=>intro acc _; rfl
  | cons y r ih =>
   intro acc h;obtain ⟨n,k⟩:=y;have ih':=λ acc=>ih acc λ z hz=>h z (B4 _ hz);rw [List.forIn_cons]
   by_cases hk:(k == NameKind.free)=true
   ·obtain ⟨c,hc⟩:=h (n,k) B7 (by simpa using hk);have hc':env.cells.lookup n=some c:=hc;have e1:cellOf env n=pure c:=by unfold cellOf; rw [hc']
    have e2:bg env ((n,k) :: r) acc=bg env r ((n,c) :: acc):=by show bg env r _=_;rw [if_pos hk,hc']; rfl
    rw [if_pos hk,e2,<- ih'];show ((cellOf env n >>= λ a=>pure (ForInStep.yield ((n,a) :: acc))) >>= _)=_;rw [e1]
    rfl
   ·have e2:bg env ((n,k) :: r) acc=bg env r acc:=by show bg env r _=_;rw [if_neg hk]
    rw [if_neg hk,e2,<- ih']
    rfl
 have:=key scope.names [] hf;simp only [closureFor];exact (congrArg (λ m=>m >>= λ r=>(pure r:Sem _)) this).trans rfl
theorem jo {env:Env} {scope:Scope} (hcell:∀y∈scope.names,y.2≠.cell) {x:Str}:((relabel scope env).names.lookup x=some .cell\/(relabel scope env).names.lookup x=some .free)->(x,NameKind.free)∈scope.names:=by
  have key:∀names:List (Str×NameKind),(∀y∈names,y.2≠.cell)->∀k,(names.map λ (n,k)=>if (k == NameKind.free && env.scope.kind == .function && env.kindOf n == some .cell) then (n,NameKind.cell) else (n,k)).lookup x=some k ->
      (k=.cell\/k=.free)->(x,NameKind.free)∈names:=by
    intro names
    induction names with
    | nil=>intro _ k h _; simp at h
    | cons y r ih =>
      obtain ⟨n,k'⟩:=y;intro hc k h hk;have nc:k'≠.cell:=hc (n,k') B7;rw [List.map_cons] at h
      by_cases hb:(k' == NameKind.free && env.scope.kind == .function && env.kindOf n == some .cell)=true
      . have hb':k'=.free:=by simp at hb; exact hb.1.1
        dsimp only at h;rw [if_pos hb,List.lookup_cons] at h;cases hx:x == n with
        | true => have : x = n := by simpa using hx
                  subst this; subst hb'; exact B7
        | false=>rw [hx] at h; exact B4 _ (ih (λ y hy=>hc y (B4 _ hy)) k h hk)
      . dsimp only at h
        rw [if_neg hb,List.lookup_cons] at h;cases hx:x == n with
        | true =>
          rw [hx] at h;have:x=n:=by simpa using hx
          subst this;have e:k'=k:=by simpa using h
          rcases hk with q | q
          . exact absurd (e.trans q) nc
          . rw [e,q]; exact B7
        | false=>rw [hx] at h; exact B4 _ (ih (λ y hy=>hc y (B4 _ hy)) k h hk)
  rintro (h | h)
  . exact key _ hcell _ h (.inl rfl)
  . exact key _ hcell _ h (.inr rfl)
def aH (X:Cx) (pins:List (Addr×Obj)) (s2:KB) (H2:Hp) (scope:Scope) (C:Addr) (N':List Str) (fp:List Addr):Cx where
 prog:=X.prog
 w:=X.w
 K:=X.K
 mg:=X.mg
 base:=X.base
 A:=X.A
 N:=N'
 s₀:=s2
 H₀:=H2
 env:=compEnvC scope (bg X.env scope.names []) C X.env
 outer:=X.stack
 stack:=X.stack
 ex:=fp
 fn:=λ _=>false
 calm:=X.calm
 pn:=X.pn ++ pins
 xe:=λ _ _=>False
def bd (σ:St) (cap:List Nat) (k:Nat):St:=List.replicate k none ++ cap.map λ j=>(σ[j]?).join
def leS (σ σ':St):Prop:=σ'.length=σ.length/\∀ (i:Nat) v,σ[i]? = some (some v)->σ'[i]? = some (some v)
theorem leS.set {σ:St} {i:Nat} {v:V} (h:σ[i]? = some none):leS σ (σ.set i (some v)):=by
 refine ⟨by simp,λ j w e=>?_⟩
 by_cases hj:j=i
 ·subst hj; rw [h] at e; cases e
 ·rw [List.getElem?_set_ne (Ne.symm hj)]; exact e
structure CompOk (X:Cx) (scope:Scope) (own:List Str) (cs:List Str) (cap:List Nat):Prop where
 kind:scope.kind=.function
 cell:∀y∈scope.names,y.2≠.cell
 names:∀y∈scope.names,y.2=.local->scope.names.lookup y.1=some .local
 free:∀y∈scope.names,y.2=.free->X.env.kindOf y.1=some .cell\/X.env.kindOf y.1=some .free
 caps:∀ (i:Nat) y,cs[i]? = some y->∃j,cap[i]? = some j/\X.N[j]? = some y/\(y,NameKind.free)∈scope.names
 ownl:∀y∈own,scope.names.lookup y=some .local
 len:cs.length=cap.length
 free2:∀y,(y,NameKind.free)∈scope.names->scope.names.lookup y=some .local->False
def jq (X:Cx) (ifs:List Expr) (tt:TT):Prop :=
 ∀ (pins:List (Addr×Obj)) (s:KB) (σ:St) (H:Hp) (Q:Bool->Hp->Prop),Inv X pins σ H s->tt σ H Q ->
  wpAny (model X.prog X.w) X.A (forIn ifs true λ c r=>if r=true then do let ok<-isTrue c X.env (eval c X.env); pure (ForInStep.yield ok) else pure (ForInStep.yield r)) (TP X pins σ Q) X.xe s
def Da:TT:=λ _ H Q=>Q true H
theorem bR {X:Cx}:jq X [] Da:=λ _ _ _ H _ I h=>wpAny_tests_nil ⟨H,I,h⟩
theorem kn {X:Cx} {c:Expr} {tt:TT} (h:PT X c tt):jq X [c] tt:=λ pins s σ H Q I q=>wpAny_tests_one (h pins s σ H Q I q)
def fj (σ:St) (cap:List Nat) (k:Nat) (J:It) (g:TG) (tt:TT) (te:TE) (Q:List V->Hp->Prop) (W:Nat->Nat->List V->Hp->Prop):Prop :=
 ∀i m ys H,W i m ys H->(J.stop i H/\ys.length<=sizeLine/\Q ys H) \/
  (J.go i H/\ys.length < sizeLine/\∀x H',J.yld i H x H'->g x (bd σ cap k) H' λ σ2 H2=>leS (bd σ cap k) σ2/\tt σ2 H2 λ ok H3 =>
   if ok=true then te σ2 H3 (λ v H4=>∃m',m' < m/\W (i + 1) m' (ys ++ [v]) H4) else ∃m',m' < m/\W (i + 1) m' ys H3)
theorem HOk.add {P:KC} {w:KF} {H:Hp} {h:Heap} {a:Addr} {o:HO} (x:HOk P w H h) (n:H a=none) (new:ObjOk P w (upd H a o) h a o):HOk P w (upd H a o) h:=λ b u e=>by
 by_cases hb:b=a
 ·subst hb; rw [ae] at e; cases e; exact new
 ·rw [aj hb] at e;exact (x b u e).stay (λ c v _ q=>q) (λ c q=>by rw [aj (am q n)]; exact q) λ c xs q=>by rw [aj (am q n)]; exact q
section
variable {X:Cx} {pins:List (Addr×Obj)} {σ:St} {H2:Hp} {s2:KB} {scope:Scope} {own cs:List Str} {cap:List Nat} {fp:List Addr}
theorem iO {h1:Heap} {C:Addr} {tk:Nat} (I:Inv X pins σ H2 s2) (ok:CompOk X scope own cs cap) (hf:∀b∈fp,eZ X pins H2 b) (hfl:∀b∈fp,b < s2.heap.objs.size)
  (hC:s2.heap.objs.size<=C) (hns:h1.Ns C (λ _=>none)) (old:∀b o,s2.heap.get? b=some o->h1.get? b=some o) :
  Inv (aH X pins s2 H2 scope C (own ++ cs) fp) [] (bd σ cap own.length) H2 { s2 with heap:=h1,toks:=tk }:=by
 have hfr:∀y∈scope.names,y.2=.free->∃c,X.env.cells.lookup y.1=some c:=λ y hy e=>I.ok.has y.1 (ok.free y hy e);have sub:∀x c,(bg X.env scope.names []).lookup x=some c->X.env.cells.lookup x=some c:=λ x c e=>cw X.env scope.names [] x c hfr (λ _ _ z=>by simp at z) e;have clt:∀x c,(bg X.env scope.names []).lookup x=some c->c < s2.heap.objs.size:=λ x c e=>by obtain ⟨v,o,ho,_⟩:=I.cell x c (sub x c e);exact A9 ho
 refine ⟨⟨I.ok.mod,ok.kind,I.ok.glob,I.ok.blt,hC,λ y z c h1 h2=>I.ok.inj y z c (sub y c h1) (sub z c h2),λ y hy=>?_,λ y c z=>?_,I.ok.hd,I.ok.frames,.inl rfl,λ b hb=>?_,I.bs,C5 I.ok.bsz I.sz,λ b o e hb=>?_,λ b hb z=>?_,I.stack,I.stkFree⟩,
  rfl,I.bare,Un.kept old,⟨_,hns,λ i y v e1 e2 e3=>?_⟩,λ y c e=>?_,I.hok.fresh hC,λ y c e=>I.freeC y c (sub y c e),λ p hp=>?_,I.hok.kept old,?_⟩
 ·have hm:=jo ok.cell hy;exact gr X.env scope.names [] y hm
 ·exact absurd (show false=true from z) B2
 ·exact ⟨B9 (C1 (hfl b hb) hC),λ x c e=>(hf b hb).2.2.2.2.1 x c (sub x c e)⟩
 ·rcases (hf b hb).2.2.2.1 with z | z
  ·exact I.ok.noex b o e z
  ·exact absurd (C1 (A9 (I.ok.bs b o e).1) z) (E1 _)
 ·rcases List.mem_cons.mp (I.stkSub b z) with q | q
  ·exact (hf b hb).2.1 q
  ·exact (hf b hb).2.2.1 q
 ·have hi:own.length<=i:=by
   refine Nat.le_of_not_lt λ q=>?_;unfold bd at e2;rw [List.getElem?_append_left (by simpa using q),List.getElem?_replicate] at e2
   split at e2 <;> cases e2
  have e1':cs[i - own.length]? = some y:=by have e1:(own ++ cs)[i]? = some y:=e1;rwa [List.getElem?_append_right hi] at e1
  obtain ⟨j,hj,hN,hm⟩:=ok.caps _ y e1';have hk:=ok.free _ hm rfl;have e2':σ[j]? = some (some v):=by
   unfold bd at e2;rw [List.getElem?_append_right (by simpa using hi),List.length_replicate,List.getElem?_map,hj] at e2;have e2:(σ[j]?).join=some v:=by simpa using e2
   cases q:σ[j]? with
   | none=>rw [q] at e2; cases e2
   | some w=>rw [q] at e2; have:w=some v:=e2; rw [this]
  obtain ⟨m,hn,hl⟩:=I.loc;obtain ⟨u,ru,l⟩:=hl j y v hN e2' (by rcases hk with q | q; exact .inr (.inl q); exact .inr (.inr q));refine ⟨u,ru,.inr ?_⟩;obtain ⟨c,hc⟩:=gr X.env scope.names [] y hm;have hc':=sub y c hc;have cellu:h1.IsCell c (some u):=by
   rcases l with ⟨k,_⟩ | ⟨k,c',e,o,ho,hd⟩
   ·rcases hk with q | q <;> (have z:X.env.kindOf y=_:=q; rw [k] at z; cases z)
   ·rw [hc'] at e; cases e;exact ⟨o,old _ _ ho,hd⟩
  refine ⟨?_,c,hc,cellu⟩;rcases e3 with z | z | z
  ·exfalso;have key:∀names:List (Str×NameKind),True:=λ _=>trivial;have z:(relabel scope X.env).names.lookup y=some .local:=z;have zz:scope.names.lookup y=some .local:=by
    unfold relabel at z;dsimp only at z;revert z;generalize scope.names=names
    induction names with
    | nil=>intro z; simp at z
    | cons q r ih =>
     obtain ⟨n,k⟩:=q;intro z;rw [List.map_cons] at z
     by_cases hb:(k == NameKind.free && X.env.scope.kind == .function && X.env.kindOf n == some .cell)=true
     ·dsimp only at z;rw [if_pos hb,List.lookup_cons] at z;rw [List.lookup_cons];cases hx:y == n with
      | true=>rw [hx] at z; cases z
      | false=>rw [hx] at z; exact ih z
     ·dsimp only at z;rw [if_neg hb,List.lookup_cons] at z;rw [List.lookup_cons];cases hx:y == n with
      | true=>rw [hx] at z; exact z
      | false=>rw [hx] at z; exact ih z
   have:=ok.free2 y hm zz;exact this
  ·exact .inl z
  ·exact .inr z
 ·obtain ⟨v,o,ho,hd⟩:=I.cell y c (sub y c e);exact ⟨v,o,old _ _ ho,hd⟩
 ·have hp':p∈X.pn ++ pins:=by have:p∈(X.pn ++ pins) ++ []:=hp;simpa using this
  obtain ⟨e,n,ne,nf,d⟩:=I.pin p hp';refine ⟨old _ _ e,n,B9 (C1 (A9 e) hC),λ z=>?_,d⟩;rcases List.mem_cons.mp (I.stkSub p.1 z) with q | q
  ·exact ne q
  ·exact nf q
 ·show (bd σ cap own.length).length=(own ++ cs).length;unfold bd;rw [List.length_append,List.length_replicate,List.length_map,List.length_append,ok.len]
end
section
variable {X:Cx} {pins:List (Addr×Obj)} {σ:St} {H2:Hp} {s2:KB} {scope:Scope} {own cs:List Str} {cap:List Nat} {fp:List Addr} {it:Addr} {tn:Nat->Heap->Prop}
 {elt tg iter:Expr} {ifs:List Expr} {pos:Pos} {J:It} {g:TG} {tt:TT} {te:TE} {E:KG->KB->Prop} {W:Nat->Nat->List V->Hp->Prop} {Qf:List V->Hp->Prop}
structure BlkEnd (X:Cx) (pins:List (Addr×Obj)) (σ:St) (Qf:List V->Hp->Prop) (D C:Addr) (s':Shared):Prop where
 ex:∃ (ys:List V) (H':Hp),H' D=none/\Qf ys H'/\Inv X pins σ (upd H' D (.lst ys)) s'/\eZ X pins (upd H' D (.lst ys)) C
 ns:∃m,s'.heap.Ns C m
theorem Inv.bareP {pins':List (Addr×Obj)} {H:Hp} {s:KB} (I:Inv X pins' σ H s):Inv X [] σ H s:=I.pins_of λ p hp=>absurd hp (by simp)
theorem ko {RR:KG->Addr->Result->KB->Prop} (I:Inv X pins σ H2 s2) (ok:CompOk X scope own cs cap) (hc:X.calm=true) (T:Turn X.prog X.w X.K tg J fp it tn) (st:tn 0 s2.heap) (hf:∀b∈fp,eZ X pins H2 b)
  (hg:∀C,PG (aH X pins s2 H2 scope C (own ++ cs) fp) tg g) (hi:∀C,jq (aH X pins s2 H2 scope C (own ++ cs) fp) ifs tt) (he:∀C,PE (aH X pins s2 H2 scope C (own ++ cs) fp) elt te)
  (w0:∃m,W 0 m [] H2) (turn:fj σ cap own.length J g tt te Qf W)
  (hRR:∀D C s',BlkEnd X pins σ Qf D C s'->RR (.ref D) C (.ok .next) s') :
  wpAny (model X.prog X.w) X.A (newList []) (λ acc s₃=>wpAny (model X.prog X.w) X.A (newFunctionEnv scope X.env.globals (bg X.env scope.names []) [] X.env.qual none .none (some X.env)) (λ cenv s₄ =>
   codeAny (model X.prog X.w) X.A (.compStart (.ListComp elt [⟨tg,iter,ifs,0⟩] scope pos) 0 (.ref it) acc { cenv with scope:=relabel scope X.env }) (RR acc cenv.locals) s₄) E s₃) E s2:=by
 refine J0 (wpAny_newFunctionEnv ok.cell (by intro y hy; simp at hy) (λ h₁ hns₁ hsb₁=>?_) ok.kind);dsimp only at hns₁ hsb₁ ⊢;generalize hHH:s2.heap.push { cls:=.type "list",dict:=none,data:=.seq ([]:List KG).toArray }=HH at hns₁ hsb₁ ⊢;have hCs:HH.objs.size=s2.heap.objs.size + 1:=by rw [<- hHH,Heap.size_push]
 have hDC:s2.heap.objs.size≠HH.objs.size:=by rw [hCs]; exact B9 (G1 _)
 have hCle:s2.heap.objs.size<=HH.objs.size:=by rw [hCs]; exact Nat.le_succ _
 have hfl:∀b∈fp,b < s2.heap.objs.size:=λ b hb=>by obtain ⟨o,e,_⟩:=T.obj 0 _ st b hb;exact A9 e
 have old:∀b o,s2.heap.get? b=some o->h₁.get? b=some o:=λ b o e=>hsb₁.extBut b o (by rw [hCs]; exact B9 (Nat.lt_succ_of_lt (A9 e))) (A7 _ (hHH ▸ A7 _ e));have hacc:h₁.PlainList s2.heap.objs.size #[]:=⟨_,hsb₁.extBut _ _ hDC (A7 _ (hHH ▸ A8 _ rfl))⟩
 generalize hD:s2.heap.objs.size=D at *;generalize hCC:HH.objs.size=C at *;have hns₁':h₁.Ns C (λ _=>none):=hns₁;have I0:Inv (aH X pins s2 H2 scope C (own ++ cs) fp) [] (bd σ cap own.length) H2 { s2 with heap:=h₁,toks:=s2.toks + ([]:List (Str×KG)).length } :=
  iO I ok hf (λ b hb=>by rw [hD]; exact hfl b hb) (by rw [hD]; exact hCle) hns₁' old
 have Dfs:D∉frs X.stack:=λ hb=>by obtain ⟨_,o,ho,_⟩:=I.stack.mem hb;exact absurd (A9 ho) (by rw [hD]; exact E1 _)
 have Dfp:∀b∈fp,D≠b:=λ b hb z=>absurd (hfl b hb) (by rw [<- z]; exact E1 _);have clt:∀x c,(bg X.env scope.names []).lookup x=some c->c < D:=λ x c e=>by have e':=cw X.env scope.names [] x c (λ y hy e=>I.ok.has y.1 (ok.free y hy e)) (λ _ _ z=>by simp at z) e;obtain ⟨v,o,ho,_⟩:=I.cell x c e';have:=A9 ho;rw [hD] at this; exact this
 have plt:∀p∈X.pn ++ pins,p.1 < D:=λ p hp=>by have:=A9 (I.pin p hp).1;rw [hD] at this; exact this
 have stat:∀ {H':Hp} {ob:Obj},(∀b∈fp,H' b=none)->∀b∈fp,eZ (aH X pins s2 H2 scope C (own ++ cs) fp) [(D,ob)] H' b:=λ {H' ob} hn b hb=>by
  have q:=I0.ok.exf b hb;refine ⟨hn b hb,q.1,I0.ok.exfs b hb,.inl hb,q.2,λ p hp=>?_⟩;rcases C2.mp hp with z | z
  ·exact (hf b hb).2.2.2.2.2 p z
  ·have:p=(D,ob):=by simpa using z
   subst this;exact Dfp b hb
 have loop:codeAny (model X.prog X.w) X.A (.compLoop (.ListComp elt [⟨tg,iter,ifs,0⟩] scope pos) 0 (.ref it) (.ref D) (compEnvC scope (bg X.env scope.names []) C X.env)) (RR (.ref D) C)
   { s2 with heap:=h₁,toks:=s2.toks + ([]:List (Str×KG)).length }:=by
  obtain ⟨m0,w0⟩:=w0;refine codeAny_loop rfl (λ n s'=>∃i H' its ys,Inv (aH X pins s2 H2 scope C (own ++ cs) fp) [] (bd σ cap own.length) H' s'/\tn i s'.heap/\(∀b∈fp,H' b=none)/\s'.heap.PlainList D its.toArray/\Vals ys its/\H' D=none/\W i n ys H') ?_ m0
   ⟨0,H2,[],[],I0,T.keep 0 _ _ st λ b _ o e=>old b o e,λ b hb=>(hf b hb).1,hacc,.nil,I.hok.fresh (by rw [hD]; exact B3 _),w0⟩
  rintro n s3 ⟨i,H3,its,ys,I3,st3,fr3,⟨nn,pl3⟩,rv3,hD3,w3⟩;show wpAny _ X.A ((compTurn (.ListComp elt [⟨tg,iter,ifs,0⟩] scope pos) 0 (.ref it) (.ref D) (compEnvC scope (bg X.env scope.names []) C X.env)).onRaise (λ x=>do noteFrame x (compEnvC scope (bg X.env scope.names []) C X.env); theTreesLotGoes x)) _ _ s3;refine wpAny_noted ?_;rw [compTurn_list];refine A0 (wpAny_standAt (A0 ?_));have I3':Inv (aH X pins s2 H2 scope C (own ++ cs) fp) [(D, { cls:=.type "list", data:=.seq its.toArray nn })] (bd σ cap own.length) H3 s3 :=
   I3.pins_of λ p hp=>by
    have:p=(D,{ cls:=.type "list",data:=.seq its.toArray nn }):=by simpa using hp
    subst this;exact ⟨pl3,hD3,hDC,Dfs,λ v z=>by cases z⟩
  rcases turn i n ys H3 w3 with ⟨stop,hz,qf⟩ | ⟨go,hz,step⟩
  ·refine thn (T.done (aH X pins s2 H2 scope C (own ++ cs) fp) rfl rfl rfl hc i _ s3 _ H3 _ I3' (stat fr3) st3 stop) λ r s4 ⟨hr,I4⟩=>?_;subst hr;refine A1 (hRR D C s4 ⟨⟨ys,H3,hD3,qf,?_,?_⟩,?_⟩)
   ·have pl4:=(I4.pin (D,_) (A5 _ (E3.mpr rfl))).1;have u4:=I4.base;have Ds2:s2.heap.get? D=none:=Heap.get?_none_of_le (by rw [hD]; exact B3 _);refine I.call' (s':=s4) (ch:=fp) I4.os ⟨u4.keep,u4.slot,λ b o e n hx=>?_,u4.there,λ b xs e=>?_,λ b o u e=>?_,λ b ps e=>?_⟩ ?_ I4.bare λ b hb=>⟨(hf b hb).2.2.2.1,(hf b hb).2.1,(hf b hb).2.2.2.2.1,(hf b hb).2.2.2.2.2⟩
    ·rw [aj (λ z=>by rw [z,Ds2] at e; cases e)];exact u4.free b o e n hx
    ·have:=u4.tups b xs e;rw [aj (am this hD3)]; exact this
    ·have:=u4.frzs b o u e;rw [aj (am this hD3)]; exact this
    ·obtain ⟨more,e'⟩:=u4.tbls b ps e;exact ⟨more,by rw [aj (am e' hD3)]; exact e'⟩
    ·exact I4.hok.add hD3 ⟨hz,its,nn,rv3,pl4⟩
   ·have CH:(upd H3 D (.lst ys)) C=none:=by rw [aj (Ne.symm hDC)]; exact I4.free
    exact I.fpOk (H':=upd H3 D (.lst ys)) (by rw [hD]; exact hCle) CH
   ·obtain ⟨m,hn,_⟩:=I4.loc;exact ⟨m,hn⟩
  ·refine thn (T.item (aH X pins s2 H2 scope C (own ++ cs) fp) rfl rfl rfl hc i _ s3 _ H3 _ I3' (stat fr3) st3 go) λ r s4 ⟨u,hr,h4⟩=>?_;subst hr;refine A0 (thn h4 λ _ s5 ⟨x,H5,I5,r5,y5,st5,fr5⟩=>?_);have I5':=I5.pinned (stat fr5) (T.obj _ _ st5);refine A0 (wpAny_mono (hg C _ s5 _ H5 x u _ I5' r5 (step x H5 y5)) (λ _ s6 ⟨σ6,H6,I6,le6,q6⟩=>?_) λ _ _ z=>E8 z);refine A0 (wpAny_mono (hi C _ s6 σ6 H6 _ I6 q6) (λ b s7 ⟨H7,I7,q7⟩=>?_) λ _ _ z=>E8 z);have back:∀ {pins':List (Addr×Obj)} {H8:Hp} {s8:KB},Inv (aH X pins s2 H2 scope C (own ++ cs) fp) pins' σ6 H8 s8->Inv (aH X pins s2 H2 scope C (own ++ cs) fp) [] (bd σ cap own.length) H8 s8:=λ I8 =>
    I8.bareP.weak le6.1.symm λ i v e=>le6.2 i v e
   cases b with
   | false =>
    rw [if_neg Bool.false_ne_true] at q7;obtain ⟨m',hm,w7⟩:=q7;refine A1 ⟨rfl,m',hm,i + 1,H7,its,ys,back I7,T.keep _ _ _ st5 λ b hb o e=>?_,λ b hb=>?_,⟨nn,?_⟩,rv3,?_,w7⟩
    ·exact (I7.pin (b,o) (A5 _ (A5 _ (aT hb e)))).1
    ·obtain ⟨o,e,d⟩:=T.obj _ _ st5 b hb;exact (I7.pin (b,o) (A5 _ (A5 _ (aT hb e)))).2.1
    ·exact (I7.pin (D,_) (A5 _ (B6 _ (E3.mpr rfl)))).1
    ·exact (I7.pin (D,_) (A5 _ (B6 _ (E3.mpr rfl)))).2.1
   | true =>
    rw [if_pos rfl] at q7;refine A0 (A0 (wpAny_mono (he C _ s7 σ6 H7 _ I7 q7) (λ y s8 ⟨v,H8,I8,r8,m',hm,w8⟩=>?_) λ _ _ z=>E8 z));have pD:=I8.pin (D,{ cls:=.type "list",data:=.seq its.toArray nn }) (A5 _ (B6 _ (E3.mpr rfl)));have hlen:=rv3.length;refine A0 (wpAny_list_append_plain (hsz:=by rw [List.size_toArray]; omega) ⟨nn,pD.1⟩ λ h9 pl9 sb9=>A1 (A1 ?_));have I8':=back I8;refine ⟨Y,m',hm,i + 1,H8,its ++ [y],ys ++ [v],?_,T.keep _ _ _ st5 λ b hb o e=>?_,λ b hb=>?_,?_,rv3.append (.cons r8 .nil),pD.2.1,w8⟩
    ·exact I8'.turned (t':=s8.toks) (λ b o hb e=>sb9.extBut b o hb e) pD.2.1 hDC (.inr (by show s2.heap.objs.size<=D; rw [hD]; exact B3 _)) (λ x c e=>B9 (clt x c e)) λ p hp=>by
      have hp':p∈X.pn ++ pins:=by have:p∈(X.pn ++ pins) ++ []:=hp;simpa using this
      exact B9 (plt p hp')
    ·exact sb9.extBut b o (Ne.symm (Dfp b hb)) (I8.pin (b,o) (A5 _ (A5 _ (aT hb e)))).1
    ·obtain ⟨o,e,d⟩:=T.obj _ _ st5 b hb;exact (I8.pin (b,o) (A5 _ (A5 _ (aT hb e)))).2.1
    ·have e:its.toArray.push y=(its ++ [y]).toArray:=by simp
     rw [<- e]; exact pl9
 exact codeAny_compStart_list loop (T.self _ 0 _ _ _ (T.keep 0 _ _ st λ b _ o e=>old b o e) loop)
def su (wi:TI) (cap:List Nat) (k:Nat) (g:TG) (tt:TT) (te:TE):TE:=λ σ H Q=>wi σ H λ J H1 =>
 ∃W:Nat->Nat->List V->Hp->Prop,(∃m,W 0 m [] H1)/\fj σ cap k J g tt te (λ ys H'=>∀p,H' p=none->Q (.ref p) (upd H' p (.lst ys))) W
theorem dB {wi:TI} (hc:X.calm=true) (hit:PI X tg iter wi) (ok:CompOk X scope own cs cap)
  (hg:∀pins s2 H2 C fp,PG (aH X pins s2 H2 scope C (own ++ cs) fp) tg g) (hi:∀pins s2 H2 C fp,jq (aH X pins s2 H2 scope C (own ++ cs) fp) ifs tt) (he:∀pins s2 H2 C fp,PE (aH X pins s2 H2 scope C (own ++ cs) fp) elt te)
  (hs:∀x,foldedSetIterable iter X.env x=pure x:=by intro _; rfl):PE X (.ListComp elt [⟨tg,iter,ifs,0⟩] scope pos) (su wi cap own.length g tt te):=by
 intro pins s σ H Q I h;rw [eval_ListComp];refine wpAny_comprehension_free (use:=none) rfl hs (fu λ y hy e=>I.ok.has y.1 (ok.free y hy e)) ok.kind ok.names (thn (hit pins s σ H _ I h) λ v s1 h1=>thn h1 λ itv s2 h2=>?_);obtain ⟨it,fp,tn,J,H2,e,I2,T,st2,f2,W,w0,turn⟩:=h2;subst e;refine ko (RR:=λ acc C=>compPost (model X.prog X.w) X.A X.xe none (EP X pins σ Q) acc C) I2 ok hc T st2 f2 (λ C=>hg _ _ _ _ _) (λ C=>hi _ _ _ _ _) (λ C=>he _ _ _ _ _) w0 turn λ D C s' B=>?_;obtain ⟨⟨ys,H',hD,q,I',fp'⟩,m,hn⟩:=B;obtain ⟨f0,f1,f2',f3,f4,f5⟩:=fp';exact ⟨m,hn,λ h' sb=>⟨.ref D,_,I'.turned (t':=s'.toks) (λ b o hb e=>sb.extBut b o hb e) f0 f1 f3 f4 f5,Y,q D hD⟩⟩
theorem jr {wi:TI} {i:Nat} {y:Str} {py spos:Pos} (hc:X.calm=true) (hN:X.N.Nodup) (hiy:X.N[i]? = some y) (hy:X.env.scope.names.lookup y=some .local)
  (hsw:swapsWith (.ListComp elt [⟨tg,iter,ifs,0⟩] scope pos) (some (.Name y py)) spos.line X.env=pure true) (hit:PI X tg iter wi) (ok:CompOk X scope own cs cap)
  (hg:∀pins s2 H2 C fp,PG (aH X pins s2 H2 scope C (own ++ cs) fp) tg g) (hi:∀pins s2 H2 C fp,jq (aH X pins s2 H2 scope C (own ++ cs) fp) ifs tt) (he:∀pins s2 H2 C fp,PE (aH X pins s2 H2 scope C (own ++ cs) fp) elt te)
  (hs:∀x,foldedSetIterable iter X.env x=pure x:=by intro _; rfl):PS X (.Assign [.Name y py] (.ListComp elt [⟨tg,iter,ifs,0⟩] scope pos) spos) (xm (su wi cap own.length g tt te) (jY i)):=by
 intro pins s σ H D0 I h;rw [exec_Assign_Name_used _ _ _ _ hsw];refine A0 (wpAny_standAt (A0 ?_));show wpAny _ X.A (do let _<-comprehension (.ListComp elt [⟨tg,iter,ifs,0⟩] scope pos) scope X.env _ (newList []) false (eval iter X.env) (some (assign (.Name y py) X.env))) _ _ s;refine A0 (wpAny_mono (wpAny_comprehension_free (use:=some (assign (.Name y py) X.env)) (Q:=λ _ s'=>SP X pins D0 .next s') rfl hs (fu λ y hy e=>I.ok.has y.1 (ok.free y hy e)) ok.kind ok.names
  (thn (hit pins s σ H _ I h) λ v s1 h1=>thn h1 λ itv s2 h2=>?_)) (λ _ s' hq=>A1 (A1 hq)) λ _ _ e=>e)
 obtain ⟨it,fp,tn,J,H2,e,I2,T,st2,f2,W,w0,turn⟩:=h2;subst e;refine ko (RR:=λ acc C=>compPost (model X.prog X.w) X.A X.xe (some (assign (.Name y py) X.env)) (λ _ s'=>SP X pins D0 .next s') acc C) I2 ok hc T st2 f2 (λ C=>hg _ _ _ _ _) (λ C=>hi _ _ _ _ _) (λ C=>he _ _ _ _ _) w0 turn λ D C s' B=>?_;obtain ⟨⟨ys,H',hD,q,I',fp'⟩,m,hn⟩:=B;obtain ⟨f0,f1,f2',f3,f4,f5⟩:=fp';show wpAny _ X.A (assign (.Name y py) X.env (.ref D)) _ _ _;refine wpAny_assign_Name (iD I' hN hiy (.inl hy) (v:=.ref D) rfl (λ s3 I3 ⟨a,sb,ha⟩=>?_) (.inr hy));have hCa:C≠a:=by
  rcases ha with z | z
  ·rw [z]; exact f1
  ·exact λ q=>f4 y a z q.symm
 refine ⟨m,hn.sameBut sb hCa,λ h' sb'=>⟨_,_,I3.turned (t':=s3.toks) (λ b o hb e=>sb'.extBut b o hb e) f0 f1 f3 f4 f5,q D hD⟩⟩
end
def CDivB (i j:Int):Prop:=0 < j/\j<=10 ^ 60
theorem CDivB.np {i j:Int} (h:CDivB i j):Builtin.divisionGoesByPylong i j=false:=by
 refine PyProof.noPylong_of_log2 ?_;have h1:j.natAbs < 2 ^ 200:=by obtain ⟨a,b⟩:=h;omega
 have h2:j.natAbs.log2 < 200:=(Nat.log2_lt (by have:=h.1; omega)).mpr h1;omega
section
variable {X:Cx}
theorem sw:OpR X (binaryOp .FloorDiv) (rI CDivB λ i j=>.int (i / j)):=opI λ i j _ _ _ _ _ hc q=>by refine floordiv_int (by have:=hc.1; omega) ?_ (.inl hc.np);rw [Int.fdiv_eq_ediv_of_nonneg _ (by have:=hc.1; omega)];exact q
theorem Inv.kitx {pins:List (Addr×Obj)} {σ:St} {H:Hp} {s:KB} {x:V} {u t:KG} (I:Inv X pins σ H s) (rx:RelV x u) (ty:TyOf X.K H x t) :
  ∃P:Heap->Prop,PySem.W.KitX X.K u t P/\P s.heap/\u≠.builtin "__main__.__loader__#opaque" := by
 cases ty with
 | non=>cases (show u=Value.none from rx); exact ⟨_,PySem.W.kitx_none,True.intro,λ z=>nomatch z⟩
 | bl y=>cases (show u=Value.bool y from rx); exact ⟨_,PySem.W.kitx_bool,True.intro,λ z=>nomatch z⟩
 | int i=>obtain ⟨t,q⟩:=(show ∃t,u=Value.int i t from rx); cases q; exact ⟨_,PySem.W.kitx_int,True.intro,λ z=>nomatch z⟩
 | str y=>obtain ⟨t,q⟩:=(show ∃t,u=Value.str y t from rx); cases q; exact ⟨_,PySem.W.kitx_str,True.intro,λ z=>nomatch z⟩
 | flt y=>obtain ⟨t,q⟩:=(show ∃t,u=Value.float y t from rx); cases q; exact ⟨_,PySem.W.kitx_float,True.intro,λ z=>nomatch z⟩
 | @lst a xs ea =>
  cases (show u=Value.ref a from rx);obtain ⟨_,_,n,_,h1⟩:=(show ObjOk X.prog X.w H s.heap a (.lst xs) from I.hok a _ ea)
  exact ⟨_,PySem.W.kitx_list,⟨_,h1,Y⟩,λ z=>nomatch z⟩
 | @frz a ob xs ea =>
  cases (show u=Value.ref a from rx);obtain ⟨_,_,_,n,_,h1⟩:=(show ObjOk X.prog X.w H s.heap a (.frz ob (.lst xs)) from I.hok a _ ea)
  exact ⟨_,PySem.W.kitx_list,⟨_,h1,Y⟩,λ z=>nomatch z⟩
 | @tup a xs ea =>
  cases (show u=Value.ref a from rx);obtain ⟨_,_,_,p⟩:=(show ObjOk X.prog X.w H s.heap a (.tup xs) from I.hok a _ ea)
  obtain ⟨o,h1,h2,_⟩:=p;exact ⟨_,PySem.W.kitx_tuple,⟨o,h1,h2⟩,λ z=>nomatch z⟩
 | @dK a kvs ea =>
  cases (show u=Value.ref a from rx);obtain ⟨_,_,vs,_,p⟩:=(show ObjOk X.prog X.w H s.heap a (.dK kvs) from I.hok a _ ea)
  obtain ⟨o,es,ep,h1,h2,_⟩:=p;exact ⟨_,PySem.W.kitx_dict,⟨o,h1,h2.1⟩,λ z=>nomatch z⟩
 | @dT a kvs ea =>
  cases (show u=Value.ref a from rx);obtain ⟨_,_,xs,_,o,es,ep,h1,h2,_⟩:=(show ObjOk X.prog X.w H s.heap a (.dT kvs) from I.hok a _ ea)
  exact ⟨_,PySem.W.kitx_dict,⟨o,h1,h2.1⟩,λ z=>nomatch z⟩
 | @ins a C dx fs ea cl ha hn htk hm =>
  cases (show u=Value.ref a from rx);obtain ⟨mA,O,_⟩:=fE I.hok ea;obtain ⟨od,J,_⟩:=O.look;exact ⟨_,PySem.W.kitx_own (cl.get _) cl.hd ha hn htk hm,J,λ z=>nomatch z⟩
def clV:V->Option Value
 | .ty T=>some (.type T)
 | .ref C=>some (.ref C)
 | _=>none
theorem clV.rel {v:V} {u c:KG} (e:clV v=some c) (r:RelV v u):u=c:=by
 cases v with
 | ty T=>have e':Value.type T=c:=B8 e; rw [<- e']; exact r
 | ref C=>have e':Value.ref C=c:=B8 e; rw [<- e']; exact r
 | _=>cases e
def clVs:List V->Option (List KG)
 | []=>some []
 | v :: r=>match clV v,clVs r with
  | some c,some cs=>some (c :: cs)
  | _,_=>none
theorem clVs.rel:∀ {vs:List V} {us cs:List KG},clVs vs=some cs->Vals vs us->us=cs
 | [],_,_,e,.nil=>B8 e
 | v :: r,_,_,e,.cons r1 r2=>by
  unfold clVs at e
  split at e
  ·rename_i c cs' e1 e2
   cases e;rw [clV.rel e1 r1,clVs.rel e2 r2]
  ·cases e
theorem bX:cL X (.builtin "isinstance") (λ xs H Q=>∃x cv t c b,xs=[x,cv]/\TyOf X.K H x t/\clV cv=some c/\PySem.W.kitOne X.K t c=some b/\Q (.bl b) H):=by
 intro pins s σ H xs us Q I rv h;obtain ⟨x,cv,t,c,b,rfl,ty,e1,e2,q⟩:=h;cases rv with
 | cons r1 rr =>
  cases rr with
  | cons r2 rr =>
   cases rr;rw [clV.rel e1 r2];exact pZ I r1 ty e2 λ tk=>⟨.bl b,H,I.tok tk,Y,q⟩
theorem js:cL X (.builtin "isinstance") (λ xs H Q=>∃x p t cvs cs b,xs=[x,.ref p]/\TyOf X.K H x t/\H p=some (.tup cvs)/\clVs cvs=some cs/\PySem.W.kitAny X.K t cs=some b/\Q (.bl b) H):=by
 intro pins s σ H xs us Q I rv h;obtain ⟨x,p,t,cvs,cs,b,rfl,ty,hp,e1,e2,q⟩:=h;cases rv with
 | cons r1 rr =>
  cases rr with
  | cons r2 rr =>
   cases rr;cases r2;obtain ⟨_,its,rits,o,ho,hc,n,hd⟩:=I.hok p _ hp;obtain ⟨P,Z,p1,p2⟩:=I.kitx r1 ty;obtain ⟨oc,od,dt,osl⟩:=o
   replace hc:oc=.type "tuple" := hc
   replace hd:dt=.seq its.toArray n:=hd
   subst hc hd;have e3:=clVs.rel e1 rits;subst e3;exact PySem.W.kia_tup Z I.kIn p1 ho e2 p2 λ tk=>⟨.bl b,H,I.tok tk,Y,q⟩
end
mutual
inductive DatV (K:C4) (H:Hp):V->PyData->Prop
 | non:DatV K H .non .none
 | bl (b:Bool):DatV K H (.bl b) (.bool b)
 | int (i:Int):DatV K H (.int i) (.int i)
 | str (x:Str):DatV K H (.str x) (.str x)
 | lst {a:Addr} {xs:List V} {ds:List PyData}:SqL K H a xs->DatVs K H xs ds->DatV K H (.ref a) (.list ds)
 | tup {a:Addr} {xs:List V} {ds:List PyData}:SqT K H a xs->DatVs K H xs ds->DatV K H (.ref a) (.tuple ds)
inductive DatVs (K:C4) (H:Hp):List V->List PyData->Prop
 | nil:DatVs K H [] []
 | cons {x:V} {d:PyData} {xs:List V} {ds:List PyData}:DatV K H x d->DatVs K H xs ds->DatVs K H (x :: xs) (d :: ds)
end
section
variable {X:Cx} {pins:List (Addr×Obj)} {σ:St} {H:Hp} {s:KB}
mutual
theorem Inv.reads (I:Inv X pins σ H s):∀ {v:V} {d:PyData},DatV X.K H v d->∀ {u:KG},RelV v u->∃as,Reads s.heap u d as
 | _,_,.non,u,r=>by cases (show u=Value.none from r); exact ⟨_,.none⟩
 | _,_,.bl b,u,r=>by cases (show u=Value.bool b from r); exact ⟨_,.bool b⟩
 | _,_,.int i,u,r=>by obtain ⟨t,e⟩:=(show ∃t,u=Value.int i t from r); subst e; exact ⟨_,.int i t⟩
 | _,_,.str x,u,r=>by obtain ⟨t,e⟩:=(show ∃t,u=Value.str x t from r); subst e; exact ⟨_,.str x t⟩
 | _,_,.lst (a:=a) h hs,u,r=>by cases (show u=Value.ref a from r);obtain ⟨its,rv,⟨o,n,e,c,_,d⟩,_⟩:=I.list h;obtain ⟨as,ra⟩:=I.readsAll hs rv;exact ⟨_,.list e c d (by simpa using ra)⟩
 | _,_,.tup (a:=a) h hs,u,r=>by cases (show u=Value.ref a from r);obtain ⟨its,rv,⟨o,e,c,n,d⟩,_⟩:=I.tuple h;obtain ⟨as,ra⟩:=I.readsAll hs rv;exact ⟨_,.tuple e c d (by simpa using ra)⟩
theorem Inv.readsAll (I:Inv X pins σ H s):∀ {vs:List V} {ds:List PyData},DatVs X.K H vs ds->∀ {us:List KG},Vals vs us->∃as,ReadsAll s.heap us ds as
 | _,_,.nil,_,.nil=>⟨_,.nil⟩
 | _,_,.cons h hs,_,.cons r rs=>by obtain ⟨as,ra⟩:=I.reads h r;obtain ⟨bs,rb⟩:=I.readsAll hs rs;exact ⟨_,.cons ra rb⟩
end
end
section
variable {X:Cx}
theorem xz (hu:X.A.units + 64 < cLine):OpR X (compareOp .NotEq) (λ x y H Q=>∃da db,DatV X.K H x da/\DatV X.K H y db/\SeqAt.shaped da=true/\SeqAt.shaped db=true/\Q (.bl (!PyData.eqv da db)) H):=by intro pins s σ H x y v u Q I rx ry h;obtain ⟨da,db,hx,hy,s1,s2,q⟩:=h;obtain ⟨as,ra⟩:=I.reads hx rx;obtain ⟨bs,rb⟩:=I.reads hy ry;exact ne_dataH ra rb s1 s2 hu ⟨.bl _,H,I,rfl,q⟩
end
section
variable {prog:KC} {w:KF} {A:Around} {E:KG->KB->Prop}
theorem hI {it l:Addr} {items:Array KG} (hne:l≠it):∀ (n i:Nat) (s:KB) (Q:List KG->KB->Prop),s.heap.IsListIter it l i->s.heap.IsList l items->i + n<=items.size ->
  (∀h',h'.IsListIter it l (i + n)->Heap.SameBut it s.heap h'->Q ((items.toList.drop i).take n) { s with heap:=h' })->wpAny (model prog w) A (draw (.ref it) n) Q E s
 | 0,i,s,Q,hit,_,_,hQ=>by show wpAny _ _ (pure []) Q E s;exact A1 (by simpa using hQ s.heap hit (Heap.SameBut.refl ..))
 | n + 1,i,s,Q,hit,ht,hle,hQ=>by
  have hlt:i < items.size:=by omega
  show wpAny _ _ (pyNext (.ref it) >>= _) Q E s;refine A0 (wpAny_pyNext_list_item hit ht (x:=items[i]) (by simp [hlt]) λ h₁ hit₁ hs₁=>?_);refine A0 (wpAny_holding (hI hne n (i + 1) _ _ hit₁ (ht.extBut hs₁.extBut hne) (by omega) λ h₂ hit₂ hs₂=>A1 ?_));have hd:items.toList.drop i=items[i] :: items.toList.drop (i + 1):=by simp [List.drop_eq_getElem_cons,hlt]
  have q:=hQ h₂ (by rw [show i + (n + 1)=i + 1 + n by omega]; exact hit₂) (hs₁.trans hs₂);rw [hd,List.take_succ_cons] at q;exact q
theorem fI {s:KB} {l:Addr} {items:Array KG} {Q:List KG->KB->Prop} (hh:A.handled=none) (ht:s.heap.IsList l items)
  (hQ:∀h',Heap.ExtBut s.heap.objs.size s.heap h'->Q items.toList { s with heap:=h' }):wpAny (model prog w) A (unpackItems (.ref l) items.size none) Q E s:=by
 have hlt:l≠s.heap.objs.size:=by obtain ⟨o,ho,_⟩:=ht; exact B9 (A9 ho)
 have hp:(s.heap.push { cls:=.type "list_iterator",data:=.fields #[.ref l,.int 0 0] }).IsList l items:=by obtain ⟨o,ho,r⟩:=ht; exact ⟨o,A7 _ ho,r⟩
 unfold unpackItems;refine A0 ?_
 ·unfold notIterableAtAll;refine A0 (wpAny_specialOf ht.typeIs PySem.slot_list_iter.lookup ?_);refine A1 ?_;simp only [Bool.false_eq_true,if_false];refine A0 (wpAny_holding (wpAny_pyIter_list ht ?_));refine A0 (wpAny_holding (hI hlt items.size 0 _ _ ⟨_,A8 _ rfl,rfl,rfl⟩ hp (by omega) λ h₁ hit₁ hs₁=>?_));have hall:List.take items.size (List.drop 0 items.toList)=items.toList:=by rw [List.drop_zero]; exact List.take_of_length_le (by simp)
  rw [hall];rw [if_neg (by simp)];have ht₁:h₁.IsList l items:=hp.extBut hs₁.extBut hlt;refine A0 (wpAny_holding (wpAny_pyNext_list_end hh hit₁ ht₁ (by simp) λ h₂ he₂=>?_));simp only [Option.isSome_none,Bool.false_eq_true,if_false];refine A1 (hQ h₂ λ b o hb e=>he₂ b o hb (hs₁.extBut b o hb (A7 _ e)))
theorem fv {s:KB} {env:Env} {elts:List Expr} {x1} {pos:Pos} {l:Addr} {items:Array KG} {Q:Unit->KB->Prop} (hh:A.handled=none) (ht:s.heap.IsList l items)
  (hn:(assignEach elts env).length=items.size) (hstar:(assignEach elts env).findIdx? (·.1)=none)
  (h:∀h',Heap.ExtBut s.heap.objs.size s.heap h'->wpAny (model prog w) A (assignInOrder ((assignEach elts env).map (·.2)) items.toList) Q E { s with heap:=h' }) :
  wpAny (model prog w) A (assign (.Tuple elts x1 pos) env (.ref l)) Q E s:=by
 rw [assign_Tuple];refine A0 (wpAny_standAt ?_);unfold unpack;rw [hn,hstar];exact A0 (wpAny_holding (fI hh ht h))
end
section
variable {X:Cx} {pos:Pos}
def Hr (K:C4) (n:Nat) (t:TGs):TG:=λ v σ H Q=>∃a xs,v=.ref a/\(SqL K H a xs\/SqT K H a xs)/\xs.length=n/\t xs σ H Q
theorem lZ {es:List Expr} {k:Nat} {t:TGs} {n:Nat} (hc:X.calm=true) (h:PGs X es t)
  (hn:(assignEach es X.env).length=n:=by rfl) (hst:(assignEach es X.env).findIdx? (·.1)=none:=by rfl):PG X (.Tuple es k pos) (Hr X.K n t):=by
 intro pins s σ H v u Q I r hw;obtain ⟨a,xs,e1,hq,hl,hw⟩:=hw;rcases hq with hq | hq
 ·subst e1;cases r;obtain ⟨its,rv,ht,hz⟩:=I.list hq;refine fv (I.ok.hd hc) ht.isList (by simp [hn,<- hl,rv.length]) hst λ h' hx=>?_;have I1:Inv X pins σ H { s with heap:=h' }:=I.kept (t':=s.toks) λ b o e=>hx b o (B9 (A9 e)) e;exact h pins _ σ H xs _ Q I1 (by simpa using rv) hw
 ·exact aS hc h hn hst pins s σ H v u Q I r ⟨a,xs,e1,hq,hl,hw⟩
end
def Itz (l1 l2:Addr):It :=
  ⟨λ i H=>∃xs ys x y,H l1=some (.lst xs)/\H l2=some (.lst ys)/\xs[i]? = some x/\ys[i]? = some y,
   λ i H v H'=>∃p xs ys x y,H p=none/\v=.ref p/\H'=upd H p (.tup [x,y])/\H l1=some (.lst xs)/\H l2=some (.lst ys)/\xs[i]? = some x/\ys[i]? = some y,
   λ i H=>∃xs ys,H l1=some (.lst xs)/\H l2=some (.lst ys)/\(xs.length<=i\/ys.length<=i)⟩
section
variable {X:Cx}
theorem Inv.turnedN {pins:List (Addr×Obj)} {σ:St} {H:Hp} {s:KB} {h':Heap} {t':Nat} {ch:List Addr} (I:Inv X pins σ H s) (hf:∀b∈ch,eZ X pins H b) (k:∀b o,b∉ch->s.heap.get? b=some o->h'.get? b=some o):Inv X pins σ H { s with heap:=h',toks:=t' }:=by
 have hLc:X.env.locals∉ch:=λ z=>(hf _ z).2.1 rfl;have nt:∀b u,H b=some u->b∉ch:=λ b u e z=>by rw [(hf b z).1] at e; cases e
 refine I.step (g':=s.gens) (d':=s.drawn) (ch:=ch) (λ b hb=>⟨(hf b hb).2.2.2.1,(hf b hb).2.1,(hf b hb).2.2.2.2.1,(hf b hb).2.2.2.2.2⟩) (λ b o _ _ hc e _=>k b o hc e) (λ b o _ _ hc e _=>⟨o.slots,k b o hc e⟩) (λ _ _ _ _ n=>n)
  (λ b o hc e=>⟨o,k b o hc e⟩) (λ _ _ e=>e) (λ _ _ _ e=>e) (λ b ps e=>⟨#[],by rw [e]; simp⟩) (λ m hm=>?_) (λ b u e=>?_) I.bare
 ·obtain ⟨o,es,ep,ho,r⟩:=hm;exact ⟨o,es,ep,k _ o hLc ho,r⟩
 ·refine (I.hok b u e).stay (λ c v hc q=>k c v ?_ q) (λ _ q=>q) λ _ _ q=>q;rcases hc with z | z
  ·rw [z]; exact nt b u e
  ·exact nt c _ z
theorem Inv.track {pins:List (Addr×Obj)} {σ:St} {H:Hp} {s:KB} {a:Addr} {o:HO} (I:Inv X pins σ H s) (hf:eZ X pins H a) (fa:X.s₀.heap.objs.size<=a) (new:ObjOk X.prog X.w (upd H a o) s.heap a o):Inv X pins σ (upd H a o) s:=by
 obtain ⟨f0,f1,f2,f3,f4,f5⟩:=hf;have s0:∀b o,X.s₀.heap.get? b=some o->b≠a:=λ b o e=>B9 (C1 (A9 e) fa);refine ⟨I.ok,I.os,I.bare,⟨I.base.keep,I.base.slot,λ b o e n hx=>?_,I.base.there,λ b xs e=>?_,λ b o u e=>?_,λ b ps e=>?_⟩,I.loc,I.cell,?_,λ x c e=>?_,λ p hp=>?_,I.hok.add f0 new,I.len⟩
 ·rw [aj (s0 b o e)]; exact I.base.free b o e n hx
 ·have q:=I.base.tups b xs e;rw [aj (am q f0)]; exact q
 ·have q:=I.base.frzs b o u e;rw [aj (am q f0)]; exact q
 ·obtain ⟨more,q⟩:=I.base.tbls b ps e;exact ⟨more,by rw [aj (am q f0)]; exact q⟩
 ·rw [aj (Ne.symm f1)]; exact I.free
 ·rw [aj (f4 x c e)]; exact I.freeC x c e
 ·obtain ⟨e,n,r⟩:=I.pin p hp;exact ⟨e,by rw [aj (f5 p hp)]; exact n,r⟩
end
structure ZipAp (z TI TO i1 i2:Addr):Prop where
 nd:[z,TI,TO,i1,i2].Nodup
theorem sC {P:KC} {w:KF} {K:C4} {es:List Expr} {kk:Nat} {tp:Pos} (l1 l2 z TI TO i1 i2:Addr) (D:ZipAp z TI TO i1 i2) :
  Turn P w K (.Tuple es kk tp) (Itz l1 l2) [z,TI,TO,i1,i2] z (λ i h=>IsZip h z TI TO .none/\IsPair h TI (.ref i1) (.ref i2)/\(∃a b,IsPair h TO a b)/\h.IsListIter i1 l1 i/\h.IsListIter i2 l2 i) where
 mem:=by simp
 obj:=λ i h st b hb=>by
  obtain ⟨a1,a2,⟨x,y,a3⟩,⟨o4,a4,_,d4⟩,⟨o5,a5,_,d5⟩⟩:=st;simp only [List.mem_cons,List.not_mem_nil,or_false] at hb;rcases hb with rfl | rfl | rfl | rfl | rfl
  ·exact ⟨_,a1,λ v q=>by cases q⟩
  ·exact ⟨_,a2,λ v q=>by cases q⟩
  ·exact ⟨_,a3,λ v q=>by cases q⟩
  ·exact ⟨_,a4,λ v q=>by rw [d4] at q; cases q⟩
  ·exact ⟨_,a5,λ v q=>by rw [d5] at q; cases q⟩
 keep:=λ i h h' st k=>by obtain ⟨a1,a2,⟨x,y,a3⟩,a4,a5⟩:=st;exact ⟨k z (by simp) _ a1,k TI (by simp) _ a2,⟨x,y,k TO (by simp) _ a3⟩,a4.at λ o e=>k i1 (by simp) o e,a5.at λ o e=>k i2 (by simp) o e⟩
 item:=by
  intro X hP hw hK hc i pins s σ H E I hf st hg;subst hP hw hK;obtain ⟨a1,a2,⟨x0,y0,a3⟩,a4,a5⟩:=st;obtain ⟨xs,ys,x,y,e1,e2,ex,ey⟩:=hg;have tr:∀ {l:Addr} {zs:List V},H l=some (.lst zs)->∀b∈[z,TI,TO,i1,i2],l≠b:=λ e b hb q=>by rw [q,(hf b hb).1] at e; cases e
  have nd:=D.nd;simp only [List.nodup_cons,List.mem_cons,List.not_mem_nil,or_false,not_or,List.nodup_nil,and_true,not_false_eq_true] at nd;obtain ⟨⟨n1,n2,n3,n4⟩,⟨n5,n6,n7⟩,⟨n8,n9⟩,n10⟩:=nd;have A':ZipApart z TI TO i1 i2 l1 l2:=⟨Ne.symm n1,Ne.symm n2,Ne.symm n3,Ne.symm n4,n5,n6,n7,n8,n9,n10,tr e1 z (by simp),tr e1 TO (by simp),tr e1 i1 (by simp),tr e1 i2 (by simp),tr e2 z (by simp),tr e2 TO (by simp),tr e2 i1 (by simp),tr e2 i2 (by simp)⟩
  obtain ⟨its1,rv1,p1,_⟩:=I.list (KJ e1);obtain ⟨its2,rv2,p2,_⟩:=I.list (KJ e2);obtain ⟨u1,hu1,r1⟩:=rv1.get ex;obtain ⟨u2,hu2,r2⟩:=rv2.get ey;refine wpAny_pyNext_zip_item A' a1 a2 a3 a4 a5 p1.isList p2.isList (x:=u1) (y:=u2) (by simpa using hu1) (by simpa using hu2) λ h' b1 b2 b3 b4 b5 b6 bk=>⟨_,Y,?_⟩
  refine wpAny_letOwnedTupleGo_zip b1 λ h'' c1 cs=>?_;have zs:z < s.heap.objs.size:=A9 a1;have k2:∀b o,b∉[z,TI,TO,i1,i2]->s.heap.get? b=some o->h''.get? b=some o:=λ b o hb e=>by simp only [List.mem_cons,List.not_mem_nil,or_false,not_or] at hb;exact cs.extBut b o hb.1 (bk b o hb.1 hb.2.2.1 hb.2.2.2.1 hb.2.2.2.2 e)
  have I1:Inv X pins σ H { s with heap:=h'' }:=I.turnedN (t':=s.toks) hf k2;have hp:h''.get? s.heap.objs.size=some { cls:=.type "tuple", data:=.seq #[u1, u2] }:=cs.extBut _ _ (Nat.ne_of_gt zs) b5;have hn:H s.heap.objs.size=none:=I.hok.fresh (B3 _);have fpk:=I.fpOk (H':=H) (B3 _) hn;have I2:Inv X pins σ (upd H s.heap.objs.size (.tup [x,y])) { s with heap:=h'' }:=I1.track fpk I.sz ⟨by show 2<=sizeLine; decide,[u1,u2],.cons r1 (.cons r2 .nil),_,hp,Y,_,Y⟩;refine ⟨.ref s.heap.objs.size,_,I2,Y,⟨_,xs,ys,x,y,hn,Y,Y,e1,e2,ex,ey⟩,⟨c1,?_,⟨u1,u2,cs.extBut _ _ (Ne.symm n2) b2⟩,b3.extBut cs.extBut (Ne.symm n3),b4.extBut cs.extBut (Ne.symm n4)⟩,λ b hb=>?_⟩
  ·exact cs.extBut _ _ (Ne.symm n1) (bk _ _ (Ne.symm n1) n5 n6 n7 a2)
  ·have hbl:b < s.heap.objs.size:=by
    simp only [List.mem_cons,List.not_mem_nil,or_false] at hb;obtain ⟨o4,a4',_⟩:=a4;obtain ⟨o5,a5',_⟩:=a5;rcases hb with rfl | rfl | rfl | rfl | rfl
    ·exact zs
    ·exact A9 a2
    ·exact A9 a3
    ·exact A9 a4'
    ·exact A9 a5'
   rw [aj (Nat.ne_of_lt hbl)];exact (hf b hb).1
 done:=by
  intro X hP hw hK hc i pins s σ H E I hf st hg;subst hP hw hK;obtain ⟨a1,a2,⟨x0,y0,a3⟩,a4,a5⟩:=st;obtain ⟨xs,ys,e1,e2,ex⟩:=hg;have tr:∀ {l:Addr} {zs:List V},H l=some (.lst zs)->∀b∈[z,TI,TO,i1,i2],l≠b:=λ e b hb q=>by rw [q,(hf b hb).1] at e; cases e
  have nd:=D.nd;simp only [List.nodup_cons,List.mem_cons,List.not_mem_nil,or_false,not_or,List.nodup_nil,and_true,not_false_eq_true] at nd;obtain ⟨⟨n1,n2,n3,n4⟩,⟨n5,n6,n7⟩,⟨n8,n9⟩,n10⟩:=nd;have A':ZipApart z TI TO i1 i2 l1 l2:=⟨Ne.symm n1,Ne.symm n2,Ne.symm n3,Ne.symm n4,n5,n6,n7,n8,n9,n10,tr e1 z (by simp),tr e1 TO (by simp),tr e1 i1 (by simp),tr e1 i2 (by simp),tr e2 z (by simp),tr e2 TO (by simp),tr e2 i1 (by simp),tr e2 i2 (by simp)⟩
  obtain ⟨its1,rv1,p1,_⟩:=I.list (KJ e1);obtain ⟨its2,rv2,p2,_⟩:=I.list (KJ e2);have l1':=rv1.length;have l2':=rv2.length;refine wpAny_pyNext_zip_end (I.ok.hd hc) A' a1 a2 a3 a4 a5 p1.isList p2.isList (by rcases ex with q | q; exact .inl (by simp; omega); exact .inr (by simp; omega)) λ h' bk=>⟨Y,?_⟩
  exact I.turnedN (t':=s.toks) hf λ b o hb e=>by simp only [List.mem_cons,List.not_mem_nil,or_false,not_or] at hb;exact bk b o hb.1 hb.2.2.1 hb.2.2.2.1 hb.2.2.2.2 e
 self:=λ _ _ _ _ _ st h=>wpAny_pyIter_zip st.1 h
def Hs (ta:TA):TI:=λ σ H R=>ta σ H λ vs H1=>∃l1 l2 xs ys,vs=[.ref l1,.ref l2]/\H1 l1=some (.lst xs)/\H1 l2=some (.lst ys)/\R (Itz l1 l2) H1
theorem xA {X:Cx} {a b:Expr} {ta:TA} {p pos tp:Pos} {es:List Expr} {kk:Nat} (hg:Gl X "zip") (hm:X.mg "zip" = none) (ha:PA X [a,b] ta)
  (hs:starEach [a,b] X.env=[(false,eval a X.env),(false,eval b X.env)]:=by rfl) (hs2:starEach [b] X.env=[(false,eval b X.env)]:=by rfl) :
  PI X (.Tuple es kk tp) (.Call (.Name "zip" p) [a,b] [] pos) (Hs ta):=by
 intro pins s σ H R I h;refine Call_ (dW I hg hm PyProof.Rows.boot_zip (PyProof.Rows.callWith_type1 (thn (ha pos pins s σ H _ I h) λ us s1 ⟨vs,H1,I1,r1,q1⟩=>?_) (by rw [hs,hs2]) (by rw [hs2]; rfl)));obtain ⟨l1,l2,xs,ys,rfl,e1,e2,q⟩:=q1;cases r1 with
 | cons r rr =>
  cases rr with
  | cons r' rr =>
   cases rr;cases r;cases r';obtain ⟨its1,rv1,p1,_⟩:=I1.list (KJ e1);obtain ⟨its2,rv2,p2,_⟩:=I1.list (KJ e2);refine call_zip_2 p1.isList p2.isList λ h' z1 z2 z3 z4 z5 sz keep=>?_;have I2:Inv X pins σ H1 { s1 with heap:=h' }:=I1.kept (t':=s1.toks) keep;refine wpAny_pyIter_zip z1 ⟨s1.heap.objs.size + 4,[s1.heap.objs.size + 4,s1.heap.objs.size + 2,s1.heap.objs.size + 3,s1.heap.objs.size,s1.heap.objs.size + 1],_,_,H1,rfl,I2,sC l1 l2 _ _ _ _ _ ⟨by simp⟩,⟨z1,z2,⟨_,_,z3⟩,z4,z5⟩,λ b hb=>?_,q⟩;have hb':s1.heap.objs.size<=b:=by simp only [List.mem_cons,List.not_mem_nil,or_false] at hb;rcases hb with rfl | rfl | rfl | rfl | rfl <;> omega
   exact I1.fpOk hb' (I1.hok.fresh hb')
end L2
namespace L2
open PySem PySem.Spec PyProof.Rows
def Dn (P:KC) (w:KF) (K:C4) (mg:Str->Option KG) (base:Heap) (x:Str) (ps:List Str) (k:Nat) (sp:Sp):Prop :=
 ∃ (f:Addr) (fd:KD),FnOk P w K mg base CX0 k f fd ps sp/\Binds K fd ps []/\PySem.W.keepIn K (.ref f)=true/\mg x=some (.ref f)
theorem aq {X:Cx} {k:Nat} {ps:List Str} {sp:Sp} {x:Str} {p pos:Pos} {e:Expr} {es:List Expr} {t:TA} (D:Dn X.prog X.w X.K X.mg X.base x ps k sp) (hr:Room k X.A) (hg:Gl X x) (ha:PA X (e :: es) t)
  (hdb:(x == ("__debug__" : Str))=false:=by decide) (he:starEach (e :: es) X.env=(false,eval e X.env) :: starEach es X.env:=by rfl) (hpl:(backTo pos (starEach es X.env)).any (·.1)=false:=by rfl) :
  PE X (.Call (.Name x p) (e :: es) [] pos) (wR sp [] E0 t):=by
 obtain ⟨f,fd,F,hb,hk,hm⟩:=D;exact vb F hr hg hm hk hb .nil oz ha hdb he hpl
def oA (sc:Scope) (N:List Str) (scope:Scope) (own cs:List Str) (cap:List Nat):Bool :=
 decide (scope.kind=.function) && scope.names.all (λ y=>decide (y.2≠.cell)) && scope.names.all (λ y=>decide (y.2=.local->scope.names.lookup y.1=some .local)) &&
 scope.names.all (λ y=>decide (y.2=.free->sc.names.lookup y.1=some .cell\/sc.names.lookup y.1=some .free)) && own.all (λ y=>decide (scope.names.lookup y=some .local)) &&
 decide (cs.length=cap.length) && (cs.zip cap).all (λ y=>decide (N[y.2]? = some y.1) && decide ((y.1,NameKind.free)∈scope.names)) && scope.names.all (λ y=>decide (y.2=.free->scope.names.lookup y.1≠some .local))
theorem bv {X:Cx} {sc:Scope} {N:List Str} {scope:Scope} {own cs:List Str} {cap:List Nat} (h1:X.env.scope=sc) (h2:X.N=N) (h:oA sc N scope own cs cap=true):CompOk X scope own cs cap:=by
 subst h1 h2;unfold oA at h;simp only [Bool.and_eq_true,List.all_eq_true,decide_eq_true_eq] at h;obtain ⟨⟨⟨⟨⟨⟨⟨a1,a2⟩,a3⟩,a4⟩,a5⟩,a6⟩,a7⟩,a8⟩:=h;refine ⟨a1,a2,a3,a4,λ i y e=>?_,a5,a6,λ y hy e=>a8 _ hy rfl e⟩;have hi:i < cs.length:=(A6.mp e).1;have hj:i < cap.length:=by rw [<- a6]; exact hi
 refine ⟨cap[i],G2 hj,?_⟩;have hm:(y,cap[i])∈cs.zip cap:=by
  have:(cs.zip cap)[i]? = some (y,cap[i]):=by rw [List.getElem?_zip_eq_some];exact ⟨e,G2 hj⟩
  exact B5 this
 exact a7 _ hm
theorem bS {σ:St} {H:Hp} {A B:Hp->Prop} (h:A H):Da σ H (λ ok H3=>if ok=true then A H3 else B H3):=by show (if (true:Bool)=true then A H else B H);rw [if_pos rfl];exact h
section
variable {X:Cx} {tg:Expr}
def xB (K:C4) (tl:TE):TI:=λ σ H R=>wM K tl σ H R\/CM K tl σ H R
theorem sD {l:Expr} {tl:TE} (hl:PE X l tl):PI X tg l (xB X.K tl):=by
 intro pins s σ H R I h;rcases h with h | h
 ·exact bq hl pins s σ H R I h
 ·exact lN hl pins s σ H R I h
end
def aN:List String:=["NoneType","bool","int","str","list","tuple","dict"]
theorem vm {K:C4}:∀T∈aN,PySem.W.kitOne K (.type T) (.type "int")=some (T == "int" || T == "bool"):=by intro T h;simp only [aN,List.mem_cons,List.not_mem_nil,or_false] at h;rcases h with rfl | rfl | rfl | rfl | rfl | rfl | rfl <;> kernel_rfl
theorem kq {K:C4}:∀T∈aN,PySem.W.kitOne K (.type T) (.type "bool")=some (T == "bool"):=by intro T h;simp only [aN,List.mem_cons,List.not_mem_nil,or_false] at h;rcases h with rfl | rfl | rfl | rfl | rfl | rfl | rfl <;> kernel_rfl
theorem sE {K:C4}:∀T∈aN,PySem.W.kitOne K (.type T) (.type "list")=some (T == "list"):=by intro T h;simp only [aN,List.mem_cons,List.not_mem_nil,or_false] at h;rcases h with rfl | rfl | rfl | rfl | rfl | rfl | rfl <;> kernel_rfl
theorem qh {K:C4}:∀T∈aN,PySem.W.kitOne K (.type T) (.type "tuple")=some (T == "tuple"):=by intro T h;simp only [aN,List.mem_cons,List.not_mem_nil,or_false] at h;rcases h with rfl | rfl | rfl | rfl | rfl | rfl | rfl <;> kernel_rfl
theorem dC {K:C4}:∀T∈aN,PySem.W.kitOne K (.type T) (.type "str")=some (T == "str"):=by intro T h;simp only [aN,List.mem_cons,List.not_mem_nil,or_false] at h;rcases h with rfl | rfl | rfl | rfl | rfl | rfl | rfl <;> kernel_rfl
theorem vn {K:C4}:∀T∈aN,PySem.W.kitAny K (.type T) [.type "list",.type "tuple"]=some (T == "list" || T == "tuple"):=by
 intro T h;have h1:=sE (K:=K) T h;have h2:=qh (K:=K) T h;unfold PySem.W.kitAny;rw [h1];cases e:(T == "list") with
 | true=>rfl
 | false =>
  show PySem.W.kitAny K (.type T) [.type "tuple"]=_;unfold PySem.W.kitAny;rw [h2];cases e2:(T == "tuple") <;> rfl
def Ty (K:C4) (H:Hp) (x:V) (T:String):Prop:=T∈aN/\TyOf K H x (.type T)
theorem Ty.int {K:C4} {H:Hp} {i:Int}:Ty K H (.int i) "int" := ⟨by simp [aN],.int i⟩
theorem Ty.bl {K:C4} {H:Hp} {b:Bool}:Ty K H (.bl b) "bool" := ⟨by simp [aN],.bl b⟩
theorem Ty.non {K:C4} {H:Hp}:Ty K H .non "NoneType" := ⟨by simp [aN],.non⟩
theorem Ty.str {K:C4} {H:Hp} {x:Str}:Ty K H (.str x) "str" := ⟨by simp [aN],.str x⟩
theorem Ty.lst {K:C4} {H:Hp} {a:Addr} {xs:List V} (e:H a=some (.lst xs)):Ty K H (.ref a) "list" := ⟨by simp [aN],.lst e⟩
theorem Ty.tup {K:C4} {H:Hp} {a:Addr} {xs:List V} (e:H a=some (.tup xs)):Ty K H (.ref a) "tuple" := ⟨by simp [aN],.tup e⟩
theorem Ty.dK {K:C4} {H:Hp} {a:Addr} {xs:List (Key×V)} (e:H a=some (.dK xs)):Ty K H (.ref a) "dict" := ⟨by simp [aN],.dK e⟩
def aQ:V->Int->Bool
 | .int i,l=>decide (l<=i)
 | _,_=>false
def qi:V->Bool
 | .bl _=>true
 | _=>false
theorem xC {K:C4} {H:Hp} {x:V} {T:String} (t:TyOf K H x (.type T)) (h:T∈aN):(T == "int")=true->∃i,x=.int i:=by
 intro e;have e':T = "int" := by simpa using e
 subst e';generalize hv:Value.type "int" = tv at t;cases t with
 | int i=>exact ⟨i,Y⟩
 | _=>exact absurd hv (by simp)
theorem oB {K:C4} {H:Hp} {x:V} {T:String} (t:TyOf K H x (.type T)):(T == "bool")=qi x:=by
 generalize hv:Value.type T=tv at t;cases t with
 | bl b=>cases hv; rfl
 | non=>cases hv; rfl
 | int i=>cases hv; rfl
 | str i=>cases hv; rfl
 | flt i=>cases hv; rfl
 | lst i=>cases hv; rfl
 | frz i=>cases hv; rfl
 | tup i=>cases hv; rfl
 | dK i=>cases hv; rfl
 | dT i=>cases hv; rfl
 | ins=>cases hv
end L2
local macro_rules|`($a ^^^ $b)=>`(@L2.aa _ _ _ _ _ $a $b rfl)
namespace Pc
open PySem L2
structure Pot (a b:Int):Prop where
 a0:0<=a
 b0:0<=b
 b1:b < 2147483629
def PotAt (H:Hp) (p:Addr):Prop:=∃a b,Pot a b/\H p=some (.lst [.int a,.int b])
def But (p:Addr) (H H':Hp):Prop:=∀b o,b≠p->H b=some o->H' b=some o
theorem But.refl {p:Addr} {H:Hp}:But p H H:=λ _ _ _ e=>e
theorem But.trans {p:Addr} {H H1 H2:Hp} (a:But p H H1) (b:But p H1 H2):But p H H2:=λ c o n e=>b c o n (a c o n e)
theorem But.upd {p:Addr} {H:Hp} {o:HO}:But p H (upd H p o):=λ b u n e=>by rw [aj n]; exact e
theorem But.new {p q:Addr} {H:Hp} {o:HO} (h:H q=none):But p H (L2.upd H q o):=λ b u n e=>by rw [aj (am e h)]; exact e
theorem PotAt.new {p q:Addr} {H:Hp} {o:HO} (x:PotAt H p) (h:H q=none):PotAt (L2.upd H q o) p:=by obtain ⟨a,b,h1,h2⟩:=x;exact ⟨a,b,h1,by rw [aj (am h2 h)]; exact h2⟩
theorem PotAt.some {p:Addr} {H:Hp} (x:PotAt H p):H p≠none:=by obtain ⟨a,b,_,h⟩:=x;rw [h]; exact λ z=>nomatch z
structure Kd where
 w:Int
 h:Int
 wo:Int
 wa:Int
 tu:Bool
def kdV (k:Kd):List V:=[.int k.w,.int k.h,.int k.wo,.int k.wa,.bl k.tu]
structure Good (k:Kd):Prop where
 w:1<=k.w
 h:1<=k.h
 wo:0<=k.wo
 wa:0<=k.wa
 w':k.w < 10 ^ 60
 h':k.h < 10 ^ 60
 wo':k.wo < 10 ^ 60
 wa':k.wa < 10 ^ 60
def wV (H:Hp) (v:V) (k:Kd):Prop:=∃a,v=.ref a/\H a=some (.tup (kdV k))
def Db (H:Hp) (v:V) (k:Kd):Prop:=∃a,v=.ref a/\H a=some (.lst (kdV k))
def RowAt (H:Hp) (v:V) (k:Kd):Prop:=wV H v k\/Db H v k
abbrev Tups (H:Hp):List V->List Kd->Prop:=Paired (wV H)
theorem Tups.keep {H H':Hp} (k:∀b xs,H b=some (.tup xs)->H' b=some (.tup xs)):∀ {xs:List V} {ks:List Kd},Tups H xs ks->Tups H' xs ks:=λ r =>
 KK r λ v kd ⟨a,e,h⟩=>⟨a,e,k a _ h⟩
def sG (K:C4):Sp:=λ vs H Q _=>∃ (a:Addr) (ns:List Int) (n:Int),vs=[.ref a,.int n]/\SqL K H a (ns.map V.int)/\0<=n/\n<=1000/\ns.length<=63 /\
 ∀ (p:Addr) (H':Hp),H p=none->PotAt H' p->Same H H'->Q (.ref p) H'
def gs:Sp:=λ vs H Q _=>∃ (p:Addr) (m:Int),vs=[.ref p,.int m]/\PotAt H p/\0 < m/\m<=10 ^ 60/\∀ (r:Int) (H':Hp),0<=r->r < m->PotAt H' p->But p H H'->Q (.int r) H'
def fJ:Sp:=λ vs H Q _=>∃ (p:Addr) (l:Int),vs=[.ref p,.int l]/\PotAt H p/\0<=l/\l<=1/\∀ (n:Int) (H':Hp),l<=n->n < 10 ^ 60->PotAt H' p->But p H H'->Q (.int n) H'
structure ToldAt (H:Hp) (t l:Addr) (bl:Int) (xs:List V) (ks:List Kd):Prop where
 t:H t=some (.tup [.int bl,.ref l])
 l:H l=some (.lst xs)
 r:Tups H xs ks
 b0:0<=bl
 b1:bl < 10 ^ 60
 g:∀k∈ks,Good k
 n0:1<=xs.length
 n1:xs.length<=8
def bU (K:C4):Sp:=λ vs H Q _=>∃ (x:V) (T:String) (l:Int),vs=[x,.int l]/\Ty K H x T/\Q (.bl (aQ x l)) H
def gF (K:C4):Sp:=λ vs H Q _=>∃ (x:V) (T:String),vs=[x]/\Ty K H x T/\Q (.bl (qi x)) H
def kr (K:C4):Sp:=λ vs H Q _=>∃ (x:V) (T:String), vs=[x]/\Ty K H x T/\∀H', Same H H'->Q (.bl (T == "list" || T == "tuple")) H'
def iP:List V->Bool
 | [w,h,wo,wa,tu]=>aQ w 1 && aQ h 1 && aQ wo 0 && aQ wa 0 && qi tu
 | _=>false
def fK (K:C4):Sp:=λ vs H Q _=>∃ (x:V) (T:String),vs=[x]/\Ty K H x T /\ 
 ((T ≠ "list" /\ T ≠ "tuple" /\ ∀H', Same H H'->Q (.bl false) H')\/∃ (a:Addr) (xs:List V), x=.ref a/\(H a=some (.lst xs)\/H a=some (.tup xs))/\(∀y∈xs, ∃U, Ty K H y U)/\∀H', Same H H'->Q (.bl (iP xs)) H')
theorem hJ {k:Kd} (g:Good k):iP (kdV k)=true:=by
 show (decide (1<=k.w) && decide (1<=k.h) && decide (0<=k.wo) && decide (0<=k.wa) && true)=true;rw [decide_eq_true g.w,decide_eq_true g.h,decide_eq_true g.wo,decide_eq_true g.wa]
 rfl
theorem Ty.same {K:C4} {H H':Hp} {x:V} {T:String} (s:Same H H') (t:Ty K H x T):Ty K H' x T:=by
 refine ⟨t.1,?_⟩;have t2:=t.2;generalize hv:Value.type T=tv at t2 ⊢;cases t2 with
 | non=>exact .non
 | bl b=>exact .bl b
 | int b=>exact .int b
 | str b=>exact .str b
 | flt b=>exact .flt b
 | lst e=>exact .lst (s _ _ e)
 | frz e=>exact .frz (s _ _ e)
 | tup e=>exact .tup (s _ _ e)
 | dK e=>exact .dK (s _ _ e)
 | dT e=>exact .dT (s _ _ e)
 | ins=>cases hv
end Pc
namespace L2
open PySem PySem.Spec PyProof.Rows
def sH (K:C4):List V->Hp->VK->Prop:=λ xs H Q=>∃p ys,xs=[V.ref p]/\((SqL K H p ys/\∀l,H l=none->Q (.ref l) (upd H l (.tup ys)))\/(SqT K H p ys/\Q (.ref p) H))
theorem sI {K:C4} {j:Nat} {a:Addr} {xs:List V} {g:TG} {tb:TS} {D:Ends} {σ:St} {H:Hp} (hσ:σ[j]? = some (some (.ref a))) (hs:H a=some (.lst xs)\/H a=some (.tup xs)) (Pv:Nat->St->Hp->Prop) (h0:Pv 0 σ H)
  (hk:∀i σ H',i<=xs.length->Pv i σ H'->∀o,H a=some o->H' a=some o)
  (ht:∀i x σ H,xs[i]? = some x->Pv i σ H->g x σ H λ σ2 H2=>tb { D with nx:=Pv (i + 1),ct:=Pv (i + 1),bk:=D.nx } σ2 H2) (hd:∀σ H,Pv xs.length σ H->D.nx σ H):CP (xB K (tVar j)) g tb D σ H:=by
 rcases hs with z | z
 ·exact .inl ⟨_,hσ,a,Y,⟨xs,KJ z⟩,bJ (xs:=xs) Pv h0 (λ i σ H' hi p=>KJ (hk i σ H' hi p _ z)) ht hd⟩
 ·exact .inr ⟨_,hσ,a,Y,⟨xs,KI z⟩,jj (xs:=xs) Pv h0 (λ i σ H' hi p=>KI (hk i σ H' hi p _ z)) ht hd⟩
def Nx (n:Nat) (Pv:Nat->List V->Hp->Prop) (i:Nat) (ys:List V) (H:Hp):Prop:=∃m',m' < n - i/\m'=n - (i + 1)/\i + 1<=n/\Pv (i + 1) ys H
theorem Nx.of {n:Nat} {Pv:Nat->List V->Hp->Prop} {i:Nat} {ys:List V} {H:Hp} (h:i < n) (p:Pv (i + 1) ys H):Nx n Pv i ys H:=⟨n - (i + 1),by omega,Y,h,p⟩
theorem ed {K:C4} {a:Addr} {xs:List V} {σ:St} {cap:List Nat} {k:Nat} {g:TG} {tt:TT} {te:TE} {Q:List V->Hp->Prop} {H:Hp} (hs:H a=some (.lst xs)\/H a=some (.tup xs)) (Pv:Nat->List V->Hp->Prop)
  (hk:∀i ys H',i<=xs.length->Pv i ys H'->∀o,H a=some o->H' a=some o) (h0:Pv 0 [] H)
  (ht:∀i x ys H',xs[i]? = some x->Pv i ys H'->ys.length < sizeLine/\g x (bd σ cap k) H' λ σ2 H2=>leS (bd σ cap k) σ2/\tt σ2 H2 λ ok H3=>if ok=true then te σ2 H3 (λ v H4=>Nx xs.length Pv i (ys ++ [v]) H4) else Nx xs.length Pv i ys H3)
  (hd:∀ys H',Pv xs.length ys H'->ys.length<=sizeLine/\Q ys H') :
  (H a=some (.lst xs)->∃W,(∃m,W 0 m [] H)/\fj σ cap k (Itl K a) g tt te Q W)/\(H a=some (.tup xs)->∃W,(∃m,W 0 m [] H)/\fj σ cap k (Itt K a) g tt te Q W):=by
 refine ⟨λ z=>⟨λ i m ys H'=>m=xs.length - i/\i<=xs.length/\Pv i ys H',⟨_,Y,E9 _,h0⟩,?_⟩,λ z=>⟨λ i m ys H'=>m=xs.length - i/\i<=xs.length/\Pv i ys H',⟨_,Y,E9 _,h0⟩,?_⟩⟩
 ·rintro i m ys H' ⟨rfl,hi,p⟩;have z':=hk i ys H' hi p _ z
  by_cases hin:i < xs.length
  ·obtain ⟨e,hg⟩:=ht i xs[i] ys H' (by simp [hin]) p;refine .inr ⟨⟨xs,xs[i],KJ z',by simp [hin]⟩,e,λ x H2 yl=>?_⟩;obtain ⟨e1,e2⟩:=yl;have e3:=e2 xs (KJ z');have e4:x=xs[i]:=by simpa [hin] using e3.symm
   subst e1 e4;exact hg
  ·have e:i=xs.length:=by omega
   subst e;obtain ⟨a1,a2⟩:=hd ys H' p;exact .inl ⟨⟨xs,KJ z',B3 _⟩,a1,a2⟩
 ·rintro i m ys H' ⟨rfl,hi,p⟩;have z':=hk i ys H' hi p _ z
  by_cases hin:i < xs.length
  ·obtain ⟨e,hg⟩:=ht i xs[i] ys H' (by simp [hin]) p;refine .inr ⟨⟨xs,xs[i],KI z',by simp [hin]⟩,e,λ x H2 yl=>?_⟩;obtain ⟨e1,e2⟩:=yl;have e3:=e2 xs (KI z');have e4:x=xs[i]:=by simpa [hin] using e3.symm
   subst e1 e4;exact hg
  ·have e:i=xs.length:=by omega
   subst e;obtain ⟨a1,a2⟩:=hd ys H' p;exact .inl ⟨⟨xs,KI z',B3 _⟩,a1,a2⟩
theorem qj {K:C4} {j:Nat} {a:Addr} {xs:List V} {σ:St} {cap:List Nat} {k:Nat} {g:TG} {tt:TT} {te:TE} {Q:VK} {H:Hp} (hσ:σ[j]? = some (some (.ref a))) (hs:H a=some (.lst xs)\/H a=some (.tup xs)) (Pv:Nat->List V->Hp->Prop)
  (hk:∀i ys H',i<=xs.length->Pv i ys H'->∀o,H a=some o->H' a=some o) (h0:Pv 0 [] H)
  (ht:∀i x ys H',xs[i]? = some x->Pv i ys H'->ys.length < sizeLine/\g x (bd σ cap k) H' λ σ2 H2=>leS (bd σ cap k) σ2/\tt σ2 H2 λ ok H3=>if ok=true then te σ2 H3 (λ v H4=>Nx xs.length Pv i (ys ++ [v]) H4) else Nx xs.length Pv i ys H3)
  (hd:∀ys H',Pv xs.length ys H'->ys.length<=sizeLine/\∀p,H' p=none->Q (.ref p) (upd H' p (.lst ys))):su (xB K (tVar j)) cap k g tt te σ H Q:=by
 obtain ⟨c1,c2⟩:=ed (K:=K) (σ:=σ) (cap:=cap) (k:=k) (g:=g) (tt:=tt) (te:=te) hs Pv hk h0 ht hd;rcases hs with z | z
 ·exact .inl ⟨_,hσ,a,Y,⟨xs,KJ z⟩,c1 z⟩
 ·exact .inr ⟨_,hσ,a,Y,⟨xs,KI z⟩,c2 z⟩
end L2
namespace Pc
open PySem L2
def ma (b:Int) (r:Addr):List (Str×V):=cH "kind_rows" (.ref r) (cH "blade_width" (.int b) [])
theorem kbw:¬ (("blade_width" : Str) = "kind_rows"):=by decide +kernel
theorem md (b:Int) (r:Addr):(ma b r).lookup ("blade_width" : Str)=some (.int b):=by unfold ma;rw [bM,if_neg kbw,bM,if_pos rfl]
theorem cZ (b:Int) (r:Addr):(ma b r).lookup ("kind_rows" : Str)=some (.ref r):=by unfold ma;rw [bM,if_pos rfl]
theorem bH (b:Int) (r:Addr) {m:Str} (h1:¬ m = "kind_rows") (h2:¬ m = "blade_width"):(ma b r).lookup m=none:=by
 unfold ma;rw [bM,if_neg h1,bM,if_neg h2]
 all_goals rfl
def ShopAt (C:Addr) (H:Hp) (x:Addr) (b:Int) (ks:List Kd):Prop:=∃dx r rs,H x=some (.ins C dx (ma b r))/\H r=some (.tup rs)/\Tups H rs ks
theorem ShopAt.keep {C:Addr} {H H':Hp} {x:Addr} {b:Int} {ks:List Kd} (s:ShopAt C H x b ks) (k1:∀b xs,H b=some (.tup xs)->H' b=some (.tup xs)) (k2:∀b C dx fs,H b=some (.ins C dx fs)->H' b=some (.ins C dx fs)):ShopAt C H' x b ks:=by obtain ⟨dx,r,rs,h1,h2,h3⟩:=s;exact ⟨dx,r,rs,k2 _ _ _ _ h1,k1 _ _ h2,Tups.keep k1 h3⟩
def mf (C:Addr):Sp:=λ vs H Q _=>∃ (x dx ks:Addr) (b:Int) (rs:List V) (kds:List Kd),vs=[.ref x,.int b,.ref ks]/\H x=some (.ins C dx [])/\0<=b/\(H ks=some (.lst rs)\/H ks=some (.tup rs))/\Paired (RowAt H) rs kds/\(∀k∈kds,Good k)/\1<=rs.length/\rs.length<=8 /\
 ∀H':Hp,ShopAt C H' x b kds->(∀c o,c≠x->H c=some o->H' c=some o)->Q .non H'
def dD (C:Addr):Sp:=λ vs H Q _=>∃ (x:Addr) (b:Int) (ks:List Kd),vs=[.ref x]/\ShopAt C H x b ks/\Q (.int b) H
def eK (C:Addr):Sp:=λ vs H Q _=>∃ (x:Addr) (b:Int) (ks:List Kd),vs=[.ref x]/\ShopAt C H x b ks/\∀ (l:Addr) (rs:List V),H l=none->Tups H rs ks->Q (.ref l) (upd H l (.lst rs))
theorem oC {K:C4} {H:Hp} {k:Kd}:∀y∈kdV k,∃U,Ty K H y U:=by
 intro y hy;simp only [kdV,List.mem_cons,List.not_mem_nil,or_false] at hy;rcases hy with rfl | rfl | rfl | rfl | rfl
 ·exact ⟨_,.int⟩
 ·exact ⟨_,.int⟩
 ·exact ⟨_,.int⟩
 ·exact ⟨_,.int⟩
 ·exact ⟨_,.bl⟩
theorem Paired.getR {α β:Type} {F:α->β->Prop}:∀ {l₁:List α} {l₂:List β} {i:Nat} {x:α},Paired F l₁ l₂->l₁[i]? = some x->∃y,l₂[i]? = some y/\F x y
 | _,_,_,_,.nil,e=>by simp at e
 | _,_,0,_,.cons h _,e=>by simp at e; subst e; exact ⟨_,Y,h⟩
 | _,_,i + 1,x,.cons _ t,e=>by obtain ⟨y,h1,h2⟩:=Paired.getR (i:=i) (x:=x) t (by simpa using e);exact ⟨y,by simpa using h1,h2⟩
abbrev KL:=@Paired.getR
theorem RowAt.same {H H':Hp} {v:V} {k:Kd} (s:Same H H') (r:RowAt H v k):RowAt H' v k:=by
 rcases r with ⟨a,e,h⟩ | ⟨a,e,h⟩
 ·exact .inl ⟨a,e,s _ _ h⟩
 ·exact .inr ⟨a,e,s _ _ h⟩
theorem qk {K:C4} {H:Hp} {v:V} {k:Kd} {Q:VK} {E:XK} (r:RowAt H v k) (g:Good k) (q:∀H',Same H H'->Q (.bl true) H'):fK K [v] H Q E:=by
 rcases r with ⟨a,rfl,h⟩ | ⟨a,rfl,h⟩
 ·exact ⟨_,_,Y,.tup h,.inr ⟨a,_,Y,.inr h,oC,λ H' s=>by rw [hJ g]; exact q H' s⟩⟩
 ·exact ⟨_,_,Y,.lst h,.inr ⟨a,_,Y,.inl h,oC,λ H' s=>by rw [hJ g]; exact q H' s⟩⟩
structure ShopTxt (K:C4) (C:Addr):Prop where
 cl:Cls K C
 nB:NoAttr K C "blade_width"
 nK:NoAttr K C "kind_rows"
end Pc
namespace L2
open PySem PySem.Spec PyProof.Rows
def Mn (P:KC) (w:KF) (K:C4) (mg:Str->Option KG) (base:Heap) (C:Addr) (m:Str) (ps:List Str) (k:Nat) (sp:Sp):Prop :=
 ∃ (f:Addr) (fd:KD),FnOk P w K mg base CX0 k f fd ps sp/\Binds K fd ps []/\Meth K C m f
theorem cW {X:Cx} {k:Nat} {C:Addr} {ps:List Str} {sp:Sp} {m:Str} {o:Expr} {ta:TE} {apos pos:Pos} {pl:Sem Bool} (he:PE X o ta) (c:Cls X.K C) (D:Mn X.prog X.w X.K X.mg X.base C m ps k sp) (hr:Room k X.A)
  (ht:eval (.Call (.Attribute o m apos) [] [] pos) X.env=(do
   let ov<-eval o X.env
   standAt apos.atName
   let (f,first)<-holding [ov] (getMethod ov m pl)
   callWith pos f first (backTo pos (starEach [] X.env)) (backToKw pos (keywordEach [] X.env))):=by rfl):PE X (.Call (.Attribute o m apos) [] [] pos) (ot C m sp [] E0 ta va):=by
 obtain ⟨f,fd,F,hb,hm⟩:=D;exact rW he c hm F hr hb .nil oz ht
def Kn (P:KC) (w:KF) (K:C4) (mg:Str->Option KG) (base:Heap) (x:Str) (C:Addr) (ps:List Str) (k:Nat) (sp:Sp):Prop :=
 ∃ (f:Addr) (fd:KD),Mk K C f/\FnOk P w K mg base CX0 k f fd ps sp/\Binds K fd ps []/\mg x=some (.ref C)
theorem wW {X:Cx} {k:Nat} {C:Addr} {ps:List Str} {sp:Sp} {x:Str} {p pos:Pos} {e:Expr} {es:List Expr} {t:TA} (D:Kn X.prog X.w X.K X.mg X.base x C ps k sp) (hr:Room (k + 1) X.A) (hg:Gl X x) (ha:PA X (e :: es) t)
  (hdb:(x == ("__debug__" : Str))=false:=by decide) (he:starEach (e :: es) X.env=(false,eval e X.env) :: starEach es X.env:=by rfl) (hpl:(backTo pos (starEach es X.env)).any (·.1)=false:=by rfl) :
  PE X (.Call (.Name x p) (e :: es) [] pos) (wT C sp [] E0 t):=by
 obtain ⟨f,fd,M,F,hb,hm⟩:=D;exact vd M F hr hg hm hb .nil oz ha hdb he hpl
theorem ql (xs:List V) (k:Nat):jl xs none (some (k:Int))=xs.take k:=by
 unfold jl;rw [HT.sIx_none,HT.sIx_nat];simp only [List.drop_zero,Nat.sub_zero];rcases Nat.le_total k xs.length with h | h
 ·rw [Nat.min_eq_left h]
 ·rw [Nat.min_eq_right h,List.take_of_length_le (Nat.le_refl _),List.take_of_length_le h]
end L2
namespace Pc
open PySem L2
theorem Paired.app {α β:Type} {F:α->β->Prop}:∀ {l₁ m₁:List α} {l₂ m₂:List β},Paired F l₁ l₂->Paired F m₁ m₂->Paired F (l₁ ++ m₁) (l₂ ++ m₂)
 | _,_,_,_,.nil,s=>s
 | _,_,_,_,.cons r t,s=>.cons r (Paired.app t s)
theorem Same.new {q:Addr} {H:Hp} {o:HO} (h:H q=none):Same H (upd H q o):=λ b u e=>by rw [aj (am e h)]; exact e
abbrev KH:=@Same.new
end Pc
namespace PySem
open Sem (wp)
open AutoSeq1 (wpAny_loadPart')
section
variable {prog:KC} {w:KF} {A:Around} {E:KG->KB->Prop} {s:KB}
theorem gC {it t:Addr} {i:Nat} {items} {x:KG} {Q:KG->KB->Prop} (hit:s.heap.IsTupleIter it t i)
  (ht:s.heap.IsTuple t items) (hx:items[i]? = some x)
  (hQ:∀h',h'.IsTupleIter it t (i + 1)->Heap.SameBut it s.heap h'->Q x { s with heap:=h' }) :
  wpAny (model prog w) A (Builtin.SmallTypes.nextOf (.ref it)) Q E s:=by
 obtain ⟨o,ho,hc,hd⟩:=id hit;obtain ⟨ol,hol,_,nl,hdl⟩:=ht;unfold Builtin.SmallTypes.nextOf;refine A0 (wpAny_callSpecial?_slot (name:=Str.ofString "__next__") hit.typeIs F.slot_tuple_iterator_next
  (G9 F.slot_tuple_iterator_next hit.typeIs F.entry_tuple_iterator_next ?_ (F.args_tuple_iterator_next_1 _)))
 show wpAny _ _ (field (.ref it) 0 >>= _) _ _ s;refine A0 (wpAny_field ho hd (x:=.ref t) rfl ?_);show wpAny _ _ (if (Value.ref t == Value.none)=true then _ else _) _ _ s;rw [if_neg (show ¬ ((Value.ref t == Value.none)=true) from Bool.false_ne_true)];show wpAny _ _ (field (.ref it) 1 >>= _) _ _ s;refine A0 (wpAny_field ho hd (x:=.int i 0) rfl ?_);show wpAny _ _ (seqItems? (.ref t) >>= _) _ _ s;refine A0 (wpAny_seqItems hol hdl ?_);simp only [Int.toNat_natCast,hx];refine A0 (wpAny_setField ho hd (by simp) (A1 ⟨x,rfl,A1 (hQ _ ?_ (Heap.SameBut.update ..))⟩));exact ⟨_,Heap.get?_update_self _ ho (Obj.isFreed_of_fields (Obj.data_mapFields hd _)),(Obj.cls_mapFields ..).trans hc,by
  rw [Obj.data_mapFields hd]; simp [rawInt]⟩
theorem ee {it t:Addr} {i:Nat} {items} {Q:KG->KB->Prop} (hh:A.handled=none)
  (hit:s.heap.IsTupleIter it t i) (ht:s.heap.IsTuple t items) (hx:items[i]? = none)
  (hE:∀h' e, Heap.ExtBut it s.heap h'->(∃o, h'.get? e=some o/\o.cls=.type "StopIteration")->E (.ref e) { s with heap:=h' }) :
  wpAny (model prog w) A (Builtin.SmallTypes.nextOf (.ref it)) Q E s:=by
 obtain ⟨o,ho,hc,hd⟩:=id hit;obtain ⟨ol,hol,_,nl,hdl⟩:=ht;unfold Builtin.SmallTypes.nextOf;refine A0 (wpAny_callSpecial?_slot (name:=Str.ofString "__next__") hit.typeIs F.slot_tuple_iterator_next
  (G9 F.slot_tuple_iterator_next hit.typeIs F.entry_tuple_iterator_next ?_ (F.args_tuple_iterator_next_1 _)))
 show wpAny _ _ (field (.ref it) 0 >>= _) _ _ s;refine A0 (wpAny_field ho hd (x:=.ref t) rfl ?_);show wpAny _ _ (if (Value.ref t == Value.none)=true then _ else _) _ _ s;rw [if_neg (show ¬ ((Value.ref t == Value.none)=true) from Bool.false_ne_true)];show wpAny _ _ (field (.ref it) 1 >>= _) _ _ s;refine A0 (wpAny_field ho hd (x:=.int i 0) rfl ?_);show wpAny _ _ (seqItems? (.ref t) >>= _) _ _ s;refine A0 (wpAny_seqItems hol hdl ?_);simp only [Int.toNat_natCast,hx];refine A0 (wpAny_rule (A0 (wpAny_setField ho hd (by simp) ?_)));show wpAny _ _ (newExc (.type "StopIteration") [] >>= _) _ _ _;refine A0 ?_;simp only [newExc,newTuple];refine A0 (J0 ?_ (by size_fits));refine A0 (m:=firstArgMember _ _) (wpAny_of_eq (a:=Value.none) (by first | rfl | (simp only [firstArgMember]; rfl)) ?_);refine J0 ?_ (by size_fits);simp only [raiseNew];refine A0 (wpAny_handled ?_)
 first | rw [show A.in1.handled=none from hh] | rw [hh]
 refine A0 (A1 (wpAny_throw ?_));exact hE _ _ (((Heap.SameBut.update ..).extBut.push _).push _) ⟨_,A8 _ rfl,rfl⟩
end
theorem sJ {prog:KC} {w:KF} {A:Around} (hh:A.handled=none) (it l:Addr) (hne:l≠it) (items:Array KG) :
  Draws prog w A it [it,l] items.size (λ i v=>items[i]? = some v) (λ i h=>h.IsTupleIter it l i/\h.IsTuple l items) where
 live:=λ _ _ st=>let ⟨o,ho,_⟩:=st.1; ⟨o,ho⟩
 frame:=λ _ _ _ st hk=>⟨st.1.at λ o e=>hk it (by simp) o e,let ⟨o,ho,r⟩:=st.2; ⟨o,hk l (by simp) o ho,r⟩⟩
 item:=λ i s Q E hi st hQ=>by refine gC st.1 st.2 (x:=items[i]) (by simp [hi]) λ h' hit' hs'=>?_;exact hQ _ h' s.toks (by simp [hi]) ⟨hit',st.2.extBut hs'.extBut hne⟩ hs'
 done:=λ s Q E st hE=>ee hh st.1 st.2 (by simp) hE
theorem hU (l:Addr) (items:Array KG) (n:Nat) (dct:Option Addr) (sl:Array (Option KG)) :
  Meets (Builtin.«enumerate.__new__» ⟨[.type "enumerate",.ref l],[]⟩) (λ _ R s=>s.heap.get? l=some { cls:=.type "tuple",dict:=dct,data:=.seq items n,slots:=sl } /\
   R (.ok (.ret (.ref (s.heap.push { cls:=.type "tuple_iterator",data:=.fields #[.ref l,.int 0 0] }).objs.size)))
    { s with heap:=(s.heap.push { cls:=.type "tuple_iterator",data:=.fields #[.ref l,.int 0 0] }).push { cls:=.type "enumerate",data:=.fields #[.none,.bool false,.ref s.heap.objs.size,rawInt 0,.none,.none] } }) :=
 .of_wp λ prog w A R s h=>by
  obtain ⟨hp,g,d,tk,os⟩:=s; obtain ⟨hl,h⟩:=h;have hsub:=sub_enumerate;have hL:Heap.IsTuple (Shared.heap ⟨hp,g,d,tk,os⟩) l items:=⟨_,hl,Y,n,Y⟩
  wp_walk using wpAny_loadPart' hl
  refine wpAny_stack_any λ st=>A1 ?_
  split
  ·rename_i c _ _ _ _ _
   cases (c == Value.type "enumerate")
   ·wp_walk using wpAny_loadPart' hl,wpAny_pyIter_tuple hL
    exact ⟨_,Y,h⟩
   ·wp_walk using wpAny_loadPart' hl,wpAny_pyIter_tuple hL
    exact ⟨_,Y,h⟩
  ·wp_walk using wpAny_loadPart' hl,wpAny_pyIter_tuple hL
   exact ⟨_,Y,h⟩
section
variable {prog:KC} {w:KF} {A:Around} {E:KG->KB->Prop} {s:KB}
theorem fz {l:Addr} {items:Array KG} {Q:KG->KB->Prop} (hL:s.heap.IsTuple l items)
  (h:∀h',IsEnum h' (s.heap.objs.size + 1) s.heap.objs.size 0 .none->h'.IsTupleIter s.heap.objs.size l 0->h'.objs.size=s.heap.objs.size + 2 ->
   (∀b o,s.heap.get? b=some o->h'.get? b=some o)->Q (.ref (s.heap.objs.size + 1)) { s with heap:=h' }) :
  wpAny (model prog w) A (call (.type "enumerate") [.ref l]) Q E s:=by
 obtain ⟨⟨c,dct,dt,sl⟩,hl,hc,n,hd⟩:=hL
 replace hc:c=.type "tuple" := hc
 replace hd:dt=.seq items n:=hd
 subst hc hd;refine callType_new F.called_enumerate (by decide) (F.typeCall_enumerate_1 _) (F.newCall_enumerate_1 _) (λ obj=>F.args_object_init_2 obj _) F.entry_enumerate_new
  (hU l items n dct sl) ⟨hl,?_⟩
 have hz:(s.heap.push { cls:=.type "tuple_iterator",data:=.fields #[.ref l,.int 0 0] }).objs.size=s.heap.objs.size + 1:=Heap.size_push ..;show _/\_;rw [hz];have he:IsEnum ((s.heap.push { cls:=.type "tuple_iterator",data:=.fields #[.ref l,.int 0 0] }).push
   { cls:=.type "enumerate",data:=.fields #[.none,.bool false,.ref s.heap.objs.size,rawInt 0,.none,.none] }) (s.heap.objs.size + 1) s.heap.objs.size 0 .none:=by
  have:=A8 (s.heap.push { cls:=.type "tuple_iterator",data:=.fields #[.ref l,.int 0 0] })
   (o:={ cls:=.type "enumerate",data:=.fields #[.none,.bool false,.ref s.heap.objs.size,rawInt 0,.none,.none] }) rfl
  rw [hz] at this; exact this
 refine ⟨⟨_,he,Y⟩,h _ he ⟨_,A7 _ (A8 _ rfl),Y,Y⟩ (by rw [Heap.size_push,hz]) λ b o x=>A7 _ (A7 _ x)⟩
end
end PySem
namespace L2
open PySem PySem.Spec PyProof.Rows
def Ite (f:List V->HO) (l:Addr):It :=
  ⟨λ i H=>∃xs x,H l=some (f xs)/\xs[i]? = some x,
   λ i H v H'=>∃p xs x,H p=none/\v=.ref p/\H'=upd H p (.tup [.int i,x])/\H l=some (f xs)/\xs[i]? = some x,
   λ i H=>∃xs,H l=some (f xs)/\xs.length<=i⟩
section
variable {X:Cx} {pins:List (Addr×Obj)} {σ:St} {H:Hp} {s:KB}
theorem iQ {f:List V->HO} {tn:Nat->Heap->Prop} {es:List Expr} {kk:Nat} {tp:Pos} {e it l:Addr} {i:Nat} {xs:List V} {x:V} {u:KG} {tk:Nat} {h':Heap} {E:KG->KB->Prop} (hne:e≠it) (I:Inv X pins σ H s) (hf:∀b∈[e,it],eZ X pins H b) (hl:H l=some (f xs)) (hx:xs[i]? = some x)
  (ho:∀b∈[e, it], b < s.heap.objs.size) (r:RelV x u) (b1:IsEnumOut h' e it ((i:Int) + 1) u s.heap.objs.size) (b3:h'.get? s.heap.objs.size=some { cls:=.type "tuple", data:=.seq #[.int i tk, u] })
  (bk:∀b o,b≠e->b≠it->s.heap.get? b=some o->h'.get? b=some o) (hn:∀h'',IsEnum h'' e it ((i + 1:Nat):Int) u->Heap.SameBut e h' h''->tn (i + 1) h'') :
  wpAny (model X.prog X.w) X.A (letOwnedTupleGo (.Tuple es kk tp) (.ref e) (.ref s.heap.objs.size)) (λ _ s2=>∃x H',Inv X pins σ H' s2/\RelV x (.ref s.heap.objs.size)/\(Ite f l).yld i H x H'/\tn (i + 1) s2.heap/\∀b∈[e,it],H' b=none) E { s with heap:=h',toks:=tk + 1 }:=by
 refine wpAny_letOwnedTupleGo_enum b1 λ h'' c1 cs=>?_;have es':e < s.heap.objs.size:=ho e (by simp);have k2:∀b o,b∉[e,it]->s.heap.get? b=some o->h''.get? b=some o:=λ b o hb q=>by simp only [List.mem_cons,List.not_mem_nil,or_false,not_or] at hb;exact cs.extBut b o hb.1 (bk b o hb.1 hb.2 q)
 have I1:Inv X pins σ H { s with heap:=h'',toks:=tk + 1 }:=I.turnedN (t':=tk + 1) hf k2;have hp:h''.get? s.heap.objs.size=some { cls:=.type "tuple", data:=.seq #[.int i tk, u] }:=cs.extBut _ _ (Nat.ne_of_gt es') b3;have hn0:H s.heap.objs.size=none:=I.hok.fresh (B3 _);have fpk:=I.fpOk (H':=H) (B3 _) hn0;have I2:Inv X pins σ (upd H s.heap.objs.size (.tup [.int i,x])) { s with heap:=h'',toks:=tk + 1 }:=I1.track fpk I.sz ⟨by show 2<=sizeLine; decide,[.int i tk,u],.cons ⟨tk,Y⟩ (.cons r .nil),_,hp,Y,_,Y⟩;refine ⟨.ref s.heap.objs.size,_,I2,Y,⟨_,xs,x,hn0,Y,Y,hl,hx⟩,hn h'' c1 cs,λ b hb=>?_⟩;rw [aj (Nat.ne_of_lt (ho b hb))];exact (hf b hb).1
end
theorem mh {P:KC} {w:KF} {K:C4} {es:List Expr} {kk:Nat} {tp:Pos} (l e it:Addr) (hne:e≠it) :
  Turn P w K (.Tuple es kk tp) (Ite .lst l) [e,it] e (λ i h=>(∃old,IsEnum h e it i old)/\h.IsListIter it l i) where
 mem:=by simp
 obj:=λ i h st b hb=>by
  obtain ⟨⟨old,a1⟩,⟨o2,a2,_,d2⟩⟩:=st;simp only [List.mem_cons,List.not_mem_nil,or_false] at hb;rcases hb with rfl | rfl
  ·exact ⟨_,a1,λ v q=>by cases q⟩
  ·exact ⟨_,a2,λ v q=>by rw [d2] at q; cases q⟩
 keep:=λ i h h' st k=>by obtain ⟨⟨old,a1⟩,a2⟩:=st;exact ⟨⟨old,k e (by simp) _ a1⟩,a2.at λ o q=>k it (by simp) o q⟩
 item:=by
  intro X hP hw hK hc i pins s σ H E I hf st hg;subst hP hw hK;obtain ⟨⟨old,a1⟩,a2⟩:=st;obtain ⟨xs,x,e1,ex⟩:=hg;obtain ⟨its,rv,p1,_⟩:=I.list (KJ e1);obtain ⟨u,hu,r⟩:=rv.get ex;have ho:∀b∈[e,it],b < s.heap.objs.size:=λ b hb=>by
   obtain ⟨o2,a2',_⟩:=a2;simp only [List.mem_cons,List.not_mem_nil,or_false] at hb;rcases hb with rfl | rfl
   ·exact A9 a1
   ·exact A9 a2'
  refine wpAny_pyNext_enum_item a1 a2 p1.isList (x:=u) (by simpa using hu) hne λ h' b1 b2 b3 b4 bk=>⟨_,Y,?_⟩
  exact iQ (tn:=λ i h=>(∃old,IsEnum h e it i old)/\h.IsListIter it l i) hne I hf e1 ex ho r b1 b3 bk λ h'' c1 cs=>⟨⟨u,c1⟩,b2.extBut cs.extBut (Ne.symm hne)⟩
 done:=by
  intro X hP hw hK hc i pins s σ H E I hf st hg;subst hP hw hK;obtain ⟨⟨old,a1⟩,a2⟩:=st;obtain ⟨xs,e1,ex⟩:=hg;obtain ⟨its,rv,p1,_⟩:=I.list (KJ e1);have lv:=rv.length;refine wpAny_pyNext_enum_end (I.ok.hd hc) a1 a2 p1.isList (by simp; omega) λ h' bk=>⟨Y,?_⟩
  exact I.turnedN (t':=s.toks) hf λ b o hb q=>by simp only [List.mem_cons,List.not_mem_nil,or_false,not_or] at hb;exact bk b o hb.2 q
 self:=λ _ _ _ _ _ st h=>by obtain ⟨⟨old,a1⟩,_⟩:=st; exact wpAny_pyIter_enum a1 h
theorem mj {P:KC} {w:KF} {K:C4} {es:List Expr} {kk:Nat} {tp:Pos} (l e it:Addr) (hne:e≠it) :
  Turn P w K (.Tuple es kk tp) (Ite .tup l) [e,it] e (λ i h=>(∃old,IsEnum h e it i old)/\h.IsTupleIter it l i) where
 mem:=by simp
 obj:=λ i h st b hb=>by
  obtain ⟨⟨old,a1⟩,⟨o2,a2,_,d2⟩⟩:=st;simp only [List.mem_cons,List.not_mem_nil,or_false] at hb;rcases hb with rfl | rfl
  ·exact ⟨_,a1,λ v q=>by cases q⟩
  ·exact ⟨_,a2,λ v q=>by rw [d2] at q; cases q⟩
 keep:=λ i h h' st k=>by obtain ⟨⟨old,a1⟩,a2⟩:=st;exact ⟨⟨old,k e (by simp) _ a1⟩,a2.at λ o q=>k it (by simp) o q⟩
 item:=by
  intro X hP hw hK hc i pins s σ H E I hf st hg;subst hP hw hK;obtain ⟨⟨old,a1⟩,a2⟩:=st;obtain ⟨xs,x,e1,ex⟩:=hg;obtain ⟨its,rv,p1,_⟩:=I.tuple (KI e1);obtain ⟨u,hu,r⟩:=rv.get ex;have lt:i < its.toArray.size:=by simp; exact (A6.mp hu).1
  have ho:∀b∈[e,it],b < s.heap.objs.size:=λ b hb=>by
   obtain ⟨o2,a2',_⟩:=a2;simp only [List.mem_cons,List.not_mem_nil,or_false] at hb;rcases hb with rfl | rfl
   ·exact A9 a1
   ·exact A9 a2'
  have nl:∀b∈[e,it],l≠b:=λ b hb q=>by rw [q,(hf b hb).1] at e1; cases e1
  have p1':s.heap.IsTuple l its.toArray:=p1;have DD:Draws X.prog X.w X.A.in1 it [it,l] its.toArray.size (λ i v=>its.toArray[i]? = some v) (λ i h=>h.IsTupleIter it l i/\h.IsTuple l its.toArray):=sJ (show X.A.in1.handled=none from I.ok.hd hc) it l (nl it (by simp)) its.toArray;refine wpAny_pyNext_enum_itemD DD a1 ⟨a2,p1'⟩ lt hne (by simp only [List.mem_cons,List.not_mem_nil,or_false,not_or]; exact ⟨hne,Ne.symm (nl e (by simp))⟩) λ x' h' tk px b1 b2 b3 b4 bk=>⟨_,Y,?_⟩
  have hu':its.toArray[i]? = some u:=by simpa using hu
  have eu:u=x':=B8 (hu'.symm.trans px);subst eu;exact iQ (tn:=λ i h=>(∃old,IsEnum h e it i old)/\h.IsTupleIter it l i) hne I hf e1 ex ho r b1 b3 bk λ h'' c1 cs=>⟨⟨u,c1⟩,b2.1.extBut cs.extBut (Ne.symm hne)⟩
 done:=by
  intro X hP hw hK hc i pins s σ H E I hf st hg;subst hP hw hK;obtain ⟨⟨old,a1⟩,a2⟩:=st;obtain ⟨xs,e1,ex⟩:=hg;obtain ⟨its,rv,p1,_⟩:=I.tuple (KI e1);have lv:=rv.length;have p1':s.heap.IsTuple l its.toArray:=p1;have hT:s.TypeIs (.ref e) "enumerate" := ⟨_,a1,Y⟩
  unfold pyNext;refine A0 (wpAny_attempt (wpAny_callSpecial?_slot (name:=Str.ofString "__next__") hT F.slot_enumerate_next
   (G9 F.slot_enumerate_next hT F.entry_enumerate_next ?_ (F.args_enumerate_next_1 _))))
  show wpAny _ _ (field (.ref e) 2 >>= _) _ _ _;refine A0 (wpAny_field a1 rfl (x:=.ref it) rfl ?_);refine A0 (ee (I.ok.hd hc) a2 p1' (by simp; omega) λ h' x he' hx'=>?_);obtain ⟨o,ho,hc⟩:=hx';refine A0 (wpAny_isInstance (T := "StopIteration") (b:=true) ⟨o,ho,hc⟩ isSubtype_stop ?_);refine A1 ⟨rfl,?_⟩;exact I.turnedN (t':=s.toks) hf λ b o hb q=>by simp only [List.mem_cons,List.not_mem_nil,or_false,not_or] at hb;exact he' b o hb.2 q
 self:=λ _ _ _ _ _ st h=>by obtain ⟨⟨old,a1⟩,_⟩:=st; exact wpAny_pyIter_enum a1 h
def Dc (ta:TA):TI:=λ σ H R=>ta σ H λ vs H1=>∃l xs,vs=[.ref l]/\((H1 l=some (.lst xs)/\R (Ite .lst l) H1)\/(H1 l=some (.tup xs)/\R (Ite .tup l) H1))
theorem vo {X:Cx} {a:Expr} {ta:TA} {p pos tp:Pos} {es:List Expr} {kk:Nat} (hg:Gl X "enumerate") (hm:X.mg "enumerate" = none) (ha:PA X [a] ta)
  (hs:starEach [a] X.env=[(false,eval a X.env)]:=by rfl) :
  PI X (.Tuple es kk tp) (.Call (.Name "enumerate" p) [a] [] pos) (Dc ta):=by
 intro pins s σ H R I h;refine Call_ (dW I hg hm PyProof.Rows.boot_enumerate (PyProof.Rows.callWith_type1 (thn (ha pos pins s σ H _ I h) λ us s1 ⟨vs,H1,I1,r1,q1⟩=>?_) (by rw [hs]; rfl) (by rfl)));obtain ⟨l,xs,rfl,q⟩:=q1;cases r1 with
 | cons r rr =>
  cases rr;cases r;rcases q with ⟨e1,q⟩ | ⟨e1,q⟩
  ·obtain ⟨its1,rv1,p1,_⟩:=I1.list (KJ e1);refine call_enumerate_list p1.isList λ h' z1 z2 sz keep=>?_;have I2:Inv X pins σ H1 { s1 with heap:=h' }:=I1.kept (t':=s1.toks) keep;refine wpAny_pyIter_enum z1 ⟨s1.heap.objs.size + 1,[s1.heap.objs.size + 1,s1.heap.objs.size],_,_,H1,rfl,I2,mh l _ _ (Nat.succ_ne_self _),⟨⟨_,z1⟩,z2⟩,λ b hb=>?_,q⟩;have hb':s1.heap.objs.size<=b:=by simp only [List.mem_cons,List.not_mem_nil,or_false] at hb;rcases hb with rfl | rfl <;> omega
   exact I1.fpOk hb' (I1.hok.fresh hb')
  ·obtain ⟨its1,rv1,p1,_⟩:=I1.tuple (KI e1);have p1':s1.heap.IsTuple l its1.toArray:=p1;refine fz p1' λ h' z1 z2 sz keep=>?_;have I2:Inv X pins σ H1 { s1 with heap:=h' }:=I1.kept (t':=s1.toks) keep;refine wpAny_pyIter_enum z1 ⟨s1.heap.objs.size + 1,[s1.heap.objs.size + 1,s1.heap.objs.size],_,_,H1,rfl,I2,mj l _ _ (Nat.succ_ne_self _),⟨⟨_,z1⟩,z2⟩,λ b hb=>?_,q⟩;have hb':s1.heap.objs.size<=b:=by simp only [List.mem_cons,List.not_mem_nil,or_false] at hb;rcases hb with rfl | rfl <;> omega
   exact I1.fpOk hb' (I1.hok.fresh hb')
theorem sK {f:List V->HO} (hf:∀xs ys,f xs=f ys->xs=ys) {l:Addr} {xs:List V} {g:TG} {tb:TS} {D:Ends} {σ:St} {H:Hp} (Pv:Nat->St->Hp->Prop) (h0:Pv 0 σ H) (hk:∀i σ H',Pv i σ H'->H' l=some (f xs))
  (ht:∀i x p σ H,xs[i]? = some x->H p=none->Pv i σ H->g (.ref p) σ (upd H p (.tup [.int i,x])) λ σ2 H2=>tb { D with nx:=Pv (i + 1),ct:=Pv (i + 1),bk:=D.nx } σ2 H2) (hd:∀σ H,Pv xs.length σ H->D.nx σ H) :
  ∃W:Nat->Nat->St->Hp->Prop,(∃m,W 0 m σ H)/\∀i m σ H,W i m σ H ->
   ((Ite f l).stop i H/\D.nx σ H)\/((Ite f l).go i H/\∃N:St->Hp->Prop,(∀σ' H',N σ' H'->∃m',m' < m/\W (i + 1) m' σ' H')/\∀x H',(Ite f l).yld i H x H'->g x σ H' λ σ2 H2=>tb { D with nx:=N,ct:=N,bk:=D.nx } σ2 H2):=by
 refine ⟨λ i m σ H=>m=xs.length - i/\i<=xs.length/\Pv i σ H,⟨xs.length,by simp,E9 _,h0⟩,?_⟩;rintro i m σ H ⟨rfl,hi,p⟩;have e1:=hk i σ H p
 by_cases hlt:i < xs.length
 ·refine .inr ⟨⟨xs,xs[i],e1,by simp [hlt]⟩,Pv (i + 1),λ σ' H' p'=>⟨xs.length - (i + 1),by omega,Y,hlt,p'⟩,λ v H' y=>?_⟩;obtain ⟨q,xs',x,hq,rfl,rfl,e1',ex⟩:=y;rw [e1] at e1';cases hf _ _ (B8 e1');exact ht i x q σ H ex hq p
 ·have e:i=xs.length:=by omega
  subst e;exact .inl ⟨⟨xs,e1,B3 _⟩,hd σ H p⟩
end L2
namespace Pc
open PySem L2
def aW (k:Kd):Bool:=k.tu && !decide (k.w=k.h)
def lyT (i:Nat) (k:Kd):List (Nat×Bool):=(i,false) :: if aW k=true then [(i,true)] else []
def lyK:List Kd->Nat->List (Nat×Bool)
 | [],_=>[]
 | k :: r,i=>lyT i k ++ lyK r (i + 1)
theorem kA (k:Kd):∀ (ks:List Kd) (i:Nat),lyK (ks ++ [k]) i=lyK ks i ++ lyT (i + ks.length) k
 | [],i=>by simp [lyK]
 | c :: r,i=>by show lyT i c ++ lyK (r ++ [k]) (i + 1)=(lyT i c ++ lyK r (i + 1)) ++ _;rw [kA k r (i + 1),List.append_assoc];congr 2;simp only [List.length_cons];congr 1;omega
theorem vp (i:Nat) (k:Kd):(lyT i k).length<=2:=by unfold lyT; split <;> simp
theorem jt:∀ (ks:List Kd) (i:Nat),(lyK ks i).length<=2 * ks.length
 | [],i=>by simp [lyK]
 | c :: r,i=>by have:=jt r (i + 1);have:=vp i c;simp only [lyK,List.length_append,List.length_cons];omega
def Ht (H:Hp) (v:V) (p:Nat×Bool):Prop:=∃a,v=.ref a/\H a=some (.tup [.int p.1,.bl p.2])
abbrev Lys (H:Hp):List V->List (Nat×Bool)->Prop:=Paired (Ht H)
theorem Lys.keep {H H':Hp} (k:∀b xs,H b=some (.tup xs)->H' b=some (.tup xs)) {xs:List V} {ps:List (Nat×Bool)} (r:Lys H xs ps):Lys H' xs ps :=
 KK r λ v kd ⟨a,e,h⟩=>⟨a,e,k a _ h⟩
theorem sL {H H3:Hp} {l t:Addr} {ys:List V} {ps:List (Nat×Bool)} {i:Nat} {b:Bool} (hl:H l=none) (s3:Same H H3) (l3:H3 l=some (.lst ys)) (y3:Lys H3 ys ps) (ht:H3 t=none) :
  Same H (upd (upd H3 t (.tup [.int (i:Int),.bl b])) l (.lst (ys ++ [.ref t])))/\(upd (upd H3 t (.tup [.int (i:Int),.bl b])) l (.lst (ys ++ [.ref t]))) l=some (.lst (ys ++ [.ref t])) /\
   Lys (upd (upd H3 t (.tup [.int (i:Int),.bl b])) l (.lst (ys ++ [.ref t]))) (ys ++ [.ref t]) (ps ++ [(i,b)]):=by
 have lt:l≠t:=am l3 ht;refine ⟨λ c o e=>?_,ae,Paired.snoc (Lys.keep (λ c xs e=>?_) y3) ⟨t,Y,by rw [aj (Ne.symm lt),ae]⟩⟩
 ·have e3:=s3 c o e;rw [aj (am e hl),aj (am e3 ht)]; exact e3
 ·have cl:c≠l:=λ z=>by rw [z,l3] at e; cases e
  rw [aj cl,aj (am e ht)]; exact e
def fL (K:C4):Sp:=λ vs H Q _=>∃ (a:Addr) (k:Kd),vs=[.ref a]/\H a=some (.tup (kdV k))/\Q (.bl (aW k)) H
def hV (C:Addr):Sp:=λ vs H Q _=>∃ (x:Addr) (b:Int) (ks:List Kd),vs=[.ref x]/\ShopAt C H x b ks/\ks.length<=8 /\
 ∀ (l:Addr) (ys:List V) (H':Hp),H l=none->H' l=some (.lst ys)->Lys H' ys (lyK ks 0)->Same H H'->Q (.ref l) H'
def dE (ks:List Kd) (x t:V):Bool:=match x,t with
 | .int i,.bl b=>decide (0<=i) && match ks[i.toNat]? with
  | some k=>!b || aW k
  | none=>false
 | _,_=>false
def de (K:C4) (C:Addr):Sp:=λ vs H Q _=>∃ (s:Addr) (b:Int) (ks:List Kd) (x t:V) (T U:String),vs=[.ref s,x,t]/\ShopAt C H s b ks/\Ty K H x T/\Ty K H t U/\Q (.bl (dE ks x t)) H
end Pc
namespace L2
open PySem PySem.Spec PyProof.Rows
section
variable {X:Cx}
theorem kB {k:Nat} {C:Addr} {ps:List Str} {sp:Sp} {m:Str} {o:Expr} {e:Expr} {es:List Expr} {ta:TE} {t:TA} {apos pos:Pos} {pl:Sem Bool} (he:PE X o ta) (c:Cls X.K C) (D:Mn X.prog X.w X.K X.mg X.base C m ps k sp) (hr:Room k X.A) (ha:PA X (e :: es) t)
  (hst:starEach (e :: es) X.env=(false,eval e X.env) :: starEach es X.env:=by rfl) (hpl:(backTo pos (starEach es X.env)).any (·.1)=false:=by rfl)
  (ht:eval (.Call (.Attribute o m apos) (e :: es) [] pos) X.env=(do
   let ov<-eval o X.env
   standAt apos.atName
   let (f,first)<-holding [ov] (getMethod ov m pl)
   callWith pos f first (backTo pos (starEach (e :: es) X.env)) (backToKw pos (keywordEach [] X.env))):=by rfl):PE X (.Call (.Attribute o m apos) (e :: es) [] pos) (ot C m sp [] E0 ta t):=by
 obtain ⟨f,fd,F,hb,hm⟩:=D;exact vc he c hm F hr hb .nil oz ha hst hpl ht
end
theorem oE:∀ {ns:List Int} {its:List KG},Vals (ns.map V.int) its->IntsAre its ns
 | [],_,r=>by cases r; exact .nil
 | n :: ns,_,r=>by
  cases r with
  | cons r1 r2 =>
   obtain ⟨t,e⟩:=r1;subst e;exact .cons n t (oE r2)
section
variable {X:Cx}
theorem qm (hc:X.calm=true):cL X (.builtin "sum") (λ xs H Q=>∃ (p:Addr) (ns:List Int),xs=[.ref p]/\SqL X.K H p (ns.map V.int)/\Q (.int ns.sum) H):=by
 intro pins s σ H xs us Q I r h;obtain ⟨p,ns,rfl,hs,q⟩:=h;obtain ⟨u,rfl,rfl⟩:=fD r;obtain ⟨its,rv,pl,_⟩:=I.list hs;have hi:=oE rv;obtain ⟨xs,e⟩:=hi.allInts.items;have pl':=pl.isList;rw [e] at pl';refine sum_intListG (I.ok.hd hc) pl' λ h' tk t' hk=>?_;have e2:preSum (numAt xs) xs.size=ns.sum:=by rw [preSum_eq,List.take_of_length_le (by simp),<- nums_intItems,<- e,show its.toArray.toList=its from rfl,hi.numsOf]
 rw [e2];exact ⟨.int ns.sum,H,I.kept hk,⟨_,Y⟩,q⟩
theorem kC:∀ {bs:List Bool} {its:List KG},Vals (bs.map V.bl) its->its=bs.map Value.bool
 | [],_,r=>by cases r; rfl
 | b :: bs,_,r=>by
  cases r with
  | cons r1 r2 =>
   have e:_=Value.bool b:=r1;subst e;rw [List.map_cons,kC r2]
theorem qo (bs:List Bool):(List.range bs.length).all (λ i=>bs.getD i false)=bs.all id:=by
 rw [Bool.eq_iff_iff,List.all_eq_true,List.all_eq_true];constructor
 ·intro h b hb;obtain ⟨i,hi,e⟩:=List.getElem_of_mem hb;have:=h i (List.mem_range.mpr hi);rw [List.getD_eq_getElem?_getD,List.getElem?_eq_getElem hi] at this;simpa [e] using this
 ·intro h i hi;have hi':=List.mem_range.mp hi;rw [List.getD_eq_getElem?_getD,List.getElem?_eq_getElem hi'];exact h _ (List.getElem_mem hi')
theorem iR (hc:X.calm=true):cL X (.builtin "all") (λ xs H Q=>∃ (p:Addr) (bs:List Bool),xs=[.ref p]/\SqL X.K H p (bs.map V.bl)/\Q (.bl (bs.all id)) H):=by
 intro pins s σ H xs us Q I r h;obtain ⟨p,bs,rfl,hs,q⟩:=h;obtain ⟨u,rfl,rfl⟩:=fD r;obtain ⟨its,rv,pl,_⟩:=I.list hs;have e:=kC rv;subst e;have hlt:p < s.heap.objs.size:=by obtain ⟨_,_,e,_⟩:=pl; exact A9 e
 refine call_all_walk (wpAny_pyIter_list pl.isList ?_);refine ⟨_,_,_,_,_,_,λ i=>bs.getD i false,Y,Walks.list (A:=X.A.in1) (I.ok.hd hc) _ p (B9 hlt) _,⟨⟨_,A8 _ rfl,Y,Y⟩,pl.isList.push _⟩,λ i v s' Q' E' hP hQ'=>?_,λ h' tk hk=>?_⟩
 ·have hP':(bs.map Value.bool)[i]? = some v:=by simpa using hP
  rw [List.getElem?_map] at hP';cases hb:bs[i]? with
  | none=>rw [hb] at hP'; cases hP'
  | some b =>
   rw [hb] at hP';cases hP';have hQ2:Q' (bs.getD i false) s':=hQ';rw [List.getD_eq_getElem?_getD,hb] at hQ2;exact G4 hQ2
 ·have e2:((bs.map Value.bool).toArray.size)=bs.length:=by simp
  rw [e2,qo];refine ⟨.bl (bs.all id),H,I.kept (h':=h') (t':=tk) (λ b o e=>hk b o ?_ (A7 _ e)),Y,q⟩;intro z;rw [List.mem_singleton.mp z] at e;exact absurd (A9 e) (E1 _)
end
theorem aU {α:Type} {xs:List α} {i:Int} {v:α} (h0:0<=i) (h:xs[i.toNat]? = some v):atI xs i=some v:=by
 have e:i=((i.toNat:Nat):Int):=by omega
 have z:atI xs ((i.toNat:Nat):Int)=some v:=ow h;rw [<- e] at z; exact z
section
variable {κ:Type} [DecidableEq κ]
def bO (kvs:List (κ×V)) (k:κ):Option V:=(kvs.find? λ kv=>decide (kv.1=k)).map (·.2)
def cI (kvs:List (κ×V)) (k:κ) (v:V):List (κ×V) :=
 if (kvs.any λ kv=>decide (kv.1=k))=true then kvs.map (λ kv=>if kv.1=k then (kv.1,v) else kv) else kvs ++ [(k,v)]
theorem bz {p:κ×V} {r:List (κ×V)} {k:κ} (e:p.1=k):bO (p :: r) k=some p.2:=by simp [bO,List.find?_cons,e]
theorem bA {p:κ×V} {r:List (κ×V)} {k:κ} (e:¬ p.1=k):bO (p :: r) k=bO r k:=by simp [bO,List.find?_cons,e]
theorem ef (k:κ):∀kvs:List (κ×V),(kvs.any λ kv=>decide (kv.1=k))=(bO kvs k).isSome
 | []=>rfl
 | p :: r=>by
  rw [List.any_cons]
  by_cases e:p.1=k
  ·simp only [bz e,decide_eq_true e,Bool.true_or,Option.isSome_some]
  ·rw [bA e,decide_eq_false e,Bool.false_or]; exact ef k r
theorem kD (k j:κ) (y:V):∀kvs:List (κ×V),bO (kvs.map λ kv=>if kv.1=k then (kv.1,y) else kv) j=(bO kvs j).map λ x=>if j=k then y else x
 | []=>rfl
 | p :: r=>by
  have ih:=kD k j y r;rw [List.map_cons]
  by_cases h:p.1=k
  ·rw [if_pos h]
   by_cases e:p.1=j
   ·rw [bz (p:=(p.1,y)) e,bz e,Option.map_some,if_pos (e.symm.trans h)]
   ·rw [bA (p:=(p.1,y)) e,bA e,ih]
  ·rw [if_neg h]
   by_cases e:p.1=j
   ·rw [bz (p:=p) e,bz e,Option.map_some,if_neg (λ z=>h (e.trans z))]
   ·rw [bA (p:=p) e,bA e,ih]
theorem iS (k j:κ) (y:V):∀kvs:List (κ×V),bO kvs k=none->bO (kvs ++ [(k,y)]) j=if j=k then some y else bO kvs j
 | [],_=>by
  by_cases e:k=j
  ·rw [if_pos e.symm]; exact bz (p:=(k,y)) e
  ·rw [if_neg (λ z=>e z.symm)]; exact bA (p:=(k,y)) e
 | p :: r,hn=>by
  rw [List.cons_append];have hk:¬ p.1=k:=λ z=>by rw [bz z] at hn; cases hn
  rw [bA hk] at hn;have ih:=iS k j y r hn
  by_cases e:p.1=j
  ·rw [bz e,bz e,if_neg (λ z=>hk (e.trans z))]
  ·rw [bA e,bA e,ih]
theorem kF (kvs:List (κ×V)) (k j:κ) (y:V):bO (cI kvs k y) j=if j=k then some y else bO kvs j:=by
 unfold cI
 by_cases a:(kvs.any λ kv=>decide (kv.1=k))=true
 ·rw [if_pos a,kD];rw [ef] at a
  by_cases e:j=k
  ·obtain ⟨x,hx⟩:=Option.isSome_iff_exists.mp a;rw [if_pos e,e,hx,Option.map_some,if_pos rfl]
  ·rw [if_neg e];cases bO kvs j with
   | none=>rfl
   | some x=>rw [Option.map_some,if_neg e]
 ·rw [if_neg a];refine iS k j y kvs ?_;rw [ef] at a;cases q:bO kvs k with
  | none=>rfl
  | some x=>rw [q] at a; exact (a rfl).elim
theorem cO (kvs:List (κ×V)) (k:κ) (v:V):(cI kvs k v).length<=kvs.length + 1:=by
 unfold cI
 split
 ·rw [List.length_map]; omega
 ·rw [List.length_append,List.length_cons,List.length_nil]; omega
theorem RelO.isSome_eq {o:Option V} {u:Option KG} (r:RelO o u):o.isSome=u.isSome:=by
 cases o with
 | none=>cases u with
  | none=>rfl
  | some _=>exact (show False from r).elim
 | some _=>cases u with
  | none=>exact (show False from r).elim
  | some _=>rfl
theorem KV.val {kvs:List (κ×V)} {vs:List (κ×KG)} (r:KV kvs vs) (k:κ):RelO (bO kvs k) (valueAt vs k):=by
 unfold KV at r
 induction r with
 | nil=>exact True.intro
 | @cons p q ps qs h t ih =>
  obtain ⟨h1,h2⟩:=h
  by_cases e:p.1=k
  ·have e':q.1=k:=h1.symm.trans e;have b:valueAt (q :: qs) k=some q.2:=by simp [valueAt,List.find?_cons,e']
   rw [bz e,b]; exact h2
  ·have e':¬ q.1=k:=λ z=>e (h1.trans z);have b:valueAt (q :: qs) k=valueAt qs k:=by simp [valueAt,List.find?_cons,e']
   rw [bA e,b]; exact ih
theorem KV.any {kvs:List (κ×V)} {vs:List (κ×KG)} (r:KV kvs vs) (k:κ):(kvs.any λ kv=>decide (kv.1=k))=vs.any λ kv=>decide (kv.1=k):=by
 unfold KV at r
 induction r with
 | nil=>rfl
 | cons h t ih=>rw [List.any_cons,List.any_cons,ih,h.1]
theorem KV.repl {kvs:List (κ×V)} {vs:List (κ×KG)} (r:KV kvs vs) (k:κ) {y:V} {u:KG} (ry:RelV y u) :
  KV (kvs.map λ kv=>if kv.1=k then (kv.1,y) else kv) (vs.map λ kv=>if kv.1=k then (kv.1,u) else kv):=by
 unfold KV at r ⊢
 induction r with
 | nil=>exact .nil
 | @cons p q ps qs h t ih =>
  rw [List.map_cons,List.map_cons];refine .cons ?_ ih;obtain ⟨h1,h2⟩:=h
  by_cases e:p.1=k
  ·rw [if_pos e,if_pos (h1.symm.trans e)]; exact ⟨h1,ry⟩
  ·rw [if_neg e,if_neg (λ z=>e (h1.trans z))]; exact ⟨h1,h2⟩
theorem KV.put {kvs:List (κ×V)} {vs:List (κ×KG)} (r:KV kvs vs) (k:κ) {y:V} {u:KG} (ry:RelV y u):KV (cI kvs k y) (stored vs k u):=by
 unfold cI stored;rw [r.any k]
 by_cases e:(vs.any λ kv=>decide (kv.1=k))=true
 ·rw [if_pos e,if_pos e]; exact r.repl k ry
 ·rw [if_neg e,if_neg e]; exact Paired.snoc r ⟨rfl,ry⟩
theorem KV.length {kvs:List (κ×V)} {vs:List (κ×KG)} (r:KV kvs vs):kvs.length=vs.length:=E4 r
end
theorem sM {P:KC} {w:KF} {k:Key} {u:KG} (r:RelV (kV k) u):(aZ P w).is k u=true:=by
 cases k with
 | inl i=>obtain ⟨t,e⟩:=(show ∃t,u=Value.int i t from r); subst e; exact jV P w i t
 | inr x=>obtain ⟨t,e⟩:=(show ∃t,u=Value.str x t from r); subst e; exact jW P w x t
theorem gt {P:KC} {w:KF}:∀ {ks:List Key} {us:List KG},Vals (ks.map kV) us->ItemsAre (aZ P w) ks us
 | [],_,r=>by rw [List.map_nil] at r; cases r; exact .nil
 | k :: ks,_,r=>by
  rw [List.map_cons] at r;cases r with
  | cons h t=>exact .cons (sM h) (gt t)
abbrev KT (H:Hp):List (List Key×V)->List (List Key×Addr×KG)->Prop:=Paired λ p q=>p.1=q.1/\H q.2.1=some (.tup (p.1.map kV))/\RelV p.2 q.2.2
theorem KT.val {H:Hp} {kvs:List (List Key×V)} {xs:List (List Key×Addr×KG)} (r:KT H kvs xs) (k:List Key):RelO (bO kvs k) ((atKey xs k).map (·.2)):=by
 induction r with
 | nil=>exact True.intro
 | @cons p q ps qs h t ih =>
  obtain ⟨h1,_,h2⟩:=h
  by_cases e:p.1=k
  ·have e':q.1=k:=h1.symm.trans e;have b:atKey (q :: qs) k=some q.2:=by simp [atKey,List.find?_cons,e']
   rw [bz e,b]; exact h2
  ·have e':¬ q.1=k:=λ z=>e (h1.trans z);have b:atKey (q :: qs) k=atKey qs k:=by simp [atKey,List.find?_cons,e']
   rw [bA e,b]; exact ih
theorem KT.repl {H:Hp} {kvs:List (List Key×V)} {xs:List (List Key×Addr×KG)} (r:KT H kvs xs) (k:List Key) {y:V} {u:KG} (ry:RelV y u) :
  KT H (kvs.map λ kv=>if kv.1=k then (kv.1,y) else kv) (xs.map (putAt k u)):=by
 induction r with
 | nil=>exact .nil
 | @cons p q ps qs h t ih =>
  rw [List.map_cons,List.map_cons];refine .cons ?_ ih;obtain ⟨h1,h2,h3⟩:=h;unfold putAt
  by_cases e:p.1=k
  ·rw [if_pos e,if_pos (h1.symm.trans e)]; exact ⟨h1,h2,ry⟩
  ·rw [if_neg e,if_neg (λ z=>e (h1.trans z))]; exact ⟨h1,h2,h3⟩
theorem KT.put {H:Hp} {kvs:List (List Key×V)} {xs:List (List Key×Addr×KG)} (r:KT H kvs xs) (k:List Key) {b:Addr} {y:V} {u:KG} (hb:H b=some (.tup (k.map kV))) (ry:RelV y u) :
  KT H (cI kvs k y) (storedH xs k b u):=by
 have e:(kvs.any λ kv=>decide (kv.1=k))=(atKey xs k).isSome:=by rw [ef,(r.val k).isSome_eq,Option.isSome_map]
 unfold cI storedH;rw [e]
 by_cases q:(atKey xs k).isSome=true
 ·rw [if_pos q,if_pos q]; exact r.repl k ry
 ·rw [if_neg q,if_neg q]; exact Paired.snoc r ⟨rfl,hb,ry⟩
theorem KT.keeps {H H':Hp} {kvs:List (List Key×V)} {xs:List (List Key×Addr×KG)} (r:KT H kvs xs) (ht:∀b ys,H b=some (.tup ys)->H' b=some (.tup ys)):KT H' kvs xs :=
 KK r λ _ _ z=>⟨z.1,ht _ _ z.2.1,z.2.2⟩
section
variable {P:KC} {w:KF} {H:Hp} {h:Heap} {a:Addr}
theorem wX {u:HO} (ok:HOk P w H h) (e:Rd H a u):ObjOk P w H h a u:=e.ok ok
theorem sN {kvs:List (Key×V)} (ok:HOk P w H h) (e:Rd H a (.dK kvs)):kvs.length<=sizeLine/\(a == sysModules)=false/\∃vs,KV kvs vs/\h.DictOf (aZ P w) a vs :=
 show ObjOk P w H h a (.dK kvs) from wX ok e
theorem De {kvs:List (Key×V)} (ok:HOk P w H h) (e:H a=some (.dK kvs)):kvs.length<=sizeLine/\(a == sysModules)=false/\∃vs,KV kvs vs/\h.DictOf (aZ P w) a vs:=sN ok (.inl e)
theorem ju {ks:List Key} (ok:HOk P w H h) (e:H a=some (.tup (ks.map kV))):(tupleKind (aZ P w)).is h ks a:=by
 obtain ⟨_,its,r,o,h1,h2,n,h3⟩:=(show ObjOk P w H h a (.tup (ks.map kV)) from ok a _ e)
 exact ⟨o,its.toArray,n,h1,h2,h3,by simpa using gt r⟩
theorem oF {kvs:List (List Key×V)} (ok:HOk P w H h) (e:Rd H a (.dT kvs)):kvs.length<=sizeLine/\(a == sysModules)=false /\
  ∃xs,KT H kvs xs/\h.DictOfH (tupleKind (aZ P w)) a xs:=by
 obtain ⟨z,y,xs,r,o,es,ep,h1,h2,h3,h4,h5⟩:=(show ObjOk P w H h a (.dT kvs) from wX ok e)
 refine ⟨z,y,xs,r,o,es,ep,h1,h2,h3,h4,λ x hx=>?_,h5⟩;have all:∀ {l:List (List Key×V)} {m:List (List Key×Addr×KG)},KT H l m->∀x∈m,(tupleKind (aZ P w)).is h x.1 x.2.1:=by
  intro l m q
  induction q with
  | nil=>intro x hx; exact nomatch hx
  | @cons p q ps qs hq t ih =>
   intro x hx;rcases List.mem_cons.mp hx with e | hx
   ·subst e;exact ju ok (by rw [<- hq.1]; exact hq.2.1)
   ·exact ih x hx
 exact all r x hx
theorem Df {kvs:List (List Key×V)} (ok:HOk P w H h) (e:H a=some (.dT kvs)):kvs.length<=sizeLine/\(a == sysModules)=false /\
  ∃xs,KT H kvs xs/\h.DictOfH (tupleKind (aZ P w)) a xs:=oF ok (.inl e)
end
def DGet (H:Hp) (a:Addr) (y:V) (r:Option V):Prop :=
 (∃kvs k,Rd H a (.dK kvs)/\y=kV k/\r=bO kvs k)\/∃kvs k b,Rd H a (.dT kvs)/\y=.ref b/\H b=some (.tup (k.map kV))/\r=bO kvs k
def DPut (H:Hp) (a:Addr) (y v:V) (H':Hp):Prop :=
 (∃kvs k,H a=some (.dK kvs)/\y=kV k/\kvs.length < sizeLine/\H'=upd H a (.dK (cI kvs k v))) \/
 ∃kvs k b,H a=some (.dT kvs)/\y=.ref b/\H b=some (.tup (k.map kV))/\kvs.length < sizeLine/\H'=upd H a (.dT (cI kvs k v))
theorem DGet.t {H:Hp} {a b:Addr} {kvs:List (List Key×V)} {k:List Key} (e:H a=some (.dT kvs)) (eb:H b=some (.tup (k.map kV))):DGet H a (.ref b) (bO kvs k):=.inr ⟨kvs,k,b,.inl e,Y,eb,Y⟩
theorem DPut.t {H:Hp} {a b:Addr} {kvs:List (List Key×V)} {k:List Key} {v:V} (e:H a=some (.dT kvs)) (eb:H b=some (.tup (k.map kV))) (hl:kvs.length < sizeLine) :
  DPut H a (.ref b) v (upd H a (.dT (cI kvs k v))):=.inr ⟨kvs,k,b,e,Y,eb,hl,Y⟩
section
variable {X:Cx} {pins:List (Addr×Obj)} {σ:St} {H:Hp} {s:KB} {a:Addr} {y v:V} {u r:KG} {o:Option V} {A:Around} {E:KG->KB->Prop}
theorem Inv.big (I:Inv X pins σ H s):sysModules < s.heap.objs.size:=by have h:mainGlobals < s.heap.objs.size:=(I.mod.glob.keeps I.bk).lt;exact Nat.lt_trans (by decide) h
theorem qp {Q:KG->KB->Prop} (hu:A.units + 1 < cLine) (I:Inv X pins σ H s) (g:DGet H a y (some v)) (ry:RelV y u) (h:∀w' s',Inv X pins σ H s'->RelV v w'->Q w' s') :
  wpAny (model X.prog X.w) A (getItem (.ref a) u) Q E s:=by
 rcases g with ⟨kvs,k,e,ey,l⟩ | ⟨kvs,k,b,e,ey,eb,l⟩
 ·subst ey;obtain ⟨z,hd,vs,rel,dd⟩:=sN I.hok e;obtain ⟨w',hw,rw'⟩:=RelO.some_of (v:=v) (o:=valueAt vs k) (by rw [l]; exact rel.val k);exact wpAny_getItem_of (sM ry) dd.mapOf hw (h w' _ (I.tok _) rw')
 ·subst ey;cases (show u=Value.ref b from ry);obtain ⟨z,hd,xs,rel,dd⟩:=oF I.hok e;obtain ⟨w',hw,rw'⟩:=RelO.some_of (v:=v) (o:=(atKey xs k).map (·.2)) (by rw [l]; exact rel.val k);obtain ⟨p,hp,hp2⟩:=Option.map_eq_some_iff.mp hw;refine wpAny_getItem_heap (tupleKind_room_in1 hu) (ju I.hok eb) dd hp ?_;rw [hp2];exact h w' _ (I.tok _) rw'
theorem jv {h':Heap} {t':Nat} {ob:HO} (I:Inv X pins σ H s) (mu:Mut (H a)) (hs:Heap.SameBut a s.heap h') (he:∃q,h'.get? a=some q) (new:ObjOk X.prog X.w (upd H a ob) h' a ob) :
  Inv X pins σ (upd H a ob) { s with heap:=h',toks:=t' } :=
 I.write (x:=a) (e:=a) mu (.inl rfl) (λ b q hb z=>(hs.2 b hb).trans z) he new
theorem xD {P:KC} {w:KF} {H':Hp} {h':Heap} {kvs:List (Key×V)} {vs:List (Key×KG)} (z:kvs.length<=sizeLine) (hd:(a == sysModules)=false) (rel:KV kvs vs) (dd:h'.DictOf (aZ P w) a vs) :
  ObjOk P w H' h' a (.dK kvs):=⟨z,hd,vs,rel,dd⟩
theorem qr {H':Hp} {Q:Unit->KB->Prop} (hu:A.units + 1 < cLine) (I:Inv X pins σ H s) (g:DPut H a y v H') (ry:RelV y u) (rv:RelV v r) (h:∀s',Inv X pins σ H' s'->Q () s') :
  wpAny (model X.prog X.w) A (setItem (.ref a) u r) Q E s:=by
 rcases g with ⟨kvs,k,e,ey,l,eH⟩ | ⟨kvs,k,b,e,ey,eb,l,eH⟩
 ·subst ey eH;obtain ⟨z,hd,vs,rel,dd⟩:=De I.hok e;have hz:vs.length<=sizeLine:=by rw [<- rel.length]; exact z
  have hl:(cI kvs k v).length<=sizeLine:=by have:=cO kvs k v; omega
  refine wpAny_setItem_pairs (hsz:=hz) (sM ry) dd λ h' dd' hs=>h _ ?_;have he:∃q,h'.get? a=some q:=let ⟨q,_,_,hq,_⟩:=dd'; ⟨q,hq⟩
  exact jv I (by rw [e]; exact True.intro) hs he (xD hl hd (rel.put k rv) dd')
 ·subst ey eH;cases (show u=Value.ref b from ry);obtain ⟨z,hd,xs,rel,dd⟩:=Df I.hok e;have hz:xs.length<=sizeLine:=by rw [<- Paired.length rel]; exact z
  have hl:(cI kvs k v).length<=sizeLine:=by have:=cO kvs k v; omega
  refine wpAny_setItem_heap (hsz:=hz) (tupleKind_room_in1 hu) (ju I.hok eb) dd λ h' dd' hs=>h _ ?_;obtain ⟨q,es,ep,hq,h2,h3,h4,_,h5⟩:=dd';refine jv I (by rw [e]; exact True.intro) hs ⟨q,hq⟩ ⟨hl,hd,_,(rel.put k eb rv).keeps λ c ys ec=>?_,q,es,ep,hq,h2,h3,h4,h5⟩;rw [aj (CC ec e (λ z=>nomatch z))];exact ec
end
def xE (i:Expr):Prop:=∀ov iv,subscripted i false ov iv=operate [ov,iv] (getItem ov iv)
theorem oG {prog:KC} {w:KF} {A:Around} {E:KG->KB->Prop} {s:KB} {env:Env} {value slice:Expr} {pos:Pos} {T id:String} {Q:KG->KB->Prop}
  (hl:typeLookup (.type T) "__getitem__" = pure (some (.builtin id))) (hs:xE slice)
  (h:wpAny (model prog w) A (eval value env) (λ o s₁=>wpAny (model prog w) A (eval slice env) (λ i s₂=>s₂.TypeIs o T/\wpAny (model prog w) A (getItem o i) Q E s₂) E s₁) E s) :
  wpAny (model prog w) A (eval (.Subscript value slice pos) env) Q E s:=by
 refine Subscript_ (wpAny_mono h (λ o s₁ h₁=>wpAny_mono h₁ (λ i s₂ h₂=>?_) λ _ _ x=>x) λ _ _ x=>x);obtain ⟨hT,h₂⟩:=h₂;unfold subscriptTail;refine A0 ?_;rw [getitemInPython_of_ne hT.not_modules];refine A0 (wpAny_specialOf hT hl ?_);have fin:wpAny (model prog w) A (subscripted slice false o i) (λ r s₃=>wpAny (model prog w) A (letTemporaryGo value o r >>= λ _=>pure r) Q E s₃) E s₂:=by rw [hs o i];exact wpAny_operating (wpAny_mono h₂ (λ r s₃ h₃=>A0 (wpAny_letTemporaryGo (A1 h₃))) λ _ _ x=>x)
 first
  | exact A1 (A0 fin)
  | exact A0 (A1 (A0 fin))
  | exact A0 fin
theorem kG {X:Cx} {pins:List (Addr×Obj)} {σ:St} {H:Hp} {s:KB} {a:Addr} {y:V} {o:Option V} (I:Inv X pins σ H s) (g:DGet H a y o):s.TypeIs (.ref a) "dict" := by
 rcases g with ⟨kvs,k,e,_,_⟩ | ⟨kvs,k,b,e,_,_,_⟩
 ·obtain ⟨_,_,vs,_,dd⟩:=sN I.hok e;exact dd.typeIs
 ·obtain ⟨_,_,xs,_,dd⟩:=oF I.hok e;exact dd.typeIs
def Dg (td ty:TE):TE:=λ σ H Q=>td σ H λ x H1=>ty σ H1 λ y H2=>∃a v,x=.ref a/\DGet H2 a y (some v)/\Q v H2
def Dh (td ty tv:TE):TS:=λ D σ H=>tv σ H λ v H1=>td σ H1 λ x H2=>ty σ H2 λ y H3=>∃a H4,x=.ref a/\DPut H3 a y v H4/\D.nx σ H4
section
variable {X:Cx} {o i e value:Expr} {pos pos' tpos:Pos} {td ty tv:TE}
theorem bZ (hu:X.A.units + 1 < cLine) (ho:PE X o td) (hi:PE X i ty) (hs:xE i):PE X (.Subscript o i pos) (Dg td ty):=by intro pins s σ H Q I h;refine oG PySem.F.slot_dict_getitem.lookup hs (thn (ho pins s σ H _ I h) λ u s1 ⟨x,H1,I1,rx,q1⟩=>thn (hi pins s1 σ H1 _ I1 q1) λ iv s2 ⟨y,H2,I2,ry,a,v,ex,g,q2⟩=>?_);subst ex;obtain rfl:u=Value.ref a:=rx;exact ⟨kG I2 g,qp hu I2 g ry λ w' s3 I3 rw'=>⟨v,H2,I3,rw',q2⟩⟩
theorem oH (hu:X.A.units + 1 < cLine) (ho:PE X o td) (hi:PE X i ty) (hv:PE X value tv) (hs:swapsWith value (some (.Subscript o i pos')) pos.line X.env=pure false) :
  PS X (.Assign [.Subscript o i pos'] value pos) (Dh td ty tv):=by
 intro pins s σ H D I h;refine wpAny_Assign_Subscript (thn (hv pins s σ H _ I h) λ r s1 ⟨v,H1,I1,rv,q1⟩=>thn (ho pins s1 σ H1 _ I1 q1) λ u s2 ⟨x,H2,I2,rx,q2⟩=>thn (hi pins s2 σ H2 _ I2 q2) λ iv s3 ⟨y,H3,I3,ry,a,H4,ex,g,q3⟩=>?_) hs;subst ex;obtain rfl:u=Value.ref a:=rx;exact qr hu I3 g ry rv λ s4 I4=>⟨σ,H4,I4,q3⟩
end
theorem sO {P:KC} {w:KF} {H:Hp} (h:Heap) (hb:sysModules < h.objs.size):ObjOk P w H (h.push { cls:=.type "dict",data:=.dict #[] }) h.objs.size (.dT []) :=
 ⟨E9 _,beq_eq_false_iff_ne.mpr (Ne.symm (B9 hb)),[],.nil,_,#[],0,A8 _ rfl,⟨rfl,rfl,rfl⟩,rfl,rfl,List.nodup_nil⟩
def xF:TE:=λ _ H Q=>∀p,H p=none->Q (.ref p) (upd H p (.dT []))
section
variable {X:Cx} {pos:Pos}
theorem kH:PE X (.Dict [] [] pos) xF:=λ pins s σ H Q I h =>
 wpAny_Dict_empty ⟨.ref s.heap.objs.size,_,I.laid (a:=s.heap.objs.size) (o:=.dT []) (t':=s.toks) (λ _ _ q=>A7 _ q) (B3 _) (sO s.heap I.big),rfl,h _ (I.hok.fresh (B3 _))⟩
end
structure M1 (X:Cx) (o:Expr) (m:Str) (apos:Pos) (e:Expr) (cpos:Pos):Prop where
 base:attributeBase o m X.env (eval o X.env)=eval o X.env
 few:((backTo cpos (starEach [e] X.env)).all (λ x=>!x.1) && (backToKw cpos (keywordEach [] X.env)).all (λ x=>x.1.isSome)
  && decide (([e]:List Expr).length + ([]:List Keyword).length + (if ([]:List Keyword).isEmpty then 0 else 1) < 30))=true
 line:(apos.endLine == cpos.line)=true
 trees:backTo cpos (starEach [e] X.env)=[(false,eval e X.env)]
structure M2 (X:Cx) (o:Expr) (m:Str) (apos:Pos) (e f:Expr) (cpos:Pos):Prop where
 base:attributeBase o m X.env (eval o X.env)=eval o X.env
 few:((backTo cpos (starEach [e,f] X.env)).all (λ x=>!x.1) && (backToKw cpos (keywordEach [] X.env)).all (λ x=>x.1.isSome)
  && decide (([e,f]:List Expr).length + ([]:List Keyword).length + (if ([]:List Keyword).isEmpty then 0 else 1) < 30))=true
 line:(apos.endLine == cpos.line)=true
 trees:backTo cpos (starEach [e,f] X.env)=[(false,eval e X.env),(false,eval f X.env)]
end L2
/- THE LAST THEOREM (shape; LID,My.* are yours):
   My.Adr: a structure of the addresses that your layer names (classes,functions); My.Txt K t: a structure (Prop) of the equations over K;
   My.txt_mk : {K} {implicit addresses ..} (e1 : nsIn K mainGlobals "law" = some (some (.ref f))) (e2 : K.lookup f = some ⟨oc,od,.func (fnOf "law" "law" params body scope dV kV doc pm an cdv ct),sl⟩) (e3 : codeIn K cdv "law" = true) .. : ∃ t,My.Txt K t
(the tactic k_is has no namespace: write k_is) -/
namespace L2
open PySem PySem.Spec PyProof.Rows
theorem jw {X:Cx} (K:C4) {x y:Str} {px py pos:Pos} {k:Nat} (hK:X.K=K) (hc:X.calm=true) (hN:X.N.Nodup) (h0:X.N[0]? = some x) (h1:X.N[1]? = some y) (l0:X.env.scope.names.lookup x=some .local) (l1:X.env.scope.names.lookup y=some .local) :
  PG X (.Tuple [.Name x px,.Name y py] k pos) (gTup K 2 (gCons (jY 0) (gCons (jY 1) CJ))) :=
 hK ▸ aS hc (ah (ai hN h0 (.inl l0) (.inr l0)) (ah (ai hN h1 (.inl l1) (.inr l1)) aG))
theorem sP {l1 l2:Addr} {xs ys:List V} {σ:St} {cap:List Nat} {k:Nat} {g:TG} {tt:TT} {te:TE} {Q:List V->Hp->Prop} {H:Hp} (Pv:Nat->List V->Hp->Prop) (hn:xs.length=ys.length)
  (hk:∀i zs H',Pv i zs H'->H' l1=some (.lst xs)/\H' l2=some (.lst ys)) (h0:Pv 0 [] H)
  (hz:∀i zs H',i < xs.length->Pv i zs H'->zs.length < sizeLine)
  (ht:∀i x y p zs H',xs[i]? = some x->ys[i]? = some y->H' p=none->Pv i zs H'->g (.ref p) (bd σ cap k) (upd H' p (.tup [x,y])) λ σ2 H2=>leS (bd σ cap k) σ2/\tt σ2 H2 λ ok H3=>if ok=true then te σ2 H3 (λ v H4=>Nx xs.length Pv i (zs ++ [v]) H4) else Nx xs.length Pv i zs H3)
  (hd:∀zs H',Pv xs.length zs H'->zs.length<=sizeLine/\Q zs H'):∃W,(∃m,W 0 m [] H)/\fj σ cap k (Itz l1 l2) g tt te Q W:=by
 refine ⟨λ i m zs H'=>m=xs.length - i/\i<=xs.length/\Pv i zs H',⟨_,Y,E9 _,h0⟩,?_⟩;rintro i m zs H' ⟨rfl,hi,p⟩;obtain ⟨e1,e2⟩:=hk i zs H' p
 by_cases hlt:i < xs.length
 ·have hx:xs[i]? = some xs[i]:=by simp [hlt]
  have hy:ys[i]? = some (ys[i]'(by omega)):=by simp [show i < ys.length by omega]
  refine .inr ⟨⟨xs,ys,_,_,e1,e2,hx,hy⟩,hz i zs H' hlt p,λ v H2 yl=>?_⟩
  ·obtain ⟨q,xs',ys',x,y,hq,rfl,rfl,e1',e2',ex,ey⟩:=yl;rw [e1] at e1'; cases e1';rw [e2] at e2'; cases e2';exact ht i x y q zs H' ex ey hq p
 ·have e:i=xs.length:=by omega
  subst e;obtain ⟨a1,a2⟩:=hd zs H' p;exact .inl ⟨⟨xs,ys,e1,e2,.inl (B3 _)⟩,a1,a2⟩
end L2
namespace PyProof.Rows
set_option autoImplicit false
open PySem
structure SBaseT (κ0:SortKind) (a₀:Array Keyed) (st:SortSt):Prop where
 perm:(arrOf st).Perm a₀
 kind:kindOf st=κ0
 failed:failedOf st=none
 pend:pendingOf st=#[]
def cr (prog:KC) (w:KF) (A:Around) (s:KB) (κ0:SortKind) (κ:KeyKind):Prop :=
 ∀ (E:KG->KB->Prop) (x y:KG) (a b:κ.α) (Q:Bool->KB->Prop),κ.keyOf x=some a->κ.keyOf y=some b->Q (κ.blt a b) s->wpAny (model prog w) A (keyLt' κ0 x y) Q E s
end PyProof.Rows
namespace L2
open PySem PySem.Spec PyProof.Rows
def ce:List Bool->List KG->Option (List Int)
 | [],[]=>some []
 | false :: r,.int i _ :: vs=>(ce r vs).map (i :: ·)
 | true :: r,.bool b :: vs=>(ce r vs).map ((if b=true then 1 else 0) :: ·)
 | _,_=>none
def kI:List Bool->List V->Option (List Int)
 | [],[]=>some []
 | false :: r,.int i :: vs=>(kI r vs).map (i :: ·)
 | true :: r,.bl b :: vs=>(kI r vs).map ((if b=true then 1 else 0) :: ·)
 | _,_=>none
theorem mq:∀ {sh:List Bool} {vs:List V} {us:List KG} {k:List Int},Vals vs us->kI sh vs=some k->ce sh us=some k
 | [],[],_,_,r,h=>by cases r; exact h
 | [],_ :: _,_,_,_,h=>by cases h
 | false :: r,v :: vs,us,k,rv,h=>by
  cases rv with
  | cons r1 r2 =>
   cases v with
   | int i =>
    obtain ⟨t,rfl⟩:=r1;have h:(kI r vs).map (i :: ·)=some k:=h;show (ce r _).map (i :: ·)=some k;cases e:kI r vs with
    | none=>rw [e] at h; cases h
    | some k'=>rw [e] at h; rw [mq r2 e]; exact h
   | _=>cases h
 | true :: r,v :: vs,us,k,rv,h=>by
  cases rv with
  | cons r1 r2 =>
   cases v with
   | bl b =>
    cases (show _=Value.bool b from r1);have h:(kI r vs).map ((if b=true then 1 else 0) :: ·)=some k:=h;show (ce r _).map ((if b=true then 1 else 0) :: ·)=some k;cases e:kI r vs with
    | none=>rw [e] at h; cases h
    | some k'=>rw [e] at h; rw [mq r2 e]; exact h
   | _=>cases h
 | false :: _,[],_,_,_,h=>by cases h
 | true :: _,[],_,_,_,h=>by cases h
def df:List Int->List Int->Bool
 | [],[]=>false
 | [],_ :: _=>true
 | _ :: _,[]=>false
 | a :: r,b :: t=>if a=b then df r t else decide (a < b)
theorem hW:∀a,df a a=false
 | []=>rfl
 | a :: r=>by rw [df,if_pos rfl]; exact hW r
theorem iT:∀a b c,df a b=true->df b c=true->df a c=true
 | [],[],_,h,_=>by cases h
 | [],_ :: _,[],_,h=>by cases h
 | [],_ :: _,_ :: _,_,_=>rfl
 | _ :: _,[],_,h,_=>by cases h
 | _ :: _,_ :: _,[],_,h=>by cases h
 | a :: r,b :: t,c :: u,h1,h2=>by
  rw [df] at h1 h2 ⊢
  by_cases e1:a=b
  ·rw [if_pos e1] at h1
   by_cases e2:b=c
   ·rw [if_pos e2] at h2;rw [if_pos (e1.trans e2)];exact iT r t u h1 h2
   ·rw [if_neg e2] at h2;rw [if_neg (by rw [e1]; exact e2),e1]; exact h2
  ·rw [if_neg e1] at h1;have h1:=C0 h1
   by_cases e2:b=c
   ·rw [if_neg (by omega)]; exact B0 (by omega)
   ·rw [if_neg e2] at h2;have h2:=C0 h2;rw [if_neg (by omega)]; exact B0 (by omega)
theorem oI:∀a b c,df a c=true->df a b=true\/df b c=true
 | [],[],_,h=>.inr h
 | [],_ :: _,_,_=>.inl rfl
 | _ :: _,_,[],h=>by cases h
 | _ :: _,[],_ :: _,_=>.inr rfl
 | a :: r,b :: t,c :: u,h=>by
  rw [df] at h;rw [df,df]
  by_cases e1:a=b
  ·rw [if_pos e1]
   by_cases e2:b=c
   ·rw [if_pos (e1.trans e2)] at h;rw [if_pos e2];exact oI r t u h
   ·rw [if_neg (by rw [e1]; exact e2)] at h;rw [if_neg e2];exact .inr (by rw [<- e1]; exact h)
  ·rw [if_neg e1]
   by_cases e3:a=c
   ·rw [if_neg (by omega)]
    by_cases z:a < b
    ·exact .inl (B0 z)
    ·exact .inr (B0 (by omega))
   ·rw [if_neg e3] at h;have h:=C0 h
    by_cases z:a < b
    ·exact .inl (B0 z)
    ·rw [if_neg (by omega)]; exact .inr (B0 (by omega))
theorem iU:∀a b,df a b=false->df b a=false->a=b
 | [],[],_,_=>rfl
 | [],_ :: _,h,_=>by cases h
 | _ :: _,[],_,h=>by cases h
 | a :: r,b :: t,h1,h2=>by
  rw [df] at h1 h2
  by_cases e:a=b
  ·rw [if_pos e] at h1;rw [if_pos e.symm] at h2;rw [e,iU r t h1 h2]
  ·rw [if_neg e] at h1;rw [if_neg (Ne.symm e)] at h2;have:=of_decide_eq_false h1;have:=of_decide_eq_false h2;exact absurd (show a=b by omega) e
def vq (h:Heap) (sh:List Bool):KeyKind where
 α:=List Int
 blt:=df
 irrefl:=hW
 trans:=iT
 negTrans:=oI
 total:=iU
 keyOf:=λ v=>match v with
  | .ref a=>match h.get? a with
   | some o=>match o.data with
    | .seq xs _=>ce sh xs.toList
    | _=>none
   | none=>none
  | _=>none
 dflt:=[]
theorem oJ {h:Heap} {sh:List Bool} {v:KG} {k:List Int} (e:(vq h sh).keyOf v=some k):∃a o xs n,v=.ref a/\h.get? a=some o/\o.data=.seq xs n/\ce sh xs.toList=some k:=by
 cases v with
 | ref a =>
  have e:(match h.get? a with
   | some o=>match o.data with
    | .seq xs _=>ce sh xs.toList
    | _=>none
   | none=>none)=some k:=e
  cases h1:h.get? a with
  | none=>rw [h1] at e; cases e
  | some o =>
   rw [h1] at e;cases h2:o.data with
   | seq xs n =>
    have e:(match o.data with
     | .seq xs _=>ce sh xs.toList
     | _=>none)=some k:=e
    rw [h2] at e;exact ⟨a,o,xs,n,Y,h1,h2,e⟩
   | _ =>
    have e:(match o.data with
     | .seq xs _=>ce sh xs.toList
     | _=>none)=some k:=e
    rw [h2] at e; cases e
 | _=>cases e
theorem fM:∀ {sh:List Bool} {us:List KG} {k:List Int},ce sh us=some k->us.length=sh.length
 | [],[],_,_=>rfl
 | [],_ :: _,_,h=>by cases h
 | false :: r,[],_,h=>by cases h
 | true :: r,[],_,h=>by cases h
 | false :: r,v :: vs,k,h=>by
  cases v with
  | int i t =>
   have h:(ce r vs).map (i :: ·)=some k:=h;cases e:ce r vs with
   | none=>rw [e] at h; cases h
   | some k'=>rw [List.length_cons,List.length_cons,fM e]
  | _=>cases h
 | true :: r,v :: vs,k,h=>by
  cases v with
  | bool b =>
   have h:(ce r vs).map ((if b=true then 1 else 0) :: ·)=some k:=h;cases e:ce r vs with
   | none=>rw [e] at h; cases h
   | some k'=>rw [List.length_cons,List.length_cons,fM e]
  | _=>cases h
section
variable {prog:KC} {w:KF} {A:Around} {E:KG->KB->Prop} {s:KB}
theorem kJ {a b:Bool} {Q:Bool->KB->Prop} (h:Q (a == b) s):wpAny (model prog w) A (eqBool (.bool a) (.bool b)) Q E s:=by
 unfold eqBool;show wpAny _ _ (if (Value.bool a == Value.bool b)=true then _ else _) Q E s
 by_cases hab:(Value.bool a == Value.bool b)=true
 ·rw [if_pos hab];have e:a=b:=by have:=eq_of_beq hab; injection this
  subst e;exact A0 (wpAny_rule (A1 (by simpa using h)))
 ·rw [if_neg hab];exact A0 (eq_bool (G4 h))
theorem jx {bb:Bool} {Q:Bool->KB->Prop}:∀ (sh:List Bool) (xs ys:List KG) (a c:List Int) (i:Nat),ce sh xs=some a->ce sh ys=some c->((bb && i == 0)=true->sh.head? = some false\/sh=[])->Q (df a c) s->PySem.W.KatLex prog w A bb false Q (xs.zip ys) i s
 | [],[],[],a,c,i,h1,h2,_,q=>by cases h1; cases h2; exact PySem.W.kat_nil q
 | [],_ :: _,_,_,_,_,h,_,_,_=>by cases h
 | [],[],_ :: _,_,_,_,_,h,_,_=>by cases h
 | false :: r,[],_,_,_,_,h,_,_,_=>by cases h
 | true :: r,[],_,_,_,_,h,_,_,_=>by cases h
 | false :: r,_ :: _,[],_,_,_,_,h,_,_=>by cases h
 | true :: r,_ :: _,[],_,_,_,_,h,_,_=>by cases h
 | false :: r,v :: vs,u :: us,a,c,i,h1,h2,hb,q=>by
  cases v with
  | int p t=>cases u with
   | int p' t' =>
    have h1:(ce r vs).map (p :: ·)=some a:=h1;have h2:(ce r us).map (p' :: ·)=some c:=h2;cases e1:ce r vs with
    | none=>rw [e1] at h1; cases h1
    | some a' =>
     cases e2:ce r us with
     | none=>rw [e2] at h2; cases h2
     | some c' =>
      rw [e1] at h1; rw [e2] at h2;cases h1; cases h2;rw [df] at q;refine PySem.W.kat_cons (wpAny_eqBool_int (PySem.W.kat_go (λ e=>PySem.W.kat_yes ?_) (λ e=>PySem.W.kat_no ?_)))
      ·rw [if_pos (by simpa using e)] at q;exact jx r vs us a' c' (i + 1) e1 e2 (λ z=>by simp at z) q
      ·rw [if_neg (by simpa using e)] at q;cases z:(bb && i == 0) with
       | true=>exact oneLt_int q
       | false=>exact PySem.W.kat_one _ _ (PyProof.Rows.lt_int q)
   | _=>cases h2
  | _=>cases h1
 | true :: r,v :: vs,u :: us,a,c,i,h1,h2,hb,q=>by
  cases v with
  | bool p=>cases u with
   | bool p' =>
    have h1:(ce r vs).map ((if p=true then 1 else 0) :: ·)=some a:=h1;have h2:(ce r us).map ((if p'=true then 1 else 0) :: ·)=some c:=h2;cases e1:ce r vs with
    | none=>rw [e1] at h1; cases h1
    | some a' =>
     cases e2:ce r us with
     | none=>rw [e2] at h2; cases h2
     | some c' =>
      rw [e1] at h1; rw [e2] at h2;cases h1; cases h2;rw [df] at q;refine PySem.W.kat_cons (kJ (PySem.W.kat_go (λ e=>PySem.W.kat_yes ?_) (λ e=>PySem.W.kat_no ?_)))
      ·have e:p=p':=by simpa using e
       rw [if_pos (by rw [e])] at q;exact jx r vs us a' c' (i + 1) e1 e2 (λ z=>by simp at z) q
      ·have e:p≠p':=by simpa using e
       rw [if_neg (by cases p <;> cases p' <;> simp_all)] at q;cases z:(bb && i == 0) with
       | true=>rcases hb z with z | z <;> cases z
       | false =>
        refine PySem.W.kat_one _ _ (PyProof.Rows.lt_bool ?_);show Q (decide (b2i p < b2i p')) s;rw [show decide (b2i p < b2i p')=decide ((if p=true then (1:Int) else 0) < (if p'=true then 1 else 0)) by cases p <;> cases p' <;> rfl];exact q
   | _=>cases h2
  | _=>cases h1
theorem qt {h:Heap} {sh:List Bool} (h0:sh.head? = some false) (k:∀b o,h.get? b=some o->s.heap.get? b=some o):cr prog w A s (tuples' true) (vq h sh):=by intro E x y a b Q ha hb q;obtain ⟨x',ox,xs,n,rfl,hx,dx,fx⟩:=oJ ha;obtain ⟨y',oy,ys,m,rfl,hy,dy,fy⟩:=oJ hb;have l1:=fM fx;have l2:=fM fy;refine PySem.W.kat_lt (k _ _ hx) dx (k _ _ hy) dy ?_;rw [show decide (xs.size < ys.size)=false from decide_eq_false (by rw [<- Array.length_toList,<- Array.length_toList]; omega)];exact jx sh _ _ a b 0 fx fy (λ _=>.inl h0) q
end
theorem iV:∀ {as:List Addr} {its:List KG},Vals (as.map V.ref) its->its=as.map Value.ref
 | [],_,r=>by cases r; rfl
 | a :: as,_,r=>by
  cases r with
  | cons r1 r2 =>
   have e:_=Value.ref a:=r1;subst e;rw [List.map_cons,iV r2]
theorem iW:∀as:List Addr,Vals (as.map V.ref) (as.map Value.ref)
 | []=>.nil
 | a :: as=>.cons rfl (iW as)
theorem sQ {α β:Type} {f:α->β} (g:β->Option α) (hg:∀a,g (f a)=some a) {l:List β} {as:List α} (h:l.Perm (as.map f)):∃as':List α,l=as'.map f/\as'.Perm as:=by
 refine ⟨l.filterMap g,?_,?_⟩
 ·have all:∀x∈l,∃a,f a=x:=λ x hx=>by obtain ⟨a,_,e⟩:=List.mem_map.mp (h.mem_iff.mp hx);exact ⟨a,e⟩
  clear h
  induction l with
  | nil=>rfl
  | cons x r ih =>
   obtain ⟨a,rfl⟩:=all x B7;rw [List.filterMap_cons,hg a,List.map_cons,<- ih λ y hy=>all y (List.mem_cons_of_mem _ hy)]
 ·have:=h.filterMap g;rw [List.filterMap_map,show (g∘f)=some from funext hg,List.filterMap_some] at this;exact this
theorem gx {h:Heap} {sh:List Bool} {key:Addr->List Int} (h0:sh.head? = some false):∀ (as:List Addr),(∀a∈as,∃o us n,h.get? a=some o/\o.cls=.type "tuple" /\ o.data=.seq (List.toArray us) n/\ce sh us=some (key a))->∃fs,PySem.W.KatTups h (as.map Value.ref) fs/\fs.length=as.length/\∀v∈fs,∃i t,v=Value.int i t
 | [],_=>⟨[],trivial,Y,λ v hv=>by cases hv⟩
 | a :: as,H=>by
  obtain ⟨fs,h1,h2,h3⟩:=gx h0 as λ b hb=>H b (B4 _ hb);obtain ⟨o,us,n,e,c,d,f⟩:=H a B7;obtain ⟨r,hr⟩:∃r,sh=false :: r:=by
   cases sh with
   | nil=>cases h0
   | cons x r=>cases h0; exact ⟨r,Y⟩
  subst hr;cases us with
  | nil=>cases f
  | cons u us =>
   cases u with
   | int i t=>exact ⟨.int i t :: fs,PySem.W.KatTups.cons e c d (by simp) h1,by rw [List.length_cons,List.length_cons,h2],λ v hv=>(List.mem_cons.mp hv).elim (λ z=>⟨i,t,z⟩) (h3 v)⟩
   | _=>cases f
section
variable {X:Cx}
theorem kL {lo:Int} {n:Nat} {σ:St} {cap:List Nat} {k:Nat} {g:TG} {tt:TT} {te:TE} {Q:List V->Hp->Prop} {H:Hp} (Pv:Nat->List V->Hp->Prop) (h0:Pv 0 [] H)
  (ht:∀i ys H',i < n->Pv i ys H'->ys.length < sizeLine/\g (.int (lo + i)) (bd σ cap k) H' λ σ2 H2=>leS (bd σ cap k) σ2/\tt σ2 H2 λ ok H3=>if ok=true then te σ2 H3 (λ v H4=>Nx n Pv i (ys ++ [v]) H4) else Nx n Pv i ys H3)
  (hd:∀ys H',Pv n ys H'->ys.length<=sizeLine/\Q ys H'):∃W,(∃m,W 0 m [] H)/\fj σ cap k (Itr lo n) g tt te Q W:=by
 refine ⟨λ i m ys H'=>m=n - i/\i<=n/\Pv i ys H',⟨_,Y,E9 _,h0⟩,?_⟩;rintro i m ys H' ⟨rfl,hi,p⟩
 by_cases hin:i < n
 ·obtain ⟨e,hg⟩:=ht i ys H' hin p;refine .inr ⟨hin,e,λ x H2 yl=>?_⟩;obtain ⟨e1,e2⟩:=yl;subst e1 e2;exact hg
 ·have e:i=n:=by omega
  subst e;obtain ⟨a1,a2⟩:=hd ys H' p;exact .inl ⟨B3 _,a1,a2⟩
end
end L2
namespace PySem
theorem Paired.getL {α β:Type} {F:α->β->Prop}:∀ {l₁:List α} {l₂:List β} {i:Nat} {y:β},Paired F l₁ l₂->l₂[i]? = some y->∃x,l₁[i]? = some x/\F x y
 | _,_,_,_,.nil,e=>by simp at e
 | _,_,0,_,.cons h _,e=>by simp at e; subst e; exact ⟨_,Y,h⟩
 | _,_,i + 1,y,.cons _ t,e=>by obtain ⟨x,h1,h2⟩:=Paired.getL (i:=i) t (by simpa using e);exact ⟨x,by simpa using h1,h2⟩
section
variable {prog:KC} {w:KF} {K:Type} [DecidableEq K] {knd:HeapKind prog w K} {A:Around} {E:KG->KB->Prop} {s:KB} {d:Addr}
theorem mr (hd:(d == sysModules)=false) :
  MeetsIn prog w (Builtin.«dict.__len__» ⟨[.ref d],[]⟩) (λ _ R s=>∃xs,s.heap.DictOfH knd d xs/\R (.ok (.ret (.int xs.length s.toks))) { s with toks:=s.toks + 1 }) :=
 .of_wp λ A R s ⟨xs,hm,hR⟩=>by obtain ⟨o,es,ep,ho,hc,hda,hes,_⟩:=hm;show wpAny _ _ (dictSize d >>= _) _ _ s;unfold dictSize;refine A0 (A0 (wpAny_dictEntries ho hda (A1 ?_)));show wpAny _ _ (Builtin.Dict.pendingCount d >>= _) _ _ s;refine A0 (wpAny_pendingCount_other hd (wpAny_ret_mkInt ?_));rw [Nat.add_zero,size_of_entries hes];exact hR
theorem Hu {xs:List (K×Addr×KG)} {Q:KG->KB->Prop} (hd:(d == sysModules)=false) (hm:s.heap.DictOfH knd d xs) (hfit:(xs.length:Int) < 2 ^ 63)
  (h:Q (.int xs.length (s.toks + 1)) { s with toks:=s.toks + 1 + 1 }):wpAny (model prog w) A (call (.builtin "len") [.ref d]) Q E s:=by
 have ht:s.TypeIs (.ref d) "dict" := let ⟨o,_,_,ho,hc,_⟩:=hm; ⟨o,ho,hc.1⟩
 refine Calls.call_function_entry kind_len plain_len entry_len (args_len1 _) ?_;unfold Builtin.«len»;refine A0 (m:=oneArg "len" _) (A1 ?_);refine A0 (m:=callSpecial? (.ref d) (Str.ofString "__len__")) (wpAny_callSpecial?_slot (name:=Str.ofString "__len__") ht F.slot_dict_len (call_meetsIn F.slot_dict_len ht F.entry_dict_len (F.args_dict_len_1 _) (mr (knd:=knd) hd) ⟨xs,hm,?_⟩));show wpAny _ _ _ _ _ { s with toks:=s.toks + 1 };refine A0 (wpAny_holding (A1 (A0 (wpAny_letGo ?_))));show wpAny _ _ (if ((xs.length:Nat):Int) < 0 then _ else _) _ _ _;rw [if_neg (by omega)];show wpAny _ _ (if ((xs.length:Nat):Int)≥2 ^ 63 then _ else _) _ _ _;rw [if_neg (by omega)];exact A0 (wpAny_mkInt (A1 ⟨_,rfl,h⟩))
end
end PySem
namespace L2
open PySem PySem.Spec PyProof.Rows
section
variable {X:Cx}
theorem mv:cL X (.builtin "len") (λ xs H Q=>∃a kvs,xs=[V.ref a]/\H a=some (.dT kvs)/\Q (.int kvs.length) H):=by intro pins s σ H xs us Q I r h;obtain ⟨a,kvs,rfl,ha,q⟩:=h;obtain ⟨u,rfl,ru⟩:=fD r;cases ru;obtain ⟨z,hd,ys,rel,dd⟩:=oF I.hok (.inl ha);have hl:kvs.length=ys.length:=E4 rel;refine Hu hd dd (by rw [<- hl]; rw [sizeLine_eq] at z; omega) ?_;rw [<- hl];exact ⟨.int kvs.length,H,I.tok _,⟨_,Y⟩,q⟩
end
theorem jy (elt tg iter:Expr) (ifs:List Expr) (tg2 iter2:Expr) (ifs2:List Expr) (scope:Scope) (pos:Pos) (it acc:KG) (env:Env) :
  compTurn (.ListComp elt [⟨tg,iter,ifs,0⟩,⟨tg2,iter2,ifs2,0⟩] scope pos) 0 it acc env=(do
   standAt iter.pos
   match<-pyNext it with
   | none=>pure (.done .next)
   | some v =>
    letOwnedTupleGo tg it v
    assign tg env v
    let mut ok:=true
    for c in ifs do
     if ok then ok<-isTrue c env (eval c env)
    if ok then
     let x<-eval iter2 env
     standAt iter2.pos
     let x<-foldedSetIterable iter2 env x
     let i2<-holding [x] (pyIter x)
     let _<-runOwn (.compStart (.ListComp elt [⟨tg,iter,ifs,0⟩,⟨tg2,iter2,ifs2,0⟩] scope pos) 1 i2 acc env) env
    again (.compLoop (.ListComp elt [⟨tg,iter,ifs,0⟩,⟨tg2,iter2,ifs2,0⟩] scope pos) 0 it acc env)):=by rfl
theorem kM (elt tg iter:Expr) (ifs:List Expr) (tg2 iter2:Expr) (ifs2:List Expr) (scope:Scope) (pos:Pos) (it acc:KG) (env:Env) :
  compTurn (.ListComp elt [⟨tg,iter,ifs,0⟩,⟨tg2,iter2,ifs2,0⟩] scope pos) 1 it acc env=(do
   standAt iter2.pos
   match<-pyNext it with
   | none=>pure (.done .next)
   | some v =>
    letOwnedTupleGo tg2 it v
    assign tg2 env v
    let mut ok:=true
    for c in ifs2 do
     if ok then ok<-isTrue c env (eval c env)
    if ok then
     (do let _<-call (.builtin "list.append") [acc,<- eval elt env])
    again (.compLoop (.ListComp elt [⟨tg,iter,ifs,0⟩,⟨tg2,iter2,ifs2,0⟩] scope pos) 1 it acc env)):=by rfl
theorem dR {prog:KC} {w:KF} {A:Around} {R:Result->KB->Prop} {s:KB} {elt tg iter tg2 iter2:Expr} {ifs ifs2:List Expr} {scope:Scope} {pos:Pos} {it acc:KG} {env:Env}
  (h0:codeAny (model prog w) A (.compLoop (.ListComp elt [⟨tg,iter,ifs,0⟩,⟨tg2,iter2,ifs2,0⟩] scope pos) 1 it acc env) R s)
  (h:wpAny (model prog w) A (pyIter it) (λ it' s'=>codeAny (model prog w) A (.compLoop (.ListComp elt [⟨tg,iter,ifs,0⟩,⟨tg2,iter2,ifs2,0⟩] scope pos) 1 it' acc env) R s')
   (notedBy (model prog w) A env λ x s'=>R (.error x) s') s) :
  codeAny (model prog w) A (.compStart (.ListComp elt [⟨tg,iter,ifs,0⟩,⟨tg2,iter2,ifs2,0⟩] scope pos) 1 it acc env) R s:=by
 refine codeAny_of_tree ?_;show wpAny _ _ ((compStart (.ListComp elt [⟨tg,iter,ifs,0⟩,⟨tg2,iter2,ifs2,0⟩] scope pos) 1 it acc env).onRaise (λ x=>do noteFrame x env; standAt theWindowsPlace)) _ _ s;refine wpAny_notedAt ?_;unfold compStart;show wpAny _ _ (ask >>= _) _ _ s;refine A0 (wpAny_askSetting (wpAny_ite ?_))
 split
 ·first
   | exact A0 (A1 (A1 (And.intro rfl h0)))
   | exact A1 (And.intro rfl h0)
 ·first
   | exact A0 (wpAny_rule (A0 (wpAny_standAt (A0 (wpAny_mono h (λ it' s' h'=>A1 (And.intro rfl h')) λ _ _ x=>x)))))
   | (refine A0 (wpAny_rule ?_); show wpAny _ _ (standAt iter2.pos >>= _) _ _ s; exact A0 (wpAny_standAt (A0 (wpAny_mono h (λ it' s' h'=>A1 (And.intro rfl h')) λ _ _ x=>x))))
def jz (σ2:St) (J:It) (g:TG) (tt:TT) (te:TE) (N:List V->Hp->Prop) (W:Nat->Nat->List V->Hp->Prop):Prop :=
 ∀i m ys H,W i m ys H->(J.stop i H/\N ys H) \/
  (J.go i H/\ys.length < sizeLine/\∀x H',J.yld i H x H'->g x σ2 H' λ σ3 H2=>leS σ2 σ3/\tt σ3 H2 λ ok H3 =>
   if ok=true then te σ3 H3 (λ v H4=>∃m',m' < m/\W (i + 1) m' (ys ++ [v]) H4) else ∃m',m' < m/\W (i + 1) m' ys H3)
def jA (σ:St) (cap:List Nat) (k:Nat) (J:It) (g:TG) (tt:TT) (wi2:TI) (g2:TG) (tt2:TT) (te:TE) (Q:List V->Hp->Prop) (W:Nat->Nat->List V->Hp->Prop):Prop :=
 ∀i m ys H,W i m ys H->(J.stop i H/\ys.length<=sizeLine/\Q ys H) \/
  (J.go i H/\∀x H',J.yld i H x H'->g x (bd σ cap k) H' λ σ2 H2=>leS (bd σ cap k) σ2/\tt σ2 H2 λ ok H3 =>
   if ok=true then wi2 σ2 H3 (λ J2 H4=>∃W2:Nat->Nat->List V->Hp->Prop,(∃m2,W2 0 m2 ys H4)/\jz σ2 J2 g2 tt2 te (λ zs H5=>∃m',m' < m/\W (i + 1) m' zs H5) W2) else ∃m',m' < m/\W (i + 1) m' ys H3)
section
variable {X:Cx} {pins:List (Addr×Obj)} {σ:St} {H2:Hp} {s2:KB} {scope:Scope} {own cs:List Str} {cap:List Nat} {fp:List Addr} {it:Addr} {tn:Nat->Heap->Prop}
 {elt tg iter tg2 iter2:Expr} {ifs ifs2:List Expr} {pos:Pos} {J:It} {g g2:TG} {tt tt2:TT} {te:TE} {wi2:TI} {E:KG->KB->Prop} {W:Nat->Nat->List V->Hp->Prop} {Qf:List V->Hp->Prop}
theorem qu {RR:KG->Addr->Result->KB->Prop} (I:Inv X pins σ H2 s2) (ok:CompOk X scope own cs cap) (hc:X.calm=true) (T:Turn X.prog X.w X.K tg J fp it tn) (st:tn 0 s2.heap) (hf:∀b∈fp,eZ X pins H2 b)
  (hg:∀C,PG (aH X pins s2 H2 scope C (own ++ cs) fp) tg g) (hi:∀C,jq (aH X pins s2 H2 scope C (own ++ cs) fp) ifs tt) (hit2:∀C,PI (aH X pins s2 H2 scope C (own ++ cs) fp) tg2 iter2 wi2) (hs2:∀C x,foldedSetIterable iter2 (compEnvC scope (bg X.env scope.names []) C X.env) x=pure x) (hg2:∀C,PG (aH X pins s2 H2 scope C (own ++ cs) fp) tg2 g2) (hi2:∀C,jq (aH X pins s2 H2 scope C (own ++ cs) fp) ifs2 tt2) (he:∀C,PE (aH X pins s2 H2 scope C (own ++ cs) fp) elt te)
  (w0:∃m,W 0 m [] H2) (turn:jA σ cap own.length J g tt wi2 g2 tt2 te Qf W)
  (hRR:∀D C s',BlkEnd X pins σ Qf D C s'->RR (.ref D) C (.ok .next) s') :
  wpAny (model X.prog X.w) X.A (newList []) (λ acc s₃=>wpAny (model X.prog X.w) X.A (newFunctionEnv scope X.env.globals (bg X.env scope.names []) [] X.env.qual none .none (some X.env)) (λ cenv s₄ =>
   codeAny (model X.prog X.w) X.A (.compStart (.ListComp elt [⟨tg,iter,ifs,0⟩,⟨tg2,iter2,ifs2,0⟩] scope pos) 0 (.ref it) acc { cenv with scope:=relabel scope X.env }) (RR acc cenv.locals) s₄) E s₃) E s2:=by
 refine J0 (wpAny_newFunctionEnv ok.cell (by intro y hy; simp at hy) (λ h₁ hns₁ hsb₁=>?_) ok.kind);dsimp only at hns₁ hsb₁ ⊢;generalize hHH:s2.heap.push { cls:=.type "list",dict:=none,data:=.seq ([]:List KG).toArray }=HH at hns₁ hsb₁ ⊢;have hCs:HH.objs.size=s2.heap.objs.size + 1:=by rw [<- hHH,Heap.size_push]
 have hDC:s2.heap.objs.size≠HH.objs.size:=by rw [hCs]; exact B9 (G1 _)
 have hCle:s2.heap.objs.size<=HH.objs.size:=by rw [hCs]; exact Nat.le_succ _
 have hfl:∀b∈fp,b < s2.heap.objs.size:=λ b hb=>by obtain ⟨o,e,_⟩:=T.obj 0 _ st b hb;exact A9 e
 have old:∀b o,s2.heap.get? b=some o->h₁.get? b=some o:=λ b o e=>hsb₁.extBut b o (by rw [hCs]; exact B9 (Nat.lt_succ_of_lt (A9 e))) (A7 _ (hHH ▸ A7 _ e));have hacc:h₁.PlainList s2.heap.objs.size #[]:=⟨_,hsb₁.extBut _ _ hDC (A7 _ (hHH ▸ A8 _ rfl))⟩
 generalize hD:s2.heap.objs.size=D at *;generalize hCC:HH.objs.size=C at *;have hns₁':h₁.Ns C (λ _=>none):=hns₁;have I0:Inv (aH X pins s2 H2 scope C (own ++ cs) fp) [] (bd σ cap own.length) H2 { s2 with heap:=h₁,toks:=s2.toks + ([]:List (Str×KG)).length } :=
  iO I ok hf (λ b hb=>by rw [hD]; exact hfl b hb) (by rw [hD]; exact hCle) hns₁' old
 have Dfs:D∉frs X.stack:=λ hb=>by obtain ⟨_,o,ho,_⟩:=I.stack.mem hb;exact absurd (A9 ho) (by rw [hD]; exact E1 _)
 have Dfp:∀b∈fp,D≠b:=λ b hb z=>absurd (hfl b hb) (by rw [<- z]; exact E1 _);have clt:∀x c,(bg X.env scope.names []).lookup x=some c->c < D:=λ x c e=>by have e':=cw X.env scope.names [] x c (λ y hy e=>I.ok.has y.1 (ok.free y hy e)) (λ _ _ z=>by simp at z) e;obtain ⟨v,o,ho,_⟩:=I.cell x c e';have:=A9 ho;rw [hD] at this; exact this
 have plt:∀p∈X.pn ++ pins,p.1 < D:=λ p hp=>by have:=A9 (I.pin p hp).1;rw [hD] at this; exact this
 have stat:∀ {H':Hp} {ob:Obj},(∀b∈fp,H' b=none)->∀b∈fp,eZ (aH X pins s2 H2 scope C (own ++ cs) fp) [(D,ob)] H' b:=λ {H' ob} hn b hb=>by
  have q:=I0.ok.exf b hb;refine ⟨hn b hb,q.1,I0.ok.exfs b hb,.inl hb,q.2,λ p hp=>?_⟩;rcases C2.mp hp with z | z
  ·exact (hf b hb).2.2.2.2.2 p z
  ·have:p=(D,ob):=by simpa using z
   subst this;exact Dfp b hb
 have loop:codeAny (model X.prog X.w) X.A (.compLoop (.ListComp elt [⟨tg,iter,ifs,0⟩,⟨tg2,iter2,ifs2,0⟩] scope pos) 0 (.ref it) (.ref D) (compEnvC scope (bg X.env scope.names []) C X.env)) (RR (.ref D) C)
   { s2 with heap:=h₁,toks:=s2.toks + ([]:List (Str×KG)).length }:=by
  obtain ⟨m0,w0⟩:=w0;refine codeAny_loop rfl (λ n s'=>∃i H' its ys,Inv (aH X pins s2 H2 scope C (own ++ cs) fp) [] (bd σ cap own.length) H' s'/\tn i s'.heap/\(∀b∈fp,H' b=none)/\s'.heap.PlainList D its.toArray/\Vals ys its/\H' D=none/\W i n ys H') ?_ m0
   ⟨0,H2,[],[],I0,T.keep 0 _ _ st λ b _ o e=>old b o e,λ b hb=>(hf b hb).1,hacc,.nil,I.hok.fresh (by rw [hD]; exact B3 _),w0⟩
  rintro n s3 ⟨i,H3,its,ys,I3,st3,fr3,⟨nn,pl3⟩,rv3,hD3,w3⟩;show wpAny _ X.A ((compTurn (.ListComp elt [⟨tg,iter,ifs,0⟩,⟨tg2,iter2,ifs2,0⟩] scope pos) 0 (.ref it) (.ref D) (compEnvC scope (bg X.env scope.names []) C X.env)).onRaise (λ x=>do noteFrame x (compEnvC scope (bg X.env scope.names []) C X.env); theTreesLotGoes x)) _ _ s3;refine wpAny_noted ?_;rw [jy];refine A0 (wpAny_standAt (A0 ?_));have I3':Inv (aH X pins s2 H2 scope C (own ++ cs) fp) [(D, { cls:=.type "list", data:=.seq its.toArray nn })] (bd σ cap own.length) H3 s3 :=
   I3.pins_of λ p hp=>by
    have:p=(D,{ cls:=.type "list",data:=.seq its.toArray nn }):=by simpa using hp
    subst this;exact ⟨pl3,hD3,hDC,Dfs,λ v z=>by cases z⟩
  rcases turn i n ys H3 w3 with ⟨stop,hz,qf⟩ | ⟨go,step⟩
  ·refine thn (T.done (aH X pins s2 H2 scope C (own ++ cs) fp) rfl rfl rfl hc i _ s3 _ H3 _ I3' (stat fr3) st3 stop) λ r s4 ⟨hr,I4⟩=>?_;subst hr;refine A1 (hRR D C s4 ⟨⟨ys,H3,hD3,qf,?_,?_⟩,?_⟩)
   ·have pl4:=(I4.pin (D,_) (A5 _ (E3.mpr rfl))).1;have u4:=I4.base;have Ds2:s2.heap.get? D=none:=Heap.get?_none_of_le (by rw [hD]; exact B3 _);refine I.call' (s':=s4) (ch:=fp) I4.os ⟨u4.keep,u4.slot,λ b o e n hx=>?_,u4.there,λ b xs e=>?_,λ b o u e=>?_,λ b ps e=>?_⟩ ?_ I4.bare λ b hb=>⟨(hf b hb).2.2.2.1,(hf b hb).2.1,(hf b hb).2.2.2.2.1,(hf b hb).2.2.2.2.2⟩
    ·rw [aj (λ z=>by rw [z,Ds2] at e; cases e)];exact u4.free b o e n hx
    ·have:=u4.tups b xs e;rw [aj (am this hD3)]; exact this
    ·have:=u4.frzs b o u e;rw [aj (am this hD3)]; exact this
    ·obtain ⟨more,e'⟩:=u4.tbls b ps e;exact ⟨more,by rw [aj (am e' hD3)]; exact e'⟩
    ·exact I4.hok.add hD3 ⟨hz,its,nn,rv3,pl4⟩
   ·have CH:(upd H3 D (.lst ys)) C=none:=by rw [aj (Ne.symm hDC)]; exact I4.free
    exact I.fpOk (H':=upd H3 D (.lst ys)) (by rw [hD]; exact hCle) CH
   ·obtain ⟨m,hn,_⟩:=I4.loc;exact ⟨m,hn⟩
  ·refine thn (T.item (aH X pins s2 H2 scope C (own ++ cs) fp) rfl rfl rfl hc i _ s3 _ H3 _ I3' (stat fr3) st3 go) λ r s4 ⟨u,hr,h4⟩=>?_;subst hr;refine A0 (thn h4 λ _ s5 ⟨x,H5,I5,r5,y5,st5,fr5⟩=>?_);have I5':=I5.pinned (stat fr5) (T.obj _ _ st5);refine A0 (wpAny_mono (hg C _ s5 _ H5 x u _ I5' r5 (step x H5 y5)) (λ _ s6 ⟨σ6,H6,I6,le6,q6⟩=>?_) λ _ _ z=>E8 z);refine A0 (wpAny_mono (hi C _ s6 σ6 H6 _ I6 q6) (λ b s7 ⟨H7,I7,q7⟩=>?_) λ _ _ z=>E8 z);have back:∀ {pins':List (Addr×Obj)} {H8:Hp} {s8:KB},Inv (aH X pins s2 H2 scope C (own ++ cs) fp) pins' σ6 H8 s8->Inv (aH X pins s2 H2 scope C (own ++ cs) fp) [] (bd σ cap own.length) H8 s8:=λ I8 =>
    I8.bareP.weak le6.1.symm λ i v e=>le6.2 i v e
   cases b with
   | false =>
    rw [if_neg Bool.false_ne_true] at q7;obtain ⟨m',hm,w7⟩:=q7;refine A1 ⟨rfl,m',hm,i + 1,H7,its,ys,back I7,T.keep _ _ _ st5 λ b hb o e=>?_,λ b hb=>?_,⟨nn,?_⟩,rv3,?_,w7⟩
    ·exact (I7.pin (b,o) (A5 _ (A5 _ (aT hb e)))).1
    ·obtain ⟨o,e,d⟩:=T.obj _ _ st5 b hb;exact (I7.pin (b,o) (A5 _ (A5 _ (aT hb e)))).2.1
    ·exact (I7.pin (D,_) (A5 _ (B6 _ (E3.mpr rfl)))).1
    ·exact (I7.pin (D,_) (A5 _ (B6 _ (E3.mpr rfl)))).2.1
   | true =>
    rw [if_pos rfl] at q7;obtain ⟨P5,hP5⟩:∃P5,gU fp s5.heap=P5:=⟨_,Y⟩
    have P5f:∀p∈P5,p.1∈fp:=λ p hp=>by rw [<- hP5] at hp; exact (iF hp).1
    refine A0 (wpAny_mono (hit2 C _ s7 σ6 H7 _ I7 q7) (λ xv s8 h8=>?_) λ _ _ z=>E8 z);refine A0 (wpAny_standAt (A0 (wpAny_of_eq (hs2 C xv) ?_)));refine A0 (wpAny_holding (wpAny_mono h8 (λ itv s9 h9=>?_) λ _ _ z=>E8 z));obtain ⟨it2,fp2,tn2,J2,H9,e9,I9,T2,st9,f9,W2,⟨m2,w20⟩,turn2⟩:=h9;subst e9;have D2:∀b∈fp2,D≠b:=λ b hb=>(f9 b hb).2.2.2.2.2 (D,{ cls:=.type "list",data:=.seq its.toArray nn }) (A5 _ (B6 _ (E3.mpr rfl)));have p2:∀b∈fp2,∀p∈P5,p.1≠b:=λ b hb p hp=>(f9 b hb).2.2.2.2.2 p (A5 _ (A5 _ (by rw [hP5]; exact hp)));have stat2:∀ {H':Hp} {ob:Obj},(∀b∈fp2,H' b=none)->∀b∈fp2,eZ (aH X pins s2 H2 scope C (own ++ cs) fp) (P5 ++ [(D,ob)]) H' b:=λ {H' ob} hn b hb=>by
     have q:=f9 b hb;refine ⟨hn b hb,q.2.1,q.2.2.1,q.2.2.2.1,q.2.2.2.2.1,λ p hp=>?_⟩;rcases C2.mp hp with z | z
     ·exact q.2.2.2.2.2 p (B6 _ z)
     ·rcases C2.mp z with z | z
      ·exact p2 b hb p z
      ·have:p=(D,ob):=by simpa using z
       subst this;exact D2 b hb
    have pD9:=I9.pin (D,{ cls:=.type "list",data:=.seq its.toArray nn }) (A5 _ (B6 _ (E3.mpr rfl)));have I9':Inv (aH X pins s2 H2 scope C (own ++ cs) fp) P5 σ6 H9 s9:=I9.pins_of λ p hp=>I9.pin p (A5 _ (A5 _ (by rw [hP5]; exact hp)));have inner:∀ (R2:Result->KB->Prop),(∀s',(∃m' G its ys,m' < n/\Inv (aH X pins s2 H2 scope C (own ++ cs) fp) [] (bd σ cap own.length) G s'/\tn (i + 1) s'.heap/\(∀b∈fp,G b=none)/\s'.heap.PlainList D its.toArray/\Vals ys its/\G D=none/\W (i + 1) m' ys G)->R2 (.ok .next) s')->∀ (s':KB),(∃i H' its ys,Inv (aH X pins s2 H2 scope C (own ++ cs) fp) P5 σ6 H' s'/\tn2 i s'.heap/\(∀b∈fp2,H' b=none)/\s'.heap.PlainList D its.toArray/\Vals ys its/\H' D=none/\∃m,W2 i m ys H')->codeAny (model X.prog X.w) X.A (.compLoop (.ListComp elt [⟨tg,iter,ifs,0⟩,⟨tg2,iter2,ifs2,0⟩] scope pos) 1 (.ref it2) (.ref D) (compEnvC scope (bg X.env scope.names []) C X.env)) R2 s':=by
     rintro R2 hR2 s' ⟨i',H',its',ys',J1,J2',J3,J4,J5,J6,m',J7⟩;refine codeAny_loop rfl (λ n s'=>∃i H' its ys,Inv (aH X pins s2 H2 scope C (own ++ cs) fp) P5 σ6 H' s'/\tn2 i s'.heap/\(∀b∈fp2,H' b=none)/\s'.heap.PlainList D its.toArray/\Vals ys its/\H' D=none/\W2 i n ys H') ?_ m' ⟨i',H',its',ys',J1,J2',J3,J4,J5,J6,J7⟩;clear J1 J2' J3 J4 J5 J6 J7;clear i' H' its' ys' m' s';rintro n2 t3 ⟨j,G3,jts,zs,J3,tt3,fr3',⟨mm,pl3'⟩,rv3',hD3',w3'⟩;show wpAny _ X.A ((compTurn (.ListComp elt [⟨tg,iter,ifs,0⟩,⟨tg2,iter2,ifs2,0⟩] scope pos) 1 (.ref it2) (.ref D) (compEnvC scope (bg X.env scope.names []) C X.env)).onRaise (λ x=>do noteFrame x (compEnvC scope (bg X.env scope.names []) C X.env); theTreesLotGoes x)) _ _ t3;refine wpAny_noted ?_;rw [kM];refine A0 (wpAny_standAt (A0 ?_));have J3':Inv (aH X pins s2 H2 scope C (own ++ cs) fp) (P5 ++ [(D, { cls:=.type "list", data:=.seq jts.toArray mm })]) σ6 G3 t3 :=
      J3.pins_of λ p hp=>by
       rcases C2.mp hp with z | z
       ·exact J3.pin p (A5 _ z)
       ·have:p=(D,{ cls:=.type "list",data:=.seq jts.toArray mm }):=by simpa using z
        subst this;exact ⟨pl3',hD3',hDC,Dfs,λ v z=>by cases z⟩
     rcases turn2 j n2 zs G3 w3' with ⟨stop2,qf2⟩ | ⟨go2,hz2,step2⟩
     ·refine thn (T2.done (aH X pins s2 H2 scope C (own ++ cs) fp) rfl rfl rfl hc j _ t3 _ G3 _ J3' (stat2 fr3') tt3 stop2) λ r t4 ⟨hr,J4⟩=>?_;subst hr;obtain ⟨mo,hmo,wo⟩:=qf2;have pD4:=J4.pin (D,{ cls:=.type "list",data:=.seq jts.toArray mm }) (A5 _ (A5 _ (E3.mpr rfl)));refine A1 (hR2 _ ⟨mo,G3,jts,zs,hmo,back J4,T.keep _ _ _ st5 λ b hb o e=>?_,λ b hb=>?_,⟨mm,pD4.1⟩,rv3',pD4.2.1,wo⟩)
      ·exact (J4.pin (b,o) (A5 _ (B6 _ (by rw [<- hP5]; exact aT hb e)))).1
      ·obtain ⟨o,e,d⟩:=T.obj _ _ st5 b hb;exact (J4.pin (b,o) (A5 _ (B6 _ (by rw [<- hP5]; exact aT hb e)))).2.1
     ·refine thn (T2.item (aH X pins s2 H2 scope C (own ++ cs) fp) rfl rfl rfl hc j _ t3 _ G3 _ J3' (stat2 fr3') tt3 go2) λ r t4 ⟨u2,hr,h4'⟩=>?_;subst hr;refine A0 (thn h4' λ _ t5 ⟨x2,G5,J5,r5',y5',st5',fr5'⟩=>?_);have J5':=J5.pinned (stat2 fr5') (T2.obj _ _ st5');refine A0 (wpAny_mono (hg2 C _ t5 _ G5 x2 u2 _ J5' r5' (step2 x2 G5 y5')) (λ _ t6 ⟨σ7,G6,J6,le7,q7'⟩=>?_) λ _ _ z=>E8 z);refine A0 (wpAny_mono (hi2 C _ t6 σ7 G6 _ J6 q7') (λ b2 t7 ⟨G7,J7,q8'⟩=>?_) λ _ _ z=>E8 z);have back2:∀ {pins':List (Addr×Obj)} {G8:Hp} {t8:KB},Inv (aH X pins s2 H2 scope C (own ++ cs) fp) (P5 ++ pins') σ7 G8 t8->Inv (aH X pins s2 H2 scope C (own ++ cs) fp) P5 σ6 G8 t8:=λ J8 =>
       (J8.pins_of λ p hp=>J8.pin p (A5 _ (B6 _ hp))).weak le7.1.symm λ i v e=>le7.2 i v e
      cases b2 with
      | false =>
       rw [if_neg Bool.false_ne_true] at q8';obtain ⟨m',hm,w7⟩:=q8';rw [List.append_assoc] at J7;refine A1 ⟨rfl,m',hm,j + 1,G7,jts,zs,back2 J7,T2.keep _ _ _ st5' λ b hb o e=>?_,λ b hb=>?_,⟨mm,?_⟩,rv3',?_,w7⟩
       ·exact (J7.pin (b,o) (A5 _ (A5 _ (A5 _ (aT hb e))))).1
       ·obtain ⟨o,e,d⟩:=T2.obj _ _ st5' b hb;exact (J7.pin (b,o) (A5 _ (A5 _ (A5 _ (aT hb e))))).2.1
       ·exact (J7.pin (D,_) (A5 _ (A5 _ (B6 _ (E3.mpr rfl))))).1
       ·exact (J7.pin (D,_) (A5 _ (A5 _ (B6 _ (E3.mpr rfl))))).2.1
      | true =>
       rw [if_pos rfl] at q8';refine A0 (A0 (wpAny_mono (he C _ t7 σ7 G7 _ J7 q8') (λ y2 t8 ⟨v2,G8,J8,r8',m',hm,w8⟩=>?_) λ _ _ z=>E8 z));rw [List.append_assoc] at J8;have pD:=J8.pin (D,{ cls:=.type "list",data:=.seq jts.toArray mm }) (A5 _ (A5 _ (B6 _ (E3.mpr rfl))));have hlen:=rv3'.length;refine A0 (wpAny_list_append_plain (hsz:=by rw [List.size_toArray]; omega) ⟨mm,pD.1⟩ λ h9 pl9 sb9=>A1 (A1 ?_));have J8':=back2 J8;refine ⟨Y,m',hm,j + 1,G8,jts ++ [y2],zs ++ [v2],?_,T2.keep _ _ _ st5' λ b hb o e=>?_,λ b hb=>?_,?_,rv3'.append (.cons r8' .nil),pD.2.1,w8⟩
       ·exact J8'.turned (t':=t8.toks) (λ b o hb e=>sb9.extBut b o hb e) pD.2.1 hDC (.inr (by show s2.heap.objs.size<=D; rw [hD]; exact B3 _)) (λ x c e=>B9 (clt x c e)) λ p hp=>by
         have hp':p∈(X.pn ++ pins) ++ P5:=hp;rcases C2.mp hp' with z | z
         ·exact B9 (plt p z)
         ·exact Ne.symm (Dfp p.1 (P5f p z))
       ·exact sb9.extBut b o (Ne.symm (D2 b hb)) (J8.pin (b,o) (A5 _ (A5 _ (A5 _ (aT hb e))))).1
       ·obtain ⟨o,e,d⟩:=T2.obj _ _ st5' b hb;exact (J8.pin (b,o) (A5 _ (A5 _ (A5 _ (aT hb e))))).2.1
       ·have e:jts.toArray.push y2=(jts ++ [y2]).toArray:=by simp
        rw [<- e]; exact pl9
    have stt:∃i H' its ys,Inv (aH X pins s2 H2 scope C (own ++ cs) fp) P5 σ6 H' s9/\tn2 i s9.heap/\(∀b∈fp2,H' b=none)/\s9.heap.PlainList D its.toArray/\Vals ys its/\H' D=none/\∃m,W2 i m ys H':=⟨0,H9,its,ys,I9',st9,λ b hb=>(f9 b hb).1,⟨nn,pD9.1⟩,rv3,pD9.2.1,m2,w20⟩
    have fh:∀ (R2:Result->KB->Prop),(∀s',(∃m' G its ys,m' < n/\Inv (aH X pins s2 H2 scope C (own ++ cs) fp) [] (bd σ cap own.length) G s'/\tn (i + 1) s'.heap/\(∀b∈fp,G b=none)/\s'.heap.PlainList D its.toArray/\Vals ys its/\G D=none/\W (i + 1) m' ys G)->R2 (.ok .next) s')->codeAny (model X.prog X.w) X.A (.compStart (.ListComp elt [⟨tg,iter,ifs,0⟩,⟨tg2,iter2,ifs2,0⟩] scope pos) 1 (.ref it2) (.ref D) (compEnvC scope (bg X.env scope.names []) C X.env)) R2 s9:=λ R2 hR2 =>
     dR (inner R2 hR2 s9 stt) (T2.self _ 0 _ _ _ st9 (inner R2 hR2 s9 stt))
    refine A0 (wpAny_runOwn (fh _ ?_));rintro s' ⟨m',G,its,ys,hm,c1,c2,c3,c4,c5,c6,c7⟩;exact A1 ⟨rfl,m',hm,i + 1,G,its,ys,c1,c2,c3,c4,c5,c6,c7⟩
 exact codeAny_compStart_list loop (T.self _ 0 _ _ _ (T.keep 0 _ _ st λ b _ o e=>old b o e) loop)
def xG (wi:TI) (cap:List Nat) (k:Nat) (g:TG) (tt:TT) (wi2:TI) (g2:TG) (tt2:TT) (te:TE):TE:=λ σ H Q=>wi σ H λ J H1 =>
 ∃W:Nat->Nat->List V->Hp->Prop,(∃m,W 0 m [] H1)/\jA σ cap k J g tt wi2 g2 tt2 te (λ ys H'=>∀p,H' p=none->Q (.ref p) (upd H' p (.lst ys))) W
theorem sR {wi:TI} (hc:X.calm=true) (hit:PI X tg iter wi) (ok:CompOk X scope own cs cap)
  (hg:∀pins s2 H2 C fp,PG (aH X pins s2 H2 scope C (own ++ cs) fp) tg g) (hi:∀pins s2 H2 C fp,jq (aH X pins s2 H2 scope C (own ++ cs) fp) ifs tt)
  (hit2:∀pins s2 H2 C fp,PI (aH X pins s2 H2 scope C (own ++ cs) fp) tg2 iter2 wi2) (hg2:∀pins s2 H2 C fp,PG (aH X pins s2 H2 scope C (own ++ cs) fp) tg2 g2) (hi2:∀pins s2 H2 C fp,jq (aH X pins s2 H2 scope C (own ++ cs) fp) ifs2 tt2)
  (he:∀pins s2 H2 C fp,PE (aH X pins s2 H2 scope C (own ++ cs) fp) elt te)
  (hs:∀x,foldedSetIterable iter X.env x=pure x:=by intro _; rfl) (hs2:∀C x,foldedSetIterable iter2 (compEnvC scope (bg X.env scope.names []) C X.env) x=pure x:=by intro _ _; rfl):PE X (.ListComp elt [⟨tg,iter,ifs,0⟩,⟨tg2,iter2,ifs2,0⟩] scope pos) (xG wi cap own.length g tt wi2 g2 tt2 te):=by
 intro pins s σ H Q I h;rw [eval_ListComp];refine wpAny_comprehension_free (use:=none) rfl hs (fu λ y hy e=>I.ok.has y.1 (ok.free y hy e)) ok.kind ok.names (thn (hit pins s σ H _ I h) λ v s1 h1=>thn h1 λ itv s2 h2=>?_);obtain ⟨it,fp,tn,J,H2,e,I2,T,st2,f2,W,w0,turn⟩:=h2;subst e;refine qu (RR:=λ acc C=>compPost (model X.prog X.w) X.A X.xe none (EP X pins σ Q) acc C) I2 ok hc T st2 f2 (λ C=>hg _ _ _ _ _) (λ C=>hi _ _ _ _ _) (λ C=>hit2 _ _ _ _ _) hs2 (λ C=>hg2 _ _ _ _ _) (λ C=>hi2 _ _ _ _ _) (λ C=>he _ _ _ _ _) w0 turn λ D C s' B=>?_;obtain ⟨⟨ys,H',hD,q,I',fp'⟩,m,hn⟩:=B;obtain ⟨f0,f1,f2',f3,f4,f5⟩:=fp';exact ⟨m,hn,λ h' sb=>⟨.ref D,_,I'.turned (t':=s'.toks) (λ b o hb e=>sb.extBut b o hb e) f0 f1 f3 f4 f5,Y,q D hD⟩⟩
end
end L2
namespace PySem
open Sem (wp)
section
variable {prog:KC} {w:KF} {A:Around} {E:KG->KB->Prop} {s:KB}
theorem fA {d:Addr} {es:Array DictEntry} {ep:Nat} {Q:KG->KB->Prop} (hd:(d == sysModules)=false) (hm:(∃o,s.heap.get? d=some o/\o.ExactDict/\o.data=.dict es ep))
  (hQ:Q (.ref s.heap.objs.size) { s with heap:=s.heap.push { cls:=.type "dict_keyiterator",data:=.fields #[.ref d,.int 0 0,.int es.size 0,.int ep 0] } }) :
  wpAny (model prog w) A (pyIter (.ref d)) Q E s:=by
 obtain ⟨o,ho,hc,hdat⟩:=id hm;have hT:s.TypeIs (.ref d) "dict" := ⟨_,ho,hc.1⟩
 refine wpAny_pyIter_slot hT F.slot_dict_iter (G9 F.slot_dict_iter hT F.entry_dict_iter ?_ (F.args_dict_iter_1 _));unfold Builtin.«dict.__iter__»;refine A0 ?_;unfold Builtin.Dict.dictSlotNone;refine A0 (wpAny_notOrdered_dict hT ?_);show wpAny _ _ (pure (Value.ref d)) _ _ s;refine A1 ?_;show wpAny _ _ (Builtin.Dict.showsAll d >>= _) _ _ s;unfold Builtin.Dict.showsAll;rw [if_neg (by rw [hd]; exact Bool.false_ne_true)];refine A0 (A1 ?_);refine A0 (wpAny_dictEntries ho hdat ?_);refine A0 (wpAny_dictEpoch ho hdat ?_);have hsz:es.size=es.size:=rfl;refine A0 (J0 (A1 ⟨_,rfl,"dict_keyiterator",_,⟨_,A8 _ rfl,rfl⟩,F.slot_dict_keyiterator_next.lookup,?_⟩));simpa [rawInt,hsz] using hQ
theorem dg {it d:Addr} {i ep:Nat} {es:Array DictEntry} {en:DictEntry} {Q:Option KG->KB->Prop} (hit:s.heap.IsKeyIter it d i es.size ep)
  (hm:(∃o,s.heap.get? d=some o/\o.ExactDict/\o.data=.dict es ep)) (hx:es[i]? = some en)
  (hQ:∀h',h'.IsKeyIter it d (i + 1) es.size ep->Heap.SameBut it s.heap h'->Q (some en.key) { s with heap:=h' }) :
  wpAny (model prog w) A (pyNext (.ref it)) Q E s:=by
 obtain ⟨o,ho,hc,hd⟩:=id hit;obtain ⟨od,hod,hcd,hdd⟩:=id hm;unfold pyNext;refine A0 (wpAny_attempt (wpAny_callSpecial?_slot (name:=Str.ofString "__next__") hit.typeIs F.slot_dict_keyiterator_next
  (G9 F.slot_dict_keyiterator_next hit.typeIs F.entry_dict_keyiterator_next ?_ (F.args_dict_keyiterator_next_1 _))))
 refine A0 (A1 ?_);refine A0 ?_;refine A0 ?_
 first | refine A0 (wpAny_typeNameOfWhole_keyiter hit.typeIs (A1 ?_)) | refine A0 (wpAny_typeNameOf_keyiter hit.typeIs (A1 ?_))
 refine A0 (wpAny_fieldsOf ho hd ?_);have hown:Builtin.Dict_items.ownsTuple "dict_keyiterator" = false:=by decide
 simp only [hown,Bool.false_eq_true,if_false];show wpAny _ _ (if (Value.ref d == Value.none)=true then _ else _) _ _ s;rw [if_neg (show ¬ ((Value.ref d == Value.none)=true) from Bool.false_ne_true)];refine A0 (A1 ?_);refine A0 (wpAny_dictEntries hod hdd ?_);have hsz:es.size=es.size:=rfl;rw [if_neg (by simp)];refine A0 (A1 ?_);refine A0 (wpAny_dictEpoch hod hdd ?_);rw [if_neg (by simp)];refine A1 ?_;have hlt:i < es.size:=by
  rcases Nat.lt_or_ge i es.size with h | h
  ·exact h
  ·rw [Array.getElem?_eq_none h] at hx; cases hx
 have hlt':i < es.size:=by rw [hsz]; exact hlt
 have hkey:es[i]=en:=by rw [Array.getElem?_eq_getElem hlt'] at hx; exact B8 hx
 simp only [show ¬ ((i:Int) < 0) from by omega,if_false,Int.toNat_natCast,Array.getElem?_eq_getElem hlt'];refine A0 ?_
 first | refine A0 (wpAny_typeNameOfWhole_keyiter hit.typeIs (A1 ?_)) | refine A0 (wpAny_typeNameOf_keyiter hit.typeIs (A1 ?_))
 refine A0 (wpAny_isOneOf_keyiter hit.typeIs ?_);show wpAny _ _ (setField (.ref it) 1 (rawInt ((i:Int) + 1)) >>= _) _ _ s;refine A0 (wpAny_setField ho hd (by simp) ?_);have hit':(s.heap.update it (Obj.mapFields (·.setIfInBounds 1 (rawInt ((i:Int) + 1))))).IsKeyIter it d (i + 1) es.size ep :=
  ⟨_,Heap.get?_update_self _ ho (Obj.isFreed_of_fields (Obj.data_mapFields hd _)),(Obj.cls_mapFields ..).trans hc,by rw [Obj.data_mapFields hd]; simp [rawInt]⟩
 refine A0 (wpAny_holding ?_);refine A0 (wpAny_isOneOf_keyiter (s:={ s with heap:=s.heap.update it (Obj.mapFields (·.setIfInBounds 1 (rawInt ((i:Int) + 1)))) }) hit'.typeIs ?_);show wpAny _ _ (pure es[i].key) _ _ _;exact A1 (A1 ⟨_,rfl,A1 (by rw [hkey]; exact hQ _ hit' (Heap.SameBut.update ..))⟩)
theorem dF {it d:Addr} {i ep:Nat} {es:Array DictEntry} {Q:Option KG->KB->Prop} (hh:A.handled=none) (hit:s.heap.IsKeyIter it d i es.size ep)
  (hm:(∃o,s.heap.get? d=some o/\o.ExactDict/\o.data=.dict es ep)) (hx:es[i]? = none)
  (hQ:∀h',Heap.ExtBut it s.heap h'->Q none { s with heap:=h' }):wpAny (model prog w) A (pyNext (.ref it)) Q E s:=by
 obtain ⟨o,ho,hc,hd⟩:=id hit;obtain ⟨od,hod,hcd,hdd⟩:=id hm;unfold pyNext;refine A0 (wpAny_attempt (wpAny_callSpecial?_slot (name:=Str.ofString "__next__") hit.typeIs F.slot_dict_keyiterator_next
  (G9 F.slot_dict_keyiterator_next hit.typeIs F.entry_dict_keyiterator_next ?_ (F.args_dict_keyiterator_next_1 _))))
 refine A0 (A1 ?_);refine A0 ?_;refine A0 ?_
 first | refine A0 (wpAny_typeNameOfWhole_keyiter hit.typeIs (A1 ?_)) | refine A0 (wpAny_typeNameOf_keyiter hit.typeIs (A1 ?_))
 refine A0 (wpAny_fieldsOf ho hd ?_);have hown:Builtin.Dict_items.ownsTuple "dict_keyiterator" = false:=by decide
 simp only [hown,Bool.false_eq_true,if_false];show wpAny _ _ (if (Value.ref d == Value.none)=true then _ else _) _ _ s;rw [if_neg (show ¬ ((Value.ref d == Value.none)=true) from Bool.false_ne_true)];refine A0 (A1 ?_);refine A0 (wpAny_dictEntries hod hdd ?_);have hsz:es.size=es.size:=rfl;rw [if_neg (by simp)];refine A0 (A1 ?_);refine A0 (wpAny_dictEpoch hod hdd ?_);rw [if_neg (by simp)];refine A1 ?_;have hge:es.size<=i:=by simpa using hx
 simp only [show ¬ ((i:Int) < 0) from by omega,if_false,Int.toNat_natCast,Array.getElem?_eq_none hge];refine A0 ?_
 first | refine A0 (wpAny_typeNameOfWhole_keyiter hit.typeIs (A1 ?_)) | refine A0 (wpAny_typeNameOf_keyiter hit.typeIs (A1 ?_))
 show wpAny _ _ (setField (.ref it) 0 .none >>= _) _ _ s;refine A0 (wpAny_setField ho hd (by simp) ?_);show wpAny _ _ (newExc (.type "StopIteration") [] >>= _) _ _ _;refine A0 ?_;simp only [newExc,newTuple];refine A0 (J0 ?_ (by size_fits));refine A0 (m:=firstArgMember _ _) (wpAny_of_eq (a:=Value.none) (by first | rfl | (simp only [firstArgMember]; rfl)) ?_);refine J0 ?_ (by size_fits);simp only [raiseNew];refine A0 (wpAny_handled ?_);rw [show A.in1.handled=none from hh];refine A0 (A1 (wpAny_throw ?_));refine A0 (wpAny_isInstance (T := "StopIteration") (b:=true) ⟨_,A8 _ rfl,rfl⟩ isSubtype_stop ?_);exact A1 (hQ _ (((Heap.SameBut.update ..).extBut.push _).push _))
end
end PySem
namespace L2
open PySem PySem.Spec PyProof.Rows
def Itd (a:Addr) (ob:Obj) (kvs:List (List Key×V)):It :=
 ⟨λ i H=>i < kvs.length/\H a=some (.frz ob (.dT kvs)),λ i H x H'=>H'=H/\∃q k v,kvs[i]? = some (k,v)/\x=.ref q/\H q=some (.tup (k.map kV)),λ i H=>i=kvs.length/\H a=some (.frz ob (.dT kvs))⟩
theorem oK {α β:Type} {F:α->β->Prop}:∀ {l₁:List α} {l₂:List β} {i:Nat} {x:α},Paired F l₁ l₂->l₁[i]? = some x->∃y,l₂[i]? = some y/\F x y
 | _,_,0,_,.cons h _,e=>⟨_,Y,by cases e; exact h⟩
 | _,_,i + 1,_,.cons _ r,e=>oK (i:=i) r (by simpa using e)
 | _,_,_,_,.nil,e=>by simp at e
theorem sS {α β:Type} {F G:α->β->Prop}:∀ {l₁:List α} {l₂:List β},Paired F l₁ l₂->(∀x y,F x y->G x y)->Paired G l₁ l₂
 | _,_,.nil,_=>.nil
 | _,_,.cons h r,f=>.cons (f _ _ h) (sS r f)
theorem kN {α β:Type} {F:α->β->Prop}:∀ {l₁:List α} {l₂:List β},Paired F l₁ l₂->l₁.length=l₂.length
 | _,_,.nil=>rfl
 | _,_,.cons _ r=>by rw [List.length_cons,List.length_cons,kN r]
theorem mw {P:KC} {w:KF} {K:C4} {tg:Expr} (a it:Addr) (ob:Obj) (kvs:List (List Key×V)) (es:Array DictEntry) (ep:Nat) (hx:ob.ExactDict) (hd:ob.data=.dict es ep) (hn:es.size=kvs.length) :
  Turn P w K tg (Itd a ob kvs) [it] it (λ i h=>h.IsKeyIter it a i es.size ep) where
 mem:=by simp
 obj:=λ i h st b hb=>by
  have e:b=it:=by simpa using hb
  subst e;obtain ⟨o,e,c,d⟩:=st;exact ⟨o,e,λ v z=>by rw [d] at z; cases z⟩
 keep:=λ i h h' st k=>st.at λ o e=>k it (by simp) o e
 item:=by
  intro X hP hw hK hc i pins s σ H E I hf st hg;subst hP hw hK;obtain ⟨hi,hH⟩:=hg;obtain ⟨h1,_,_,xs,pr,o,es',ep',h2,_,h3,h4,_⟩:=(show ObjOk X.prog X.w H s.heap a (.frz ob (.dT kvs)) from I.hok a _ hH)
  rw [h1] at h2;cases h2;rw [hd] at h3;cases h3;have hk:kvs[i]? = some kvs[i]:=G2 hi;obtain ⟨⟨k',q,v'⟩,hy,e1,e2,e3⟩:=oK pr hk;have hen:es[i]? = some (entryOfKey (tupleKind (aZ X.prog X.w)) (k',q,v')):=by rw [<- Array.getElem?_toList,h4,List.getElem?_map,hy]; rfl
  obtain ⟨f0,f1,f2,f3,f4,f5⟩:=hf it (by simp);refine dg st ⟨ob,h1,hx,hd⟩ hen λ h' st' sb=>?_;have I1:Inv X pins σ H { s with heap:=h' }:=I.turned (t':=s.toks) (λ b o hb e=>(sb.2 b hb).trans e) f0 f1 f3 f4 f5;obtain ⟨o,e,c,d⟩:=id st';exact ⟨_,Y,oi (s:={ s with heap:=h' }) e c d (by decide) ⟨.ref q,H,I1,Y,⟨Y,q,kvs[i].1,kvs[i].2,hk,Y,e2⟩,st',λ b hb=>(hf b hb).1⟩⟩
 done:=by
  intro X hP hw hK hc i pins s σ H E I hf st hg;subst hP hw hK;obtain ⟨hi,hH⟩:=hg;obtain ⟨h1,_⟩:=(show ObjOk X.prog X.w H s.heap a (.frz ob (.dT kvs)) from I.hok a _ hH)
  obtain ⟨f0,f1,f2,f3,f4,f5⟩:=hf it (by simp);exact dF (I.ok.hd hc) st ⟨ob,h1,hx,hd⟩ (by rw [Array.getElem?_eq_none]; omega) λ h' eb=>⟨Y,I.turned (t':=s.toks) (λ b o hb e=>eb b o hb e) f0 f1 f3 f4 f5⟩
 self:=λ _ _ _ _ _ st h=>wpAny_pyIter_keyiter st h
section
variable {X:Cx} {tg:Expr}
def xH (tl:TE):TI:=λ σ H R=>tl σ H λ x H1=>∃a kvs,x=.ref a/\H1 a=some (.dT kvs)/\∀ob,R (Itd a ob kvs) (upd H1 a (.frz ob (.dT kvs)))
theorem kO {l:Expr} {tl:TE} (hl:PE X l tl):PI X tg l (xH tl):=by
 intro pins s σ H R I h;refine thn (hl pins s σ H _ I h) λ v s1 ⟨x,H1,I1,r1,q1⟩=>?_;obtain ⟨a,kvs,e,hH,q⟩:=q1;subst e;cases r1;obtain ⟨hz,hs,xs,pr,o,es,ep,h1,h2,h3,h4,h5⟩:=(show ObjOk X.prog X.w H1 s1.heap a (.dT kvs) from I1.hok a _ hH)
 have hn:es.size=kvs.length:=by rw [kN pr,<- Array.length_toList,h4,List.length_map]
 have I2:Inv X pins σ (upd H1 a (.frz o (.dT kvs))) s1:=by
  have:=I1.write (x:=a) (e:=a) (o:=.frz o (.dT kvs)) (h':=s1.heap) (t':=s1.toks) (by rw [hH]; trivial) (.inl rfl) (λ b u _ e=>e) ⟨o,h1⟩ ⟨h1,hz,hs,xs,?_,o,es,ep,h1,h2,h3,h4,h5⟩
  ·exact this
  ·refine sS pr λ p q ⟨e1,e2,e3⟩=>⟨e1,?_,e3⟩
   rw [aj (λ z=>by rw [z,hH] at e2; cases e2)];exact e2
 refine fA hs ⟨o,h1,h2,h3⟩ ?_;refine ⟨s1.heap.objs.size,[s1.heap.objs.size],_,_,_,Y,I2.kept (t':=s1.toks) λ b o e=>A7 _ e,mw a _ o kvs es ep h2 h3 hn,⟨_,A8 _ rfl,Y,Y⟩,λ b hb=>?_,q o⟩;have e:b=s1.heap.objs.size:=by simpa using hb
 subst e;exact I2.fpOk (B3 _) (I2.hok.fresh (B3 _))
end
theorem sT {a:Addr} {ob:Obj} {kvs:List (List Key×V)} {g:TG} {tb:TS} {D:Ends} {σ:St} {H:Hp} (Pv:Nat->St->Hp->Prop) (h0:Pv 0 σ H) (hl:∀i σ H,i<=kvs.length->Pv i σ H->H a=some (.frz ob (.dT kvs)))
  (hs:∀i k v q σ H,kvs[i]? = some (k,v)->H q=some (.tup (k.map kV))->Pv i σ H->g (.ref q) σ H λ σ2 H2=>tb { D with nx:=Pv (i + 1),ct:=Pv (i + 1),bk:=D.nx } σ2 H2) (hd:∀σ H,Pv kvs.length σ H->D.nx σ H) :
  ∃W:Nat->Nat->St->Hp->Prop,(∃m,W 0 m σ H)/\∀i m σ H,W i m σ H ->
   ((Itd a ob kvs).stop i H/\D.nx σ H)\/((Itd a ob kvs).go i H/\∃N:St->Hp->Prop,(∀σ' H',N σ' H'->∃m',m' < m/\W (i + 1) m' σ' H')/\∀x H',(Itd a ob kvs).yld i H x H'->g x σ H' λ σ2 H2=>tb { D with nx:=N,ct:=N,bk:=D.nx } σ2 H2):=by
 refine ⟨λ i m σ H=>m=kvs.length - i/\i<=kvs.length/\Pv i σ H,⟨kvs.length,by simp,E9 _,h0⟩,?_⟩;rintro i m σ H ⟨rfl,hi,p⟩;have q:=hl i σ H hi p
 by_cases hlt:i < kvs.length
 ·refine .inr ⟨⟨hlt,q⟩,Pv (i + 1),λ σ' H' p'=>⟨_,by omega,Y,hlt,p'⟩,λ x H' y=>?_⟩;obtain ⟨e,qa,k,v,e1,e2,e3⟩:=y;subst e e2;exact hs i k v qa σ _ e1 e3 p
 ·have e:i=kvs.length:=by omega
  subst e;exact .inl ⟨⟨Y,q⟩,hd σ H p⟩
theorem qv {lo:Int} {n:Nat} {σ:St} {cap:List Nat} {k:Nat} {g g2:TG} {tt tt2:TT} {te:TE} {wi2:TI} {Q:List V->Hp->Prop} {H:Hp} (Pv:Nat->List V->Hp->Prop) (h0:Pv 0 [] H)
  (ht:∀i ys H',i < n->Pv i ys H'->g (.int (lo + i)) (bd σ cap k) H' λ σ2 H2=>leS (bd σ cap k) σ2/\tt σ2 H2 λ ok H3=>if ok=true then wi2 σ2 H3 (λ J2 H4=>∃W2:Nat->Nat->List V->Hp->Prop,(∃m2,W2 0 m2 ys H4)/\jz σ2 J2 g2 tt2 te (λ zs H5=>Nx n Pv i zs H5) W2) else Nx n Pv i ys H3)
  (hd:∀ys H',Pv n ys H'->ys.length<=sizeLine/\Q ys H'):∃W,(∃m,W 0 m [] H)/\jA σ cap k (Itr lo n) g tt wi2 g2 tt2 te Q W:=by
 refine ⟨λ i m ys H'=>m=n - i/\i<=n/\Pv i ys H',⟨_,Y,E9 _,h0⟩,?_⟩;rintro i m ys H' ⟨rfl,hi,p⟩
 by_cases hin:i < n
 ·refine .inr ⟨hin,λ x H2 yl=>?_⟩;obtain ⟨e1,e2⟩:=yl;subst e1 e2;exact ht i ys _ hin p
 ·have e:i=n:=by omega
  subst e;obtain ⟨a1,a2⟩:=hd ys H' p;exact .inl ⟨B3 _,a1,a2⟩
theorem xI {lo:Int} {n:Nat} {σ2:St} {g2:TG} {tt2:TT} {te:TE} {N:List V->Hp->Prop} {H:Hp} {ys:List V} (Pv:Nat->List V->Hp->Prop) (h0:Pv 0 ys H)
  (ht:∀i zs H',i < n->Pv i zs H'->zs.length < sizeLine/\g2 (.int (lo + i)) σ2 H' λ σ3 H2=>leS σ2 σ3/\tt2 σ3 H2 λ ok H3=>if ok=true then te σ3 H3 (λ v H4=>Nx n Pv i (zs ++ [v]) H4) else Nx n Pv i zs H3)
  (hd:∀zs H',Pv n zs H'->N zs H'):∃W2:Nat->Nat->List V->Hp->Prop,(∃m2,W2 0 m2 ys H)/\jz σ2 (Itr lo n) g2 tt2 te N W2:=by
 refine ⟨λ i m zs H'=>m=n - i/\i<=n/\Pv i zs H',⟨_,Y,E9 _,h0⟩,?_⟩;rintro i m zs H' ⟨rfl,hi,p⟩
 by_cases hin:i < n
 ·obtain ⟨e,hg⟩:=ht i zs H' hin p;refine .inr ⟨hin,e,λ x H2 yl=>?_⟩;obtain ⟨e1,e2⟩:=yl;subst e1 e2;exact hg
 ·have e:i=n:=by omega
  subst e;exact .inl ⟨B3 _,hd zs H' p⟩
theorem mx {P:KC} {w:KF} {K:C4} {tg:Expr} (it:Addr) (lo left:Int) (h0:left<=0):Turn P w K tg (Itr lo 0) [it] it (λ i h=>IsLongIter h it lo left 1) where
 mem:=by simp
 obj:=λ i h st b hb=>by
  have e:b=it:=by simpa using hb
  subst e;exact ⟨_,st,λ v z=>by
   have z':Data.fields _=Data.cell v:=z;cases z'⟩
 keep:=λ i h h' st k=>k it (by simp) _ st
 item:=by intro X hP hw hK hc i pins s σ H E I hf st hg;exact absurd hg (G0 _)
 done:=by intro X hP hw hK hc i pins s σ H E I hf st hg;subst hP hw hK;obtain ⟨f0,f1,f2,f3,f4,f5⟩:=hf it (by simp);exact wpAny_pyNext_long_end (I.ok.hd hc) st h0 λ h' eb=>⟨Y,I.turned (t':=s.toks) (λ b o hb e=>eb b o hb e) f0 f1 f3 f4 f5⟩
 self:=λ _ _ _ _ _ st h=>wpAny_pyIter_longiter st h
section
variable {X:Cx} {tg:Expr}
def xJ (ta:TA):TI:=λ σ H R=>ta σ H λ vs H1=>∃i j:Int,vs=[.int i,.int j]/\(-(2 ^ 62)<=i/\i < 2 ^ 62/\j < 2 ^ 62)/\R (Itr i (j - i).toNat) H1
theorem hX {a b:Expr} {ta:TA} {p pos:Pos} (hg:Gl X "range") (hm:X.mg "range" = none) (ha:PA X [a,b] ta) (hs:starEach [a,b] X.env=[(false,eval a X.env),(false,eval b X.env)]:=by rfl) (hs2:starEach [b] X.env=[(false,eval b X.env)]:=by rfl) :
  PI X tg (.Call (.Name "range" p) [a,b] [] pos) (xJ ta):=by
 intro pins s σ H R I h;refine Call_ (dW I hg hm boot_range (PyProof.Rows.callWith_type1 (thn (ha pos pins s σ H _ I h) λ us s1 ⟨vs,H1,I1,r1,q1⟩=>?_) (by rw [hs,hs2]) (by rw [hs2]; rfl)));obtain ⟨i,j,e,⟨q1,q2,q4⟩,q⟩:=q1;subst e;cases r1 with
 | cons r rr =>
  cases rr with
  | cons r' rr =>
   cases rr;obtain ⟨t,rfl⟩:=r;obtain ⟨t',rfl⟩:=r'
   by_cases q3:-(2 ^ 62)<=j
   ·exact call_range_2 (gT I1 q1 q2 q3 q4 q)
   refine call_range_2 ?_;have z0:(j - i).toNat=0:=by omega
   rw [z0] at q;have I2:Inv X pins σ H1 { s1 with heap:=s1.heap.push { cls:=.type "range", data:=.fields #[.int i t, .int j t', .int 1 s1.toks] }, toks:=s1.toks + 1 }:=I1.kept λ b o e=>A7 _ e;have rs0:Builtin.Range.rangeSize i j 1=0:=by rw [rangeSize_one,if_neg (by omega)]
   cases hsm:Builtin.Range.small i j 1 with
   | false =>
    refine wpAny_pyIter_longrange (IsRange.new ..) hsm ?_;refine ⟨_, [(s1.heap.push { cls:=.type "range", data:=.fields #[.int i t, .int j t', .int 1 s1.toks] }).objs.size], _, _, H1, Y, I2.kept (t':=s1.toks + 1) λ b o e=>A7 _ e, mx _ i 0 (E6 _), ?_, λ b hb=>?_, q⟩
    ·rw [rs0];exact A8 _ rfl
    ·have e:b=(s1.heap.push { cls:=.type "range", data:=.fields #[.int i t, .int j t', .int 1 s1.toks] }).objs.size:=by simpa using hb
     subst e;exact I2.fpOk (B3 _) (I2.hok.fresh (B3 _))
   | true =>
    refine wpAny_pyIter_range (IsRange.new ..) hsm ?_;refine ⟨_, [(s1.heap.push { cls:=.type "range", data:=.fields #[.int i t, .int j t', .int 1 s1.toks] }).objs.size], _, _, H1, Y, I2.kept (t':=s1.toks + 1) λ b o e=>A7 _ e, gS _ i 0, ?_, λ b hb=>?_, q⟩
    ·rw [rs0];show IsRangeIter _ _ (i + ((0:Nat):Int) * 1) (((0:Nat):Int) - ((0:Nat):Int)) 1;have e1:i + ((0:Nat):Int) * 1=i:=by simp
     have e2:((0:Nat):Int) - ((0:Nat):Int)=0:=rfl;rw [e1,e2];exact A8 _ rfl
    ·have e:b=(s1.heap.push { cls:=.type "range", data:=.fields #[.int i t, .int j t', .int 1 s1.toks] }).objs.size:=by simpa using hb
     subst e;exact I2.fpOk (B3 _) (I2.hok.fresh (B3 _))
end
theorem qw {a:Addr} {ob:Obj} {kvs:List (List Key×V)} {σ:St} {cap:List Nat} {k:Nat} {g:TG} {tt:TT} {te:TE} {Q:List V->Hp->Prop} {H:Hp} (Pv:Nat->List V->Hp->Prop) (h0:Pv 0 [] H)
  (hl:∀i ys H',i<=kvs.length->Pv i ys H'->H' a=some (.frz ob (.dT kvs)))
  (ht:∀i kk v q ys H',kvs[i]? = some (kk,v)->H' q=some (.tup (kk.map kV))->Pv i ys H'->g (.ref q) (bd σ cap k) H' λ σ2 H2=>leS (bd σ cap k) σ2/\tt σ2 H2 λ ok H3=>if ok=true then te σ2 H3 (λ v H4=>Nx kvs.length Pv i (ys ++ [v]) H4) else Nx kvs.length Pv i ys H3)
  (hz:∀i ys H',i < kvs.length->Pv i ys H'->ys.length < sizeLine) (hd:∀ys H',Pv kvs.length ys H'->ys.length<=sizeLine/\Q ys H'):∃W,(∃m,W 0 m [] H)/\fj σ cap k (Itd a ob kvs) g tt te Q W:=by
 refine ⟨λ i m ys H'=>m=kvs.length - i/\i<=kvs.length/\Pv i ys H',⟨_,Y,E9 _,h0⟩,?_⟩;rintro i m ys H' ⟨rfl,hi,p⟩;have q:=hl i ys H' hi p
 by_cases hin:i < kvs.length
 ·refine .inr ⟨⟨hin,q⟩,hz i ys H' hin p,λ x H2 yl=>?_⟩;obtain ⟨e,qa,k',v',e1,e2,e3⟩:=yl;subst e e2;exact ht i k' v' qa ys _ e1 e3 p
 ·have e:i=kvs.length:=by omega
  subst e;obtain ⟨a1,a2⟩:=hd ys H' p;exact .inl ⟨⟨Y,q⟩,a1,a2⟩
section
variable {X:Cx} {pins:List (Addr×Obj)} {σ:St} {H:Hp} {s:KB} {a:Addr} {ob:Obj} {u:HO}
theorem Inv.thaw (I:Inv X pins σ H s) (e:H a=some (.frz ob u)) (h0:∀o u',X.H₀ a≠some (.frz o u')):Inv X pins σ (upd H a u) s:=by
 have ne:∀ {b:Addr},H b=none->b≠a:=λ h z=>by rw [z,e] at h; cases h
 have al:∀ {b:Addr},H b=none->(upd H a u) b=none:=λ {b} h=>by rw [aj (ne h)]; exact h
 refine ⟨I.ok,I.os,I.bare,⟨I.base.keep,I.base.slot,λ b o q n x=>al (I.base.free b o q n x),I.base.there,λ b xs q=>?_,λ b o v q=>?_,λ b ps q=>?_⟩,I.loc,I.cell,al I.free,λ x c q=>al (I.freeC x c q),λ p hp=>?_,λ b o q=>?_,I.len⟩
 ·have h:=I.base.tups b xs q;rw [aj (λ z=>by rw [z,e] at h; cases h)]; exact h
 ·have h:=I.base.frzs b o v q;rw [aj (λ z=>h0 _ _ (z ▸ q))]; exact h
 ·obtain ⟨more,h⟩:=I.base.tbls b ps q;exact ⟨more,by rw [aj (λ z=>by rw [z,e] at h; cases h)]; exact h⟩
 ·obtain ⟨h1,h2,h3⟩:=I.pin p hp;exact ⟨h1,al h2,h3⟩
 ·have own:∀c y,H c=some (.own y)->(upd H a u) c=some (.own y):=λ c y h=>by rw [aj (λ z=>by rw [z,e] at h; cases h)]; exact h
  have tup:∀c xs,H c=some (.tup xs)->(upd H a u) c=some (.tup xs):=λ c xs h=>by rw [aj (λ z=>by rw [z,e] at h; cases h)]; exact h
  by_cases z:b=a
  ·subst z;rw [ae] at q;cases q;have:=(show ObjOk X.prog X.w H s.heap b (.frz ob u) from I.hok b _ e).2;exact ObjOk.stay this (λ _ _ _ h=>h) (λ c h=>own c _ h) tup
  ·rw [aj z] at q;exact (I.hok b o q).stay (λ _ _ _ h=>h) (λ c h=>own c _ h) tup
end
section
variable {X:Cx}
def Di (H0:Hp) (t:TS):TS:=λ D σ H=>∃a ob u,H a=some (.frz ob u)/\(∀o u',H0 a≠some (.frz o u'))/\t D σ (upd H a u)
theorem oM {st:Stmt} {t:TS} (h:PS X st t):PS X st (Di X.H₀ t):=λ pins s σ H D I ⟨_,_,_,e,h0,q⟩=>h pins s σ _ D (I.thaw e h0) q
def xK (H0:Hp) (t:TE):TE:=λ σ H Q=>t σ H λ v H1=>∃a ob u,H1 a=some (.frz ob u)/\(∀o u',H0 a≠some (.frz o u'))/\Q v (upd H1 a u)
theorem vt {e:Expr} {t:TE} (h:PE X e t):PE X e (xK X.H₀ t):=λ pins s σ H Q I q =>
 thn (h pins s σ H _ I q) λ v s1 ⟨x,H1,I1,r1,_,_,_,e,h0,q1⟩=>⟨x,_,I1.thaw e h0,r1,q1⟩
end
end L2
namespace PySem
open Sem (wp)
section
variable {prog:KC} {w:KF} {K:Type} [DecidableEq K] (knd:KeyKind prog w K)
def IsNestKey (h:Heap) (ks:List K×List K) (a:Addr):Prop:=∃o items n q vs,h.get? a=some o/\o.cls=.type "tuple" /\ o.data=.seq items n/\items.toList=.ref q :: vs/\IsTupleKey knd h ks.1 q/\ItemsAre knd ks.2 vs
def eg (ks:List K×List K):Int:=reduceHash (J9 (tupleKeyHash knd ks.1 :: ks.2.map knd.hash))
variable {knd}
theorem IsNestKey.typeIs {s:KB} {ks:List K×List K} {a:Addr} (x:IsNestKey knd s.heap ks a):s.TypeIs (.ref a) "tuple" := let ⟨o,_,_,_,_,ho,hc,_⟩:=x; ⟨o,ho,hc⟩
theorem IsNestKey.inj {h:Heap} {a:Addr} {x y:List K×List K} (hx:IsNestKey knd h x a) (hy:IsNestKey knd h y a):x=y:=by
 obtain ⟨o,items,n,q,vs,ho,_,hd,hi,h1,h2⟩:=hx;obtain ⟨o',items',n',q',vs',ho',_,hd',hi',h1',h2'⟩:=hy;obtain rfl:o=o':=B8 (ho.symm.trans ho');rw [hd] at hd';injection hd' with e1 _
 subst e1;rw [hi] at hi';injection hi' with e2 e3
 injection e2 with e2
 subst e2 e3;exact Prod.ext (h1.inj h1') (h2.inj h2')
theorem IsNestKey.keeps {h h':Heap} {ks:List K×List K} {a d:Addr} {o:Obj} {es ep} (x:IsNestKey knd h ks a) (ho:h.get? d=some o) (hd:o.data=.dict es ep) (hs:Heap.SameBut d h h') :
  IsNestKey knd h' ks a:=by
 obtain ⟨o',items,n,q,vs,ho',hc,hd',hi,h1,h2⟩:=x;have hne:a≠d:=by rintro rfl;obtain rfl:o'=o:=B8 (ho'.symm.trans ho);rw [hd] at hd'; exact nomatch hd'
 exact ⟨o',items,n,q,vs,(hs.2 a hne).trans ho',hc,hd',hi,h1.keeps ho hd hs,h2⟩
variable {A:Around} {E:KG->KB->Prop} {s:KB}
theorem fN {ks:List K×List K} {a:Addr} {Q:Int->KB->Prop} (hu:A.units + 1 < cLine) (hk:IsNestKey knd s.heap ks a) (h:Q (eg knd ks) { s with toks:=s.toks + (ks.1.length + 1 + ks.2.length + 1) }) :
  wpAny (model prog w) A (pyHash (.ref a)) Q E s:=by
 have hT:=hk.typeIs;obtain ⟨ks1,ks⟩:=ks;obtain ⟨o,items,n,q,vs,ho,_,hd,hi,hq,hi2⟩:=hk;have hq:IsTupleKey knd s.heap ks1 q:=hq;have hi2:ItemsAre knd ks vs:=hi2;unfold pyHash
 first | unfold pyHashByItsType | skip
 first | refine A0 (wpAny_cRoomFor_or (.inr (by omega)) ?_) | skip
 refine A0 (wpAny_specialOf hT F.slot_tuple_hash.lookup ?_);show wpAny _ _ (if (some (Value.builtin "tuple.__hash__") == some Value.none)=true then _ else _) Q E s;rw [if_neg (by rw [beq_builtin_none]; exact Bool.false_ne_true)];refine A0 (wpAny_specialOf hT F.slot_tuple_hash.lookup ?_);show wpAny _ _ (callSpecialIfBoundUnlessNone? (.ref a) "__hash__" _ >>= _) Q E s;refine A0 (wpAny_callSpecialIfBoundUnlessNone?_slot hT F.slot_tuple_hash (G9 F.slot_tuple_hash hT F.entry_tuple_hash ?_ (F.args_tuple_hash_1 _)));show wpAny _ _ (Builtin.Tuple.tupleItemsOf (.ref a) >>= _) _ _ s;refine A0 (wpAny_tupleItemsOf ho hd ?_);refine A0 ?_;rw [<- Array.forIn_toList,hi,List.forIn_cons];refine A0 (A0 (wpAny_pyHash_tuple (by show A.units + 1 < cLine; exact hu) hq ?_));refine A1 ?_;show wpAny _ _ (forIn vs _ _) _ _ _;refine wpAny_forIn_list _
  (λ rest (b:Array Int) s'=>∃done left,ks=done ++ left/\ItemsAre knd left rest/\b.toList=tupleKeyHash knd ks1 :: done.map knd.hash/\s'={ s with toks:=s.toks + (ks1.length + 1) + done.length })
  _ ?_ ?_ _ _ ⟨[],ks,rfl,hi2,rfl,rfl⟩
 ·rintro x rest b s' ⟨done,left,rfl,hl,hb,rfl⟩;cases hl with
  | @cons k _ ks' _ h1 hl' =>
   refine A0 (knd.pyHash h1 ?_)
   first
    | exact A1 ⟨done ++ [k],ks',by simp,hl',by simp [hb],by simp [Nat.add_assoc]⟩
    | exact A0 (A1 (A1 ⟨done ++ [k],ks',by simp,hl',by simp [hb],by simp [Nat.add_assoc]⟩))
 ·rintro b s' ⟨done,left,rfl,hl,hb,rfl⟩;cases hl;rw [List.append_nil] at h;show wpAny _ _ (retInt (J9 b.toList)) _ _ _;rw [hb];refine wpAny_ret_mkInt ?_;show wpAny _ _ (if (decide (-(2:Int) ^ 63<=J9 (tupleKeyHash knd ks1 :: done.map knd.hash)) && decide (J9 (tupleKeyHash knd ks1 :: done.map knd.hash) < 2 ^ 63))=true then _ else _) Q E _;unfold eg at h;rw [show reduceHash (Builtin.Tuple.tupleHashOf (tupleKeyHash knd (ks1,done).1 :: ((ks1,done):List K×List K).2.map knd.hash))=(if (decide (-(2:Int) ^ 63<=Builtin.Tuple.tupleHashOf (tupleKeyHash knd ks1 :: done.map knd.hash)) && decide (Builtin.Tuple.tupleHashOf (tupleKeyHash knd ks1 :: done.map knd.hash) < 2 ^ 63))=true then _ else _) from rfl] at h
  by_cases hr:(decide (-(2:Int) ^ 63<=J9 (tupleKeyHash knd ks1 :: done.map knd.hash)) && decide (J9 (tupleKeyHash knd ks1 :: done.map knd.hash) < 2 ^ 63))=true
  ·rw [if_pos hr];rw [if_pos hr] at h;exact A1 (by simpa [Nat.add_assoc] using h)
  ·rw [if_neg hr];rw [if_neg hr] at h;exact A0 (wpAny_rule (A1 (by simpa [Nat.add_assoc] using h)))
theorem jB {x y:List K×List K} {a b:Addr} (hu:A.units < cLine) {P:Fin->KB->Prop} (hx:IsNestKey knd s.heap x a) (hy:IsNestKey knd s.heap y b) (h:P (.done (.ret (.bool (decide (x=y))))) s) :
  wpAny (model prog w) A (Builtin.«tuple.__eq__» ⟨[.ref a,.ref b],[]⟩) P E s:=by
 have hTb:=hy.typeIs;obtain ⟨x1,x⟩:=x;obtain ⟨y1,y⟩:=y;obtain ⟨oa,xs,na,qa,xv,hoa,_,hda,hia,hqa,hxa⟩:=hx;obtain ⟨ob,ys,nb,qb,yv,hob,_,hdb,hib,hqb,hyb⟩:=hy;have hqa:IsTupleKey knd s.heap x1 qa:=hqa;have hqb:IsTupleKey knd s.heap y1 qb:=hqb;have hxa:ItemsAre knd x xv:=hxa;have hyb:ItemsAre knd y yv:=hyb;have szx:xs.size=xv.length + 1:=by rw [<- Array.length_toList,hia]; rfl
 have szy:ys.size=yv.length + 1:=by rw [<- Array.length_toList,hib]; rfl
 show wpAny _ _ (isInstance (.ref b) (.type "tuple") >>= _) _ _ s;refine A0 (wpAny_isInstance hTb isSubtype_tuple_tuple ?_);simp only [Bool.not_true,Bool.false_eq_true,if_false];refine A0 (wpAny_tupleItemsOf hoa hda ?_);refine A0 (wpAny_tupleItemsOf hob hdb ?_);refine A0 ?_;rw [hia,hib,List.zip_cons_cons,List.forIn_cons];refine A0 (A0 (wpAny_eqBool_tuple hu hqa hqb ?_))
 by_cases h1:x1=y1
 case neg =>
  rw [decide_eq_false h1];simp only [Bool.not_false,if_true];have hf:decide ((x1,x)=(y1,y))=false:=by simp [h1]
  rw [hf] at h;exact A0 (A1 (A1 (A1 (A1 h))))
 subst h1;rw [decide_eq_true rfl];simp only [Bool.not_true,Bool.false_eq_true,if_false];have h:P (.done (.ret (.bool (decide (x=y))))) s:=by
  have e:decide ((x1,x)=(x1,y))=decide (x=y):=by simp
  rw [<- e]; exact h
 refine A1 ?_;show wpAny _ _ (forIn (List.zip xv yv) _ _) _ _ _;refine wpAny_forIn_list _
  (λ rest r s'=>r.1=none/\s'=s/\∃x' y' xs' ys',rest=List.zip xs' ys'/\ItemsAre knd x' xs'/\ItemsAre knd y' ys'/\decide (x'=y')=decide (x=y)/\(xs'.length == ys'.length)=(xs.size == ys.size))
  _ ?_ ?_ _ _ ⟨rfl,rfl,x,y,xv,yv,rfl,hxa,hyb,rfl,by rw [szx,szy]; simp⟩
 ·rintro ⟨u,v⟩ rest r s' ⟨hr,rfl,x',y',xs',ys',hz,hx',hy',hdec,hlen⟩;cases hx' with
  | nil=>simp at hz
  | @cons k1 u' x'' xs'' h1 hx'' =>
   cases hy' with
   | nil=>simp at hz
   | @cons k2 v' y'' ys'' h2 hy'' =>
    simp only [List.zip_cons_cons,List.cons.injEq,Prod.mk.injEq] at hz;obtain ⟨⟨rfl,rfl⟩,rfl⟩:=hz;refine A0 (knd.eqBool (a:=k1) (b:=k2) h1 h2 ?_)
    by_cases hk:k1=k2
    ·subst hk;rw [decide_eq_true rfl];simp only [Bool.not_true,Bool.false_eq_true,if_false];refine A1 ⟨rfl,rfl,x'',y'',xs'',ys'',rfl,hx'',hy'',?_,by simpa using hlen⟩;rw [<- hdec]
     by_cases hxy:x''=y''
     ·simp [hxy]
     ·simp [hxy]
    ·rw [decide_eq_false hk];simp only [Bool.not_false,if_true];have hf:decide (x=y)=false:=by rw [<- hdec]; simp [hk]
     rw [hf] at h;exact A0 (A1 (A1 (A1 h)))
 ·rintro ⟨r1,r2⟩ s' ⟨hr,rfl,x',y',xs',ys',hz,hx',hy',hdec,hlen⟩;simp only at hr;subst hr;refine A1 ?_;have hfin:(xs.size == ys.size)=decide (x=y):=by
   rw [<- hdec,<- hlen];cases hx' with
   | nil =>
    cases hy' with
    | nil=>simp
    | cons _ _=>simp
   | cons _ _ =>
    cases hy' with
    | nil=>simp
    | cons _ _=>simp at hz
  show P (.done (.ret (.bool (xs.size == ys.size)))) s';rw [hfin]; exact h
theorem fO {x y:List K×List K} {a b:Addr} {Q:Bool->KB->Prop} (hu:A.units + 1 < cLine) (hx:IsNestKey knd s.heap x a) (hy:IsNestKey knd s.heap y b) (h:Q (decide (x=y)) s) :
  wpAny (model prog w) A (eqBool (.ref a) (.ref b)) Q E s:=by
 unfold eqBool
 try with_reducible refine wpAny_holding ?_
 show wpAny _ _ (if (Value.ref a == Value.ref b)=true then _ else _) Q E s
 by_cases hab:(Value.ref a == Value.ref b)=true
 ·rw [if_pos hab];have e:a=b:=by have:=eq_of_beq hab; injection this
  subst e;obtain rfl:=hx.inj hy;exact A0 (wpAny_rule (A1 (by simpa using h)))
 ·rw [if_neg hab];exact A0 (wpAny_richCompare_same_room (op:=.Eq) hx.typeIs hy.typeIs F.slot_tuple_eq
   (G9 F.slot_tuple_eq hx.typeIs F.entry_tuple_eq (jB (by show A.units + 1 < cLine; exact hu) hx hy ⟨_,rfl,(λ e=>nomatch e),G4 h⟩) (F.args_tuple_eq_2 _ _)) (by omega))
theorem xL {ks:List K} {a:Addr} {Q:Bool->KB->Prop} (hk:IsTupleKey knd s.heap ks a) (h:Q true s):wpAny (model prog w) A (eqIsQuiet 7 (.ref a)) Q E s:=by
 have hT:=hk.typeIs;obtain ⟨o,items,n,ho,_,hd,hi⟩:=hk;unfold eqIsQuiet;refine A0 (wpAny_specialOf hT F.slot_tuple_eq.lookup ?_);show wpAny _ _ (isInstance (.ref a) (.type "tuple") >>= _) _ _ s;refine A0 (wpAny_isInstance hT isSubtype_tuple_tuple ?_);simp only [Bool.not_true,Bool.false_eq_true,if_false];refine A0 (wpAny_seqItems ho hd ?_);refine A0 ?_;show wpAny _ _ (forIn items _ _) _ _ s;rw [<- Array.forIn_toList];refine wpAny_forIn_list _ (λ rest r s'=>r.1=none/\s'=s/\∀v∈rest,carriedByValue v=true) _ ?_ ?_ _ _ ⟨rfl,rfl,hi.byValue⟩
 ·rintro v rest r s' ⟨hr,rfl,hall⟩;rw [eqIsQuiet_byValue _ (hall v List.mem_cons_self)];refine A0 (A1 ?_);simp only [Bool.not_true,Bool.false_eq_true,if_false];exact A1 ⟨rfl,rfl,λ u hu'=>hall u (B4 _ hu')⟩
 ·rintro ⟨r1,r2⟩ s' ⟨hr,rfl,_⟩;simp only at hr;subst hr;exact A1 h
theorem eh {ks:List K×List K} {a:Addr} {Q:Bool->KB->Prop} (hk:IsNestKey knd s.heap ks a) (h:Q true s):wpAny (model prog w) A (eqIsQuiet 8 (.ref a)) Q E s:=by
 have hT:=hk.typeIs;obtain ⟨ks1,ks⟩:=ks;obtain ⟨o,items,n,q,vs,ho,_,hd,hi,hq,hi2⟩:=hk;have hq:IsTupleKey knd s.heap ks1 q:=hq;have hi2:ItemsAre knd ks vs:=hi2;unfold eqIsQuiet;refine A0 (wpAny_specialOf hT F.slot_tuple_eq.lookup ?_);show wpAny _ _ (isInstance (.ref a) (.type "tuple") >>= _) _ _ s;refine A0 (wpAny_isInstance hT isSubtype_tuple_tuple ?_);simp only [Bool.not_true,Bool.false_eq_true,if_false];refine A0 (wpAny_seqItems ho hd ?_);refine A0 ?_;show wpAny _ _ (forIn items _ _) _ _ s;rw [<- Array.forIn_toList,hi,List.forIn_cons];refine A0 (A0 (xL hq ?_));simp only [Bool.not_true,Bool.false_eq_true,if_false];refine A1 ?_;show wpAny _ _ (forIn vs _ _) _ _ _;refine wpAny_forIn_list _ (λ rest r s'=>r.1=none/\s'=s/\∀v∈rest,carriedByValue v=true) _ ?_ ?_ _ _ ⟨rfl,rfl,hi2.byValue⟩
 ·rintro v rest r s' ⟨hr,rfl,hall⟩;rw [eqIsQuiet_byValue _ (hall v List.mem_cons_self)];refine A0 (A1 ?_);simp only [Bool.not_true,Bool.false_eq_true,if_false];exact A1 ⟨rfl,rfl,λ u hu'=>hall u (B4 _ hu')⟩
 ·rintro ⟨r1,r2⟩ s' ⟨hr,rfl,_⟩;simp only at hr;subst hr;exact A1 h
end
def fP {prog:KC} {w:KF} {K:Type} [DecidableEq K] (knd:KeyKind prog w K):HeapKind prog w (List K×List K) where
 is:=IsNestKey knd
 hash:=eg knd
 draws:=λ ks=>ks.1.length + 1 + ks.2.length + 1
 room:=λ A=>A.units + 1 < cLine
 inj:=λ hx hy=>hx.inj hy
 keeps:=λ x ho hd hs=>x.keeps ho hd hs
 pyHash:=λ hu hk h=>fN hu hk h
 eqBool:=λ hu hx hy h=>fO hu hx hy h
 quiet:=λ hk h=>eh hk h
end PySem
namespace L2
open PySem PySem.Spec PyProof.Rows
abbrev NK:=List Key×List Key
abbrev KN:List (NK×Addr×V)->List (NK×Addr×KG)->Prop:=Paired λ p q=>p.1=q.1/\p.2.1=q.2.1/\RelV p.2.2 q.2.2
def Nph (P:KC) (w:KF) (a:Addr) (ks:List (NK×Addr×V)) (h:Heap):Prop:=∃xs:List (NK×Addr×KG),KN ks xs/\∃o es ep,h.get? a=some o/\o.ExactDict/\o.data=.dict es ep/\es.toList=xs.map (entryOfKey (fP (aZ P w)))/\(xs.map (·.1)).Nodup
abbrev NdO (P:KC) (w:KF) (a:Addr) (ks:List (NK×Addr×V)):HO:=.ext (Nph P w a ks)
def NkAt (H:Hp) (p:Addr) (k:NK):Prop:=∃q,H p=some (.tup (.ref q :: k.2.map kV))/\H q=some (.tup (k.1.map kV))
theorem NkAt.keep {H H':Hp} (t:∀c xs,H c=some (.tup xs)->H' c=some (.tup xs)) {p:Addr} {k:NK} (h:NkAt H p k):NkAt H' p k:=by obtain ⟨q,h1,h2⟩:=h;exact ⟨q,t _ _ h1,t _ _ h2⟩
def NDict (P:KC) (w:KF) (H:Hp) (a:Addr) (kvs:List (NK×V)):Prop:=∃ks:List (NK×Addr×V),H a=some (NdO P w a ks)/\(a == sysModules)=false/\ks.length<=sizeLine/\kvs=ks.map (λ x=>(x.1,x.2.2))/\∀x∈ks,NkAt H x.2.1 x.1
theorem NDict.keep {P:KC} {w:KF} {H H':Hp} {a:Addr} {kvs:List (NK×V)} (h:NDict P w H a kvs) (ha:∀o,H a=some o->H' a=some o) (t:∀c xs,H c=some (.tup xs)->H' c=some (.tup xs)):NDict P w H' a kvs:=by obtain ⟨ks,h1,h2,h3,h4,h5⟩:=h;exact ⟨ks,ha _ h1,h2,h3,h4,λ x hx=>(h5 x hx).keep t⟩
theorem NDict.same {P:KC} {w:KF} {H H':Hp} {a:Addr} {kvs:List (NK×V)} (h:NDict P w H a kvs) (s:∀c o,H c=some o->H' c=some o):NDict P w H' a kvs:=h.keep (s a) λ c xs=>s c _
theorem NDict.tup {P:KC} {w:KF} {H:Hp} {a c:Addr} {kvs:List (NK×V)} {xs:List V} (h:NDict P w H a kvs) (e:H c=some (.tup xs)):c≠a:=λ z=>by obtain ⟨ks,h1,_⟩:=h;rw [z,h1] at e; cases e
theorem NDict.some {P:KC} {w:KF} {H:Hp} {a:Addr} {kvs:List (NK×V)} (h:NDict P w H a kvs):H a≠none:=λ z=>by obtain ⟨ks,h1,_⟩:=h;rw [z] at h1; cases h1
theorem KN.val {ks:List (NK×Addr×V)} {xs:List (NK×Addr×KG)} (r:KN ks xs) (k:NK):RelO (bO (ks.map λ x=>(x.1,x.2.2)) k) ((atKey xs k).map (·.2)):=by
 induction r with
 | nil=>exact True.intro
 | @cons p q ps qs h t ih =>
  obtain ⟨h1,_,h2⟩:=h;rw [List.map_cons]
  by_cases e:p.1=k
  ·have e':q.1=k:=h1.symm.trans e;have b:atKey (q :: qs) k=some q.2:=by simp [atKey,List.find?_cons,e']
   rw [bz (by exact e),b]; exact h2
  ·have e':¬ q.1=k:=λ z=>e (h1.trans z);have b:atKey (q :: qs) k=atKey qs k:=by simp [atKey,List.find?_cons,e']
   rw [bA (by exact e),b]; exact ih
def iy (ks:List (NK×Addr×V)) (k:NK) (p:Addr) (v:V):List (NK×Addr×V):=if (ks.any λ x=>decide (x.1=k))=true then ks.map (λ x=>if x.1=k then (x.1,x.2.1,v) else x) else ks ++ [(k,p,v)]
theorem sU (ks:List (NK×Addr×V)) (k:NK) (p:Addr) (v:V):(iy ks k p v).map (λ x=>(x.1,x.2.2))=cI (ks.map λ x=>(x.1,x.2.2)) k v:=by
 unfold iy cI;have e:((ks.map λ x=>(x.1,x.2.2)).any λ kv=>decide (kv.1=k))=(ks.any λ x=>decide (x.1=k)):=by rw [List.any_map]; rfl
 rw [e]
 split
 ·rw [List.map_map,List.map_map];refine List.map_congr_left λ x _=>?_;show (λ x:NK×Addr×V=>(x.1,x.2.2)) (if x.1=k then (x.1,x.2.1,v) else x)=if x.1=k then (x.1,v) else (x.1,x.2.2)
  split <;> rfl
 ·rw [List.map_append]; rfl
theorem KN.put {ks:List (NK×Addr×V)} {xs:List (NK×Addr×KG)} (r:KN ks xs) (k:NK) {b:Addr} {y:V} {u:KG} (ry:RelV y u):KN (iy ks k b y) (storedH xs k b u):=by
 have e:(ks.any λ x=>decide (x.1=k))=(atKey xs k).isSome:=by have h:=(r.val k).isSome_eq;rw [Option.isSome_map] at h;rw [<- h,<- ef,List.any_map]; rfl
 unfold iy storedH;rw [e]
 by_cases q:(atKey xs k).isSome=true
 ·rw [if_pos q,if_pos q];clear e q
  induction r with
  | nil=>exact .nil
  | @cons p q ps qs h t ih =>
   rw [List.map_cons,List.map_cons];refine .cons ?_ ih;obtain ⟨h1,h2,h3⟩:=h;unfold putAt
   by_cases e:p.1=k
   ·rw [if_pos e,if_pos (h1.symm.trans e)]; exact ⟨h1,h2,ry⟩
   ·rw [if_neg e,if_neg (λ z=>e (h1.trans z))]; exact ⟨h1,h2,h3⟩
 ·rw [if_neg q,if_neg q]; exact Paired.snoc r ⟨rfl,rfl,ry⟩
theorem sV {ks:List (NK×Addr×V)} {k:NK} {p:Addr} {v:V} {x:NK×Addr×V} (h:x∈iy ks k p v):(∃y∈ks,y.1=x.1/\y.2.1=x.2.1)\/(x.1=k/\x.2.1=p):=by
 unfold iy at h
 split at h
 ·obtain ⟨y,hy,e⟩:=List.mem_map.mp h;refine .inl ⟨y,hy,?_⟩
  split at e <;> subst e <;> exact ⟨Y,Y⟩
 ·rcases C2.mp h with h | h
  ·exact .inl ⟨x,h,Y,Y⟩
  ·rw [List.mem_singleton.mp h]; exact .inr ⟨Y,Y⟩
theorem sW (ks:List (NK×Addr×V)) (k:NK) (p:Addr) (v:V):(iy ks k p v).length<=ks.length + 1:=by
 unfold iy
 split
 ·rw [List.length_map]; omega
 ·rw [List.length_append]; exact B3 _
section
variable {X:Cx} {pins:List (Addr×Obj)} {σ:St} {H:Hp} {s:KB} {a p:Addr} {k:NK} {kvs:List (NK×V)} {A:Around} {E:KG->KB->Prop}
theorem jC {P:KC} {w:KF} {h:Heap} (ok:HOk P w H h) (e:NkAt H p k):(fP (aZ P w)).is h k p:=by
 obtain ⟨q,h1,h2⟩:=e;obtain ⟨_,its,r,o,g1,g2,n,g3⟩:=(show ObjOk P w H h p (.tup (.ref q :: k.2.map kV)) from ok p _ h1)
 cases r with
 | cons hq t =>
  cases hq;exact ⟨o,_,n,q,_,g1,g2,g3,Y,ju ok h2,gt t⟩
theorem sX (ok:HOk X.prog X.w H s.heap) (e:NDict X.prog X.w H a kvs):∃ks xs,H a=some (NdO X.prog X.w a ks)/\kvs=ks.map (λ x=>(x.1,x.2.2))/\KN ks xs/\ks.length<=sizeLine/\(a == sysModules)=false/\(∀x∈ks,NkAt H x.2.1 x.1)/\s.heap.DictOfH (fP (aZ X.prog X.w)) a xs:=by
 obtain ⟨ks,h1,h2,h3,h4,h5⟩:=e;obtain ⟨⟨xs,r,o,es,ep,g1,g2,g3,g4,g5⟩,_⟩:=(show ObjOk X.prog X.w H s.heap a (NdO X.prog X.w a ks) from ok a _ h1)
 refine ⟨ks,xs,h1,h4,r,h3,h2,h5,o,es,ep,g1,g2,g3,g4,λ x hx=>?_,g5⟩;obtain ⟨i,hi⟩:=List.mem_iff_getElem?.mp hx;have il:i < xs.length:=(A6.mp hi).1;have lx:ks.length=xs.length:=kN r;have hk:ks[i]? = some ks[i]:=G2 (by omega);obtain ⟨y,hy,e1,e2,_⟩:=oK r hk;rw [hi] at hy;cases hy;rw [<- e1,<- e2];exact jC ok (h5 _ (B5 hk))
theorem qx {v:V} {Q:KG->KB->Prop} (hu:A.units + 2 < cLine) (I:Inv X pins σ H s) (g:NDict X.prog X.w H a kvs) (nk:NkAt H p k) (l:bO kvs k=some v) (h:∀w' s',Inv X pins σ H s'->RelV v w'->Q w' s') :
  wpAny (model X.prog X.w) A (getItem (.ref a) (.ref p)) Q E s:=by
 obtain ⟨ks,xs,h1,rfl,r,_,_,_,dd⟩:=sX I.hok g;obtain ⟨w',hw,rw'⟩:=RelO.some_of (v:=v) (o:=(atKey xs k).map (·.2)) (by rw [<- l]; exact r.val k);obtain ⟨pp,hp,hp2⟩:=Option.map_eq_some_iff.mp hw;refine wpAny_getItem_heap (by show A.units + 1 + 1 < cLine; omega) (jC I.hok nk) dd hp ?_;rw [hp2];exact h w' _ (I.tok _) rw'
theorem kP {P:KC} {w:KF} {ks:List (NK×Addr×V)}:∀h1 h2:Heap,Nph P w a ks h1->(∀o,h1.get? a=some o->h2.get? a=some o)->Nph P w a ks h2:=λ h1 h2 ⟨xs,r,o,es,ep,g1,g⟩ k=>⟨xs,r,o,es,ep,k _ g1,g⟩
theorem qy {v:V} {u:KG} {Q:Unit->KB->Prop} (hu:A.units + 2 < cLine) (I:Inv X pins σ H s) (g:NDict X.prog X.w H a kvs) (nk:NkAt H p k) (hl:kvs.length < sizeLine) (rv:RelV v u) (h:∀H' s',Inv X pins σ H' s'->NDict X.prog X.w H' a (cI kvs k v)->(∀c o,c≠a->H c=some o->H' c=some o)->(∀c,H c=none->H' c=none)->Q () s') :
  wpAny (model X.prog X.w) A (setItem (.ref a) (.ref p) u) Q E s:=by
 obtain ⟨ks,xs,h1,rfl,r,z,hd,nks,dd⟩:=sX I.hok g;rw [List.length_map] at hl;have lx:ks.length=xs.length:=kN r;refine wpAny_setItem_heap (hsz:=by omega) (by show A.units + 1 + 1 < cLine; omega) (jC I.hok nk) dd λ h' dd' hs=>?_;obtain ⟨q,es,ep,hq,h2,h3,h4,_,h5⟩:=dd';have I2:Inv X pins σ (upd H a (NdO X.prog X.w a (iy ks k p v))) { s with heap:=h',toks:=s.toks + (fP (aZ X.prog X.w)).draws k } :=
  jv I (by rw [h1]; exact True.intro) hs ⟨q,hq⟩ ⟨⟨_,r.put k rv,q,es,ep,hq,h2,h3,h4,h5⟩,⟨q,hq⟩,kP⟩
 have tk:∀c xs,H c=some (.tup xs)->(upd H a (NdO X.prog X.w a (iy ks k p v))) c=some (.tup xs):=λ c xs e=>by rw [aj (λ z=>by rw [z,h1] at e; cases e)]; exact e
 refine h _ _ I2 ⟨_,ae,hd,by have:=sW ks k p v; omega,(sU ks k p v).symm,λ x hx=>?_⟩ (λ c o n e=>by rw [aj n]; exact e) (λ c e=>by rw [aj (λ z=>by rw [z,h1] at e; cases e)]; exact e);rcases sV hx with ⟨y,hy,e1,e2⟩ | ⟨e1,e2⟩
 ·rw [<- e1,<- e2]; exact (nks y hy).keep tk
 ·rw [e1,e2]; exact nk.keep tk
end
def Dj (P:KC) (w:KF):TE:=λ _ H Q=>∀p,H p=none->(∀H',NDict P w H' p []->(∀c o,H c=some o->H' c=some o)->Q (.ref p) H')
def Dk (P:KC) (w:KF) (td ty:TE):TE:=λ σ H Q=>td σ H λ x H1=>ty σ H1 λ y H2=>∃a v kvs k p,x=.ref a/\y=.ref p/\NDict P w H2 a kvs/\NkAt H2 p k/\bO kvs k=some v/\Q v H2
def Dl (P:KC) (w:KF) (td ty tv:TE):TS:=λ D σ H=>tv σ H λ v H1=>td σ H1 λ x H2=>ty σ H2 λ y H3=>∃a kvs k p,x=.ref a/\y=.ref p/\NDict P w H3 a kvs/\NkAt H3 p k/\kvs.length < sizeLine/\∀H',NDict P w H' a (cI kvs k v)->(∀c o,c≠a->H3 c=some o->H' c=some o)->(∀c,H3 c=none->H' c=none)->D.nx σ H'
section
variable {X:Cx} {o i value:Expr} {pos pos':Pos} {td ty tv:TE}
theorem oN:PE X (.Dict [] [] pos) (Dj X.prog X.w):=λ pins s σ H Q I h=>by have hf:=I.hok.fresh (B3 s.heap.objs.size);have hb:(s.heap.objs.size == sysModules)=false:=beq_eq_false_iff_ne.mpr (Ne.symm (B9 I.big));refine wpAny_Dict_empty ⟨.ref s.heap.objs.size,_,I.laid (a:=s.heap.objs.size) (o:=NdO X.prog X.w s.heap.objs.size []) (t':=s.toks) (λ _ _ q=>A7 _ q) (B3 _) ⟨⟨[],.nil,_,#[],0,A8 _ rfl,⟨rfl,rfl,rfl⟩,rfl,rfl,List.nodup_nil⟩,⟨_,A8 _ rfl⟩,kP⟩,rfl,h _ hf _ ⟨[],ae,hb,E9 _,rfl,λ x hx=>by simp at hx⟩ λ c o e=>by rw [aj (am e hf)]; exact e⟩
theorem eL (hu:X.A.units + 2 < cLine) (ho:PE X o td) (hi:PE X i ty) (hs:xE i):PE X (.Subscript o i pos) (Dk X.prog X.w td ty):=by intro pins s σ H Q I h;refine oG PySem.F.slot_dict_getitem.lookup hs (thn (ho pins s σ H _ I h) λ u s1 ⟨x,H1,I1,rx,q1⟩=>thn (hi pins s1 σ H1 _ I1 q1) λ iv s2 ⟨y,H2,I2,ry,a,v,kvs,k,p,ex,ey,g,nk,l,q2⟩=>?_);subst ex ey;obtain rfl:u=Value.ref a:=rx;obtain rfl:iv=Value.ref p:=ry;obtain ⟨_,_,_,_,_,_,_,_,dd⟩:=sX I2.hok g;exact ⟨dd.typeIs,qx hu I2 g nk l λ w' s3 I3 rw'=>⟨v,H2,I3,rw',q2⟩⟩
theorem oO (hu:X.A.units + 2 < cLine) (ho:PE X o td) (hi:PE X i ty) (hv:PE X value tv) (hs:swapsWith value (some (.Subscript o i pos')) pos.line X.env=pure false) :
  PS X (.Assign [.Subscript o i pos'] value pos) (Dl X.prog X.w td ty tv):=by
 intro pins s σ H D I h;refine wpAny_Assign_Subscript (thn (hv pins s σ H _ I h) λ r s1 ⟨v,H1,I1,rv,q1⟩=>thn (ho pins s1 σ H1 _ I1 q1) λ u s2 ⟨x,H2,I2,rx,q2⟩=>thn (hi pins s2 σ H2 _ I2 q2) λ iv s3 ⟨y,H3,I3,ry,a,kvs,k,p,ex,ey,g,nk,l,q3⟩=>?_) hs;subst ex ey;obtain rfl:u=Value.ref a:=rx;obtain rfl:iv=Value.ref p:=ry;exact qy hu I3 g nk l rv λ H' s4 I4 g' b f=>⟨σ,H',I4,q3 H' g' b f⟩
end
end L2
namespace PySem
open Sem (wp)
section
variable {prog:KC} {w:KF} {A:Around} {E:KG->KB->Prop} {s:KB}
theorem fb {v d:Addr} {es:Array DictEntry} {ep:Nat} {Q:KG->KB->Prop} (hv:s.heap.IsItemsView v d) (hm:(∃o,s.heap.get? d=some o/\o.ExactDict/\o.data=.dict es ep))
  (hQ:Q (.ref s.heap.objs.size) { s with heap:=s.heap.push { cls:=.type "dict_itemiterator",data:=.fields #[.none,.bool false,.ref d,.int 0 0,.int es.size 0,.int ep 0,.none,.none] } }) :
  wpAny (model prog w) A (pyIter (.ref v)) Q E s:=by
 obtain ⟨ov,hov,hcv,hdv⟩:=id hv;obtain ⟨o,ho,hc,hdat⟩:=id hm;refine wpAny_pyIter_slot hv.typeIs F.slot_dict_items_iter (G9 F.slot_dict_items_iter hv.typeIs F.entry_dict_items_iter ?_ (F.args_dict_items_iter_1 _));unfold Builtin.«dict_items.__iter__»;refine A0 (A1 ?_);refine A0 ?_;unfold Builtin.Dict_items.dictOf;refine A0 (wpAny_field hov hdv (x:=.ref d) rfl (A1 ?_));refine A0 ?_;unfold Builtin.Dict_items.newIterator;refine A0 (wpAny_dictEntries ho hdat ?_);refine A0 (wpAny_dictEpoch ho hdat ?_);have hsz:es.size=es.size:=rfl;have hown:Builtin.Dict_items.ownsTuple "dict_itemiterator" = true:=by decide
 simp only [hown,if_true];refine J0 (A1 ⟨_,rfl,"dict_itemiterator",_,⟨_,A8 _ rfl,rfl⟩,F.slot_dict_itemiterator_next.lookup,?_⟩)
  (by simp only [sizeOk,Builtin.Dict_items.ownedTupleFields,List.size_toArray,List.length_append,List.length_cons,List.length_nil,sizeLine_eq]; omega)
 simpa [rawInt,hsz,Builtin.Dict_items.ownedTupleFields] using hQ
theorem cX {it d:Addr} {i ep:Nat} {es:Array DictEntry} {en:DictEntry} {ok ov:KG} {Q:Option KG->KB->Prop} (hit:IsItemIter s.heap it d i es.size ep ok ov)
  (hm:(∃o,s.heap.get? d=some o/\o.ExactDict/\o.data=.dict es ep)) (hx:es[i]? = some en)
  (hQ:∀h',IsItemIterOut h' it d (i + 1) es.size ep en.key en.val s.heap.objs.size ->
   h'.get? s.heap.objs.size=some { cls:=.type "tuple", data:=.seq #[en.key, en.val] }->h'.objs.size=s.heap.objs.size + 1 ->
   (∀b o,b≠it->s.heap.get? b=some o->h'.get? b=some o)->Q (some (.ref s.heap.objs.size)) { s with heap:=h' }) :
  wpAny (model prog w) A (pyNext (.ref it)) Q E s:=by
 obtain ⟨hp,g,dr,tk,os⟩:=s;obtain ⟨od,hod,hcd,hdd⟩:=id hm;have hT:Shared.TypeIs ⟨hp,g,dr,tk,os⟩ (.ref it) "dict_itemiterator" := ⟨_,hit,Y⟩
 unfold pyNext;refine A0 (wpAny_attempt (wpAny_callSpecial?_slot (name:=Str.ofString "__next__") hT F.slot_dict_itemiterator_next
  (G9 F.slot_dict_itemiterator_next hT F.entry_dict_itemiterator_next ?_ (F.args_dict_itemiterator_next_1 _))))
 refine A0 (A1 ?_);refine A0 ?_;refine A0 ?_
 first | refine A0 (wpAny_typeNameOfWhole_itemiter hT (A1 ?_)) | refine A0 (wpAny_typeNameOf_itemiter hT (A1 ?_))
 refine A0 (wpAny_fieldsOf hit rfl ?_);have hown:Builtin.Dict_items.ownsTuple "dict_itemiterator" = true:=by decide
 simp only [hown,if_true];show wpAny _ _ (if (Value.ref d == Value.none)=true then _ else _) _ _ _;rw [if_neg (show ¬ ((Value.ref d == Value.none)=true) from Bool.false_ne_true)];refine A0 (A1 ?_);refine A0 (wpAny_dictEntries hod hdd ?_);have hsz:es.size=es.size:=rfl;rw [if_neg (by simp)];refine A0 (A1 ?_);refine A0 (wpAny_dictEpoch hod hdd ?_);rw [if_neg (by simp)];refine A1 ?_;have hlt:i < es.size:=by
  rcases Nat.lt_or_ge i es.size with h | h
  ·exact h
  ·rw [Array.getElem?_eq_none h] at hx; cases hx
 have hlt':i < es.size:=hlt;have hkey:es[i]=en:=by rw [Array.getElem?_eq_getElem hlt'] at hx; exact B8 hx
 subst hkey;simp only [show ¬ ((i:Int) < 0) from by omega,if_false,Int.toNat_natCast,Array.getElem?_eq_getElem hlt'];refine A0 ?_
 first | refine A0 (wpAny_typeNameOfWhole_itemiter hT (A1 ?_)) | refine A0 (wpAny_typeNameOf_itemiter hT (A1 ?_))
 refine A0 (wpAny_isOneOf_itemiter hT ?_);show wpAny _ _ (setField (.ref it) 3 (rawInt ((i:Int) + 1)) >>= _) _ _ ⟨hp,g,dr,tk,os⟩;refine A0 (wpAny_setField_rec hit (by simp) λ h₁ he₁ hs₁=>?_)
 replace hs₁:Heap.SameBut it hp h₁:=hs₁
 replace he₁:IsItemIter h₁ it d (i + 1) es.size ep ok ov:=by
  have e:((i + 1:Nat):Int)=(i:Int) + 1:=by omega
  unfold IsItemIter; rw [e]; simpa [rawInt] using he₁
 have hT₁:Shared.TypeIs ⟨h₁,g,dr,tk,os⟩ (.ref it) "dict_itemiterator" := ⟨_,he₁,Y⟩
 refine A0 (wpAny_holding ?_);refine A0 (wpAny_isOneOf_itemiter hT₁ ?_);refine A0 (wpAny_isOneOf_itemiter hT₁ ?_);show wpAny _ _ (Builtin.Dict_items.pairFromOwner (.ref it) 6 es[i].key es[i].val) _ _ ⟨h₁,g,dr,tk,os⟩;unfold Builtin.Dict_items.pairFromOwner;refine A0 (wpAny_newTuple ?_);have he₂:IsItemIter (h₁.push { cls:=.type "tuple",data:=.seq #[es[i].key,es[i].val] }) it d (i + 1) es.size ep ok ov:=A7 _ he₁;generalize hh₂:h₁.push { cls:=.type "tuple",data:=.seq #[es[i].key,es[i].val] }=h₂ at he₂;have hz₁:h₁.objs.size=hp.objs.size:=hs₁.1;have hil:it < hp.objs.size:=A9 hit;have ht₂:h₂.get? hp.objs.size=some { cls:=.type "tuple",data:=.seq #[es[i].key,es[i].val] }:=by rw [<- hh₂,<- hz₁]; exact A8 _ rfl
 have hz₂:h₂.objs.size=hp.objs.size + 1:=by rw [<- hh₂,Heap.size_push,hz₁]
 have hk₂:∀b o,b≠it->hp.get? b=some o->h₂.get? b=some o:=λ b o hb e=>by rw [<- hh₂]; exact A7 _ (hs₁.extBut b o hb e)
 show wpAny _ _ (Builtin.Dict_items.ownedTupleIsFree (.ref it) >>= _) _ _ ⟨h₂,g,dr,tk,os⟩;rw [hz₁];clear hh₂ he₁ hs₁ hT₁ hz₁ h₁;refine A0 ?_;unfold Builtin.Dict_items.ownedTupleIsFree;refine A0 (wpAny_field he₂ rfl (x:=.none) rfl (A1 ?_));simp only [if_true];refine A0 (wpAny_field he₂ rfl (x:=ok) rfl ?_);refine A0 (wpAny_field he₂ rfl (x:=ov) rfl ?_);refine A0 (wpAny_setField_rec he₂ (by simp) λ h₃ he₃ hs₃=>?_)
 replace hs₃:Heap.SameBut it h₂ h₃:=hs₃
 replace he₃:IsItemIter h₃ it d (i + 1) es.size ep es[i].key ov:=he₃
 refine A0 (wpAny_setField_rec he₃ (by simp) λ h₄ he₄ hs₄=>?_)
 replace hs₄:Heap.SameBut it h₃ h₄:=hs₄
 replace he₄:IsItemIter h₄ it d (i + 1) es.size ep es[i].key es[i].val:=he₄
 refine A0 (wpAny_setField_rec he₄ (by simp) λ h₅ he₅ hs₅=>?_)
 replace hs₅:Heap.SameBut it h₄ h₅:=hs₅
 replace he₅:IsItemIterOut h₅ it d (i + 1) es.size ep es[i].key es[i].val hp.objs.size:=he₅
 refine A0 (wpAny_setField_rec he₅ (by simp) λ h₆ he₆ hs₆=>?_)
 replace hs₆:Heap.SameBut it h₅ h₆:=hs₆
 replace he₆:IsItemIterOut h₆ it d (i + 1) es.size ep es[i].key es[i].val hp.objs.size:=he₆
 refine A0 (wpAny_letGo (A1 (A1 ⟨_,rfl,A1 (hQ h₆ he₆ ?_ ?_ ?_)⟩)))
 ·exact hs₆.extBut _ _ (Nat.ne_of_gt hil) (hs₅.extBut _ _ (Nat.ne_of_gt hil) (hs₄.extBut _ _ (Nat.ne_of_gt hil) (hs₃.extBut _ _ (Nat.ne_of_gt hil) ht₂)))
 ·show h₆.objs.size=hp.objs.size + 1;rw [hs₆.1,hs₅.1,hs₄.1,hs₃.1,hz₂]
 ·exact λ b o hb e=>hs₆.extBut b o hb (hs₅.extBut b o hb (hs₄.extBut b o hb (hs₃.extBut b o hb (hk₂ b o hb e))))
theorem dh {it d:Addr} {i ep:Nat} {es:Array DictEntry} {ok ov:KG} {Q:Option KG->KB->Prop} (hh:A.handled=none) (hit:IsItemIter s.heap it d i es.size ep ok ov)
  (hm:(∃o,s.heap.get? d=some o/\o.ExactDict/\o.data=.dict es ep)) (hx:es[i]? = none)
  (hQ:∀h',Heap.ExtBut it s.heap h'->Q none { s with heap:=h' }):wpAny (model prog w) A (pyNext (.ref it)) Q E s:=by
 obtain ⟨od,hod,hcd,hdd⟩:=id hm;have hT:s.TypeIs (.ref it) "dict_itemiterator" := ⟨_,hit,Y⟩
 unfold pyNext;refine A0 (wpAny_attempt (wpAny_callSpecial?_slot (name:=Str.ofString "__next__") hT F.slot_dict_itemiterator_next
  (G9 F.slot_dict_itemiterator_next hT F.entry_dict_itemiterator_next ?_ (F.args_dict_itemiterator_next_1 _))))
 refine A0 (A1 ?_);refine A0 ?_;refine A0 ?_
 first | refine A0 (wpAny_typeNameOfWhole_itemiter hT (A1 ?_)) | refine A0 (wpAny_typeNameOf_itemiter hT (A1 ?_))
 refine A0 (wpAny_fieldsOf hit rfl ?_);have hown:Builtin.Dict_items.ownsTuple "dict_itemiterator" = true:=by decide
 simp only [hown,if_true];show wpAny _ _ (if (Value.ref d == Value.none)=true then _ else _) _ _ s;rw [if_neg (show ¬ ((Value.ref d == Value.none)=true) from Bool.false_ne_true)];refine A0 (A1 ?_);refine A0 (wpAny_dictEntries hod hdd ?_);have hsz:es.size=es.size:=rfl;rw [if_neg (by simp)];refine A0 (A1 ?_);refine A0 (wpAny_dictEpoch hod hdd ?_);rw [if_neg (by simp)];refine A1 ?_;have hge:es.size<=i:=by simpa using hx
 simp only [show ¬ ((i:Int) < 0) from by omega,if_false,Int.toNat_natCast,Array.getElem?_eq_none hge];refine A0 ?_
 first | refine A0 (wpAny_typeNameOfWhole_itemiter hT (A1 ?_)) | refine A0 (wpAny_typeNameOf_itemiter hT (A1 ?_))
 show wpAny _ _ (setField (.ref it) 2 .none >>= _) _ _ s;refine A0 (wpAny_setField hit rfl (by simp) ?_);show wpAny _ _ (newExc (.type "StopIteration") [] >>= _) _ _ _;refine A0 ?_;simp only [newExc,newTuple];refine A0 (J0 ?_ (by size_fits));refine A0 (m:=firstArgMember _ _) (wpAny_of_eq (a:=Value.none) (by first | rfl | (simp only [firstArgMember]; rfl)) ?_);refine J0 ?_ (by size_fits);simp only [raiseNew];refine A0 (wpAny_handled ?_);rw [show A.in1.handled=none from hh];refine A0 (A1 (wpAny_throw ?_));refine A0 (wpAny_isInstance (T := "StopIteration") (b:=true) ⟨_,A8 _ rfl,rfl⟩ isSubtype_stop ?_);exact A1 (hQ _ (((Heap.SameBut.update ..).extBut.push _).push _))
theorem hZ:entryFor table "dict_itemiterator.__iter__" = some Builtin.«dict_keyiterator.__iter__» :=
 entryFor_alias (id' := "dict_keyiterator.__iter__") (by kernel_rfl) rfl (by decide +kernel) (by kernel_rfl)
theorem dG {it d:Addr} {i n ep:Nat} {ok ov:KG} {Q:KG->KB->Prop} (hit:IsItemIter s.heap it d i n ep ok ov) (h:Q (.ref it) s):wpAny (model prog w) A (pyIter (.ref it)) Q E s:=by
 have hT:s.TypeIs (.ref it) "dict_itemiterator" := ⟨_,hit,Y⟩
 refine wpAny_pyIter_slot hT F.slot_dict_itemiterator_iter (G9 F.slot_dict_itemiterator_iter hT hZ ?_ (F.args_dict_itemiterator_iter_1 _));show wpAny _ _ (ret (.ref it)) _ _ s;exact A1 ⟨_,rfl,"dict_itemiterator",_,hT,F.slot_dict_itemiterator_next.lookup,h⟩
theorem xM {d:Addr} {o:Obj} {Q:KG->KB->Prop} (ho:s.heap.get? d=some o) (hc:o.ExactDict) (hz:(d == sysModules)=false) (h:Q (.ref s.heap.objs.size) { s with heap:=s.heap.push { cls:=.type "dict_items",data:=.fields #[.ref d] } }) :
  wpAny (model prog w) A (call (.builtin "dict.items") [.ref d]) Q E s:=by
 have ty:s.TypeIs (.ref d) "dict" := ⟨o,ho,hc.1⟩
 refine call_meetsIn (S:=λ _ R s'=>s'=s/\R (.ok (.ret (.ref s.heap.objs.size))) { s with heap:=s.heap.push { cls:=.type "dict_items", data:=.fields #[.ref d] } }) PySem.F.slot_dict_items ty PySem.F.entry_dict_items (PySem.F.args_dict_items_1 _) (.of_wp λ A R s' ⟨e, h⟩=>?_) ⟨rfl, h⟩;subst e;unfold Builtin.«dict.items»;refine A0 ?_;unfold Builtin.Dict.noArgs;refine A0 (wpAny_notOrdered_dict ty ?_);show wpAny _ _ (pure d) _ _ s';refine A1 ?_;show wpAny _ _ (Builtin.Dict.showsAll d >>= _) _ _ s';unfold Builtin.Dict.showsAll;rw [if_neg (by rw [hz]; exact Bool.false_ne_true)];refine A0 (A1 ?_);exact A0 (J0 (A1 ⟨_,rfl,h⟩))
end
end PySem
namespace L2
open PySem PySem.Spec PyProof.Rows
def Iti (a:Addr) (ob:Obj) (kvs:List (List Key×V)):It :=
 ⟨λ i H=>i < kvs.length/\H a=some (.frz ob (.dT kvs)),λ i H x H'=>∃p q k v,kvs[i]? = some (k,v)/\H p=none/\H q=some (.tup (k.map kV))/\x=.ref p/\H'=upd H p (.tup [.ref q,v]),λ i H=>i=kvs.length/\H a=some (.frz ob (.dT kvs))⟩
theorem my {P:KC} {w:KF} {K:C4} {el:List Expr} {kk:Nat} {tp:Pos} (a it:Addr) (ob:Obj) (kvs:List (List Key×V)) (es:Array DictEntry) (ep:Nat) (hx:ob.ExactDict) (hd:ob.data=.dict es ep) (hn:es.size=kvs.length) :
  Turn P w K (.Tuple el kk tp) (Iti a ob kvs) [it] it (λ i h=>∃ok ov,IsItemIter h it a i es.size ep ok ov) where
 mem:=by simp
 obj:=λ i h st b hb=>by
  have e:b=it:=by simpa using hb
  subst e;obtain ⟨ok,ov,st⟩:=st;exact ⟨_,st,λ v z=>by cases z⟩
 keep:=λ i h h' ⟨ok,ov,st⟩ k=>⟨ok,ov,k it (by simp) _ st⟩
 item:=by
  intro X hP hw hK hc i pins s σ H E I hf st hg;subst hP hw hK;obtain ⟨hi,hH⟩:=hg;obtain ⟨ok,ov,st⟩:=st;obtain ⟨h1,_,_,xs,pr,o,es',ep',h2,_,h3,h4,_⟩:=(show ObjOk X.prog X.w H s.heap a (.frz ob (.dT kvs)) from I.hok a _ hH)
  rw [h1] at h2;cases h2;rw [hd] at h3;cases h3;have hk:kvs[i]? = some kvs[i]:=G2 hi;obtain ⟨⟨k',q,v'⟩,hy,e1,e2,e3⟩:=oK pr hk;have hen:es[i]? = some (entryOfKey (tupleKind (aZ X.prog X.w)) (k',q,v')):=by rw [<- Array.getElem?_toList,h4,List.getElem?_map,hy]; rfl
  have il:it < s.heap.objs.size:=A9 st;refine cX st ⟨ob,h1,hx,hd⟩ hen λ h' b1 b2 b3 bk=>⟨_,Y,?_⟩
  refine wpAny_letOwnedTupleGo_items (s:={ s with heap:=h' }) b1 λ h'' c1 cs=>?_;have cs:Heap.SameBut it h' h'':=cs;have k2:∀b o,b∉[it]->s.heap.get? b=some o->h''.get? b=some o:=λ b o hb q=>by
   have hb:b≠it:=by simpa using hb
   exact cs.extBut b o hb (bk b o hb q)
  have I1:Inv X pins σ H { s with heap:=h'' }:=I.turnedN (t':=s.toks) hf k2;have hp:=cs.extBut _ _ (Nat.ne_of_gt il) b2;have hn0:H s.heap.objs.size=none:=I.hok.fresh (B3 _);have fpk:=I.fpOk (H':=H) (B3 _) hn0;have I2:Inv X pins σ (upd H s.heap.objs.size (.tup [.ref q,kvs[i].2])) { s with heap:=h'' }:=I1.track fpk I.sz ⟨by show 2<=sizeLine; decide,[.ref q,v'],.cons rfl (.cons e3 .nil),_,hp,Y,_,Y⟩;refine ⟨.ref s.heap.objs.size,_,I2,Y,⟨_,q,_,_,hk,hn0,e2,Y,Y⟩,⟨_,_,c1⟩,λ b hb=>?_⟩;have e:b=it:=by simpa using hb
  subst e;rw [aj (Nat.ne_of_lt il)];exact (hf b hb).1
 done:=by
  intro X hP hw hK hc i pins s σ H E I hf st hg;subst hP hw hK;obtain ⟨hi,hH⟩:=hg;obtain ⟨ok,ov,st⟩:=st;obtain ⟨h1,_⟩:=(show ObjOk X.prog X.w H s.heap a (.frz ob (.dT kvs)) from I.hok a _ hH)
  obtain ⟨f0,f1,f2,f3,f4,f5⟩:=hf it (by simp);exact dh (I.ok.hd hc) st ⟨ob,h1,hx,hd⟩ (by rw [Array.getElem?_eq_none]; omega) λ h' eb=>⟨Y,I.turned (t':=s.toks) (λ b o hb e=>eb b o hb e) f0 f1 f3 f4 f5⟩
 self:=λ A i s Q E ⟨ok,ov,st⟩ h=>dG st h
section
variable {X:Cx}
def xN (tl:TE):TI:=λ σ H R=>tl σ H λ x H1=>∃a kvs,x=.ref a/\H1 a=some (.dT kvs)/\∀ob,R (Iti a ob kvs) (upd H1 a (.frz ob (.dT kvs)))
theorem sY {l:Expr} {tl:TE} {apos cpos tp:Pos} {el:List Expr} {kk:Nat} (hl:PE X l tl)
  (hbase:attributeBase l "items" X.env (eval l X.env)=eval l X.env:=by rfl) (hline:(apos.endLine == cpos.line)=true:=by rfl):PI X (.Tuple el kk tp) (.Call (.Attribute l "items" apos) [] [] cpos) (xN tl):=by
 intro pins s σ H R I h;refine wpAny_Call_method0_late hbase hline (thn (hl pins s σ H _ I h) λ v s1 ⟨x,H1,I1,r1,a,kvs,e,hH,q⟩=>?_);subst e;cases r1;obtain ⟨hz,hs,xs,pr,o,es,ep,h1,h2,h3,h4,h5⟩:=(show ObjOk X.prog X.w H1 s1.heap a (.dT kvs) from I1.hok a _ hH)
 have hn:es.size=kvs.length:=by rw [kN pr,<- Array.length_toList,h4,List.length_map]
 have I2:Inv X pins σ (upd H1 a (.frz o (.dT kvs))) s1:=by
  have:=I1.write (x:=a) (e:=a) (o:=.frz o (.dT kvs)) (h':=s1.heap) (t':=s1.toks) (by rw [hH]; trivial) (.inl rfl) (λ b u _ e=>e) ⟨o,h1⟩ ⟨h1,hz,hs,xs,?_,o,es,ep,h1,h2,h3,h4,h5⟩
  ·exact this
  ·refine sS pr λ p q ⟨e1,e2,e3⟩=>⟨e1,?_,e3⟩
   rw [aj (λ z=>by rw [z,hH] at e2; cases e2)];exact e2
 refine ⟨"dict","dict.items",PySem.F.plainAttrs_dict,PySem.F.slot_dict_items,PySem.F.type_dict_items,⟨o,h1,h2.1⟩,(λ b e2=>by cases e2; exact ⟨o,h1,h2.2.1⟩),Calls.callWith_builtin rfl (PySem.evalArgs_none (xM h1 h2 hs ?_))⟩;have h1':(s1.heap.push { cls:=.type "dict_items", data:=.fields #[.ref a] }).get? a=some o:=A7 _ h1;refine fb (d:=a) (es:=es) (ep:=ep) ⟨_,A8 _ rfl,rfl,rfl⟩ ⟨o,h1',h2,h3⟩ ?_;refine ⟨_,[_],_,_,_,Y,I2.kept (t':=s1.toks) λ b o e=>A7 _ (A7 _ e),my a _ o kvs es ep h2 h3 hn,⟨_,_,A8 _ rfl⟩,λ b hb=>?_,q o⟩;have e:b=(s1.heap.push { cls:=.type "dict_items",data:=.fields #[.ref a] }).objs.size:=by simpa using hb
 have hb':s1.heap.objs.size<=b:=by rw [e,Heap.size_push]; omega
 exact I2.fpOk hb' (I2.hok.fresh hb')
end
theorem mz {a:Addr} {ob:Obj} {kvs:List (List Key×V)} {σ:St} {cap:List Nat} {k:Nat} {g:TG} {tt:TT} {te:TE} {Q:List V->Hp->Prop} {H:Hp} (Pv:Nat->List V->Hp->Prop) (h0:Pv 0 [] H)
  (hl:∀i ys H',i<=kvs.length->Pv i ys H'->H' a=some (.frz ob (.dT kvs)))
  (ht:∀i kk v p q ys H',kvs[i]? = some (kk,v)->H' p=none->H' q=some (.tup (kk.map kV))->Pv i ys H'->g (.ref p) (bd σ cap k) (upd H' p (.tup [.ref q,v])) λ σ2 H2=>leS (bd σ cap k) σ2/\tt σ2 H2 λ ok H3=>if ok=true then te σ2 H3 (λ v H4=>Nx kvs.length Pv i (ys ++ [v]) H4) else Nx kvs.length Pv i ys H3)
  (hz:∀i ys H',i < kvs.length->Pv i ys H'->ys.length < sizeLine) (hd:∀ys H',Pv kvs.length ys H'->ys.length<=sizeLine/\Q ys H'):∃W,(∃m,W 0 m [] H)/\fj σ cap k (Iti a ob kvs) g tt te Q W:=by
 refine ⟨λ i m ys H'=>m=kvs.length - i/\i<=kvs.length/\Pv i ys H',⟨_,Y,E9 _,h0⟩,?_⟩;rintro i m ys H' ⟨rfl,hi,p⟩;have q:=hl i ys H' hi p
 by_cases hin:i < kvs.length
 ·refine .inr ⟨⟨hin,q⟩,hz i ys H' hin p,λ x H2 yl=>?_⟩;obtain ⟨pa,qa,k',v',e1,e2,e3,e4,e5⟩:=yl;subst e4 e5;exact ht i k' v' pa qa ys _ e1 e2 e3 p
 ·have e:i=kvs.length:=by omega
  subst e;obtain ⟨a1,a2⟩:=hd ys H' p;exact .inl ⟨⟨Y,q⟩,a1,a2⟩
end L2
namespace PyProof.Rows
set_option autoImplicit false
open PySem
def vw:Bool->Keyed->Array Keyed->Nat->Nat->Nat->StateT SortSt Sem (Option Nat):=sortPriv% PySem.Builtin.gallop
def tj:Array Keyed->Array Keyed->StateT SortSt Sem (Array Keyed):=sortPriv% PySem.Builtin.mergeLo
def tm:Array Keyed->Array Keyed->StateT SortSt Sem (Array Keyed):=sortPriv% PySem.Builtin.mergeHi
def KdA (κ:KeyKind) (a:Array Keyed):Prop:=∀ (i:Nat) (p:Keyed),a[i]? = some p->∃k,κ.keyOf p.1=some k
section
variable {prog:KC} {w:KF} {A:Around} {E:KG->KB->Prop} {s:KB} {κ:KeyKind} {κ0:SortKind}
theorem fQ (hO:cr prog w A s κ0 κ) {st:SortSt} {x y:Keyed} {Q:Option Bool->SortSt->Prop} (hk:kindOf st=κ0) (hx:∃k,κ.keyOf x.1=some k) (hy:∃k,κ.keyOf y.1=some k)
  (h:∀b,Q (some b) st):wpS (model prog w) A E s (lt' x y) Q st:=by
 obtain ⟨a,ha⟩:=hx;obtain ⟨b,hb⟩:=hy;rw [lt'_eq];refine A3 (wpS_get ?_);rw [hk];refine A3 (wpS_lift (wpAny_attempt (hO _ _ _ a b _ ha hb ⟨rfl,?_⟩)));exact A4 (h _)
theorem bh {st:SortSt} {arr:Array Keyed} {i:Nat} {Q:Keyed->SortSt->Prop} (hi:i < arr.size) (h:∀p,arr[i]? = some p->Q p st):wpS (model prog w) A E s (elem' arr i) Q st:=by rw [elem'_eq,getElem?_pos arr i hi];exact A4 (h _ (getElem?_pos arr i hi))
theorem cj (hO:cr prog w A s κ0 κ) {st:SortSt} {left:Bool} {key:Keyed} {arr:Array Keyed} {base n hint:Nat} {Q:Option Nat->SortSt->Prop} (hk:kindOf st=κ0) (hn:base + n<=arr.size) (hh:hint < n)
  (ha:KdA κ arr) (hy:∃k,κ.keyOf key.1=some k) (h:∀k,k<=n->Q (some k) st):wpS (model prog w) A E s (vw left key arr base n hint) Q st:=by
 have ask:∀ (i:Nat),i < n->∀ (R:Option Bool->SortSt->Prop),(∀b,R (some b) st)->wpS (model prog w) A E s (elem' arr (base + i) >>= λ x=>if left=true then lt' x key else lt' key x >>= λ r=>pure (r.map (!·))) R st:=by
  intro i hi R hR;refine A3 (bh (by omega) λ p hp=>?_)
  split
  ·exact fQ hO hk (ha _ _ hp) hy hR
  ·exact A3 (fQ hO hk hy (ha _ _ hp) λ b=>A4 (hR _))
 refine A3 (ask hint hh _ λ b=>?_);dsimp only
 split
 ·refine A3 (wpS_mono (wpS_forRange (I:=λ _ c st'=>c.1=none/\st'=st) (Q:=λ c st'=>c.1=none/\st'=st) ?_ (λ c st' hc=>hc) ⟨rfl,rfl⟩) ?_)
  ·rintro i ⟨r,lo,ofs⟩ st' _ _ ⟨h1,rfl⟩;dsimp only at h1 ⊢
   split
   ·exact A4 ⟨rfl,rfl⟩
   ·refine A3 (ask _ (by omega) _ λ b=>?_);dsimp only
    split
    ·exact A4 ⟨rfl,rfl⟩
    ·exact A4 ⟨rfl,rfl⟩
  ·rintro ⟨r,lo,ofs⟩ st' ⟨h1,rfl⟩;dsimp only at h1 ⊢;subst h1;refine A3 (wpS_mono (wpS_forRange (I:=λ _ c st2=>c.1=none/\c.2.2<=n/\st2=st') (Q:=λ c st2=>c.1=none/\c.2.2<=n/\st2=st') ?_ (λ c st2 hc=>hc) ⟨rfl,by dsimp only; omega,rfl⟩) ?_)
   ·rintro i ⟨r,l2,h2⟩ st2 _ _ ⟨g1,g2,rfl⟩;dsimp only at g1 g2 ⊢
    split
    ·exact A4 ⟨rfl,g2,rfl⟩
    ·refine A3 (ask _ (by omega) _ λ b=>?_);dsimp only
     split
     ·exact A4 ⟨rfl,g2,rfl⟩
     ·exact A4 ⟨rfl,by dsimp only; omega,rfl⟩
   ·rintro ⟨r,l2,h2⟩ st2 ⟨g1,g2,rfl⟩;dsimp only at g1 g2 ⊢;subst g1;exact A4 (h _ g2)
 ·refine A3 (wpS_mono (wpS_forRange (I:=λ _ c st'=>c.1=none/\st'=st) (Q:=λ c st'=>c.1=none/\st'=st) ?_ (λ c st' hc=>hc) ⟨rfl,rfl⟩) ?_)
  ·rintro i ⟨r,lo,ofs⟩ st' _ _ ⟨h1,rfl⟩;dsimp only at h1 ⊢
   split
   ·exact A4 ⟨rfl,rfl⟩
   ·refine A3 (ask _ (by omega) _ λ b=>?_);dsimp only
    split
    ·exact A4 ⟨rfl,rfl⟩
    ·exact A4 ⟨rfl,rfl⟩
  ·rintro ⟨r,lo,ofs⟩ st' ⟨h1,rfl⟩;dsimp only at h1 ⊢;subst h1;refine A3 (wpS_mono (wpS_forRange (I:=λ _ c st2=>c.1=none/\c.2.2<=n/\st2=st') (Q:=λ c st2=>c.1=none/\c.2.2<=n/\st2=st') ?_ (λ c st2 hc=>hc) ⟨rfl,by dsimp only; omega,rfl⟩) ?_)
   ·rintro i ⟨r,l2,h2⟩ st2 _ _ ⟨g1,g2,rfl⟩;dsimp only at g1 g2 ⊢
    split
    ·exact A4 ⟨rfl,g2,rfl⟩
    ·refine A3 (ask _ (by omega) _ λ b=>?_);dsimp only
     split
     ·exact A4 ⟨rfl,g2,rfl⟩
     ·exact A4 ⟨rfl,by dsimp only; omega,rfl⟩
   ·rintro ⟨r,l2,h2⟩ st2 ⟨g1,g2,rfl⟩;dsimp only at g1 g2 ⊢;subst g1;exact A4 (h _ g2)
theorem ar {α:Type} {c:Prop} [Decidable c] {x y:StateT SortSt Sem α} {Q:α->SortSt->Prop} {st:SortSt} (h1:c->wpS (model prog w) A E s x Q st) (h2:¬ c->wpS (model prog w) A E s y Q st):wpS (model prog w) A E s (if c then x else y) Q st:=by
 split
 ·exact h1 ‹_›
 ·exact h2 ‹_›
def SameG (st st':SortSt):Prop:=kindOf st'=kindOf st/\arrOf st'=arrOf st/\pendingOf st'=pendingOf st/\failedOf st'=failedOf st
theorem SameG.rfl' {st:SortSt}:SameG st st:=⟨Y,Y,Y,Y⟩
theorem kQ (a:Array Keyed) (i:Nat):(a.extract i a.size).toList=a.toList.drop i:=by rw [Array.toList_extract,List.extract_eq_take_drop];exact List.take_of_length_le (by simp)
theorem oP (a:Array Keyed) (i k:Nat):(a.extract i (i + k)).toList ++ a.toList.drop (i + k)=a.toList.drop i:=by rw [Array.toList_extract,List.extract_eq_take_drop,show i + k - i=k by omega,<- List.drop_drop];exact List.take_append_drop k _
theorem oQ {a:Array Keyed} {i:Nat} {p:Keyed} (e:a[i]? = some p):a.toList.drop i=p :: a.toList.drop (i + 1):=by rw [<- Array.getElem?_toList] at e;obtain ⟨h,rfl⟩:=A6.mp e;exact List.drop_eq_getElem_cons h
def MLo (a b out:Array Keyed) (ia ib:Nat):Prop:=(out.toList ++ a.toList.drop ia ++ b.toList.drop ib).Perm (a.toList ++ b.toList)
theorem MLo.done {a b out:Array Keyed} {ia ib:Nat} (h:MLo a b out ia ib):(out ++ a.extract ia a.size ++ b.extract ib b.size).Perm (a ++ b):=by rw [Array.perm_iff_toList_perm];simp only [Array.toList_append,kQ];exact h
theorem MLo.last {a b out:Array Keyed} {ia ib:Nat} (h:MLo a b out ia ib):(out ++ b.extract ib b.size ++ a.extract ia a.size).Perm (a ++ b):=by rw [Array.perm_iff_toList_perm];simp only [Array.toList_append,kQ];refine E2 ?_ h;rw [List.append_assoc,List.append_assoc];exact List.Perm.append_left _ List.perm_append_comm
theorem MLo.pb {a b out:Array Keyed} {ia ib:Nat} {p:Keyed} (h:MLo a b out ia ib) (e:b[ib]? = some p):MLo a b (out.push p) ia (ib + 1):=by unfold MLo at h ⊢;rw [oQ e] at h;refine E2 ?_ h;rw [Array.toList_push];simp only [List.append_assoc];exact List.Perm.append_left _ (List.perm_middle (a:=p) (l₁:=a.toList.drop ia) (l₂:=b.toList.drop (ib + 1))).symm
theorem MLo.pa {a b out:Array Keyed} {ia ib:Nat} {p:Keyed} (h:MLo a b out ia ib) (e:a[ia]? = some p):MLo a b (out.push p) (ia + 1) ib:=by unfold MLo at h ⊢;rw [oQ e] at h;rw [Array.toList_push];simpa only [List.append_assoc,List.cons_append,List.nil_append] using h
theorem MLo.ca {a b out:Array Keyed} {ia ib:Nat} (h:MLo a b out ia ib) (k:Nat):MLo a b (out ++ a.extract ia (ia + k)) (ia + k) ib:=by unfold MLo at h ⊢;rw [<- oP a ia k] at h;rw [Array.toList_append];simpa only [List.append_assoc] using h
theorem MLo.cb {a b out:Array Keyed} {ia ib:Nat} (h:MLo a b out ia ib) (k:Nat):MLo a b (out ++ b.extract ib (ib + k)) ia (ib + k):=by unfold MLo at h ⊢;rw [<- oP b ib k] at h;refine E2 ?_ h;rw [Array.toList_append];simp only [List.append_assoc];refine List.Perm.append_left _ ?_;rw [<- List.append_assoc,<- List.append_assoc];exact List.Perm.append_right _ List.perm_append_comm
theorem oR {α:Type} {m:StateT SortSt Sem α} {Q:α->SortSt->Prop} {st:SortSt} (h:∀Q':α->SortSt->Prop,(∀a st',Q a st'->Q' a st')->wpS (model prog w) A E s m Q' st):wpS (model prog w) A E s m Q st:=h Q λ _ _ z=>z
theorem oS {α:Type} {c:Prop} [Decidable c] {jp:Unit->Nat->StateT SortSt Sem α} {x y:Nat} {Q:α->SortSt->Prop} {st:SortSt} (h:∀g,wpS (model prog w) A E s (jp () g) Q st):wpS (model prog w) A E s (if c then jp () x else jp () y) Q st:=ar (λ _=>h _) (λ _=>h _)
def xO:Nat->StateT SortSt Sem Unit:=sortPriv% PySem.Builtin.setMinGallop
theorem kR {g:Nat} {Q:Unit->SortSt->Prop} {st:SortSt} (h:∀st',SameG st st'->Q () st'):wpS (model prog w) A E s (xO g) Q st:=wpS_modify (h _ ⟨rfl,rfl,rfl,rfl⟩)
theorem SameG.trans {st st' st'':SortSt} (a:SameG st st') (b:SameG st' st''):SameG st st'':=⟨b.1.trans a.1,b.2.1.trans a.2.1,b.2.2.1.trans a.2.2.1,b.2.2.2.trans a.2.2.2⟩
theorem kS (hO:cr prog w A s κ0 κ) {st:SortSt} {a b:Array Keyed} {Q:Array Keyed->SortSt->Prop} (hk:kindOf st=κ0) (ha:KdA κ a) (hb:KdA κ b) (la:1<=a.size) (lb:1<=b.size)
  (h:∀r st',r.Perm (a ++ b)->SameG st st'->Q r st'):wpS (model prog w) A E s (tj a b) Q st:=by
 refine A3 (wpS_lift (wpAny_rule ⟨rfl,?_⟩));refine A3 (bh (by omega) λ p hp=>?_);have m0:MLo a b #[p] 0 1:=by
  have:MLo a b #[] 0 0:=by unfold MLo; simp
  exact this.pb hp
 dsimp -zeta only
 extract_lets
 refine ar (λ c1=>A4 (h _ _ m0.done .rfl')) (λ c1=>?_);refine ar (λ c2=>A4 (h _ _ m0.last .rfl')) (λ c2=>?_);simp only [beq_iff_eq] at c1 c2;refine A3 (wpS_get ?_);refine A3 (wpS_mono (wpS_forRange (I:=λ x c st2=>SameG st st2/\c.1=none/\MLo a b c.2.1 c.2.2.1 c.2.2.2.1/\c.2.2.1 + 1 < a.size/\c.2.2.2.1 < b.size/\x + 1<=c.2.2.1 + c.2.2.2.1)
  (Q:=λ c st2=>SameG st st2/\∃r,c.1=some r/\r.Perm (a ++ b)) ?step ?fin ⟨.rfl',rfl,m0,by dsimp only; omega,by dsimp only; omega,by dsimp only; omega⟩) ?post)
 case fin =>
  rintro ⟨r,out,ia,ib,mg⟩ st2 ⟨hs,h1,hm,b1,b2,b3⟩;dsimp only at b1 b2 b3;exact absurd b3 (by omega)
 case post =>
  rintro ⟨r,out,ia,ib,mg⟩ st2 ⟨hs,r',h1,hr⟩;dsimp -zeta only at h1 ⊢;subst h1;exact A4 (h _ _ hr hs)
 case step =>
  clear c1 c2 m0 la lb;rintro x ⟨r,out,ia,ib,mg⟩ st2 _ hx ⟨hs,h1,hm,b1,b2,b3⟩;dsimp -zeta only at h1 hm b1 b2 b3 ⊢;refine A3 (wpS_mono (wpS_forRange (I:=λ y c st3=>st3=st2/\c.1=none/\MLo a b c.2.1 c.2.2.1 c.2.2.2.1/\c.2.2.1 + 1 < a.size/\c.2.2.2.1 < b.size/\x + 1 + min y 1<=c.2.2.1 + c.2.2.2.1)
   (Q:=λ c st3=>SameG st st3/\((∃r,c.1=some r/\r.Perm (a ++ b))\/(c.1=none/\MLo a b c.2.1 c.2.2.1 c.2.2.2.1/\c.2.2.1 + 1 < a.size/\c.2.2.2.1 < b.size/\x + 2<=c.2.2.1 + c.2.2.2.1))) ?s1 ?f1 ⟨rfl,rfl,hm,b1,b2,by dsimp only; omega⟩) ?p1)
  case f1 =>
   rintro ⟨r,out,ia,ib,ac,bc⟩ st3 ⟨rfl,g1,g2,g3,g4,g5⟩;dsimp only at g1 g2 g3 g4 g5;exact ⟨hs,.inr ⟨g1,g2,g3,g4,by dsimp only; omega⟩⟩
  case s1 =>
   clear hm b1 b2 b3 hx;rintro y ⟨r,out,ia,ib,ac,bc⟩ st3 _ hy ⟨rfl,g1,hm,b1,b2,b3⟩;have sg:=hs;dsimp only at g1 hm b1 b2 b3 ⊢;refine A3 (bh (by omega) λ p1 hp1=>?_);refine A3 (bh (by omega) λ p2 hp2=>?_);refine A3 (fQ hO (sg.1.trans hk) (hb _ _ hp1) (ha _ _ hp2) λ bw=>?_);dsimp only;refine ar (λ c5=>?_) (λ c5=>?_)
   ·refine A3 (bh (by omega) λ q hq=>?_);refine ar (λ c2=>?_) (λ c2=>?_)
    ·simp only [beq_iff_eq] at c2;exact A4 ⟨sg,.inl ⟨_,rfl,(hm.pb hq).done⟩⟩
    ·simp only [beq_iff_eq] at c2;refine ar (λ c1=>?_) (λ c1=>?_)
     ·exact A4 ⟨sg,.inr ⟨rfl,hm.pb hq,by dsimp only; omega,by dsimp only; omega,by dsimp only; omega⟩⟩
     ·exact A4 ⟨rfl,rfl,hm.pb hq,by dsimp only; omega,by dsimp only; omega,by dsimp only; omega⟩
   ·refine A3 (bh (by omega) λ q hq=>?_);refine ar (λ c4=>?_) (λ c4=>?_)
    ·simp only [beq_iff_eq] at c4;exact A4 ⟨sg,.inl ⟨_,rfl,(hm.pa hq).last⟩⟩
    ·simp only [beq_iff_eq] at c4;refine ar (λ c3=>?_) (λ c3=>?_)
     ·exact A4 ⟨sg,.inr ⟨rfl,hm.pa hq,by dsimp only; omega,by dsimp only; omega,by dsimp only; omega⟩⟩
     ·exact A4 ⟨rfl,rfl,hm.pa hq,by dsimp only; omega,by dsimp only; omega,by dsimp only; omega⟩
  case p1 =>
   clear hm b1 b2 b3 hx;rintro ⟨r,out,ia,ib,ac,bc⟩ st3 ⟨hs,(⟨r',h1,hr⟩ | ⟨h1,hm,b1,b2,b3⟩)⟩
   ·dsimp -zeta only at h1 ⊢;subst h1;exact A4 ⟨hs,r',rfl,hr⟩
   ·dsimp -zeta only at h1 hm b1 b2 b3 ⊢;subst h1;refine A3 (wpS_lift (wpAny_rule ⟨rfl,?_⟩));refine A3 (wpS_mono (wpS_forRange (I:=λ y c st3=>SameG st st3/\c.1=none/\MLo a b c.2.1 c.2.2.1 c.2.2.2.1/\c.2.2.1 + 1 < a.size/\c.2.2.2.1 < b.size/\x + 2<=c.2.2.1 + c.2.2.2.1)
     (Q:=λ c st3=>SameG st st3/\((∃r,c.1=some r/\r.Perm (a ++ b))\/(c.1=none/\MLo a b c.2.1 c.2.2.1 c.2.2.2.1/\c.2.2.1 + 1 < a.size/\c.2.2.2.1 < b.size/\x + 2<=c.2.2.1 + c.2.2.2.1))) ?s2 ?f2 ⟨hs,rfl,hm,b1,b2,b3⟩) ?p2)
    case f2=>exact λ c st3 z=>⟨z.1,.inr z.2⟩
    case p2 =>
     clear hm b1 b2 b3;rintro ⟨r,out,ia,ib,mg,ac,bc⟩ st3 ⟨hs,(⟨r',h1,hr⟩ | ⟨h1,hm,b1,b2,b3⟩)⟩
     ·dsimp -zeta only at h1 ⊢;subst h1;exact A4 ⟨hs,r',rfl,hr⟩
     ·dsimp -zeta only at h1 hm b1 b2 b3 ⊢;subst h1;exact A3 (wpS_modify (A4 ⟨hs,rfl,hm,b1,b2,by dsimp only; omega⟩))
    case s2 =>
     clear hm b1 b2 b3;rintro y ⟨r,out,ia,ib,mg,ac,bc⟩ st2 _ hy ⟨hs,g1,hm,b1,b2,b3⟩;dsimp only at g1 hm b1 b2 b3;refine oR λ Qx hQ=>?_
     extract_lets
     refine oS λ mg=>?_;dsimp -zeta +zetaDelta only;refine A3 (kR λ st3 sg3=>?_);have sg:=hs.trans sg3;refine A3 (bh (by omega) λ p1 hp1=>?_);refine A3 (cj hO (sg.1.trans hk) (by omega) (by omega) ha (hb _ _ hp1) λ k1 hk1=>?_);dsimp -zeta only
     extract_lets _ jp1
     have hj1:∀o i,MLo a b o i ib->i + 1 < a.size->x + 2<=i + ib->wpS (model prog w) A E s (jp1 () o i) Qx st3:=by
      clear hm b1 b3 g1 hy;intro out ia m1 b1 b3;dsimp -zeta only [jp1];refine A3 (bh (by omega) λ q hq=>?_)
      try extract_lets
      refine ar (λ c5=>?_) (λ c5=>?_)
      ·simp only [beq_iff_eq] at c5;exact A4 (hQ _ _ ⟨sg,.inl ⟨_,rfl,(m1.pb hq).done⟩⟩)
      ·simp only [beq_iff_eq] at c5;refine A3 (bh (by omega) λ q2 hq2=>?_);refine A3 (cj hO (sg.1.trans hk) (by omega) (by omega) hb (ha _ _ hq2) λ k2 hk2=>?_);dsimp -zeta only
       extract_lets _ jp2
       have hj2:∀o i,MLo a b o ia i->i < b.size->x + 2<=ia + i->wpS (model prog w) A E s (jp2 () o i) Qx st3:=by
        intro o i m2 h1 h2;dsimp -zeta only [jp2];refine A3 (bh (by omega) λ q3 hq3=>?_);dsimp only;refine ar (λ c2=>?_) (λ c2=>?_)
        ·simp only [beq_iff_eq] at c2;exact A4 (hQ _ _ ⟨sg,.inl ⟨_,rfl,(m2.pa hq3).last⟩⟩)
        ·simp only [beq_iff_eq] at c2;refine ar (λ c1=>?_) (λ c1=>?_)
         ·exact A4 (hQ _ _ ⟨sg,.inr ⟨rfl,m2.pa hq3,by dsimp only; omega,by dsimp only; omega,by dsimp only; omega⟩⟩)
         ·exact A4 (hQ _ _ ⟨sg,rfl,m2.pa hq3,by dsimp only; omega,by dsimp only; omega,by dsimp only; omega⟩)
       refine ar (λ c4=>?_) (λ c4=>?_)
       ·try extract_lets
        refine ar (λ c3=>?_) (λ c3=>?_)
        ·simp only [beq_iff_eq] at c3;exact A4 (hQ _ _ ⟨sg,.inl ⟨_,rfl,((m1.pb hq).cb k2).done⟩⟩)
        ·simp only [beq_iff_eq] at c3;exact hj2 _ _ ((m1.pb hq).cb k2) (by omega) (by omega)
       ·exact hj2 _ _ (m1.pb hq) (by omega) (by omega)
     refine ar (λ c8=>?_) (λ c8=>?_)
     ·try extract_lets
      refine ar (λ c7=>?_) (λ c7=>?_)
      ·simp only [beq_iff_eq] at c7;exact A4 (hQ _ _ ⟨sg,.inl ⟨_,rfl,(hm.ca k1).last⟩⟩)
      ·simp only [beq_iff_eq] at c7;refine ar (λ c6=>?_) (λ c6=>?_)
       ·simp only [beq_iff_eq] at c6;exact A4 (hQ _ _ ⟨sg,.inl ⟨_,rfl,(hm.ca k1).done⟩⟩)
       ·simp only [beq_iff_eq] at c6;exact hj1 _ _ (hm.ca k1) (by omega) (by omega)
     ·exact hj1 _ _ hm (by omega) (by omega)
theorem oT {a:Array Keyed} {i:Nat} {p:Keyed} (e:a[i]? = some p):a.toList.take (i + 1)=a.toList.take i ++ [p]:=by rw [<- Array.getElem?_toList] at e;obtain ⟨h,rfl⟩:=A6.mp e;rw [List.take_succ,List.getElem?_eq_getElem h]; rfl
theorem kT (a:Array Keyed) (i:Nat):(a.extract 0 i).toList=a.toList.take i:=by rw [Array.toList_extract,List.extract_eq_take_drop]; simp
theorem fR (a:Array Keyed) {i n:Nat} (h:i<=n):a.toList.take i ++ (a.extract i n).toList=a.toList.take n:=by
 obtain ⟨k,rfl⟩:∃k,n=i + k:=⟨n - i,by omega⟩
 rw [Array.toList_extract,List.extract_eq_take_drop,show i + k - i=k by omega];exact List.take_add.symm
def MHi (a b out:Array Keyed) (na nb:Nat):Prop:=(a.toList.take na ++ b.toList.take nb ++ out.toList.reverse).Perm (a.toList ++ b.toList)
theorem MHi.done {a b out:Array Keyed} {na nb:Nat} (h:MHi a b out na nb):(a.extract 0 na ++ b.extract 0 nb ++ out.reverse).Perm (a ++ b):=by rw [Array.perm_iff_toList_perm];simp only [Array.toList_append,kT,Array.toList_reverse];exact h
theorem MHi.first {a b out:Array Keyed} {na nb:Nat} (h:MHi a b out na nb):(b.extract 0 nb ++ a.extract 0 na ++ out.reverse).Perm (a ++ b):=by rw [Array.perm_iff_toList_perm];simp only [Array.toList_append,kT,Array.toList_reverse];exact E2 (List.Perm.append_right _ List.perm_append_comm) h
theorem MHi.cb {a b out:Array Keyed} {na nb i:Nat} (h:MHi a b out na nb) (hi:i<=nb):MHi a b (out ++ (b.extract i nb).reverse) na i:=by unfold MHi at h ⊢;rw [<- fR b hi] at h;rw [Array.toList_append,Array.toList_reverse,List.reverse_append,List.reverse_reverse];simpa only [List.append_assoc] using h
theorem MHi.ca {a b out:Array Keyed} {na nb i:Nat} (h:MHi a b out na nb) (hi:i<=na):MHi a b (out ++ (a.extract i na).reverse) i nb:=by unfold MHi at h ⊢;rw [<- fR a hi] at h;refine E2 ?_ h;rw [Array.toList_append,Array.toList_reverse,List.reverse_append,List.reverse_reverse];simp only [List.append_assoc];refine List.Perm.append_left _ ?_;rw [<- List.append_assoc,<- List.append_assoc];exact List.Perm.append_right _ List.perm_append_comm
theorem MHi.pb {a b out:Array Keyed} {na nb:Nat} {p:Keyed} (h:MHi a b out na nb) (h1:1<=nb) (e:b[nb - 1]? = some p):MHi a b (out.push p) na (nb - 1):=by unfold MHi at h ⊢;rw [<- show nb - 1 + 1=nb by omega,oT e] at h;rw [Array.toList_push,List.reverse_append];simpa only [List.append_assoc,List.reverse_cons,List.reverse_nil,List.nil_append] using h
theorem MHi.pa {a b out:Array Keyed} {na nb:Nat} {p:Keyed} (h:MHi a b out na nb) (h1:1<=na) (e:a[na - 1]? = some p):MHi a b (out.push p) (na - 1) nb:=by unfold MHi at h ⊢;rw [<- show na - 1 + 1=na by omega,oT e] at h;refine E2 ?_ h;rw [Array.toList_push,List.reverse_append];simp only [List.append_assoc,List.reverse_cons,List.reverse_nil,List.nil_append];refine List.Perm.append_left _ ?_;rw [<- List.append_assoc,<- List.append_assoc];exact List.Perm.append_right _ List.perm_append_comm
theorem kU (hO:cr prog w A s κ0 κ) {st:SortSt} {a b:Array Keyed} {Q:Array Keyed->SortSt->Prop} (hk:kindOf st=κ0) (ha:KdA κ a) (hb:KdA κ b) (la:1<=a.size) (lb:1<=b.size)
  (h:∀r st',r.Perm (a ++ b)->SameG st st'->Q r st'):wpS (model prog w) A E s (tm a b) Q st:=by
 refine A3 (wpS_lift (wpAny_rule ⟨rfl,?_⟩));refine A3 (bh (by omega) λ p hp=>?_);have m0:MHi a b #[p] (a.size - 1) b.size:=by
  have:MHi a b #[] a.size b.size:=by unfold MHi; rw [List.take_of_length_le (by simp),List.take_of_length_le (by simp)]; simp
  exact this.pa la hp
 dsimp -zeta only
 extract_lets
 refine ar (λ c1=>A4 (h _ _ m0.done .rfl')) (λ c1=>?_);refine ar (λ c2=>A4 (h _ _ m0.first .rfl')) (λ c2=>?_);simp only [beq_iff_eq] at c1 c2;refine A3 (wpS_get ?_);refine A3 (wpS_mono (wpS_forRange (I:=λ x c st2=>SameG st st2/\c.1=none/\MHi a b c.2.2.2.1 c.2.1 c.2.2.1/\1<=c.2.1/\c.2.1 < a.size/\2<=c.2.2.1/\c.2.2.1<=b.size/\x + 1 + c.2.1 + c.2.2.1<=a.size + b.size)
  (Q:=λ c st2=>SameG st st2/\∃r,c.1=some r/\r.Perm (a ++ b)) ?step ?fin ⟨.rfl',rfl,m0,by dsimp only; omega,by dsimp only; omega,by dsimp only; omega⟩) ?post)
 case fin =>
  rintro ⟨r,ia,ib,out,mg⟩ st2 ⟨hs,h1,hm,b1,b2,b3⟩;dsimp only at b1 b2 b3;exact absurd b3 (by omega)
 case post =>
  rintro ⟨r,ia,ib,out,mg⟩ st2 ⟨hs,r',h1,hr⟩;dsimp -zeta only at h1 ⊢;subst h1;exact A4 (h _ _ hr hs)
 case step =>
  clear c1 c2 m0 la lb;rintro x ⟨r,ia,ib,out,mg⟩ st2 _ hx ⟨hs,h1,hm,b1,b2,b3⟩;dsimp -zeta only at h1 hm b1 b2 b3 ⊢;refine A3 (wpS_mono (wpS_forRange (I:=λ y c st3=>st3=st2/\c.1=none/\MHi a b c.2.2.2.1 c.2.1 c.2.2.1/\1<=c.2.1/\c.2.1 < a.size/\2<=c.2.2.1/\c.2.2.1<=b.size/\x + 1 + min y 1 + c.2.1 + c.2.2.1<=a.size + b.size)
   (Q:=λ c st3=>SameG st st3/\((∃r,c.1=some r/\r.Perm (a ++ b))\/(c.1=none/\MHi a b c.2.2.2.1 c.2.1 c.2.2.1/\1<=c.2.1/\c.2.1 < a.size/\2<=c.2.2.1/\c.2.2.1<=b.size/\x + 2 + c.2.1 + c.2.2.1<=a.size + b.size))) ?s1 ?f1 ⟨rfl,rfl,hm,b1,b2,by dsimp only; omega⟩) ?p1)
  case f1 =>
   rintro ⟨r,ia,ib,out,ac,bc⟩ st3 ⟨rfl,g1,g2,g3,g4,g5⟩;dsimp only at g1 g2 g3 g4 g5;exact ⟨hs,.inr ⟨g1,g2,g3,g4,by dsimp only; omega⟩⟩
  case s1 =>
   clear hm b1 b2 b3 hx;rintro y ⟨r,ia,ib,out,ac,bc⟩ st3 _ hy ⟨rfl,g1,hm,b1,b2,b3⟩;have sg:=hs;dsimp only at g1 hm b1 b2 b3 ⊢;refine A3 (bh (by omega) λ p1 hp1=>?_);refine A3 (bh (by omega) λ p2 hp2=>?_);refine A3 (fQ hO (sg.1.trans hk) (hb _ _ hp1) (ha _ _ hp2) λ bw=>?_);dsimp only;refine ar (λ c10=>?_) (λ c10=>?_)
   ·refine A3 (bh (by omega) λ q hq=>?_);refine ar (λ c7=>?_) (λ c7=>?_)
    ·simp only [beq_iff_eq] at c7;exact A4 ⟨sg,.inl ⟨_,rfl,(hm.pa (by omega) hq).done⟩⟩
    ·simp only [beq_iff_eq] at c7;refine ar (λ c6=>?_) (λ c6=>?_)
     ·exact A4 ⟨sg,.inr ⟨rfl,(hm.pa (by omega) hq),by dsimp only; omega,by dsimp only; omega,by dsimp only; omega⟩⟩
     ·exact A4 ⟨rfl,rfl,(hm.pa (by omega) hq),by dsimp only; omega,by dsimp only; omega,by dsimp only; omega⟩
   ·refine A3 (bh (by omega) λ q hq=>?_);refine ar (λ c9=>?_) (λ c9=>?_)
    ·simp only [beq_iff_eq] at c9;exact A4 ⟨sg,.inl ⟨_,rfl,(hm.pb (by omega) hq).first⟩⟩
    ·simp only [beq_iff_eq] at c9;refine ar (λ c8=>?_) (λ c8=>?_)
     ·exact A4 ⟨sg,.inr ⟨rfl,(hm.pb (by omega) hq),by dsimp only; omega,by dsimp only; omega,by dsimp only; omega⟩⟩
     ·exact A4 ⟨rfl,rfl,(hm.pb (by omega) hq),by dsimp only; omega,by dsimp only; omega,by dsimp only; omega⟩
  case p1 =>
   clear hm b1 b2 b3 hx;rintro ⟨r,ia,ib,out,ac,bc⟩ st3 ⟨hs,(⟨r',h1,hr⟩ | ⟨h1,hm,b1,b2,b3⟩)⟩
   ·dsimp -zeta only at h1 ⊢;subst h1;exact A4 ⟨hs,r',rfl,hr⟩
   ·dsimp -zeta only at h1 hm b1 b2 b3 ⊢;subst h1;refine A3 (wpS_lift (wpAny_rule ⟨rfl,?_⟩));refine A3 (wpS_mono (wpS_forRange (I:=λ y c st3=>SameG st st3/\c.1=none/\MHi a b c.2.2.2.1 c.2.1 c.2.2.1/\1<=c.2.1/\c.2.1 < a.size/\2<=c.2.2.1/\c.2.2.1<=b.size/\x + 2 + c.2.1 + c.2.2.1<=a.size + b.size)
     (Q:=λ c st3=>SameG st st3/\((∃r,c.1=some r/\r.Perm (a ++ b))\/(c.1=none/\MHi a b c.2.2.2.1 c.2.1 c.2.2.1/\1<=c.2.1/\c.2.1 < a.size/\2<=c.2.2.1/\c.2.2.1<=b.size/\x + 2 + c.2.1 + c.2.2.1<=a.size + b.size))) ?s2 ?f2 ⟨hs,rfl,hm,b1,b2,b3⟩) ?p2)
    case f2=>exact λ c st3 z=>⟨z.1,.inr z.2⟩
    case p2 =>
     clear hm b1 b2 b3;rintro ⟨r,ia,ib,out,mg,ac,bc⟩ st3 ⟨hs,(⟨r',h1,hr⟩ | ⟨h1,hm,b1,b2,b3⟩)⟩
     ·dsimp -zeta only at h1 ⊢;subst h1;exact A4 ⟨hs,r',rfl,hr⟩
     ·dsimp -zeta only at h1 hm b1 b2 b3 ⊢;subst h1;exact A3 (wpS_modify (A4 ⟨hs,rfl,hm,b1,b2,by dsimp only; omega⟩))
    case s2 =>
     clear hm b1 b2 b3;rintro y ⟨r,ia,ib,out,mg,ac,bc⟩ st2 _ hy ⟨hs,g1,hm,b1,b2,b3⟩;dsimp only at g1 hm b1 b2 b3;refine oR λ Qx hQ=>?_
     extract_lets
     refine oS λ mg=>?_;dsimp -zeta +zetaDelta only;refine A3 (kR λ st3 sg3=>?_);have sg:=hs.trans sg3;refine A3 (bh (by omega) λ p1 hp1=>?_);refine A3 (cj hO (sg.1.trans hk) (by omega) (by omega) ha (hb _ _ hp1) λ k1 hk1=>?_);dsimp -zeta only
     extract_lets _ _ jp1
     have bB:2<=ib/\ib<=b.size:=⟨b3.1,b3.2.1⟩
     have hj1:∀i o,MHi a b o i ib->1<=i->i < a.size->x + 2 + i + ib<=a.size + b.size->wpS (model prog w) A E s (jp1 () i o) Qx st3:=by
      clear hm b1 b3 g1 hy;intro ia out m1 b1 b1' b3;dsimp -zeta only [jp1]
      try extract_lets
      refine A3 (bh (by omega) λ q hq=>?_)
      try extract_lets
      refine ar (λ c6=>?_) (λ c6=>?_)
      ·simp only [beq_iff_eq] at c6;exact A4 (hQ _ _ ⟨sg,.inl ⟨_,rfl,(m1.pb (by omega) hq).first⟩⟩)
      ·simp only [beq_iff_eq] at c6;refine A3 (bh (by omega) λ q2 hq2=>?_);refine A3 (cj hO (sg.1.trans hk) (by omega) (by omega) hb (ha _ _ hq2) λ k2 hk2=>?_);dsimp -zeta only
       extract_lets _ _ jp2
       have hj2:∀i o,MHi a b o ia i->2<=i->i<=b.size->x + 2 + ia + i<=a.size + b.size->wpS (model prog w) A E s (jp2 () i o) Qx st3:=by
        intro i o m2 h1 h2 h3;dsimp -zeta only [jp2]
        try extract_lets
        refine A3 (bh (by omega) λ q3 hq3=>?_);dsimp only;refine ar (λ c2=>?_) (λ c2=>?_)
        ·simp only [beq_iff_eq] at c2;exact A4 (hQ _ _ ⟨sg,.inl ⟨_,rfl,(m2.pa (by omega) hq3).done⟩⟩)
        ·simp only [beq_iff_eq] at c2;refine ar (λ c1=>?_) (λ c1=>?_)
         ·exact A4 (hQ _ _ ⟨sg,.inr ⟨rfl,(m2.pa (by omega) hq3),by dsimp only; omega,by dsimp only; omega,by dsimp only; omega⟩⟩)
         ·exact A4 (hQ _ _ ⟨sg,rfl,(m2.pa (by omega) hq3),by dsimp only; omega,by dsimp only; omega,by dsimp only; omega⟩)
       refine ar (λ c5=>?_) (λ c5=>?_)
       ·try extract_lets
        refine ar (λ c4=>?_) (λ c4=>?_)
        ·simp only [beq_iff_eq] at c4;exact A4 (hQ _ _ ⟨sg,.inl ⟨_,rfl,((m1.pb (by omega) hq).cb hk2).first⟩⟩)
        ·simp only [beq_iff_eq] at c4;refine ar (λ c3=>?_) (λ c3=>?_)
         ·simp only [beq_iff_eq] at c3;exact A4 (hQ _ _ ⟨sg,.inl ⟨_,rfl,((m1.pb (by omega) hq).cb hk2).done⟩⟩)
         ·simp only [beq_iff_eq] at c3;exact hj2 _ _ ((m1.pb (by omega) hq).cb hk2) (by omega) (by omega) (by omega)
       ·exact hj2 _ _ (m1.pb (by omega) hq) (by omega) (by omega) (by omega)
     refine ar (λ c8=>?_) (λ c8=>?_)
     ·try extract_lets
      refine ar (λ c7=>?_) (λ c7=>?_)
      ·simp only [beq_iff_eq] at c7;exact A4 (hQ _ _ ⟨sg,.inl ⟨_,rfl,(hm.ca hk1).done⟩⟩)
      ·simp only [beq_iff_eq] at c7;exact hj1 _ _ (hm.ca hk1) (by omega) (by omega) (by omega)
     ·exact hj1 _ _ hm (by omega) (by omega) (by omega)
end
end PyProof.Rows
namespace PyProof.Rows
set_option autoImplicit false
open PySem
def Tile:List (Nat×Nat×Nat)->Nat->Nat->Prop
 | [],lo,hi=>lo=hi
 | x :: l,lo,hi=>x.1=lo/\1<=x.2.1/\Tile l (lo + x.2.1) hi
theorem Tile.le:∀ {l:List (Nat×Nat×Nat)} {lo hi:Nat},Tile l lo hi->lo<=hi
 | [],_,_,h=>Nat.le_of_eq h
 | x :: l,lo,hi,h=>C5 (Nat.le_add_right _ _) (Tile.le h.2.2)
theorem Tile.two:∀ {l:List (Nat×Nat×Nat)} {i lo hi:Nat} {x y:Nat×Nat×Nat},Tile l lo hi->l[i]? = some x->l[i + 1]? = some y->∀q:Nat,
  y.1=x.1 + x.2.1/\1<=x.2.1/\1<=y.2.1/\y.1 + y.2.1<=hi/\Tile ((l.set i (x.1,x.2.1 + y.2.1,q)).eraseIdx (i + 1)) lo hi
 | x' :: y' :: l,0,lo,hi,x,y,h,e1,e2,q=>by cases e1; cases e2;obtain ⟨h1,h2,h3,h4,h5⟩:=h;refine ⟨by omega,h2,h4,by have:=h5.le; omega,h1,by show 1<=x'.2.1 + y'.2.1; omega,?_⟩;show Tile l (lo + (x'.2.1 + y'.2.1)) hi;rw [<- Nat.add_assoc]; exact h5
 | [x'],0,_,_,_,_,_,_,e2,_=>by cases e2
 | [],_,_,_,_,_,_,e1,_,_=>by simp at e1
 | z :: l,i + 1,lo,hi,x,y,h,e1,e2,q=>by obtain ⟨h1,h2,h3⟩:=h;obtain ⟨a1,a2,a3,a4,a5⟩:=Tile.two h3 (i:=i) (x:=x) (y:=y) (by simpa using e1) (by simpa using e2) q;exact ⟨a1,a2,a3,a4,h1,h2,a5⟩
theorem Tile.push:∀ {l:List (Nat×Nat×Nat)} {lo hi n q:Nat},Tile l lo hi->1<=n->Tile (l ++ [(hi,n,q)]) lo (hi + n)
 | [],_,_,_,_,h,hn=>by cases h; exact ⟨Y,hn,Y⟩
 | x :: l,_,_,_,_,h,hn=>⟨h.1,h.2.1,Tile.push h.2.2 hn⟩
theorem Tile.upd {f:Nat×Nat×Nat->Nat×Nat×Nat} (hf:∀x,(f x).1=x.1/\(f x).2.1=x.2.1):∀ {l:List (Nat×Nat×Nat)} {lo hi:Nat} (i:Nat),Tile l lo hi->Tile (l.modify i f) lo hi
 | [],_,_,i,h=>by simpa using h
 | x :: l,_,_,0,h=>by show Tile (f x :: l) _ _;exact ⟨(hf x).1.trans h.1,by rw [(hf x).2]; exact h.2.1,by rw [(hf x).2]; exact h.2.2⟩
 | x :: l,_,_,i + 1,h=>by show Tile (x :: l.modify i f) _ _;exact ⟨h.1,h.2.1,Tile.upd hf i h.2.2⟩
theorem iX (sa:Nat):∀ (m:List Keyed) (j:Nat) (a:Array Keyed),sa + j + m.length<=a.size ->
  ((m.zipIdx j).foldl (λ a (x:Keyed×Nat)=>match x with | (p,j)=>a.setIfInBounds (sa + j) p) a).toList=a.toList.take (sa + j) ++ m ++ a.toList.drop (sa + j + m.length)
 | [],j,a,h=>by simp
 | p :: m,j,a,h=>by
  rw [List.zipIdx_cons,List.foldl_cons];have hl:(p :: m).length=m.length + 1:=rfl;rw [hl] at h ⊢;rw [iX sa m (j + 1) _ (by rw [Array.size_setIfInBounds]; omega)];rw [Array.toList_setIfInBounds];have hj:sa + j < a.toList.length:=by simp; omega
  rw [show sa + (j + 1)=sa + j + 1 by omega,List.take_succ,List.getElem?_set_self hj,List.take_set_of_le (Nat.le_refl _),List.drop_set_of_lt (by omega),show sa + j + 1 + m.length=sa + j + (m.length + 1) by omega];simp
theorem vx {M:Model} {A:Around} {E:KG->KB->Prop} {s:KB} {σ:Type} {st st2:σ} {Q:PUnit->σ->Prop} (h:Q ⟨⟩ st2):wpS M A E s (set st2:StateT σ Sem PUnit) Q st:=by unfold wpS; rw [StateT.run_set]; exact wpAny_pure ⟨rfl,h⟩
structure SP (κ0:SortKind) (a₀:Array Keyed) (st:SortSt):Prop where
 perm:(arrOf st).Perm a₀
 kind:kindOf st=κ0
 failed:failedOf st=none
theorem SP.size {κ0:SortKind} {a₀:Array Keyed} {st:SortSt} (h:SP κ0 a₀ st):(arrOf st).size=a₀.size:=h.perm.size_eq
theorem SP.kd {κ0:SortKind} {κ:KeyKind} {a₀:Array Keyed} {st:SortSt} (h:SP κ0 a₀ st) (h0:KeysOf κ a₀):KdA κ (arrOf st):=λ i p e=>by
 have:p∈(arrOf st).toList:=by rw [<- Array.getElem?_toList] at e; exact B5 e
 exact h0 _ ((Array.perm_iff_toList_perm.mp h.perm).mem_iff.mp this)
theorem KdA.ext {κ:KeyKind} {a:Array Keyed} (h:KdA κ a) (i j:Nat):KdA κ (a.extract i j):=λ k p e=>by
 rw [Array.getElem?_extract] at e
 split at e
 ·exact h _ _ e
 ·cases e
section
variable {prog:KC} {w:KF} {A:Around} {E:KG->KB->Prop} {s:KB} {κ:KeyKind} {κ0:SortKind} {a₀:Array Keyed}
theorem ej (hO:cr prog w A s κ0 κ) (h0:KeysOf κ a₀) {st:SortSt} {i hi:Nat} {Q:Bool->SortSt->Prop} (hP:SP κ0 a₀ st) (hi2:i + 1 < (pendingOf st).size) (T:Tile (pendingOf st).toList 0 hi) (hh:hi<=a₀.size)
  (h:∀st',SP κ0 a₀ st'->Tile (pendingOf st').toList 0 hi->Q true st'):wpS (model prog w) A E s (mergeAt' i) Q st:=by
 refine A3 (wpS_get ?_);obtain ⟨⟨sa,na,pw⟩,e1⟩:∃x,(pendingOf st)[i]? = some x:=⟨_,getElem?_pos (pendingOf st) i (by omega)⟩
 obtain ⟨⟨sb,nb,pw2⟩,e2⟩:∃x,(pendingOf st)[i + 1]? = some x:=⟨_,getElem?_pos (pendingOf st) (i + 1) hi2⟩
 obtain ⟨t1,t2,t3,t4,t5⟩:=T.two (by rw [Array.getElem?_toList]; exact e1) (by rw [Array.getElem?_toList]; exact e2) pw;dsimp only at t1 t2 t3 t4 t5;have hz:=hP.size;have kd:=hP.kd h0;rw [e1,e2];dsimp only;refine A3 (vx (st2:=SortSt.mk' (kindOf st) (arrOf st) (((pendingOf st).setIfInBounds i (sa,na + nb,pw)).eraseIdxIfInBounds (i + 1)) (gallopOf st) (failedOf st)) ?_);have T2:Tile (((pendingOf st).setIfInBounds i (sa,na + nb,pw)).eraseIdxIfInBounds (i + 1)).toList 0 hi:=by simpa using t5
 generalize hst2:SortSt.mk' (kindOf st) (arrOf st) (((pendingOf st).setIfInBounds i (sa,na + nb,pw)).eraseIdxIfInBounds (i + 1)) (gallopOf st) (failedOf st)=st2;have P2:SP κ0 a₀ st2:=by subst hst2; exact ⟨hP.perm,hP.kind,hP.failed⟩
 have A2:arrOf st2=arrOf st:=by subst hst2; rfl
 have T3:Tile (pendingOf st2).toList 0 hi:=by subst hst2; exact T2
 refine A3 (bh (arr:=arrOf st) (i:=sb) (by omega) λ p hp=>?_);refine A3 (cj (arr:=arrOf st) (base:=sa) (n:=na) hO P2.kind (by omega) (by omega) kd (kd _ _ hp) λ k hk=>?_);dsimp only;refine ar (λ c1=>A4 (h _ P2 T3)) (λ c1=>?_);simp only [beq_iff_eq] at c1;refine A3 (bh (arr:=arrOf st) (i:=sa + k + (na - k) - 1) (by omega) λ q hq=>?_);refine A3 (cj (arr:=arrOf st) (base:=sb) (n:=nb) hO P2.kind (by omega) (by omega) kd (kd _ _ hq) λ k2 hk2=>?_);dsimp only;refine ar (λ c2=>A4 (h _ P2 T3)) (λ c2=>?_);simp only [beq_iff_eq] at c2;have fin:∀ (r:Array Keyed) (st3:SortSt),r.Perm ((arrOf st).extract (sa + k) sb ++ (arrOf st).extract sb (sb + k2))->SameG st2 st3 ->
   wpS (model prog w) A E s ((modify λ (s:SortSt)=>setArr s (r.toList.zipIdx.foldl (λ a (x:Keyed×Nat)=>match x with | (p,j)=>a.setIfInBounds (sa + k + j) p) (arrOf s))) >>= λ _=>(get:StateT SortSt Sem SortSt) >>= λ s=>pure (failedOf s).isNone) Q st3:=by
  intro r st3 hr hg;refine A3 (wpS_modify (A3 (wpS_get (A4 ?_))));have hrl:=Array.perm_iff_toList_perm.mp hr;have hlen:r.toList.length=sb + k2 - (sa + k):=by rw [hrl.length_eq]; simp; omega
  have hw:=iX (sa + k) r.toList 0 (arrOf st3) (by rw [hg.2.1,A2,hlen]; omega);have e:failedOf st3=none:=hg.2.2.2.trans P2.failed;show Q (failedOf st3).isNone _;rw [e];refine h _ ⟨?_,hg.1.trans P2.kind,hg.2.2.2.trans P2.failed⟩ (by show Tile (pendingOf st3).toList 0 hi; rw [hg.2.2.1]; exact T3);refine Array.Perm.trans ?_ hP.perm;rw [Array.perm_iff_toList_perm];show List.Perm (r.toList.zipIdx.foldl _ (arrOf st3)).toList _;rw [hw,hg.2.1,A2,hlen,Nat.add_zero,show sa + k + (sb + k2 - (sa + k))=sb + k2 by omega];have e3:(arrOf st).toList=(arrOf st).toList.take (sa + k) ++ ((arrOf st).extract (sa + k) sb ++ (arrOf st).extract sb (sb + k2)).toList ++ (arrOf st).toList.drop (sb + k2):=by rw [Array.toList_append,<- List.append_assoc,fR _ (by omega),fR _ (by omega),List.take_append_drop]
  conv=>rhs; rw [e3]
  exact List.Perm.append_right _ (List.Perm.append_left _ hrl)
 have sx:((arrOf st).extract (sa + k) sb).size=sb - (sa + k):=by rw [Array.size_extract]; omega
 have sy:((arrOf st).extract sb (sb + k2)).size=k2:=by rw [Array.size_extract]; omega
 refine ar (λ c3=>?_) (λ c3=>?_)
 ·exact A3 (kS hO P2.kind (kd.ext _ _) (kd.ext _ _) (by rw [sx]; omega) (by rw [sy]; omega) fin)
 ·exact A3 (kU hO P2.kind (kd.ext _ _) (kd.ext _ _) (by rw [sx]; omega) (by rw [sy]; omega) fin)
theorem cf (hO:cr prog w A s κ0 κ) (h0:KeysOf κ a₀) {st:SortSt} {i j:Nat} {Q:Option Bool->SortSt->Prop} (hP:SP κ0 a₀ st) (hi:i < a₀.size) (hj:j < a₀.size) (h:∀b,Q (some b) st) :
  wpS (model prog w) A E s (ltAt' i j) Q st:=by
 have kd:=hP.kd h0;have hz:=hP.size;refine A3 (wpS_get ?_);refine A3 (bh (arr:=arrOf st) (by omega) λ p hp=>?_);refine A3 (bh (arr:=arrOf st) (by omega) λ q hq=>?_);exact fQ hO hP.kind (kd _ _ hp) (kd _ _ hq) h
def SPp (κ0:SortKind) (a₀:Array Keyed) (p:Array (Nat×Nat×Nat)) (st:SortSt):Prop:=SP κ0 a₀ st/\pendingOf st=p
theorem cg {st:SortSt} {p:Array (Nat×Nat×Nat)} {i j:Nat} {Q:Unit->SortSt->Prop} (hP:SPp κ0 a₀ p st) (h:∀st',SPp κ0 a₀ p st'->Q () st'):wpS (model prog w) A E s (reverseSlice' i j) Q st:=by rw [reverseSlice'_eq];exact wpS_modify (h _ ⟨⟨(mirror_perm _ _ _ _).trans hP.1.perm,hP.1.kind,hP.1.failed⟩,hP.2⟩)
theorem qz {st:SortSt} {p:Array (Nat×Nat×Nat)} {i j:Nat} {Q:Unit->SortSt->Prop} (hP:SPp κ0 a₀ p st) (h:∀st',SPp κ0 a₀ p st'->Q () st'):wpS (model prog w) A E s (moveDown' i j) Q st:=by rw [moveDown'_eq];exact wpS_modify (h _ ⟨⟨(bubble_perm _ _ _).trans hP.1.perm,hP.1.kind,hP.1.failed⟩,hP.2⟩)
theorem kW (hO:cr prog w A s κ0 κ) (h0:KeysOf κ a₀) {st:SortSt} {p:Array (Nat×Nat×Nat)} {lo n ok:Nat} {Q:Bool->SortSt->Prop} (hP:SPp κ0 a₀ p st) (hn:lo + n<=a₀.size)
  (h:∀st',SPp κ0 a₀ p st'->Q true st'):wpS (model prog w) A E s (binarySort' lo n ok) Q st:=by
 refine A3 (wpS_mono (wpS_forRange (I:=λ _ c st'=>c.1=none/\SPp κ0 a₀ p st') (Q:=λ c st'=>c.1=none/\SPp κ0 a₀ p st') ?step (λ _ _ z=>z) ⟨rfl,hP⟩) ?post)
 case post =>
  rintro ⟨r,u⟩ st' ⟨h1,hP'⟩;dsimp only at h1 ⊢;subst h1;exact A4 (h _ hP')
 case step =>
  rintro k ⟨r,u⟩ st' _ hk ⟨h1,hP'⟩;dsimp only;refine A3 (wpS_mono (wpS_forRange (I:=λ _ c st2=>c.1=none/\c.2.2<=k/\st2=st') (Q:=λ c st2=>c.1=none/\st2=st') ?_ (λ _ _ z=>⟨z.1,z.2.2⟩) ⟨rfl,B3 _,rfl⟩) ?_)
  ·rintro j ⟨r,l,q⟩ st2 _ _ ⟨g1,g2,rfl⟩;dsimp only at g1 g2 ⊢;refine ar (λ c1=>A4 ⟨rfl,rfl⟩) (λ c1=>?_);refine A3 (cf hO h0 hP'.1 (by omega) (by omega) λ b=>?_);dsimp only;refine ar (λ c2=>A4 ⟨rfl,by dsimp only; omega,rfl⟩) (λ c2=>A4 ⟨rfl,by dsimp only; omega,rfl⟩)
  ·rintro ⟨r,l,q⟩ st2 ⟨g1,rfl⟩;dsimp only at g1 ⊢;subst g1;exact A3 (qz hP' λ st3 hP3=>A4 ⟨rfl,hP3⟩)
theorem mB (hO:cr prog w A s κ0 κ) (h0:KeysOf κ a₀) {st:SortSt} {p:Array (Nat×Nat×Nat)} {lo nrem:Nat} {Q:Option Nat->SortSt->Prop} (hP:SPp κ0 a₀ p st) (hn:lo + nrem<=a₀.size) (h1:1<=nrem)
  (h:∀n st',1<=n->n<=nrem->SPp κ0 a₀ p st'->Q (some n) st'):wpS (model prog w) A E s (countRun' lo nrem) Q st:=by
 refine A3 (wpS_mono (wpS_forRange (I:=λ i c st'=>c.1=none/\1<=c.2/\c.2<=i/\st'=st) (Q:=λ c st'=>c.1=none/\1<=c.2/\c.2<=nrem/\st'=st) ?step (λ c _ z=>⟨z.1,z.2.1,by have:=z.2.2.1; omega,z.2.2.2⟩) ⟨rfl,B3 _,B3 _,rfl⟩) ?post)
 case step =>
  rintro i ⟨r,n⟩ st' _ hi ⟨g1,g2,g3,rfl⟩;dsimp only at g1 g2 g3 ⊢;refine A3 (cf hO h0 hP.1 (by omega) (by omega) λ b=>?_);dsimp only;exact ar (λ c2=>A4 ⟨rfl,g2,by dsimp only; omega,rfl⟩) (λ c2=>A4 ⟨rfl,by dsimp only; omega,by dsimp only; omega,rfl⟩)
 case post =>
  rintro ⟨r,n⟩ st' ⟨g1,g2,g3,rfl⟩;dsimp only at g1 g2 g3 ⊢;subst g1;refine ar (λ c1=>A4 (h _ _ g2 g3 hP)) (λ c1=>?_);simp only [beq_iff_eq] at c1;refine ar (λ c2=>?_) (λ c2=>?_)
  ·refine A3 (cf hO h0 hP.1 (by omega) (by omega) λ b=>?_);dsimp only;refine ar (λ c3=>A4 (h _ _ g2 g3 hP)) (λ c3=>?_);refine A3 (cg hP λ st2 P2=>?_);refine A3 (wpS_lift (wpAny_rule ⟨rfl,?_⟩));refine A3 (wpS_mono (wpS_forRange (I:=λ i c st'=>c.1=none/\1<=c.2.1/\c.2.1<=i/\SPp κ0 a₀ p st') (Q:=λ c st'=>c.1=none/\1<=c.2.1/\c.2.1<=nrem/\SPp κ0 a₀ p st') ?_ (λ c _ z=>⟨z.1,z.2.1,by have:=z.2.2.1; omega,z.2.2.2⟩) ⟨rfl,by dsimp only; omega,B3 _,P2⟩) ?_)
   ·rintro i ⟨r,n2,nq⟩ st3 _ hi ⟨g1,g2,g3,P3⟩;dsimp only at g1 g2 g3 ⊢;refine A3 (cf hO h0 P3.1 (by omega) (by omega) λ b=>?_);dsimp only;refine ar (λ c4=>?_) (λ c4=>?_)
    ·refine ar (λ c5=>?_) (λ c5=>?_)
     ·exact A3 (cg P3 λ st4 P4=>A4 ⟨rfl,by dsimp only; omega,by dsimp only; omega,P4⟩)
     ·exact A4 ⟨rfl,by dsimp only; omega,by dsimp only; omega,P3⟩
    ·refine A3 (cf hO h0 P3.1 (by omega) (by omega) λ b=>?_);dsimp only;exact ar (λ c5=>A4 ⟨rfl,g2,by dsimp only; omega,P3⟩) (λ c5=>A4 ⟨rfl,by dsimp only; omega,by dsimp only; omega,P3⟩)
   ·rintro ⟨r,n2,nq⟩ st3 ⟨g1,g2,g3,P3⟩;dsimp only at g1 g2 g3 ⊢;subst g1;refine ar (λ c6=>?_) (λ c6=>?_)
    ·refine A3 (cg P3 λ st4 P4=>?_);refine A3 (cg P4 λ st5 P5=>?_);refine A3 (wpS_mono (wpS_forRange (I:=λ i c st'=>c.1=none/\1<=c.2/\c.2<=i/\st'=st5) (Q:=λ c st'=>c.1=none/\1<=c.2/\c.2<=nrem/\st'=st5) ?_ (λ c _ z=>⟨z.1,z.2.1,by have:=z.2.2.1; omega,z.2.2.2⟩) ⟨rfl,g2,B3 _,rfl⟩) ?_)
     ·rintro i ⟨r,n3⟩ st6 _ hi ⟨g1,g2,g3,rfl⟩;dsimp only at g1 g2 g3 ⊢;refine A3 (cf hO h0 P5.1 (by omega) (by omega) λ b=>?_);dsimp only;exact ar (λ c2=>A4 ⟨rfl,g2,by dsimp only; omega,rfl⟩) (λ c2=>A4 ⟨rfl,by dsimp only; omega,by dsimp only; omega,rfl⟩)
     ·rintro ⟨r,n3⟩ st6 ⟨g1,g2,g3,rfl⟩;dsimp only at g1 g2 g3 ⊢;subst g1;exact A4 (h _ _ g2 g3 P5)
    ·refine A3 (cg P3 λ st5 P5=>?_);refine A3 (wpS_mono (wpS_forRange (I:=λ i c st'=>c.1=none/\1<=c.2/\c.2<=i/\st'=st5) (Q:=λ c st'=>c.1=none/\1<=c.2/\c.2<=nrem/\st'=st5) ?_ (λ c _ z=>⟨z.1,z.2.1,by have:=z.2.2.1; omega,z.2.2.2⟩) ⟨rfl,g2,B3 _,rfl⟩) ?_)
     ·rintro i ⟨r,n3⟩ st6 _ hi ⟨g1,g2,g3,rfl⟩;dsimp only at g1 g2 g3 ⊢;refine A3 (cf hO h0 P5.1 (by omega) (by omega) λ b=>?_);dsimp only;exact ar (λ c2=>A4 ⟨rfl,g2,by dsimp only; omega,rfl⟩) (λ c2=>A4 ⟨rfl,by dsimp only; omega,by dsimp only; omega,rfl⟩)
     ·rintro ⟨r,n3⟩ st6 ⟨g1,g2,g3,rfl⟩;dsimp only at g1 g2 g3 ⊢;subst g1;exact A4 (h _ _ g2 g3 P5)
  ·have P2:=hP;refine A3 (wpS_lift (wpAny_rule ⟨rfl,?_⟩));refine A3 (wpS_mono (wpS_forRange (I:=λ i c st'=>c.1=none/\1<=c.2.1/\c.2.1<=i/\SPp κ0 a₀ p st') (Q:=λ c st'=>c.1=none/\1<=c.2.1/\c.2.1<=nrem/\SPp κ0 a₀ p st') ?_ (λ c _ z=>⟨z.1,z.2.1,by have:=z.2.2.1; omega,z.2.2.2⟩) ⟨rfl,by dsimp only; omega,B3 _,P2⟩) ?_)
   ·rintro i ⟨r,n2,nq⟩ st3 _ hi ⟨g1,g2,g3,P3⟩;dsimp only at g1 g2 g3 ⊢;refine A3 (cf hO h0 P3.1 (by omega) (by omega) λ b=>?_);dsimp only;refine ar (λ c4=>?_) (λ c4=>?_)
    ·refine ar (λ c5=>?_) (λ c5=>?_)
     ·exact A3 (cg P3 λ st4 P4=>A4 ⟨rfl,by dsimp only; omega,by dsimp only; omega,P4⟩)
     ·exact A4 ⟨rfl,by dsimp only; omega,by dsimp only; omega,P3⟩
    ·refine A3 (cf hO h0 P3.1 (by omega) (by omega) λ b=>?_);dsimp only;exact ar (λ c5=>A4 ⟨rfl,g2,by dsimp only; omega,P3⟩) (λ c5=>A4 ⟨rfl,by dsimp only; omega,by dsimp only; omega,P3⟩)
   ·rintro ⟨r,n2,nq⟩ st3 ⟨g1,g2,g3,P3⟩;dsimp only at g1 g2 g3 ⊢;subst g1;refine ar (λ c6=>?_) (λ c6=>?_)
    ·refine A3 (cg P3 λ st4 P4=>?_);refine A3 (cg P4 λ st5 P5=>?_);refine A3 (wpS_mono (wpS_forRange (I:=λ i c st'=>c.1=none/\1<=c.2/\c.2<=i/\st'=st5) (Q:=λ c st'=>c.1=none/\1<=c.2/\c.2<=nrem/\st'=st5) ?_ (λ c _ z=>⟨z.1,z.2.1,by have:=z.2.2.1; omega,z.2.2.2⟩) ⟨rfl,g2,B3 _,rfl⟩) ?_)
     ·rintro i ⟨r,n3⟩ st6 _ hi ⟨g1,g2,g3,rfl⟩;dsimp only at g1 g2 g3 ⊢;refine A3 (cf hO h0 P5.1 (by omega) (by omega) λ b=>?_);dsimp only;exact ar (λ c2=>A4 ⟨rfl,g2,by dsimp only; omega,rfl⟩) (λ c2=>A4 ⟨rfl,by dsimp only; omega,by dsimp only; omega,rfl⟩)
     ·rintro ⟨r,n3⟩ st6 ⟨g1,g2,g3,rfl⟩;dsimp only at g1 g2 g3 ⊢;subst g1;exact A4 (h _ _ g2 g3 P5)
    ·refine A3 (cg P3 λ st5 P5=>?_);refine A3 (wpS_mono (wpS_forRange (I:=λ i c st'=>c.1=none/\1<=c.2/\c.2<=i/\st'=st5) (Q:=λ c st'=>c.1=none/\1<=c.2/\c.2<=nrem/\st'=st5) ?_ (λ c _ z=>⟨z.1,z.2.1,by have:=z.2.2.1; omega,z.2.2.2⟩) ⟨rfl,g2,B3 _,rfl⟩) ?_)
     ·rintro i ⟨r,n3⟩ st6 _ hi ⟨g1,g2,g3,rfl⟩;dsimp only at g1 g2 g3 ⊢;refine A3 (cf hO h0 P5.1 (by omega) (by omega) λ b=>?_);dsimp only;exact ar (λ c2=>A4 ⟨rfl,g2,by dsimp only; omega,rfl⟩) (λ c2=>A4 ⟨rfl,by dsimp only; omega,by dsimp only; omega,rfl⟩)
     ·rintro ⟨r,n3⟩ st6 ⟨g1,g2,g3,rfl⟩;dsimp only at g1 g2 g3 ⊢;subst g1;exact A4 (h _ _ g2 g3 P5)
theorem iz (hO:cr prog w A s κ0 κ) (h0:KeysOf κ a₀) {st:SortSt} {Q:Unit->SortSt->Prop} (hP:SPp κ0 a₀ #[] st)
  (h:∀st',SP κ0 a₀ st'->Q () st'):wpS (model prog w) A E s sortRuns' Q st:=by
 refine A3 (wpS_get ?_);have hz:(arrOf st).size=a₀.size:=hP.1.size;refine A3 (wpS_mono (wpS_forRange (I:=λ _ c st'=>c.1=none/\SP κ0 a₀ st'/\Tile (pendingOf st').toList 0 c.2/\c.2<=a₀.size) (Q:=λ c st'=>c.1=none/\SP κ0 a₀ st'/\Tile (pendingOf st').toList 0 c.2/\c.2<=a₀.size) ?step (λ _ _ z=>z) ⟨rfl,hP.1,by rw [hP.2]; rfl,E9 _⟩) ?post)
 case post =>
  rintro ⟨r,lo⟩ st1 ⟨g1,P1,T1,l1⟩;dsimp only at g1 T1 l1 ⊢;subst g1;refine A3 (wpS_mono (wpS_forRange (I:=λ _ c st'=>c.1=none/\SP κ0 a₀ st'/\Tile (pendingOf st').toList 0 lo) (Q:=λ c st'=>c.1=none/\SP κ0 a₀ st') ?_ (λ _ _ z=>⟨z.1,z.2.1⟩) ⟨rfl,P1,T1⟩) ?_)
  ·rintro i ⟨r,u⟩ st2 _ _ ⟨g1,P2,T2⟩;refine A3 (wpS_get ?_);refine ar (λ c1=>A4 ⟨rfl,P2⟩) (λ c1=>?_);have c2:1 < (pendingOf st2).size:=Nat.lt_of_not_le c1;refine A3 (ej hO h0 P2 ?_ T2 l1 λ st3 P3 T3=>?_)
   ·have ie:∀ (c:Prop) [Decidable c] (x y z:Nat),x < z->y < z->(if c then x else y) < z:=λ c _ x y z h1 h2=>by split <;> assumption
    exact C1 (Nat.add_lt_add_right (ie _ _ _ _ (show (pendingOf st2).size - 2 - 1 < (pendingOf st2).size - 1 by omega) (show (pendingOf st2).size - 2 < (pendingOf st2).size - 1 by omega)) 1) (by omega)
   ·exact ar (λ c3=>absurd c3 (by decide)) (λ c3=>A4 ⟨rfl,P3,T3⟩)
  ·rintro ⟨r,u⟩ st2 ⟨g1,P2⟩;dsimp only at g1 ⊢;subst g1;exact A4 (h _ P2)
 case step =>
  rintro i ⟨r,lo⟩ st1 _ _ ⟨g1,P1,T1,l1⟩;dsimp only at g1 T1 l1 ⊢;refine ar (λ c1=>A4 ⟨rfl,P1,T1,l1⟩) (λ c1=>?_);have c2:lo < a₀.size:=by have:¬ (arrOf st).size<=lo:=c1; omega
  refine A3 (mB hO h0 ⟨P1,rfl⟩ (nrem:=(arrOf st).size - lo) (by omega) (by omega) λ n st2 n1 n2 P2=>?_);have hz':=hz;unfold arrOf at hz' n2;rw [hz'] at n2;simp only [hz'];refine ar (λ c3=>?_) (λ c3=>?_)
  ·refine A3 (wpS_lift (wpAny_rule ⟨rfl,?_⟩));obtain ⟨mn,hmn⟩:∃mn,min (a₀.size - lo) (minRun' a₀.size a₀.size 0)=mn:=⟨_,Y⟩
   have h1mn:1<=mn/\lo + mn<=a₀.size:=by have:n < minRun' a₀.size a₀.size 0:=c3;omega
   unfold minRun' at hmn;simp only [hmn];refine A3 (kW hO h0 P2 ?_ λ st3 P3=>?_)
   ·skip
    omega
   refine ar (λ c4=>absurd c4 (by decide)) (λ c4=>?_);have TX:=T1;rw [<- P3.2] at TX;have nx:1<=mn/\lo + mn<=a₀.size:=by omega
   refine A3 (wpS_get ?_)
   split
   ·refine A3 (wpS_mono (wpS_forRange (I:=λ _ c st'=>c.1=none/\SP κ0 a₀ st'/\Tile (pendingOf st').toList 0 lo) (Q:=λ c st'=>c.1=none/\SP κ0 a₀ st'/\Tile (pendingOf st').toList 0 lo) ?_ (λ _ _ z=>z) ⟨rfl,P3.1,TX⟩) ?_)
    ·rintro i ⟨r,u⟩ st4 _ _ ⟨_,P4,T4⟩;refine A3 (wpS_get ?_)
     split
     ·rename_i he
      refine ar (λ c5=>A4 ⟨rfl,P4,T4⟩) (λ c5=>?_);refine A3 (ej hO h0 P4 ?_ T4 l1 λ st5 P5 T5=>?_)
      ·have z:1 < (pendingOf st4).size:=by
        split at he
        ·assumption
        ·cases he
       show (pendingOf st4).size - 2 + 1 < (pendingOf st4).size;omega
      ·exact ar (λ c=>absurd c (by decide)) (λ _=>A4 ⟨rfl,P5,T5⟩)
     ·exact A4 ⟨rfl,P4,T4⟩
    ·rintro ⟨r,u⟩ st4 ⟨g1,P4,T4⟩;dsimp only at g1 ⊢;subst g1;refine A3 (wpS_modify ?_);refine A3 (wpS_modify (A4 ⟨rfl,⟨P4.perm,P4.kind,P4.failed⟩,?_,?_⟩))
     ·show Tile (((pendingOf st4).modify _ _).push _).toList 0 _;rw [Array.toList_push];refine Tile.push ?_ nx.1;rw [Array.toList_modify];refine Tile.upd ?_ _ T4;exact λ _=>⟨Y,Y⟩
     ·exact nx.2
   ·refine A3 (wpS_modify (A4 ⟨rfl,⟨P3.1.perm,P3.1.kind,P3.1.failed⟩,?_,?_⟩))
    ·show Tile (Array.push _ _).toList 0 _;rw [Array.toList_push];exact Tile.push TX nx.1
    ·exact nx.2
  ·skip
   have TX:=T1;rw [<- P2.2] at TX;have nx:1<=n/\lo + n<=a₀.size:=by omega
   refine A3 (wpS_get ?_)
   split
   ·refine A3 (wpS_mono (wpS_forRange (I:=λ _ c st'=>c.1=none/\SP κ0 a₀ st'/\Tile (pendingOf st').toList 0 lo) (Q:=λ c st'=>c.1=none/\SP κ0 a₀ st'/\Tile (pendingOf st').toList 0 lo) ?_ (λ _ _ z=>z) ⟨rfl,P2.1,TX⟩) ?_)
    ·rintro i ⟨r,u⟩ st4 _ _ ⟨_,P4,T4⟩;refine A3 (wpS_get ?_)
     split
     ·rename_i he
      refine ar (λ c5=>A4 ⟨rfl,P4,T4⟩) (λ c5=>?_);refine A3 (ej hO h0 P4 ?_ T4 l1 λ st5 P5 T5=>?_)
      ·have z:1 < (pendingOf st4).size:=by
        split at he
        ·assumption
        ·cases he
       show (pendingOf st4).size - 2 + 1 < (pendingOf st4).size;omega
      ·exact ar (λ c=>absurd c (by decide)) (λ _=>A4 ⟨rfl,P5,T5⟩)
     ·exact A4 ⟨rfl,P4,T4⟩
    ·rintro ⟨r,u⟩ st4 ⟨g1,P4,T4⟩;dsimp only at g1 ⊢;subst g1;refine A3 (wpS_modify ?_);refine A3 (wpS_modify (A4 ⟨rfl,⟨P4.perm,P4.kind,P4.failed⟩,?_,?_⟩))
     ·show Tile (((pendingOf st4).modify _ _).push _).toList 0 _;rw [Array.toList_push];refine Tile.push ?_ nx.1;rw [Array.toList_modify];refine Tile.upd ?_ _ T4;exact λ _=>⟨Y,Y⟩
     ·exact nx.2
   ·refine A3 (wpS_modify (A4 ⟨rfl,⟨P2.1.perm,P2.1.kind,P2.1.failed⟩,?_,?_⟩))
    ·show Tile (Array.push _ _).toList 0 _;rw [Array.toList_push];exact Tile.push TX nx.1
    ·exact nx.2
end
end PyProof.Rows
namespace PyProof.Rows
set_option autoImplicit false
open PySem
section
variable {prog:KC} {w:KF} {A:Around} {E:KG->KB->Prop} {s:KB}
theorem gD {κ:KeyKind} {κ0:SortKind} {a:Addr} {vs:List KG} {n:Nat} {P:Fin->KB->Prop} (ho:s.heap.get? a=some (seqObj "list" vs.toArray n))
  (h0:KeysOf κ (pairsOf vs)) (hkk:∀s':KB,(∀b o,b≠a->s.heap.get? b=some o->s'.heap.get? b=some o)->cr prog w A s' κ0 κ/\∀v₁ v₂ rest,vs=v₁ :: v₂ :: rest->∀ (Q:SortKind->KB->Prop),Q κ0 s'->wpAny (model prog w) A (keyKind' (v₁ :: v₂ :: rest).toArray) Q E s') (h64:vs.length < 4096)
  (h:∀st':SortSt,(arrOf st').Perm (pairsOf vs)->P (.done (.ret .none)) { s with heap:=sortedHeap s.heap a vs ((arrOf st').map (·.2)) }) :
  wpAny (model prog w) A (Builtin.«list.sort» ⟨[.ref a],[]⟩) P E s:=by
 rw [list_sort_plain];have ha:a < s.heap.objs.size:=A9 ho;refine A0 (listItems_at ho rfl ?_);refine A0 (listUpdate_at ho rfl ?_);obtain ⟨e1,ho1⟩:∃e1,(s.heap.update a (Obj.mapSeq λ _=>#[])).get? a=some (seqObj "list" #[] e1):=⟨_,get?_update_seq ho (λ _=>#[])⟩
 refine A0 (seqEpoch_at ho1 rfl ?_);refine A0 (wpAny_newTuple ?_);refine A0 (wpAny_newList ?_);refine wpAny_holding ?_;have ho6:(((s.heap.update a (Obj.mapSeq λ _=>#[])).push (seqObj "tuple" vs.toArray 0)).push (seqObj "list" #[] 0)).get? a=some (seqObj "list" #[] e1):=by rw [Heap.get?_push_ne _ _ _ (by rw [size_push',Heap.size_update]; exact Nat.ne_of_lt (Nat.lt_succ_of_lt ha)),Heap.get?_push_ne _ _ _ (by rw [Heap.size_update]; exact Nat.ne_of_lt ha)];exact ho1
 show wpAny (model prog w) A _ P E { s with heap:=((s.heap.update a (Obj.mapSeq λ _=>#[])).push (seqObj "tuple" vs.toArray 0)).push (seqObj "list" #[] 0) };dsimp only;have hsz:vs.toArray.size=vs.length:=by simp
 have fin:=h
 by_cases h2:vs.toArray.size < 2
 ·rw [if_pos h2,if_pos h2];refine A0 (A1 ?_);rw [StateT.run_pure];refine A0 (A1 ?_);dsimp only;refine A0 (seqEpoch_at ho6 rfl ?_);refine A0 (listUpdate_at ho6 rfl ?_ (hsz2:=by rw [Array.size_map]; show (pairsOf vs).size<=_; rw [pairsOf_size,sizeLine_eq]; omega));simp only [bne_self_eq_false,Bool.false_eq_true,if_false];exact A1 (fin (SortSt.mk' general' (vs.toArray.zip vs.toArray) #[] 7 none) (Array.Perm.refl _))
 ·rw [if_neg h2,if_neg h2];obtain ⟨v₁,v₂,rest,rfl⟩:∃v₁ v₂ rest,vs=v₁ :: v₂ :: rest:=by
   match vs,hsz,h2 with
   | [],_,h2=>simp at h2
   | [_],_,h2=>simp at h2
   | v₁ :: v₂ :: rest,_,_=>exact ⟨v₁,v₂,rest,Y⟩
  have kp:∀b o,b≠a->s.heap.get? b=some o->(((s.heap.update a (Obj.mapSeq λ _=>#[])).push (seqObj "tuple" (v₁ :: v₂ :: rest).toArray 0)).push (seqObj "list" #[] 0)).get? b=some o:=λ b o nb e =>
   A7 _ (A7 _ (by rw [Heap.get?_update_ne _ _ _ _ nb]; exact e))
  obtain ⟨hO,hK⟩:=hkk { s with heap:=((s.heap.update a (Obj.mapSeq λ _=>#[])).push (seqObj "tuple" (v₁ :: v₂ :: rest).toArray 0)).push (seqObj "list" #[] 0) } kp;refine A0 (hK _ _ _ rfl _ ?_);refine A0 (wpAny_mono (iz (κ:=κ) (κ0:=κ0) hO (a₀:=pairsOf (v₁ :: v₂ :: rest)) h0 (st:=SortSt.mk' κ0 ((v₁ :: v₂ :: rest).toArray.zip (v₁ :: v₂ :: rest).toArray) #[] 7 none)
   (Q:=λ _ st'=>SP κ0 (pairsOf (v₁ :: v₂ :: rest)) st') ⟨⟨Array.Perm.refl _,rfl,rfl⟩,rfl⟩ λ st' z=>z) ?_ λ _ _ e=>e)
  rintro ⟨⟨⟩,st'⟩ s' ⟨rfl,hp,hk2,hf⟩;dsimp only;refine A0 (seqEpoch_at ho6 rfl ?_);refine A0 (listUpdate_at ho6 rfl ?_ (hsz2:=by refine C5 (Nat.le_of_eq ((Array.size_map ..).trans (hp.size_eq.trans (pairsOf_size _)))) ?_; rw [sizeLine_eq]; omega));rw [hf];simp only [bne_self_eq_false,Bool.false_eq_true,if_false];exact A1 (fin st' hp)
theorem vy {κ:KeyKind} {κ0:SortKind} {l:Addr} {vs:List KG} {Q:KG->KB->Prop} (hl:s.heap.IsList l vs.toArray) (h0:KeysOf κ (pairsOf vs)) (hkk:∀ (A':Around) (s':KB),(∀b o,s.heap.get? b=some o->s'.heap.get? b=some o)->cr prog w A' s' κ0 κ/\∀v₁ v₂ rest,vs=v₁ :: v₂ :: rest->∀ (Q:SortKind->KB->Prop) (E':KG->KB->Prop),Q κ0 s'->wpAny (model prog w) A' (keyKind' (v₁ :: v₂ :: rest).toArray) Q E' s') (h64:vs.length < 4096)
  (h:∀st':SortSt,(arrOf st').Perm (pairsOf vs)->Q (.ref (s.heap.objs.size + 1)) { s with heap:=sortedAll s.heap vs ((arrOf st').map (·.2)) }) :
  wpAny (model prog w) A (call (.builtin "sorted") [.ref l]) Q E s:=by
 refine Calls.call_function_entry kind_sorted plain_sorted entry_sorted (args_sorted1 _) ?_;unfold Builtin.«sorted»;refine A0 (m:=checkCount "sorted" 1 1 _) (A1 ?_);refine A0 (collect_list hl ?_);refine A0 (wpAny_newList ?_);have hsz:((s.heap.push (seqObj "list" #[] 0)).update s.heap.objs.size (Obj.mapSeq (· ++ vs.toArray))).objs.size=s.heap.objs.size + 1:=by rw [Heap.size_update,size_push']
 have hoL:(((s.heap.push (seqObj "list" #[] 0)).update s.heap.objs.size (Obj.mapSeq (· ++ vs.toArray))).push (seqObj "list" vs.toArray 0)).get? (s.heap.objs.size + 1)=some (seqObj "list" vs.toArray 0):=by rw [<- hsz]; exact A8 _ rfl
 show wpAny _ _ _ _ _ { s with heap:=((s.heap.push (seqObj "list" #[] 0)).update s.heap.objs.size (Obj.mapSeq (· ++ vs.toArray))).push (seqObj "list" vs.toArray 0) };rw [hsz];refine A0 (wpAny_holding (G9 slot_list_sort ⟨_,hoL,rfl⟩ entry_list_sort (gD hoL h0 (λ s' k=>by obtain ⟨a1,a2⟩:=hkk _ s' (λ b o e=>k b o (B9 (Nat.lt_succ_of_lt (A9 e))) (A7 _ (by rw [Heap.get?_update_ne _ _ _ _ (Nat.ne_of_lt (Heap.lt_size e))]; exact A7 _ e))); exact ⟨a1,λ v1 v2 r e Q q=>a2 v1 v2 r e Q _ q⟩) h64 λ st' a1=>⟨_,Y,?_⟩) (args_list_sort _)));exact A1 ⟨_,rfl,h st' a1⟩
end
end PyProof.Rows
namespace L2
open PySem PySem.Spec PyProof.Rows
section
variable {X:Cx}
def xP (K:C4) (xs:List V) (H:Hp) (Q:VK):Prop:=∃ (p:Addr) (as:List Addr) (sh:List Bool) (key:Addr->List Int),xs=[.ref p]/\SqL K H p (as.map V.ref)/\as.length < 4096/\sh.head? = some false/\(∀a∈as,∃vs,SqT K H a vs/\kI sh vs=some (key a)) /\
 ∀ (l:Addr) (as':List Addr),H l=none->as'.Perm as->Q (.ref l) (upd H l (.lst (as'.map V.ref)))
theorem jD:cL X (.builtin "sorted") (xP X.K):=by
 intro pins s σ H xs us Q I r h;obtain ⟨p,as,sh,key,rfl,hs,h64,h0,hk,q⟩:=h;obtain ⟨u,rfl,rfl⟩:=fD r;obtain ⟨its,rv,pl,_⟩:=I.list hs;have ei:=iV rv;subst ei;have tu:∀a∈as,∃o us n,s.heap.get? a=some o/\o.cls=.type "tuple" /\ o.data=.seq (List.toArray us) n/\ce sh us=some (key a):=λ a ha=>by obtain ⟨vs,hv,hf⟩:=hk a ha;obtain ⟨us,r,⟨o,e,c,n,d⟩,_⟩:=I.tuple hv;exact ⟨o,us,n,e,c,d,mq r hf⟩
 have kof:∀a∈as,(vq s.heap sh).keyOf (.ref a)=some (key a):=λ a ha=>by
  obtain ⟨o,us,n,e,c,d,f⟩:=tu a ha;show (match s.heap.get? a with
   | some o=>match o.data with
    | .seq xs _=>ce sh xs.toList
    | _=>none
   | none=>none)=some (key a)
  rw [e];show (match o.data with
    | .seq xs _=>ce sh xs.toList
    | _=>none)=some (key a)
  rw [d];exact f
 refine vy (κ:=vq s.heap sh) (κ0:=tuples' true) pl.isList ?keys ?kk (by rw [List.length_map]; exact h64) λ st' hp=>?_
 case keys =>
  intro pr hpr;rw [pairsOf_toList] at hpr;obtain ⟨a,ha,e⟩:=List.mem_map.mp (List.of_mem_zip (show (pr.1,pr.2)∈_ from hpr)).1;exact ⟨key a,by rw [<- e]; exact kof a ha⟩
 case kk =>
  intro A' s' k;refine ⟨qt h0 k,λ v1 v2 rest e Q E' q=>?_⟩;obtain ⟨fs,f1,f2,f3⟩:=gx (h:=s'.heap) (key:=key) h0 as λ a ha=>by obtain ⟨o,us,n,e,c,d,f⟩:=tu a ha;exact ⟨o,us,n,k _ _ e,c,d,f⟩
  rw [e] at f1;have:(as.map Value.ref).length=rest.length + 2:=by rw [e]; rfl
  rw [List.length_map] at this;refine PySem.W.kat_kind (T:=.type "int") f1 (by omega) (λ v hv=>?_) rfl q;obtain ⟨i,t,rfl⟩:=f3 v hv;exact PySem.W.Looks.of_pure rfl
 have pz:∀l:List Addr,(l.map Value.ref).zip (l.map Value.ref)=l.map λ a=>(Value.ref a,Value.ref a):=λ l=>by
  induction l with
  | nil=>rfl
  | cons a l ih=>rw [List.map_cons,List.zip_cons_cons,ih,List.map_cons]
 have hp':=Array.perm_iff_toList_perm.mp hp;rw [pairsOf_toList,pz] at hp';obtain ⟨as',ea,pa⟩:=sQ (f:=λ a=>(Value.ref a,Value.ref a)) (λ pr=>match pr.1 with
  | .ref a=>some a
  | _=>none) (λ a=>rfl) hp'
 have eo:((arrOf st').map (·.2)).toList=as'.map Value.ref:=by rw [Array.toList_map,ea,List.map_map]; rfl
 obtain ⟨e,he⟩:=sortedAll_at s.heap (as.map Value.ref) ((arrOf st').map (·.2));have hn:H (s.heap.objs.size + 1)=none:=I.hok.fresh (Nat.le_succ _);refine ⟨.ref (s.heap.objs.size + 1),upd H (s.heap.objs.size + 1) (.lst (as'.map V.ref)),I.laid (o:=.lst (as'.map V.ref)) (t':=s.toks) (λ _ _=>sortedAll_old) (Nat.le_succ _) (show ObjOk _ _ _ _ _ (.lst _) from ⟨?_,((arrOf st').map (·.2)).toList,e,?_,?_⟩),Y,q _ as' hn pa⟩
 ·rw [List.length_map,pa.length_eq];have:(4096:Nat)<=sizeLine:=by decide
  omega
 ·rw [eo]; exact iW as'
 ·rw [he]
end
end L2
namespace Pc
open PySem L2
def top (i:Nat):Stmt:=PySem.Challenge.pw_platecuts_k95_whole_no_less_with_more.main.body.getD i (.Pass ⟨0,0,0,0⟩)
abbrev jE:Stmt:=top 12
abbrev jF:Stmt:=top 13
abbrev vz:Stmt:=top 14
abbrev cP:Stmt:=top 15
abbrev cQ:Stmt:=top 16
abbrev eM:Stmt:=top 21
abbrev di:Stmt:=top 22
abbrev eN:Stmt:=top 23
abbrev dH:Stmt:=top 24
abbrev cG:Stmt:=top 25
abbrev cR:Stmt:=top 32
abbrev jG:Stmt:=top 33
abbrev gG:Stmt:=top 34
abbrev cx:Stmt:=top 35
abbrev gH:Stmt:=top 36
abbrev dI:Stmt:=top 37
abbrev eO:Stmt:=top 38
abbrev eP:Stmt:=top 41
abbrev cF:Stmt:=top 42
abbrev aX:Stmt:=top 43
abbrev gI:Stmt:=top 44
abbrev eQ:Stmt:=top 46
abbrev dj:Stmt:=top 47
abbrev ez:Stmt:=top 48
abbrev gJ:Stmt:=top 52
abbrev gK:Stmt:=top 53
abbrev dk:Stmt:=inClass (top 54) 0
abbrev dJ:Stmt:=inClass (top 54) 1
abbrev dL:Stmt:=inClass (top 54) 2
abbrev kX:Stmt:=inClass (top 54) 3
abbrev cS:Stmt:=inClass (top 54) 4
abbrev cz:Stmt:=inClass (top 54) 5
abbrev dM:Stmt:=inClass (top 54) 6
abbrev jH:Stmt:=top 56
abbrev eA:Stmt:=top 57
abbrev dN:Stmt:=top 58
abbrev ic:Stmt:=top 59
abbrev fS:Stmt:=top 62
abbrev cA:Stmt:=top 63
abbrev cB:Stmt:=top 64
abbrev vA:Stmt:=top 66
abbrev oU:Stmt:=top 67
abbrev gL:Stmt:=top 68
abbrev jI:Stmt:=top 69
abbrev oV:Stmt:=top 70
abbrev eS:Stmt:=top 71
abbrev fT:Stmt:=top 72
abbrev ig:Stmt:=top 73
abbrev kY:Stmt:=top 74
section
variable {P:KC} {w:KF} {K:C4} {mg:Str->Option KG} {base:Heap}
structure Blt (mg:Str->Option Value):Prop where
 isi:mg "isinstance" = none
 int:mg "int" = none
 bool:mg "bool" = none
 list:mg "list" = none
 tuple:mg "tuple" = none
 len:mg "len" = none
 range:mg "range" = none
 max:mg "max" = none
 min:mg "min" = none
 abs:mg "abs" = none
 divmod:mg "divmod" = none
 sum:mg "sum" = none
 sorted:mg "sorted" = none
 all:mg "all" = none
 repr:mg "repr" = none
 zip:mg "zip" = none
 enumerate:mg "enumerate" = none
 mostk:∃t,mg "MOST_KINDS" = some (.int 8 t)
 fivek:∃t,mg "THINGS_OF_A_KIND" = some (.int 5 t)
end
theorem Hv {H H':Hp} {p:Addr} (s:Same H H'):But p H H':=λ c o _ e=>s c o e
theorem vB {t u:TS} {D:Ends} {σ:St} {H:Hp} (C:(St->Hp->Prop)->Prop) (h1:∀R:St->Hp->Prop,C R->t { D with nx:=R } σ H) (h2:C (u D)):uS t u D σ H:=h1 _ h2
theorem ap {t u:TS} {D:Ends} {σ:St} {H:Hp} (C:(St->Hp->Prop)->Prop) (h1:∀D':Ends,C D'.nx->t D' σ H) (h2:C (u D)):uS t u D σ H:=h1 _ h2
theorem bo {t u:TS} {D:Ends} {σ:St} {H:Hp} (J:St->Hp->Prop) (h1:∀R:St->Hp->Prop,(∀σ' H',J σ' H'->R σ' H')->t { D with nx:=R } σ H) (h2:∀σ' H',J σ' H'->u D σ' H'):uS t u D σ H:=h1 _ h2
section
variable {P:KC} {w:KF} {K:C4} {mg:Str->Option KG} {base:Heap}
theorem vC:FnScope ["thing","least"] ["thing","least"] (defScope jE):=⟨Y,Y,Y,by decide +kernel,Y,by decide +kernel,by decide +kernel⟩
theorem tq {f:Addr} {fd:KD} (F:Fun K "is_whole" "is_whole" jE f fd) (B:Blt mg):FnOk P w K mg base CX0 1 f fd ["thing","least"] (bU K):=by
 refine F.ok vC (λ vs H Q E h=>?_) (λ cdv A outer s H vs Q E hr h=>?_)
 ·obtain ⟨x,T,l,rfl,_⟩:=h
  rfl
 obtain ⟨x,T,l,rfl,⟨tn,ty⟩,q⟩:=h;refine ⟨_,ag (au (bL (aO bX rfl B.isi PyProof.Rows.boot_isinstance (aa (pv 0) (aa (cK (v:=.ty "int") rfl B.int PyProof.Rows.boot_int rfl) ab)))
  (bL (rK (aO bX rfl B.isi PyProof.Rows.boot_isinstance (aa (pv 0) (aa (cK (v:=.ty "bool") rfl B.bool PyProof.Rows.boot_bool rfl) ab))))
  (bV (be oq (pv 0) (pv 1) (aw _)))))),?_⟩
 refine ⟨_,Y,x,_,_,_,_,Y,ty,Y,vm T tn,_,Y,?_⟩;have tb:=oB ty;refine cV (λ c=>?_) (λ c=>?_)
 ·refine ⟨_,Y,x,_,_,_,_,Y,ty,Y,kq T tn,_,Y,_,Y,?_⟩;refine cV (λ c2=>?_) (λ c2=>?_)
  ·have hT:(T == "int")=true:=by
    have:(T == "bool")=false:=by simpa using c2
    rw [this,Bool.or_false] at c; exact c
   obtain ⟨i,rfl⟩:=xC ty tn hT;exact ⟨_,Y,_,Y,_,_,Y,Y,q⟩
  ·have hT:qi x=true:=by
    rw [<- tb];cases e:(T == "bool") with
    | true=>rfl
    | false=>rw [e] at c2; exact absurd rfl c2
   cases x <;> first | exact q | (exact absurd hT B2)
 ·have hx:aQ x l=false:=by
   cases x with
   | int i =>
    exfalso;have ty':=ty;generalize hv:Value.type T=tv at ty';cases ty' with
    | int=>cases hv; exact c rfl
   | _=>rfl
  rw [hx] at q;exact q
theorem vD:FnScope ["thing"] ["thing"] (defScope jF):=⟨Y,Y,Y,by decide +kernel,Y,by decide +kernel,by decide +kernel⟩
theorem tD {f:Addr} {fd:KD} (F:Fun K "is_truth" "is_truth" jF f fd) (B:Blt mg):FnOk P w K mg base CX0 1 f fd ["thing"] (gF K):=by
 refine F.ok vD (λ vs H Q E h=>?_) (λ cdv A outer s H vs Q E hr h=>?_)
 ·obtain ⟨x,T,rfl,_⟩:=h
  rfl
 obtain ⟨x,T,rfl,⟨tn,ty⟩,q⟩:=h;refine ⟨_,ag (au (aO bX rfl B.isi PyProof.Rows.boot_isinstance (aa (pv 0) (aa (cK (v:=.ty "bool") rfl B.bool PyProof.Rows.boot_bool rfl) ab)))),?_⟩;refine ⟨_,Y,x,_,_,_,_,Y,ty,Y,kq T tn,?_⟩;rw [oB ty];exact q
theorem Dm:FnScope ["thing"] ["thing"] (defScope vz):=⟨Y,Y,Y,by decide +kernel,Y,by decide +kernel,by decide +kernel⟩
theorem xQ {f:Addr} {fd:KD} (F:Fun K "is_row" "is_row" vz f fd) (B:Blt mg):FnOk P w K mg base CX0 1 f fd ["thing"] (kr K):=by
 refine F.ok Dm (λ vs H Q E h=>?_) (λ cdv A outer s H vs Q E hr h=>?_)
 ·obtain ⟨x,T,rfl,_⟩:=h
  rfl
 obtain ⟨x,T,rfl,ty,q⟩:=h;refine ⟨_,ag (au (aO js rfl B.isi PyProof.Rows.boot_isinstance (aa (pv 0) (aa (aB (aa (cK (v:=.ty "list") rfl B.list PyProof.Rows.boot_list rfl) (aa (cK (v:=.ty "tuple") rfl B.tuple PyProof.Rows.boot_tuple rfl) ab))) ab)))),?_⟩;refine ⟨_,Y,zS2,λ p hp=>?_⟩;have s1:Same H (upd H p (.tup [.ty "list",.ty "tuple"])):=λ b o e=>by rw [aj (am e hp)]; exact e
 have t2:=Ty.same s1 ty;exact ⟨x,p,_,_,_,_,Y,t2.2,ae,Y,vn T ty.1,q _ s1⟩
theorem scIsKind:FnScope ["thing","wide","high","worth","wanted","turns"] ["thing"] (defScope gJ):=⟨Y,Y,Y,by decide +kernel,Y,by decide +kernel,by decide +kernel⟩
theorem qA {f:Addr} {fd:KD} (F:Fun K "is_kind" "is_kind" gJ f fd) (B:Blt mg) (DW:Dn P w K mg base "is_whole" ["thing","least"] 1 (bU K)) (DT:Dn P w K mg base "is_truth" ["thing"] 1 (gF K)) (DR:Dn P w K mg base "is_row" ["thing"] 1 (kr K)) :
  FnOk P w K mg base CX0 2 f fd ["thing"] (fK K):=by
 refine F.ok scIsKind (λ vs H Q E h=>?_) (λ cdv A outer s H vs Q E hr h=>?_)
 ·obtain ⟨x,T,rfl,_⟩:=h
  rfl
 obtain ⟨x,T,rfl,ty,q⟩:=h;obtain ⟨tk,htk⟩:=B.fivek;have nd:=scIsKind.nd;refine ⟨_,ad (aI (PW.pt (bQ (aR (aK (aq DR hr rfl (aa (pv 0) ab)))) (bK (az fg (aO bG rfl B.len PySem.boot_len (aa (pv 0) ab)) (aL (v:=.int 5) rfl htk ⟨tk,Y⟩) (aw _))))) (ag (au bD)) av)
  (ad (bm (pv 0) (lZ rfl (ah (ai (i:=1) nd rfl (Or.inl rfl)) (ah (ai (i:=2) nd rfl (Or.inl rfl)) (ah (ai (i:=3) nd rfl (Or.inl rfl)) (ah (ai (i:=4) nd rfl (Or.inl rfl)) (ah (ai (i:=5) nd rfl (Or.inl rfl)) aG)))))))
  (ad (aI (PW.pt (bQ (aR (aK (aq DW hr rfl (aa (pv 1) (aa af ab))))) (bK (aR (aK (aq DW hr rfl (aa (pv 2) (aa af ab)))))))) (ag (au bD)) av)
  (ag (au (bL (aq DW hr rfl (aa (pv 3) (aa af ab))) (bL (aq DW hr rfl (aa (pv 4) (aa af ab))) (bV (aq DT hr rfl (aa (pv 5) ab))))))))),?_⟩
 refine ⟨_,Y,x,T,Y,ty,λ H1 s1=>⟨_,Y,?_⟩⟩;rcases q with ⟨n1,n2,q⟩ | ⟨a,xs,rfl,hx,its,q⟩
 ·have e:(T == "list" || T == "tuple")=false:=by simp [n1,n2]
  rw [e];refine aV (aV ?_);exact q H1 s1
 ·have e:(T == "list" || T == "tuple")=true:=by
   have t2:=ty.2;generalize hv:Value.type T=tv at t2;generalize hr:V.ref a=rv at t2;cases t2 with
   | lst _=>cases hv; rfl
   | frz _=>cases hv; rfl
   | tup _=>cases hv; rfl
   | dK e=>cases hr; rcases hx with z | z <;> (rw [z] at e; cases e)
   | dT e=>cases hr; rcases hx with z | z <;> (rw [z] at e; cases e)
   | ins=>cases hv
   | _=>cases hr
  rw [e];have sq:SqL K H1 a xs\/SqT K H1 a xs:=by
   rcases hx with z | z
   ·exact .inl (KJ (s1 _ _ z))
   ·exact .inr (KI (s1 _ _ z))
  refine aF ⟨_,rfl,a,xs,rfl,sq,rfl,_,rfl,?_⟩;refine cV (λ c=>?_) (λ c=>?_)
  ·have hl:xs.length≠5:=λ z=>by rw [z] at c; exact absurd c (by decide)
   have:iP xs=false:=by
    unfold iP
    split
    ·exact absurd rfl hl
    ·rfl
   rw [this] at q;exact q H1 s1
  ·have hl:xs.length=5:=by
    by_cases z:xs.length=5
    ·exact z
    ·exfalso;apply c;have:¬ (V.int (xs.length:Int)=V.int 5):=λ h=>z (by have:=V.int.inj h; omega);rw [decide_eq_false this]; rfl
   obtain ⟨x1,x2,x3,x4,x5,rfl⟩:∃x1 x2 x3 x4 x5,xs=[x1,x2,x3,x4,x5]:=by
    match xs,hl with
    | [a,b,c,d,e],_=>exact ⟨a,b,c,d,e,Y⟩
   obtain ⟨T1,t1⟩:=its x1 (by simp);obtain ⟨T2,t2⟩:=its x2 (by simp);obtain ⟨T3,t3⟩:=its x3 (by simp);obtain ⟨T4,t4⟩:=its x4 (by simp);obtain ⟨T5,t5⟩:=its x5 (by simp);refine ⟨_,Y,a,_,Y,sq,Y,x1,_,Y,x2,_,Y,x3,_,Y,x4,_,Y,x5,_,Y,Y,?_⟩;refine ⟨_,Y,x1,T1,1,Y,Ty.same s1 t1,_,Y,?_⟩;have q':∀b,iP [x1,x2,x3,x4,x5]=b->Q (.bl b) H1:=λ b e=>by rw [<- e]; exact q H1 s1
   have k5:iP [x1,x2,x3,x4,x5]=(aQ x1 1 && aQ x2 1 && aQ x3 0 && aQ x4 0 && qi x5):=rfl;cases w1:aQ x1 1 with
   | false =>
    refine aV (aV ?_);exact q' false (by rw [k5,w1]; rfl)
   | true =>
    refine aF ⟨_,rfl,x2,T2,1,rfl,Ty.same s1 t2,_,rfl,?_⟩;cases w2:aQ x2 1 with
    | false =>
     refine aV ?_;exact q' false (by rw [k5,w1,w2]; rfl)
    | true =>
     refine aF ⟨_,rfl,x3,T3,0,rfl,Ty.same s1 t3,_,rfl,?_⟩;cases w3:aQ x3 0 with
     | false =>
      refine aF ?_;exact q' false (by rw [k5,w1,w2,w3]; rfl)
     | true =>
      refine aV ⟨_,rfl,x4,T4,0,rfl,Ty.same s1 t4,_,rfl,?_⟩;cases w4:aQ x4 0 with
      | false =>
       refine aF ?_;exact q' false (by rw [k5,w1,w2,w3,w4]; rfl)
      | true =>
       refine aV ⟨_,rfl,x5,T5,rfl,Ty.same s1 t5,?_⟩;exact q' _ (by rw [k5,w1,w2,w3,w4]; rfl)
end
section
variable {P:KC} {w:KF} {K:C4} {mg:Str->Option KG} {base:Heap}
theorem scInit:FnScope ["self","blade","kinds","kind"] ["self","blade","kinds"] (defScope dk):=⟨Y,Y,Y,by decide +kernel,Y,by decide +kernel,by decide +kernel⟩
theorem vE {f C:Addr} {fd:KD} (F:Fun K "__init__" "Shop.__init__" dk f fd) (B:Blt mg) (T:ShopTxt K C) (DW:Dn P w K mg base "is_whole" ["thing","least"] 1 (bU K)) (DR:Dn P w K mg base "is_row" ["thing"] 1 (kr K))
  (DK:Dn P w K mg base "is_kind" ["thing"] 2 (fK K)):FnOk P w K mg base CX0 3 f fd ["self","blade","kinds"] (mf C):=by
 refine F.ok scInit (λ vs H Q E h=>?_) (λ cdv A outer s H vs Q E hr h=>?_)
 ·obtain ⟨x,dx,ks,b,rs,kds,rfl,_⟩:=h
  rfl
 obtain ⟨x,dx,ks,b,rs,kds,rfl,hx,b0,hks,hrs,hgd,n1,n8,q⟩:=h;have hr1:=hr.mono (show 1<=2 by decide);obtain ⟨tk,htk⟩:=B.mostk;have nd:=scInit.nd;have n8':(8:Nat) < sizeLine:=by decide
 refine ⟨_,ad (aI (aR (aK (aq DW hr1 rfl (aa (pv 1) (aa af ab))))) gh av)
  (ad (aI (PW.pt (bQ (aR (aK (aq DR hr1 rfl (aa (pv 2) ab)))) (bK (aR (rS cM cM af (aO bG rfl B.len PySem.boot_len (aa (pv 2) ab)) (aL (v:=.int 8) rfl htk ⟨tk,rfl⟩)))))) gh av)
  (ad (bE E5 rfl (sD (pv 2)) (ai (i:=3) nd rfl (Or.inl rfl)) (ag (aI (aR (aK (aq DK hr rfl (aa (pv 3) ab)))) gh av)))
  (ad (rV (pv 0) (pv 1) rfl)
  (ag (rV (pv 0) (eJ fi rfl B.tuple PyProof.Rows.boot_tuple (aa (dB (own:=["kind"]) (cs:=[]) (cap:=[]) rfl (sD (pv 2))
   (bv (sc:=defScope dk) (N:=["self","blade","kinds","kind"]) rfl rfl (by decide +kernel))
   (λ _ _ _ _ _=>ai (i:=0) (by show List.Nodup (["kind"]:List Str); decide +kernel) rfl (Or.inl rfl) (Or.inr rfl)) (λ _ _ _ _ _=>bR)
   (λ _ _ _ _ _=>eJ (r:=sH K) fi rfl B.tuple PyProof.Rows.boot_tuple (aa (pv 0) ab))) ab)) rfl))))),?_⟩
 refine ⟨_,Y,.int b,_,0,Y,.int,_,Y,?_⟩;have wb:aQ (.int b) 0=true:=B0 b0;rw [wb];refine aF ?_;have tyk:∃T,Ty K H (.ref ks) T/\(T == "list" || T == "tuple")=true:=by
  rcases hks with e | e
  ·exact ⟨_,.lst e,Y⟩
  ·exact ⟨_,.tup e,Y⟩
 obtain ⟨T0,ty0,te0⟩:=tyk;refine ⟨_,Y,.ref ks,T0,Y,ty0,λ H1 s1=>⟨_,Y,?_⟩⟩;rw [te0];have sq:∀ {H2:Hp},Same H H2->SqL K H2 ks rs\/SqT K H2 ks rs:=λ s2=>by
  rcases hks with z | z
  ·exact .inl (KJ (s2 _ _ z))
  ·exact .inr (KI (s2 _ _ z))
 refine aF ⟨_,rfl,ks,rs,rfl,sq s1,_,_,rfl,rfl,_,rfl,?_⟩;rw [decide_eq_true (show (1:Int)<=(rs.length:Int) by omega)];refine aV ⟨_,_,rfl,rfl,_,rfl,?_⟩;rw [decide_eq_true (show (rs.length:Int)<=8 by omega)];refine aF ?_;have yg:=E4 hrs;refine sI (j:=2) (a:=ks) (xs:=rs) rfl (hks.imp (λ z=>s1 _ _ z) λ z=>s1 _ _ z) (λ i σ H2=>∃v,σ=[some (.ref x),some (.int b),some (.ref ks),v]/\Same H1 H2) ⟨none,rfl,Same.refl _⟩ (λ i σ H2 _ ⟨_,_,s2⟩ o e=>s2 _ _ e) ?_ ?_
 ·rintro i y σ H2 hi ⟨v,rfl,s2⟩;obtain ⟨k,hk,rk⟩:=KL hrs hi;refine ⟨_,Y,?_⟩;simp only [va,List.append_nil];refine qk ((rk.same s1).same s2) (hgd k (B5 hk)) λ H3 s3=>⟨_,Y,aF ?_⟩
  exact ⟨_,Y,s2.trans s3⟩
 rintro σ H2 ⟨v,rfl,s12⟩;have s2:Same H H2:=s1.trans s12;refine ⟨_,Y,_,Y,x,C,dx,[],Y,s2 _ _ hx,T.cl,T.nB,(by show 0 < 1000; decide),?_⟩;have k3:∀c o,c≠x->H c=some o->(upd H2 x (.ins C dx (cH "blade_width" (.int b) []))) c=some o:=λ c o n e=>by rw [aj n]; exact s2 c o e
 have x3:(upd H2 x (.ins C dx (cH "blade_width" (.int b) []))) x=some (.ins C dx (cH "blade_width" (.int b) [])):=ae;generalize upd H2 x (.ins C dx (cH "blade_width" (.int b) []))=H3 at k3 x3 ⊢;have rx:∀c xs,H c=some (.lst xs)\/H c=some (.tup xs)->c≠x:=λ c xs e z=>by subst z;rcases e with e | e <;> (rw [hx] at e; cases e)
 dsimp only [CV,tCB,wQ];refine qj (j:=2) (a:=ks) (xs:=rs) rfl (hks.imp (λ z=>k3 _ _ (rx _ _ (.inl z)) z) λ z=>k3 _ _ (rx _ _ (.inr z)) z) (λ i ys H4=>ys.length=i/\Same H3 H4/\Tups H4 ys (kds.take i)) (λ i ys H4 _ ⟨_,s4,_⟩ o e=>s4 _ _ e) ⟨rfl,Same.refl _,.nil⟩ ?_ ?_
 ·rintro i y ys H4 hi ⟨hy,s4,ty4⟩;have hin:i < rs.length:=(A6.mp hi).1;obtain ⟨k,hk,rk⟩:=KL hrs hi;have tk1:kds.take (i + 1)=kds.take i ++ [k]:=by rw [List.take_add_one,hk]; rfl
  refine ⟨by omega,leS.set rfl,bS ?_⟩;rcases rk with ⟨a,rfl,h⟩ | ⟨a,rfl,h⟩
  ·have h4:=s4 _ _ (k3 _ _ (rx _ _ (.inr h)) h);exact ⟨_,Y,a,_,Y,.inr ⟨KI h4,Nx.of hin ⟨by rw [List.length_append,hy]; rfl,s4,by rw [tk1]; exact Paired.snoc ty4 ⟨a,Y,h4⟩⟩⟩⟩
  ·have h4:=s4 _ _ (k3 _ _ (rx _ _ (.inl h)) h);refine ⟨_,Y,a,_,Y,.inl ⟨KJ h4,λ l hl=>Nx.of hin ⟨by rw [List.length_append,hy]; rfl,λ c o e=>?_,?_⟩⟩⟩
   ·have e4:=s4 c o e;rw [aj (am e4 hl)]; exact e4
   ·rw [tk1];exact Paired.snoc (Tups.keep (λ c xs e=>by rw [aj (am e hl)]; exact e) ty4) ⟨l,rfl,ae⟩
 rintro ys H4 ⟨hy,s4,ty4⟩;refine ⟨by omega,λ p hp=>?_⟩;refine ⟨p,ys,Y,.inl ⟨KJ ae,λ r hr'=>?_⟩⟩;have hpr:r≠p:=λ z=>by rw [z,ae] at hr'; cases hr'
 have hr4:H4 r=none:=by rw [aj hpr] at hr'; exact hr'
 have x4:=s4 _ _ x3;have xp:x≠p:=am x4 hp;have xr:x≠r:=am x4 hr4;refine ⟨_,Y,x,C,dx,_,Y,(by rw [aj xr,aj xp]; exact x4),T.cl,T.nK,(C6 (dY _ _ _) (by decide)),?_⟩;rw [yg,List.take_length] at ty4;refine q _ ⟨dx,r,ys,ae,by rw [aj (Ne.symm xr),ae],?_⟩ λ c o n e=>?_
 ·refine Tups.keep (λ c xs e=>?_) ty4;rw [aj (λ z=>by rw [z,x4] at e; cases e),aj (am e hr4),aj (am e hp)];exact e
 ·have e4:=s4 _ _ (k3 c o n e);rw [aj n,aj (am e4 hr4),aj (am e4 hp)];exact e4
theorem vF:FnScope ["self"] ["self"] (defScope dJ):=⟨Y,Y,Y,by decide +kernel,Y,by decide +kernel,by decide +kernel⟩
theorem tE {f C:Addr} {fd:KD} (F:Fun K "blade" "Shop.blade" dJ f fd) (T:ShopTxt K C):FnOk P w K mg base CX0 1 f fd ["self"] (dD C):=by
 refine F.ok vF (λ vs H Q E h=>?_) (λ cdv A outer s H vs Q E hr h=>?_)
 ·obtain ⟨x,b,ks,rfl,_⟩:=h
  rfl
 obtain ⟨x,b,ks,rfl,⟨dx,r,rs,h1,h2,h3⟩,q⟩:=h;exact ⟨_,ag (au (gp (pv 0) rfl)),_,Y,x,C,dx,_,_,Y,h1,T.cl,T.nB,md _ _,q⟩
theorem vG:FnScope ["self"] ["self"] (defScope dL):=⟨Y,Y,Y,by decide +kernel,Y,by decide +kernel,by decide +kernel⟩
theorem tG {f C:Addr} {fd:KD} (F:Fun K "kinds" "Shop.kinds" dL f fd) (T:ShopTxt K C) (ml:mg "list" = none):FnOk P w K mg base CX0 1 f fd ["self"] (eK C):=by
 refine F.ok vG (λ vs H Q E h=>?_) (λ cdv A outer s H vs Q E hr h=>?_)
 ·obtain ⟨x,b,ks,rfl,_⟩:=h
  rfl
 obtain ⟨x,b,ks,rfl,⟨dx,r,rs,h1,h2,h3⟩,q⟩:=h;refine ⟨_,ag (au (eJ jn rfl ml PyProof.Rows.boot_list (aa (gp (pv 0) rfl) ab))),?_⟩;exact ⟨_,Y,x,C,dx,_,_,Y,h1,T.cl,T.nK,cZ _ _,r,rs,Y,.inr (KI h2),λ l hl=>q l rs hl h3⟩
end
section
variable {P:KC} {w:KF} {K:C4} {mg:Str->Option KG} {base:Heap}
theorem tH:FnScope ["kind"] ["kind"] (defScope gK):=⟨Y,Y,Y,by decide +kernel,Y,by decide +kernel,by decide +kernel⟩
theorem qB {f:Addr} {fd:KD} (F:Fun K "can_lie_turned" "can_lie_turned" gK f fd):FnOk P w K mg base CX0 1 f fd ["kind"] (fL K):=by
 refine F.ok tH (λ vs H Q E h=>?_) (λ cdv A outer s H vs Q E hr h=>?_)
 ·obtain ⟨a,k,rfl,_⟩:=h
  rfl
 obtain ⟨a,k,rfl,ha,q⟩:=h;refine ⟨_,ag (au (bL (ay ix_tup (pv 0) af (λ _ _=>rfl)) (bV (be fg (ay ix_tup (pv 0) af (λ _ _=>rfl)) (ay ix_tup (pv 0) af (λ _ _=>rfl)) (aw _))))),?_⟩;refine ⟨_,Y,a,_,4,_,Y,Y,KI ha,Y,_,Y,?_⟩;unfold aW at q;refine cV (λ c=>?_) (λ c=>?_)
 ·rw [c,Bool.true_and] at q;refine ⟨_,Y,a,_,0,_,Y,Y,KI ha,Y,_,Y,a,_,1,_,Y,Y,KI ha,Y,Y,?_⟩;rw [jk];rw [show (decide (k.w=k.h))=(k.w == k.h) from rfl] at q;exact q
 ·have c':k.tu=false:=by simpa using c
  rw [c',Bool.false_and] at q;exact q
theorem scLyings:FnScope ["self","told","number","kind"] ["self"] (defScope cS):=⟨Y,Y,Y,by decide +kernel,Y,by decide +kernel,by decide +kernel⟩
theorem qD {f C:Addr} {fd:KD} (F:Fun K "lyings" "Shop.lyings" cS f fd) (T:ShopTxt K C) (me:mg "enumerate" = none) (DT:Dn P w K mg base "can_lie_turned" ["kind"] 1 (fL K)) :
  FnOk P w K mg base CX0 2 f fd ["self"] (hV C):=by
 refine F.ok scLyings (λ vs H Q E h=>?_) (λ cdv A outer s H vs Q E hr h=>?_)
 ·obtain ⟨x,b,ks,rfl,_⟩:=h
  rfl
 obtain ⟨x,b,ks,rfl,⟨dx,r,rs,h1,h2,h3⟩,n8,q⟩:=h;have nd:=scLyings.nd;refine ⟨_,ad (ax (i:=1) nd rfl (Or.inl rfl) (bY ab))
  (ad (bE E5 rfl (vo rfl me (aa (gp (pv 0) rfl) ab)) (aS rfl (ah (ai (i:=2) nd rfl (Or.inl rfl)) (ah (ai (i:=3) nd rfl (Or.inl rfl)) aG)))
   (ad (bj (fH KA PySem.F.slot_list_append PySem.F.type_list_append cD (pv 1) (aa (aB (aa (pv 2) (aa bD ab))) ab)))
   (ag (aI (aK (aq DT hr rfl (aa (pv 3) ab)))
    (ag (bj (fH KA PySem.F.slot_list_append PySem.F.type_list_append cD (pv 1) (aa (aB (aa (pv 2) (aa bD ab))) ab)))) av))))
  (ag (au (pv 1)))),?_⟩
 refine ⟨by decide,λ l hl=>?_⟩;have s1:Same H (upd H l (.lst [])):=KH hl;have l1:(upd H l (.lst ([]:List V))) l=some (.lst []):=ae;generalize upd H l (.lst ([]:List V))=H1 at s1 l1 ⊢;have uy:=E4 h3;have n8':(100:Nat) < sizeLine:=by decide
 refine ⟨_,Y,x,C,dx,_,_,Y,s1 _ _ h1,T.cl,T.nK,cZ _ _,r,rs,Y,.inr ⟨s1 _ _ h2,?_⟩⟩;refine sK (f:=HO.tup) (λ _ _ e=>HO.tup.inj e) (xs:=rs) (λ i σ H2=>∃v2 v3 ys,σ=[some (.ref x),some (.ref l),v2,v3]/\Same H H2/\H2 l=some (.lst ys)/\Lys H2 ys (lyK (ks.take i) 0)) ⟨none,none,[],rfl,s1,l1,.nil⟩
  (λ i σ H2 ⟨_,_,_,_,s2,_⟩=>s2 _ _ h2) ?_ ?_
 ·rintro i y p σ H2 hi hp ⟨v2,v3,ys,rfl,s2,l2,y2⟩;obtain ⟨k,hk,a,rfl,ha⟩:=KL h3 hi;have s3:Same H (upd H2 p (.tup [.int i,.ref a])):=s2.trans (KH hp);have l3:(upd H2 p (.tup [.int (i:Int),.ref a])) l=some (.lst ys):=by rw [aj (am l2 hp)]; exact l2
  have y3:Lys (upd H2 p (.tup [.int (i:Int),.ref a])) ys (lyK (ks.take i) 0):=Lys.keep (λ c xs e=>by rw [aj (am e hp)]; exact e) y2;have p3:(upd H2 p (.tup [.int (i:Int),.ref a])) p=some (.tup [.int (i:Int),.ref a]):=ae;generalize upd H2 p (.tup [.int (i:Int),.ref a])=H3 at s3 l3 y3 p3 ⊢;have hli:i < ks.length:=(A6.mp hk).1;have ylen:ys.length<=16:=by have e1:=E4 y2;have e2:=jt (ks.take i) 0;rw [List.length_take] at e2;omega
  have tk1:lyK (ks.take (i + 1)) 0=lyK (ks.take i) 0 ++ lyT i k:=by rw [List.take_add_one,hk];show lyK (ks.take i ++ [k]) 0=_;rw [kA,List.length_take,Nat.zero_add,Nat.min_eq_left (Nat.le_of_lt hli)]
  refine ⟨p,_,Y,KI p3,Y,_,_,Y,_,_,Y,Y,?_⟩;refine ⟨_,Y,.inl ⟨Y,_,KJ l3⟩,_,Y,zS2,λ t ht=>?_⟩;have lt:l≠t:=am l3 ht;refine ⟨l,ys,_,Y,Y,(by rw [aj lt]; exact l3),(by omega),?_⟩;obtain ⟨s4,l4,y4⟩:=sL (b:=false) hl s3 l3 y3 ht;generalize upd (upd H3 t (.tup [.int (i:Int),.bl false])) l (.lst (ys ++ [.ref t]))=H4 at s4 l4 y4 ⊢;refine ⟨_,Y,a,k,Y,s4 _ _ ha,_,Y,?_⟩;refine cV (λ c=>?_) (λ c=>?_)
  ·refine ⟨_,Y,.inl ⟨Y,_,KJ l4⟩,_,Y,zS2,λ t' ht'=>?_⟩;have lt':l≠t':=am l4 ht';refine ⟨l,_,_,Y,Y,(by rw [aj lt']; exact l4),(by rw [List.length_append]; show ys.length + 1 < sizeLine; omega),?_⟩;obtain ⟨s5,l5,y5⟩:=sL (b:=true) hl s4 l4 y4 ht';refine ⟨_,_,_,Y,s5,l5,?_⟩;rw [tk1];unfold lyT;rw [if_pos c];rw [show lyK (ks.take i) 0 ++ [(i,false),(i,true)]=lyK (ks.take i) 0 ++ [(i,false)] ++ [(i,true)] by simp];exact y5
  ·refine ⟨_,_,_,Y,s4,l4,?_⟩;rw [tk1];unfold lyT;rw [if_neg c];exact y4
 ·rintro σ H2 ⟨v2,v3,ys,rfl,s2,l2,y2⟩;rw [uy,List.take_length] at y2;exact ⟨_,Y,q l ys H2 hl l2 y2 s2⟩
theorem qE:FnScope ["self","kind","turned"] ["self","kind","turned"] (defScope cz):=⟨Y,Y,Y,by decide +kernel,Y,by decide +kernel,by decide +kernel⟩
theorem mC {f C:Addr} {fd:KD} (F:Fun K "is_lying" "Shop.is_lying" cz f fd) (B:Blt mg) (T:ShopTxt K C) (DW:Dn P w K mg base "is_whole" ["thing","least"] 1 (bU K)) (DU:Dn P w K mg base "is_truth" ["thing"] 1 (gF K)) (DT:Dn P w K mg base "can_lie_turned" ["kind"] 1 (fL K)) :
  FnOk P w K mg base CX0 2 f fd ["self","kind","turned"] (de K C):=by
 refine F.ok qE (λ vs H Q E h=>?_) (λ cdv A outer s H vs Q E hr h=>?_)
 ·obtain ⟨s,b,ks,x,t,T0,U,rfl,_⟩:=h
  rfl
 obtain ⟨s,b,ks,x,t,T0,U,rfl,⟨dx,r,rs,h1,h2,h3⟩,tx,tt,q⟩:=h;have uy:=E4 h3;refine ⟨_,ad (aI (PW.pt (bQ (aR (aK (aq DW hr rfl (aa (pv 1) (aa af ab))))) (bQ (az oq (pv 1) (aO bG rfl B.len PySem.boot_len (aa (gp (pv 0) rfl) ab)) (aw _))
   (bK (aR (aK (aq DU hr rfl (aa (pv 2) ab)))))))) (ag (au bD)) av)
  (ag (au (rJ (rK (pv 2)) (bV (aq DT hr rfl (aa (ay ix_tup (gp (pv 0) rfl) (pv 1) (λ _ _=>rfl)) ab)))))),?_⟩
 refine ⟨_,Y,x,_,0,Y,tx,_,Y,?_⟩;cases hw:aQ x 0 with
 | false =>
  have e:dE ks x t=false:=by
   cases x with
   | int i =>
    have h0:decide (0<=i)=false:=hw;cases t <;> first | rfl | (show (decide (0<=i) && _)=false; rw [h0,Bool.false_and])
   | _=>rfl
  rw [e] at q;exact aV (aV q)
 | true =>
  have ex:∃i,x=.int i/\0<=i:=by
   cases x with
   | int i=>exact ⟨i,Y,C0 hw⟩
   | _=>cases hw
  obtain ⟨i,rfl,i0⟩:=ex;refine aF ⟨_,rfl,_,rfl,s,C,dx,_,_,rfl,h1,T.cl,T.nK,cZ _ _,r,rs,rfl,.inr (KI h2),i,_,rfl,rfl,_,rfl,?_⟩
  by_cases hi:(rs.length:Int)<=i
  ·rw [decide_eq_true hi];have e:dE ks (.int i) t=false:=by have hn:ks[i.toNat]? = none:=C8 (by omega);cases t <;> first | rfl | (show (decide (0<=i) && match ks[i.toNat]? with | some k=>_ | none=>false)=false; rw [hn,Bool.and_false])
   rw [e] at q;exact aV (aV q)
  ·rw [decide_eq_false hi];refine aF ⟨_,rfl,t,_,rfl,tt,_,rfl,?_⟩;have hlt:i.toNat < ks.length:=by omega
   cases hb:qi t with
   | false =>
    have e:dE ks (.int i) t=false:=by cases t <;> first | rfl | cases hb
    rw [e] at q;exact aV q
   | true =>
    have ex:∃c,t=.bl c:=by cases t <;> first | exact ⟨_,Y⟩ | cases hb
    obtain ⟨c,rfl⟩:=ex;obtain ⟨y,hy⟩:∃y,rs[i.toNat]? = some y:=⟨rs[i.toNat]'(by omega),by simp [show i.toNat < rs.length by omega]⟩
    obtain ⟨k,hk,a,rfl,ha⟩:=KL h3 hy;have e:dE ks (.int i) (.bl c)=(!c || aW k):=by show (decide (0<=i) && match ks[i.toNat]? with | some k=>(!c || aW k) | none=>false)=_;rw [hk,decide_eq_true i0,Bool.true_and]
    rw [e] at q;refine aF ⟨_,rfl,c,rfl,_,rfl,?_⟩;refine cV (λ d=>?_) (λ d=>?_)
    ·rw [d,Bool.true_or] at q;exact q
    ·have d':(!c)=false:=by simpa using d
     rw [d',Bool.false_or] at q;have at':atI rs i=some (.ref a):=by
      have en:ixN rs.length i=some i.toNat:=by unfold ixN;rw [if_pos i0,if_pos (by omega)]
      unfold atI;rw [en];exact hy
     exact ⟨_,Y,s,C,dx,_,_,Y,h1,T.cl,T.nK,cZ _ _,_,Y,r,rs,i,_,Y,Y,KI h2,at',a,k,Y,ha,q⟩
end
def tI (k:Kd) (c:Bool):List V:=if c=true then [.int k.h,.int k.w] else [.int k.w,.int k.h]
inductive spSides (K:C4) (C:Addr) (vs:List V) (H:Hp) (Q:VK) (E_:XK):Prop
 | mk (s:Addr) (b:Int) (ks:List Kd) (x t:V) (T U:String) (e_1:vs=[.ref s,x,t]) (e_2:ShopAt C H s b ks) (e_3:Ty K H x T) (e_4:Ty K H t U) (e_5:dE ks x t=true) (e_6:∀ (i:Int) (c:Bool) (k:Kd) (p:Addr),x=.int i->t=.bl c->ks[i.toNat]? = some k->dE ks x t=true->H p=none->Q (.ref p) (upd H p (.tup (tI k c)))):spSides K C vs H Q E_
theorem iY {ks:List Kd} {x t:V} (h:dE ks x t=true):∃ (i:Int) (c:Bool) (k:Kd),x=.int i/\t=.bl c/\0<=i/\ks[i.toNat]? = some k:=by
 unfold dE at h
 split at h
 ·rename_i i c
  rw [Bool.and_eq_true] at h;obtain ⟨h1,h2⟩:=h
  split at h2
  ·rename_i k hk
   exact ⟨i,c,k,Y,Y,C0 h1,hk⟩
  ·cases h2
 ·cases h
theorem xR {rs:List V} {i:Int} {v:V} (i0:0<=i) (h:rs[i.toNat]? = some v):atI rs i=some v:=by
 have en:ixN rs.length i=some i.toNat:=by unfold ixN;have:=(A6.mp h).1;rw [if_pos i0,if_pos (by omega)]
 unfold atI;rw [en];exact h
section
variable {P:KC} {w:KF} {K:C4} {mg:Str->Option KG} {base:Heap}
theorem scSides:FnScope ["self","kind","turned","row"] ["self","kind","turned"] (defScope dM):=⟨Y,Y,Y,by decide +kernel,Y,by decide +kernel,by decide +kernel⟩
theorem tJ {f C:Addr} {fd:KD} (F:Fun K "sides" "Shop.sides" dM f fd) (T:ShopTxt K C) (ML:Mn P w K mg base C "is_lying" ["self","kind","turned"] 2 (de K C)) :
  FnOk P w K mg base CX0 3 f fd ["self","kind","turned"] (spSides K C):=by
 refine F.ok scSides (λ vs H Q E h=>?_) (λ cdv A outer s H vs Q E hr h=>?_)
 ·obtain ⟨s,b,ks,x,t,T0,U,rfl,_⟩:=h
  rfl
 obtain ⟨s,b,ks,x,t,T0,U,rfl,S,tx,tt,he,hq⟩:=h;have nd:=scSides.nd;refine ⟨_,ad (aI (aR (aK (kB (pv 0) T.cl ML hr (aa (pv 1) (aa (pv 2) ab))))) (ag cY) av)
  (ad (ax (i:=3) nd rfl (Or.inl rfl) (ay ix_tup (gp (pv 0) rfl) (pv 1) (λ _ _=>rfl)))
  (ad (aI (aK (pv 2)) (ag (au (aB (aa (ay ix_tup (pv 3) af (λ _ _=>rfl)) (aa (ay ix_tup (pv 3) af (λ _ _=>rfl)) ab))))) av)
  (ag (au (aB (aa (ay ix_tup (pv 3) af (λ _ _=>rfl)) (aa (ay ix_tup (pv 3) af (λ _ _=>rfl)) ab))))))),?_⟩
 obtain ⟨dx,r,rs,h1,h2,h3⟩:=id S;refine ⟨_,Y,s,dx,_,Y,h1,bH _ _ (by decide +kernel) (by decide +kernel),_,Y,_,Y,s,b,ks,x,t,T0,U,Y,S,tx,tt,_,Y,?_⟩;cases hl:dE ks x t with
 | false=>rw [hl] at he; cases he
 | true =>
  obtain ⟨i,c,k,rfl,rfl,i0,hk⟩:=iY hl;have uy:=E4 h3;have hik:=(A6.mp hk).1;obtain ⟨y,hy⟩:∃y,rs[i.toNat]? = some y:=⟨rs[i.toNat]'(by omega),by simp [show i.toNat < rs.length by omega]⟩
  obtain ⟨k',hk',a,rfl,ha⟩:=KL h3 hy;rw [hk] at hk';obtain rfl:=B8 hk';refine aF ?_;refine ⟨_,Y,s,C,dx,_,_,Y,h1,T.cl,T.nK,cZ _ _,_,Y,r,rs,i,_,Y,Y,KI h2,xR i0 hy,?_⟩;refine ⟨_,Y,_,Y,?_⟩;cases c with
  | true =>
   refine aV ?_;refine ⟨_,Y,a,_,1,_,Y,Y,KI ha,Y,_,Y,a,_,0,_,Y,Y,KI ha,Y,zS2,λ p hp=>?_⟩;exact hq i true k p rfl rfl hk hl hp
  | false =>
   refine aF ?_;refine ⟨_,Y,a,_,0,_,Y,Y,KI ha,Y,_,Y,a,_,1,_,Y,Y,KI ha,Y,zS2,λ p hp=>?_⟩;exact hq i false k p rfl rfl hk hl hp
end
mutual
inductive Dt (p:Addr) (H:Hp):V->PyData->Prop
 | non:Dt p H .non .none
 | bl (b:Bool):Dt p H (.bl b) (.bool b)
 | int (i:Int):Dt p H (.int i) (.int i)
 | str (z:Str):Dt p H (.str z) (.str z)
 | lst {a:Addr} {xs:List V} {ds:List PyData}:a≠p->H a=some (.lst xs)->Dts p H xs ds->Dt p H (.ref a) (.list ds)
 | tup {a:Addr} {xs:List V} {ds:List PyData}:H a=some (.tup xs)->Dts p H xs ds->Dt p H (.ref a) (.tuple ds)
 | emp {a:Addr}:H a=some (.dK [])->Dt p H (.ref a) (.dict [])
inductive Dts (p:Addr) (H:Hp):List V->List PyData->Prop
 | nil:Dts p H [] []
 | cons {x:V} {d:PyData} {xs:List V} {ds:List PyData}:Dt p H x d->Dts p H xs ds->Dts p H (x :: xs) (d :: ds)
end
mutual
theorem Dt.same {p:Addr} {H H':Hp} (s:Same H H'):∀ {v:V} {d:PyData},Dt p H v d->Dt p H' v d
 | _,_,.non=>.non
 | _,_,.bl b=>.bl b
 | _,_,.int i=>.int i
 | _,_,.str z=>.str z
 | _,_,.lst n h r=>.lst n (s _ _ h) (r.same s)
 | _,_,.tup h r=>.tup (s _ _ h) (r.same s)
 | _,_,.emp h=>.emp (s _ _ h)
theorem Dts.same {p:Addr} {H H':Hp} (s:Same H H'):∀ {vs:List V} {ds:List PyData},Dts p H vs ds->Dts p H' vs ds
 | _,_,.nil=>.nil
 | _,_,.cons a r=>.cons (a.same s) (r.same s)
end
theorem Dts.length {p:Addr} {H:Hp}:∀ {vs:List V} {ds:List PyData},Dts p H vs ds->vs.length=ds.length
 | _,_,.nil=>rfl
 | _,_,.cons _ r=>by rw [List.length_cons,List.length_cons,r.length]
theorem Dt.ty {K:C4} {p:Addr} {H:Hp} {v:V} {d:PyData} (h:Dt p H v d):∃T,Ty K H v T:=by
 cases h with
 | non=>exact ⟨_,Ty.non⟩
 | bl b=>exact ⟨_,Ty.bl⟩
 | int i=>exact ⟨_,Ty.int⟩
 | str z=>exact ⟨_,Ty.str⟩
 | lst _ h _=>exact ⟨_,Ty.lst h⟩
 | tup h _=>exact ⟨_,Ty.tup h⟩
 | emp h=>exact ⟨_,Ty.dK h⟩
mutual
theorem Dt.but {p:Addr} {H H':Hp} (hp:∃xs,H p=some (.lst xs)) (b:But p H H'):∀ {v:V} {d:PyData},Dt p H v d->Dt p H' v d
 | _,_,.non=>.non
 | _,_,.bl b=>.bl b
 | _,_,.int i=>.int i
 | _,_,.str z=>.str z
 | _,_,.lst n h r=>.lst n (b _ _ n h) (r.but hp b)
 | _,_,.tup h r=>.tup (b _ _ (λ z=>by obtain ⟨_,e⟩:=hp; rw [z,e] at h; cases h) h) (r.but hp b)
 | _,_,.emp h=>.emp (b _ _ (λ z=>by obtain ⟨_,e⟩:=hp; rw [z,e] at h; cases h) h)
theorem Dts.but {p:Addr} {H H':Hp} (hp:∃xs,H p=some (.lst xs)) (b:But p H H'):∀ {vs:List V} {ds:List PyData},Dts p H vs ds->Dts p H' vs ds
 | _,_,.nil=>.nil
 | _,_,.cons a r=>.cons (a.but hp b) (r.but hp b)
end
mutual
def wt:PyData->Nat
 | .str z=>z.length + 1
 | .list ds=>wts ds + 1
 | .tuple ds=>wts ds + 1
 | _=>1
def wts:List PyData->Nat
 | []=>0
 | d :: r=>wt d + wts r
end
theorem wY (d:PyData):1<=wt d:=by cases d <;> simp only [wt] <;> omega
def bi:PyData->Option (List PyData)
 | .list ds=>some ds
 | .tuple ds=>some ds
 | _=>none
theorem tK {d x:PyData} {ds:List PyData} (h:bi d=some ds) (hx:x∈ds):sizeOf x < sizeOf d:=by
 have:=List.sizeOf_lt_of_mem hx;cases d <;> simp only [bi,Option.some.injEq,reduceCtorEq] at h
 ·subst h; simp; omega
 ·subst h; simp; omega
theorem Dt.row {K:C4} {p:Addr} {H:Hp} {v:V} {d:PyData} (h:Dt p H v d):(bi d=none/\∃T,Ty K H v T/\(T == "list" || T == "tuple")=false)\/∃a xs ds T,bi d=some ds/\v=.ref a/\(H a=some (.lst xs)\/H a=some (.tup xs))/\Dts p H xs ds/\Ty K H v T/\(T == "list" || T == "tuple")=true:=by
 cases h with
 | non=>exact .inl ⟨Y,_,Ty.non,Y⟩
 | bl b=>exact .inl ⟨Y,_,Ty.bl,Y⟩
 | int i=>exact .inl ⟨Y,_,Ty.int,Y⟩
 | str z=>exact .inl ⟨Y,_,Ty.str,Y⟩
 | lst _ h r=>exact .inr ⟨_,_,_,_,Y,Y,.inl h,r,Ty.lst h,Y⟩
 | tup h r=>exact .inr ⟨_,_,_,_,Y,Y,.inr h,r,Ty.tup h,Y⟩
 | emp h=>exact .inl ⟨Y,_,Ty.dK h,Y⟩
def bw (d:PyData) (z:Str) (n:Nat):Bool:=match bi d with
 | some (.str y :: r)=>decide (r.length + 1=n) && decide (y=z)
 | _=>false
section
variable {P:KC} {w:KF} {K:C4} {mg:Str->Option KG} {base:Heap}
inductive spBegins (vs:List V) (H:Hp) (Q:VK) (E_:XK):Prop
 | mk (pp:Addr) (v:V) (d:PyData) (z:Str) (n:Nat) (e_1:vs=[v,.str z,.int n]) (e_2:1<=n) (e_3:Dt pp H v d) (e_4:∀H',Same H H'->Q (.bl (bw d z n)) H'):spBegins vs H Q E_
theorem scbegins:FnScope ["thing","word","many"] ["thing","word","many"] (defScope cR):=⟨Y,Y,Y,by decide +kernel,Y,by decide +kernel,by decide +kernel⟩
theorem qF {f:Addr} {fd:KD} (F:Fun K "begins_with" "begins_with" cR f fd) (B:Blt mg) (bs:mg "str" = none) (DR:Dn P w K mg base "is_row" ["thing"] 1 (kr K)):FnOk P w K mg base CX0 2 f fd ["thing","word","many"] (spBegins):=by
 refine F.ok scbegins (λ vs H Q E h=>?_) (λ cdv A outer s H vs Q E hr h=>?_)
 ·obtain ⟨pp,v,d,z,n,rfl,_⟩:=h
  rfl
 obtain ⟨pp,v,d,z,n,rfl,n1,hd,q⟩:=h;have nd:=scbegins.nd;refine ⟨_,(ad (aI (PW.pt (bQ (aR (aK (aq DR hr rfl ((pv 0)^^^ab) (by decide) rfl rfl) (by intro _; rfl))) (bK (az fg (aO bG rfl B.len PySem.boot_len ((pv 0)^^^ab) (by decide) (by decide) rfl rfl) (pv 2) (aw _))))) (ag (au bD)) av) (ag (au (bL (aO bX rfl B.isi PyProof.Rows.boot_isinstance ((ay ci (pv 0) af (λ _ _=>rfl))^^^((cK (v:=.ty "str") rfl bs PyProof.Rows.boot_str rfl)^^^ab)) (by decide) (by decide) rfl rfl) (bV (be fe (ay ci (pv 0) af (λ _ _=>rfl)) (pv 1) (aw _))))))),?_⟩;rcases hd.row (K:=K) with ⟨e,T,ty,hT⟩ | ⟨a,xs,ds,T,e,rfl,hx,dx,ty,hT⟩
 ·refine ⟨_,Y,v,T,Y,ty,λ H1 s1=>⟨_,Y,?_⟩⟩;rw [hT];have q1:=q H1 s1;unfold bw at q1;rw [e] at q1;exact aV (aV q1)
 refine ⟨_,Y,_,T,Y,ty,λ H1 s1=>⟨_,Y,?_⟩⟩;rw [hT];have sq:SqL K H1 a xs\/SqT K H1 a xs:=hx.imp (λ z=>KJ (s1 _ _ z)) λ z=>KI (s1 _ _ z);refine aF ⟨_,rfl,a,_,rfl,sq,_,rfl,rfl,_,rfl,?_⟩;have q1:=q H1 s1;have len:=dx.length;cases dx with
 | nil =>
  rw [show decide (V.int (([]:List V).length:Int)=V.int (n:Int))=false from decide_eq_false (λ z=>by have:=V.int.inj z; simp at this; omega)];unfold bw at q1;rw [e] at q1;exact aV q1
 | @cons x d1 xs ds hd1 dr =>
  have a0:atI (x :: xs) 0=some x:=aU (E6 _) rfl;have ixs:∀Q':VK,Q' x H1->rIx K (.ref a) (.int 0) H1 Q':=λ Q' h=>sq.elim (λ z=>.inl ⟨a,_,0,x,Y,Y,z,a0,h⟩) (λ z=>.inr (.inl ⟨a,_,0,x,Y,Y,z,a0,h⟩));rw [List.length_cons,List.length_cons] at len
  by_cases hn:ds.length + 1=n
  ·rw [show decide (V.int ((x :: xs).length:Int)=V.int (n:Int))=true from decide_eq_true (by rw [List.length_cons,len,hn])];refine aF ⟨_,rfl,ixs _ ?_⟩;cases hd1 with
   | str y =>
    refine ⟨_,_,_,_,_,Y,(Ty.str (K:=K)).2,Y,dC "str" (by simp [aN]),_,Y,aV ?_⟩;refine ⟨_,Y,ixs _ ⟨_,Y,Y,?_⟩⟩;unfold bw at q1;rw [e] at q1;simp only [hn,decide_true,Bool.true_and] at q1;rw [show decide (V.str y=V.str z)=decide (y=z) from decide_eq_decide.mpr ⟨V.str.inj,congrArg _⟩];exact q1
   | non=>exact ⟨_,_,_,_,_,Y,(Ty.non (K:=K)).2,Y,dC "NoneType" (by simp [aN]),_,Y,aF (by unfold bw at q1; rw [e] at q1; exact q1)⟩
   | bl b=>exact ⟨_,_,_,_,_,Y,(Ty.bl (K:=K)).2,Y,dC "bool" (by simp [aN]),_,Y,aF (by unfold bw at q1; rw [e] at q1; exact q1)⟩
   | int i=>exact ⟨_,_,_,_,_,Y,(Ty.int (K:=K)).2,Y,dC "int" (by simp [aN]),_,Y,aF (by unfold bw at q1; rw [e] at q1; exact q1)⟩
   | lst _ h r=>exact ⟨_,_,_,_,_,Y,(Ty.lst (s1 _ _ h) (K:=K)).2,Y,dC "list" (by simp [aN]),_,Y,aF (by unfold bw at q1; rw [e] at q1; exact q1)⟩
   | tup h r=>exact ⟨_,_,_,_,_,Y,(Ty.tup (s1 _ _ h) (K:=K)).2,Y,dC "tuple" (by simp [aN]),_,Y,aF (by unfold bw at q1; rw [e] at q1; exact q1)⟩
   | emp h=>exact ⟨_,_,_,_,_,Y,(Ty.dK (s1 _ _ h) (K:=K)).2,Y,dC "dict" (by simp [aN]),_,Y,aF (by unfold bw at q1; rw [e] at q1; exact q1)⟩
  ·rw [show decide (V.int ((x :: xs).length:Int)=V.int (n:Int))=false from decide_eq_false (λ z=>hn (by have:=V.int.inj z; rw [List.length_cons,len] at this; omega))];refine aV ?_;have z:bw d z n=false:=by unfold bw;rw [e];cases d1 <;> simp [hn]
   rw [z] at q1;exact q1
def sd1 (k:Kd) (c:Bool):Int:=if c=true then k.h else k.w
def sd2 (k:Kd) (c:Bool):Int:=if c=true then k.w else k.h
theorem kZ (k:Kd) (c:Bool):tI k c=[.int (sd1 k c),.int (sd2 k c)]:=by cases c <;> rfl
def fB (ks:List Kd) (w h:Int) (kv tv xv yv:V):Bool:=dE ks kv tv && aQ xv 0 && aQ yv 0 && (match kv,tv,xv,yv with
 | .int i,.bl c,.int x,.int y=>(match ks[i.toNat]? with
  | some k=>decide (x + sd1 k c<=w) && decide (y + sd2 k c<=h)
  | none=>false)
 | _,_,_,_=>false)
inductive spLiesG (K:C4) (C:Addr) (vs:List V) (H:Hp) (Q:VK) (E_:XK):Prop
 | mk (s:Addr) (b:Int) (ks:List Kd) (w h:Int) (kv tv xv yv:V) (T1 T2 T3 T4:String) (e_1:vs=[.ref s,.int w,.int h,kv,tv,xv,yv]) (e_2:ShopAt C H s b ks) (e_3:Ty K H kv T1) (e_4:Ty K H tv T2) (e_5:Ty K H xv T3) (e_6:Ty K H yv T4) (e_7:∀H',Same H H'->Q (.bl (fB ks w h kv tv xv yv)) H'):spLiesG K C vs H Q E_
theorem scliesG:FnScope ["shop","wide","high","kind","turned","x","y","piece_wide","piece_high"] ["shop","wide","high","kind","turned","x","y"] (defScope eM):=⟨Y,Y,Y,by decide +kernel,Y,by decide +kernel,by decide +kernel⟩
theorem tL {f C:Addr} {fd:KD} (F:Fun K "lies_in" "lies_in" eM f fd) (T:ShopTxt K C) (DW:Dn P w K mg base "is_whole" ["thing","least"] 1 (bU K)) (MI:Mn P w K mg base C "is_lying" ["self","kind","turned"] 2 (de K C)) (MS:Mn P w K mg base C "sides" ["self","kind","turned"] 3 (spSides K C)):FnOk P w K mg base CX0 4 f fd ["shop","wide","high","kind","turned","x","y"] (spLiesG K C):=by
 refine F.ok scliesG (λ vs H Q E h=>?_) (λ cdv A outer s H vs Q E hr h=>?_)
 ·obtain ⟨s,b,ks,w1,h1,kv,tv,xv,yv,T1,T2,T3,T4,rfl,_⟩:=h
  rfl
 obtain ⟨s,b,ks,w1,h1',kv,tv,xv,yv,T1,T2,T3,T4,rfl,S,t1,t2,t3,t4,q⟩:=h;have nd:=scliesG.nd;have hr1:=hr.mono (show 1<=3 by decide);have hr2:=hr.mono (show 2<=3 by decide);refine ⟨_,(ad (aI (PW.pt (bQ (aR (aK (kB (pv 0) T.cl MI hr2 ((pv 3)^^^((pv 4)^^^ab))) (by intro _; rfl))) (bQ (aR (aK (aq DW hr1 rfl ((pv 5)^^^(af^^^ab)) (by decide) rfl rfl) (by intro _; rfl))) (bK (aR (aK (aq DW hr1 rfl ((pv 6)^^^(af^^^ab)) (by decide) rfl rfl) (by intro _; rfl))))))) (ag (au bD)) av) (ad (bm (kB (pv 0) T.cl MS hr ((pv 3)^^^((pv 4)^^^ab))) (aS rfl (ah (ai (i:=7) nd rfl (Or.inl rfl)) (ah (ai (i:=8) nd rfl (Or.inl rfl)) aG))) rfl rfl rfl) (ag (au (bL (be cM (aA aM (pv 5) (pv 7)) (pv 1) (aw _)) (bV (be cM (aA aM (pv 6) (pv 8)) (pv 2) (aw _)))))))),?_⟩;obtain ⟨dx,r,rs,h1,h2,h3⟩:=id S;refine ⟨_,Y,s,dx,_,Y,h1,(bH _ _ (by decide +kernel) (by decide +kernel)),_,Y,_,Y,s,b,ks,kv,tv,T1,T2,Y,S,t1,t2,_,Y,?_⟩;cases ly:dE ks kv tv with
 | false =>
  have q1:=q H (Same.refl _);unfold fB at q1;rw [ly] at q1;exact aV (aV q1)
 | true =>
 refine aF ⟨_,rfl,xv,T3,0,rfl,t3,_,rfl,?_⟩;cases hx:aQ xv 0 with
 | false =>
  have q1:=q H (Same.refl _);unfold fB at q1;rw [ly,hx] at q1;exact aV (aV q1)
 | true =>
 refine aF ⟨_,rfl,yv,T4,0,rfl,t4,_,rfl,?_⟩;cases hy:aQ yv 0 with
 | false =>
  have q1:=q H (Same.refl _);unfold fB at q1;rw [ly,hx,hy] at q1;exact aV q1
 | true =>
 refine aF ?_;obtain ⟨i,c,k,rfl,rfl,i0,hk⟩:=iY ly;obtain ⟨x1,rfl⟩:∃i,xv=.int i:=by cases xv <;> first | exact ⟨_,Y⟩ | cases hx
 obtain ⟨y1,rfl⟩:∃i,yv=.int i:=by cases yv <;> first | exact ⟨_,Y⟩ | cases hy
 refine ⟨_,Y,s,dx,_,Y,h1,(bH _ _ (by decide +kernel) (by decide +kernel)),_,Y,_,Y,s,b,ks,.int i,.bl c,T1,T2,Y,S,t1,t2,ly,λ i' c' k' p e1 e2 hk' _ hp=>?_⟩;cases e1;cases e2;rw [hk] at hk';cases hk';rw [kZ];have q1:=q _ (KH hp (o:=.tup [.int (sd1 k c),.int (sd2 k c)]));refine ⟨p,_,Y,KI ae,Y,_,_,Y,_,_,Y,Y,?_⟩;refine ⟨_,Y,_,Y,_,_,Y,Y,_,Y,_,_,Y,Y,_,Y,?_⟩;unfold fB at q1;rw [ly,hx,hy] at q1;simp only [hk,Bool.true_and] at q1;refine cV (λ cc=>?_) (λ cc=>?_)
 ·refine ⟨_,Y,_,Y,_,_,Y,Y,_,Y,_,_,Y,Y,?_⟩;rw [cc,Bool.true_and] at q1;exact q1
 ·rw [show decide (x1 + sd1 k c<=w1)=false by simpa using cc,Bool.false_and] at q1;exact q1
end
theorem Dts.one {p:Addr} {H:Hp} {xs:List V} {ds:List PyData} {n:Nat} (h:Dts p H xs ds) (hl:ds.length=n + 1):∃x d xs' ds',xs=x :: xs'/\ds=d :: ds'/\Dt p H x d/\Dts p H xs' ds'/\ds'.length=n:=by
 cases h with
 | nil=>cases hl
 | cons a r=>exact ⟨_,_,_,_,Y,Y,a,r,Nat.succ.inj hl⟩
theorem Dts.zero {p:Addr} {H:Hp} {xs:List V} {ds:List PyData} (h:Dts p H xs ds) (hl:ds.length=0):xs=[]/\ds=[]:=by
 cases h with
 | nil=>exact ⟨Y,Y⟩
 | cons a r=>cases hl
theorem Dts.three {p:Addr} {H:Hp} {xs:List V} {ds:List PyData} (h:Dts p H xs ds) (hl:ds.length=3):∃x1 x2 x3 d1 d2 d3,xs=[x1,x2,x3]/\ds=[d1,d2,d3]/\Dt p H x1 d1/\Dt p H x2 d2/\Dt p H x3 d3:=by obtain ⟨x1,d1,xs,ds,rfl,rfl,h1,h,hl⟩:=h.one hl;obtain ⟨x2,d2,xs,ds,rfl,rfl,h2,h,hl⟩:=h.one hl;obtain ⟨x3,d3,xs,ds,rfl,rfl,h3,h,hl⟩:=h.one hl;obtain ⟨rfl,rfl⟩:=h.zero hl;exact ⟨_,_,_,_,_,_,Y,Y,h1,h2,h3⟩
theorem Dts.four {p:Addr} {H:Hp} {xs:List V} {ds:List PyData} (h:Dts p H xs ds) (hl:ds.length=4):∃x1 x2 x3 x4 d1 d2 d3 d4,xs=[x1,x2,x3,x4]/\ds=[d1,d2,d3,d4]/\Dt p H x1 d1/\Dt p H x2 d2/\Dt p H x3 d3/\Dt p H x4 d4:=by obtain ⟨x1,d1,xs,ds,rfl,rfl,h1,h,hl⟩:=h.one hl;obtain ⟨x2,x3,x4,d2,d3,d4,rfl,rfl,h2,h3,h4⟩:=h.three hl;exact ⟨_,_,_,_,_,_,_,_,Y,Y,h1,h2,h3,h4⟩
section
variable {P:KC} {w:KF} {K:C4} {mg:Str->Option KG} {base:Heap}
structure TrC (K:C4) (mg:Str->Option Value) (wa:Addr):Prop where
 dn:∃t,mg "DOWN" = some (.str "down" t)
 rs:∃t,mg "REST" = some (.str "rest" t)
 pc:∃t,mg "PIECE" = some (.str "piece" t)
 n1:∃t,mg "THINGS_OF_A_REST" = some (.int 1 t)
 n5:∃t,mg "THINGS_OF_A_PIECE" = some (.int 5 t)
 n4:∃t,mg "THINGS_OF_A_CUT" = some (.int 4 t)
 wy:mg "WAYS" = some (.ref wa)
 wq:∀H,SqT K H wa [.str "down",.str "across"]
def vH (b side:Int):PyData->Bool
 | .int p=>decide (1<=p) && decide (p + b < side)
 | _=>false
def fk (b side:Int) (d:PyData):Bool:=match bi d with
 | some [_,p,_,_]=>vH b side p
 | _=>false
def isC (b w h:Int) (d:PyData):Bool:=if bw d "down" 4=true then fk b w d else if bw d "across" 4=true then fk b h d else false
def lc (ks:List Kd) (w h:Int):PyData->PyData->PyData->PyData->Bool
 | .int i,.bool c,.int x,.int y=>fB ks w h (.int i) (.bl c) (.int x) (.int y)
 | _,_,_,_=>false
def isL (ks:List Kd) (w h:Int) (d:PyData):Bool:=if bw d "piece" 5=true then (match bi d with
 | some [_,k,t,x,y]=>lc ks w h k t x y
 | _=>false) else bw d "rest" 1
inductive spParts2 (vs:List V) (H:Hp) (Q:VK) (E_:XK):Prop
 | mk (b w h p:Int) (t:Addr) (dn:Bool) (e_1:vs=[.int b, .ref t, .str (if dn=true then "down" else "across"), .int p]) (e_2:H t=some (.tup [.int w, .int h])) (e_3:∀ (u t1 t2:Addr) (H':Hp), H' u=some (.tup [.ref t1, .ref t2])->H' t1=some (.tup (if dn=true then [.int p, .int h] else [.int w, .int p]))->H' t2=some (.tup (if dn=true then [.int (w - p - b), .int h] else [.int w, .int (h - p - b)]))->Same H H'->Q (.ref u) H'):spParts2 vs H Q E_
inductive spCut (vs:List V) (H:Hp) (Q:VK) (E_:XK):Prop
 | mk (pp:Addr) (b x y w h:Int) (sp:Addr) (v:V) (d:PyData) (e_1:vs=[.int b,.ref sp]) (e_2:H sp=some (.tup [.int x,.int y,.int w,.int h,v])) (e_3:Dt pp H v d) (e_4:∀H',Same H H'->Q (.bl (isC b w h d)) H'):spCut vs H Q E_
inductive spLeaf (C:Addr) (vs:List V) (H:Hp) (Q:VK) (E_:XK):Prop
 | mk (pp:Addr) (b' x y w h:Int) (s sp:Addr) (ks:List Kd) (v:V) (d:PyData) (e_1:vs=[.ref s,.ref sp]) (e_2:ShopAt C H s b' ks) (e_3:H sp=some (.tup [.int x,.int y,.int w,.int h,v])) (e_4:Dt pp H v d) (e_5:∀H',Same H H'->Q (.bl (isL ks w h d)) H'):spLeaf C vs H Q E_
inductive spBehind (vs:List V) (H:Hp) (Q:VK) (E_:XK):Prop
 | mk (b x y w h p:Int) (sp a:Addr) (dn:Bool) (l r:V) (e_1:vs=[.int b, .ref sp]) (e_2:H sp=some (.tup [.int x, .int y, .int w, .int h, .ref a])) (e_3:(H a=some (.lst [.str (if dn=true then "down" else "across"), .int p, l, r])\/H a=some (.tup [.str (if dn=true then "down" else "across"), .int p, l, r]))) (e_4:∀ (u t1 t2:Addr) (H':Hp), H u=none->H' u=some (.lst [.ref t1, .ref t2])->H' t1=some (.tup (if dn=true then [.int x, .int y, .int p, .int h, l] else [.int x, .int y, .int w, .int p, l]))->H' t2=some (.tup (if dn=true then [.int (x + (p + b)), .int y, .int (w - p - b), .int h, r] else [.int x, .int (y + (p + b)), .int w, .int (h - p - b), r]))->Same H H'->Q (.ref u) H'):spBehind vs H Q E_
theorem scparts2:FnScope ["blade","part","way","p","wide","high"] ["blade","part","way","p"] (defScope eN):=⟨Y,Y,Y,by decide +kernel,Y,by decide +kernel,by decide +kernel⟩
theorem qG {f wa:Addr} {fd:KD} (F:Fun K "cut_parts" "cut_parts" eN f fd) (Z:TrC K mg wa):FnOk P w K mg base CX0 1 f fd ["blade","part","way","p"] (spParts2):=by
 refine F.ok scparts2 (λ vs H Q E h=>?_) (λ cdv A outer s H vs Q E hr h=>?_)
 ·obtain ⟨b,w1,h1,p1,t,dn,rfl,_⟩:=h
  rfl
 obtain ⟨b,w1,h1,p1,t,dn,rfl,ht,q⟩:=h;have nd:=scparts2.nd;obtain ⟨tdn,hdn⟩:=Z.dn;obtain ⟨trs,hrs⟩:=Z.rs;obtain ⟨tpc,hpc⟩:=Z.pc;obtain ⟨tn1,hn1⟩:=Z.n1;obtain ⟨tn5,hn5⟩:=Z.n5;obtain ⟨tn4,hn4⟩:=Z.n4;refine ⟨_,(ad (bm (pv 1) (aS rfl (ah (ai (i:=4) nd rfl (Or.inl rfl)) (ah (ai (i:=5) nd rfl (Or.inl rfl)) aG))) rfl rfl rfl) (ad (aI (az fe (pv 2) (aL (v:=.str "down") rfl hdn ⟨tdn,Y⟩) (aw _)) (ag (au (aB ((aB ((pv 3)^^^((pv 5)^^^ab)))^^^((aB ((aA dX (aA dX (pv 4) (pv 3)) (pv 0))^^^((pv 5)^^^ab)))^^^ab))))) av) (ag (au (aB ((aB ((pv 4)^^^((pv 3)^^^ab)))^^^((aB ((pv 4)^^^((aA dX (aA dX (pv 5) (pv 3)) (pv 0))^^^ab)))^^^ab))))))),?_⟩;refine ⟨_,Y,t,_,Y,KI ht,Y,_,_,Y,_,_,Y,Y,?_⟩;cases dn with
 | true =>
  refine ⟨_,Y,Y,_,Y,aV ?_⟩;refine ⟨_,Y,_,Y,zS2,λ t1 h1'=>?_⟩;have sa:Same H (upd H t1 (.tup [.int p1,.int h1])):=KH h1';have ka:(upd H t1 (.tup [.int p1,.int h1])) t1=some (.tup [.int p1,.int h1]):=ae;generalize upd H t1 (.tup [.int p1,.int h1])=Ha at sa ka ⊢;refine ⟨_,Y,_,Y,_,_,Y,Y,_,Y,_,_,Y,Y,_,Y,zS2,λ t2 h2'=>?_⟩;have sb:Same Ha (upd Ha t2 (.tup [.int (w1 - p1 - b),.int h1])):=KH h2';have kb:(upd Ha t2 (.tup [.int (w1 - p1 - b),.int h1])) t2=some (.tup [.int (w1 - p1 - b),.int h1]):=ae;generalize upd Ha t2 (.tup [.int (w1 - p1 - b),.int h1])=Hb at sb kb ⊢;refine ⟨zS2,λ u hu=>?_⟩;have sc:Same Hb (upd Hb u (.tup [.ref t1,.ref t2])):=KH hu;have kc:(upd Hb u (.tup [.ref t1,.ref t2])) u=some (.tup [.ref t1,.ref t2]):=ae;generalize upd Hb u (.tup [.ref t1,.ref t2])=Hc at sc kc ⊢;exact q u t1 t2 Hc kc (sc _ _ (sb _ _ ka)) (sc _ _ kb) ((sa.trans sb).trans sc)
 | false =>
  refine ⟨_,Y,Y,_,Y,aF ?_⟩;refine ⟨_,Y,_,Y,zS2,λ t1 h1'=>?_⟩;have sa:Same H (upd H t1 (.tup [.int w1,.int p1])):=KH h1';have ka:(upd H t1 (.tup [.int w1,.int p1])) t1=some (.tup [.int w1,.int p1]):=ae;generalize upd H t1 (.tup [.int w1,.int p1])=Ha at sa ka ⊢;refine ⟨_,Y,_,Y,_,Y,_,_,Y,Y,_,Y,_,_,Y,Y,zS2,λ t2 h2'=>?_⟩;have sb:Same Ha (upd Ha t2 (.tup [.int w1,.int (h1 - p1 - b)])):=KH h2';have kb:(upd Ha t2 (.tup [.int w1,.int (h1 - p1 - b)])) t2=some (.tup [.int w1,.int (h1 - p1 - b)]):=ae;generalize upd Ha t2 (.tup [.int w1,.int (h1 - p1 - b)])=Hb at sb kb ⊢;refine ⟨zS2,λ u hu=>?_⟩;have sc:Same Hb (upd Hb u (.tup [.ref t1,.ref t2])):=KH hu;have kc:(upd Hb u (.tup [.ref t1,.ref t2])) u=some (.tup [.ref t1,.ref t2]):=ae;generalize upd Hb u (.tup [.ref t1,.ref t2])=Hc at sc kc ⊢;exact q u t1 t2 Hc kc (sc _ _ (sb _ _ ka)) (sc _ _ kb) ((sa.trans sb).trans sc)
theorem ii {d:PyData} {z:Str} {n:Nat} (h:bw d z n=true):∃r,bi d=some (.str z :: r)/\r.length + 1=n:=by
 unfold bw at h
 split at h
 ·rename_i y r e
  rw [Bool.and_eq_true] at h;have:=C0 h.2;subst this;exact ⟨r,e,C0 h.1⟩
 ·cases h
theorem Dt.ref_row {p:Addr} {H:Hp} {v:V} {d:PyData} {ds:List PyData} (h:Dt p H v d) (e:bi d=some ds):∃a xs,v=.ref a/\(H a=some (.lst xs)\/H a=some (.tup xs))/\Dts p H xs ds:=by
 cases h <;> simp only [bi,Option.some.injEq,reduceCtorEq] at e
 ·subst e; exact ⟨_,_,Y,.inl ‹_›,‹_›⟩
 ·subst e; exact ⟨_,_,Y,.inr ‹_›,‹_›⟩
theorem ixR {H H1:Hp} {a:Addr} {xs:List V} (s1:Same H H1) (hx:H a=some (.lst xs)\/H a=some (.tup xs)) {i:Int} {x:V} (e:atI xs i=some x) {Q':VK} (h:Q' x H1):rIx K (.ref a) (.int i) H1 Q' :=
 hx.elim (λ z=>.inl ⟨a,_,i,x,Y,Y,KJ (s1 _ _ z),e,h⟩) (λ z=>.inr (.inl ⟨a,_,i,x,Y,Y,KI (s1 _ _ z),e,h⟩))
theorem sccut:FnScope ["blade","spot","tree","way","side"] ["blade","spot"] (defScope jG):=⟨Y,Y,Y,by decide +kernel,Y,by decide +kernel,by decide +kernel⟩
theorem xS {f wa:Addr} {fd:KD} (F:Fun K "is_cut" "is_cut" jG f fd) (Z:TrC K mg wa) (DB:Dn P w K mg base "begins_with" ["thing","word","many"] 2 spBegins) (DW:Dn P w K mg base "is_whole" ["thing","least"] 1 (bU K)):FnOk P w K mg base CX0 3 f fd ["blade","spot"] (spCut):=by
 refine F.ok sccut (λ vs H Q E h=>?_) (λ cdv A outer s H vs Q E hr h=>?_)
 ·obtain ⟨pp,b,x1,y1,w1,h1,sp,v,d,rfl,_⟩:=h
  rfl
 obtain ⟨pp,b,x0',y0',w1,h1,sp,v,d,rfl,hsp,hd,q⟩:=h;have nd:=sccut.nd;obtain ⟨tdn,hdn⟩:=Z.dn;obtain ⟨trs,hrs⟩:=Z.rs;obtain ⟨tpc,hpc⟩:=Z.pc;obtain ⟨tn1,hn1⟩:=Z.n1;obtain ⟨tn5,hn5⟩:=Z.n5;obtain ⟨tn4,hn4⟩:=Z.n4;have hr1:=hr.mono (show 1<=2 by decide);refine ⟨_,(ad (@ax _ _ 2 _ _ _ _ nd rfl (Or.inl rfl) (ay ix_tup (pv 1) af (λ _ _=>rfl)) rfl (Or.inl rfl)) (ad (bE E5 rfl (lN (aL (v:=.ref wa) rfl Z.wy rfl)) (ai (i:=3) nd rfl (Or.inl rfl)) (ag (aI (aK (aq DB hr rfl ((pv 2)^^^((pv 3)^^^((aL (v:=.int 4) rfl hn4 ⟨tn4,Y⟩)^^^ab))) (by decide) rfl rfl) (by intro _; rfl)) (ad (@ax _ _ 4 _ _ _ _ nd rfl (Or.inl rfl) (gQ (az fe (pv 3) (aL (v:=.str "down") rfl hdn ⟨tdn,Y⟩) (aw _)) (ay ix_tup (pv 1) af (λ _ _=>rfl)) (ay ix_tup (pv 1) af (λ _ _=>rfl))) rfl (Or.inl rfl)) (ag (au (bL (aq DW hr1 rfl ((ay ci (pv 2) af (λ _ _=>rfl))^^^(af^^^ab)) (by decide) rfl rfl) (bV (be iG (aA aM (ay ci (pv 2) af (λ _ _=>rfl)) (pv 0)) (pv 4) (aw _))))))) av)) (by intro _; rfl)) (ag (au bD)))),?_⟩;refine ⟨_,Y,sp,_,4,_,Y,Y,KI hsp,Y,?_⟩;refine ⟨wa, Y, ⟨_, Z.wq H⟩, jj (xs:=[.str "down", .str "across"]) (λ i σ H'=>(∃v3 v4, σ=[some (.int b), some (.ref sp), some v, v3, v4])/\Same H H'/\(1<=i->bw d "down" 4=false)/\(2<=i->bw d "across" 4=false)) ⟨⟨_, _, Y⟩, Same.refl _, λ z=>absurd z (by decide), λ z=>absurd z (by decide)⟩ (λ i σ H' _ _=>Z.wq H') ?_ ?_⟩
 ·rintro i y σ H1 hi ⟨⟨v3,v4,rfl⟩,s1,g1,g2⟩
  match i,hi with
  | 0,hi =>
   cases hi;refine ⟨_,Y,_,Y,pp,v,d,"down",4,Y,by decide,hd.same s1,λ H2 s12=>⟨_,Y,?_⟩⟩;have s2:=s1.trans s12;refine cV (λ hb=>?_) (λ hb=>⟨⟨_,_,Y⟩,s2,λ _=>by simpa using hb,λ z=>absurd z (by decide)⟩);obtain ⟨r0,er,rl⟩:=ii hb;obtain ⟨a,xs,rfl,hx,dx⟩:=hd.ref_row er;cases dx with
   | @cons x0 _ xs0 _ hd0 dx =>
   obtain ⟨x1,x2,x3,d1,d2,d3,rfl,rfl,hd1,hd2,hd3⟩:=dx.three (by simpa using rl);have sp2:=s2 _ _ hsp;have co:fk b w1 d=vH b w1 d1:=by unfold fk;rw [er]
   refine ⟨_,Y,Y,_,Y,aV ⟨_,Y,sp,_,2,_,Y,Y,KI sp2,Y,?_⟩⟩;have at1:atI [x0,x1,x2,x3] 1=some x1:=aU (by decide) rfl;obtain ⟨T1,t1⟩:=(hd1.same s2).ty (K:=K);refine ⟨_,Y,ixR s2 hx at1 ⟨x1,T1,1,Y,t1,_,Y,?_⟩⟩;have q1:=q H2 s2;unfold isC at q1;rw [if_pos hb,co] at q1;cases hd1 with
   | int p =>
    have q1:Q (.bl (decide (1<=p) && decide (p + b < w1))) H2:=q1;refine cV (λ cc=>?_) (λ cc=>?_)
    ·have cc:decide (1<=p)=true:=cc;refine ⟨_,Y,ixR s2 hx at1 ⟨_,Y,_,_,Y,Y,_,Y,_,_,Y,Y,?_⟩⟩;rw [cc,Bool.true_and] at q1;exact q1
    ·have cc:¬ decide (1<=p)=true:=cc;rw [show decide (1<=p)=false by simpa using cc,Bool.false_and] at q1;exact q1
   | _=>exact aF q1
  | 1,hi =>
   cases hi;have hb0:=g1 (by decide);refine ⟨_,Y,_,Y,pp,v,d,"across",4,Y,by decide,hd.same s1,λ H2 s12=>⟨_,Y,?_⟩⟩;have s2:=s1.trans s12;refine cV (λ hb=>?_) (λ hb=>⟨⟨_,_,Y⟩,s2,λ _=>hb0,λ _=>by simpa using hb⟩);obtain ⟨r0,er,rl⟩:=ii hb;obtain ⟨a,xs,rfl,hx,dx⟩:=hd.ref_row er;cases dx with
   | @cons x0 _ xs0 _ hd0 dx =>
   obtain ⟨x1,x2,x3,d1,d2,d3,rfl,rfl,hd1,hd2,hd3⟩:=dx.three (by simpa using rl);have sp2:=s2 _ _ hsp;have co:fk b h1 d=vH b h1 d1:=by unfold fk;rw [er]
   refine ⟨_,Y,Y,_,Y,aF ⟨_,Y,sp,_,3,_,Y,Y,KI sp2,Y,?_⟩⟩;have at1:atI [x0,x1,x2,x3] 1=some x1:=aU (by decide) rfl;obtain ⟨T1,t1⟩:=(hd1.same s2).ty (K:=K);refine ⟨_,Y,ixR s2 hx at1 ⟨x1,T1,1,Y,t1,_,Y,?_⟩⟩;have q1:=q H2 s2;unfold isC at q1;rw [if_neg (by rw [hb0]; decide),if_pos hb,co] at q1;cases hd1 with
   | int p =>
    have q1:Q (.bl (decide (1<=p) && decide (p + b < h1))) H2:=q1;refine cV (λ cc=>?_) (λ cc=>?_)
    ·have cc:decide (1<=p)=true:=cc;refine ⟨_,Y,ixR s2 hx at1 ⟨_,Y,_,_,Y,Y,_,Y,_,_,Y,Y,?_⟩⟩;rw [cc,Bool.true_and] at q1;exact q1
    ·have cc:¬ decide (1<=p)=true:=cc;rw [show decide (1<=p)=false by simpa using cc,Bool.false_and] at q1;exact q1
   | _=>exact aF q1
 ·rintro σ H1 ⟨⟨v3,v4,rfl⟩,s1,g1,g2⟩;have q1:=q H1 s1;unfold isC at q1;rw [if_neg (by rw [g1 (by decide)]; decide),if_neg (by rw [g2 (by decide)]; decide)] at q1;exact q1
theorem oW {C:Addr} {H H':Hp} {s:Addr} {b:Int} {ks:List Kd} (k:Same H H') (S:ShopAt C H s b ks):ShopAt C H' s b ks:=S.keep (λ c o e=>k _ _ e) (λ c C' d fs e=>k _ _ e)
theorem scleaf:FnScope ["shop","spot","x","y","wide","high","tree"] ["shop","spot"] (defScope gG):=⟨Y,Y,Y,by decide +kernel,Y,by decide +kernel,by decide +kernel⟩
theorem vI {f wa C:Addr} {fd:KD} (F:Fun K "is_leaf" "is_leaf" gG f fd) (Z:TrC K mg wa) (DB:Dn P w K mg base "begins_with" ["thing","word","many"] 2 spBegins) (DL:Dn P w K mg base "lies_in" ["shop","wide","high","kind","turned","x","y"] 4 (spLiesG K C)):FnOk P w K mg base CX0 5 f fd ["shop","spot"] (spLeaf C):=by
 refine F.ok scleaf (λ vs H Q E h=>?_) (λ cdv A outer s H vs Q E hr h=>?_)
 ·obtain ⟨pp,b',x1,y1,w1,h1,s,sp,ks,v,d,rfl,_⟩:=h
  rfl
 obtain ⟨pp,b',x0',y0',w1,h1,s,sp,ks,v,d,rfl,S,hsp,hd,q⟩:=h;have nd:=scleaf.nd;obtain ⟨tdn,hdn⟩:=Z.dn;obtain ⟨trs,hrs⟩:=Z.rs;obtain ⟨tpc,hpc⟩:=Z.pc;obtain ⟨tn1,hn1⟩:=Z.n1;obtain ⟨tn5,hn5⟩:=Z.n5;obtain ⟨tn4,hn4⟩:=Z.n4;have hr2:=hr.mono (show 2<=4 by decide);refine ⟨_,(ad (bm (pv 1) (aS rfl (ah (ai (i:=2) nd rfl (Or.inl rfl)) (ah (ai (i:=3) nd rfl (Or.inl rfl)) (ah (ai (i:=4) nd rfl (Or.inl rfl)) (ah (ai (i:=5) nd rfl (Or.inl rfl)) (ah (ai (i:=6) nd rfl (Or.inl rfl)) aG)))))) rfl rfl rfl) (ad (aI (aK (aq DB hr2 rfl ((pv 6)^^^((aL (v:=.str "piece") rfl hpc ⟨tpc,Y⟩)^^^((aL (v:=.int 5) rfl hn5 ⟨tn5,Y⟩)^^^ab))) (by decide) rfl rfl) (by intro _; rfl)) (ag (au (aq DL hr rfl ((pv 0)^^^((pv 4)^^^((pv 5)^^^((ay ci (pv 6) af (λ _ _=>rfl))^^^((ay ci (pv 6) af (λ _ _=>rfl))^^^((ay ci (pv 6) af (λ _ _=>rfl))^^^((ay ci (pv 6) af (λ _ _=>rfl))^^^ab))))))) (by decide) rfl rfl))) av) (ag (au (aq DB hr2 rfl ((pv 6)^^^((aL (v:=.str "rest") rfl hrs ⟨trs,Y⟩)^^^((aL (v:=.int 1) rfl hn1 ⟨tn1,Y⟩)^^^ab))) (by decide) rfl rfl))))),?_⟩;refine ⟨_,Y,sp,_,Y,KI hsp,Y,_,_,Y,_,_,Y,_,_,Y,_,_,Y,_,_,Y,Y,?_⟩;refine ⟨_,Y,pp,v,d,"piece",5,Y,by decide,hd,λ H1 s1=>⟨_,Y,?_⟩⟩;refine cV (λ hb=>?_) (λ hb=>?_)
 ·obtain ⟨r0,er,rl⟩:=ii hb;obtain ⟨a,xs,rfl,hx,dx⟩:=hd.ref_row er;cases dx with
  | @cons x0 _ xs0 _ hd0 dx =>
  obtain ⟨x1,x2,x3,x4,d1,d2,d3,d4,rfl,rfl,hd1,hd2,hd3,hd4⟩:=dx.four (by simpa using rl);have a1:atI [x0,x1,x2,x3,x4] 1=some x1:=aU (by decide) rfl;have a2:atI [x0,x1,x2,x3,x4] 2=some x2:=aU (by decide) rfl;have a3:atI [x0,x1,x2,x3,x4] 3=some x3:=aU (by decide) rfl;have a4:atI [x0,x1,x2,x3,x4] 4=some x4:=aU (by decide) rfl;obtain ⟨T1,t1⟩:=(hd1.same s1).ty (K:=K);obtain ⟨T2,t2⟩:=(hd2.same s1).ty (K:=K);obtain ⟨T3,t3⟩:=(hd3.same s1).ty (K:=K);obtain ⟨T4,t4⟩:=(hd4.same s1).ty (K:=K);refine ⟨_,Y,_,Y,_,Y,_,Y,ixR s1 hx a1 ⟨_,Y,ixR s1 hx a2 ⟨_,Y,ixR s1 hx a3 ⟨_,Y,ixR s1 hx a4 ?_⟩⟩⟩⟩;refine ⟨s,b',ks,w1,h1,x1,x2,x3,x4,T1,T2,T3,T4,Y,oW s1 S,t1,t2,t3,t4,λ H2 s2=>?_⟩;have q1:=q H2 (s1.trans s2);unfold isL at q1;rw [if_pos hb,er] at q1;have e:lc ks w1 h1 d1 d2 d3 d4=fB ks w1 h1 x1 x2 x3 x4:=by
   cases hd1 with
   | int i=>cases hd2 with
    | bl c=>cases hd3 with
     | int x=>cases hd4 with
      | int y=>rfl
      | _=>simp [lc,fB,aQ]
     | _=>simp [lc,fB,aQ]
    | _=>simp [lc,fB,dE]
   | _=>simp [lc,fB,dE]
  have q1:Q (.bl (lc ks w1 h1 d1 d2 d3 d4)) H2:=q1;rw [e] at q1;exact q1
 ·refine ⟨_,Y,pp,v,d,"rest",1,Y,by decide,hd.same s1,λ H2 s2=>?_⟩;have q1:=q H2 (s1.trans s2);unfold isL at q1;rw [if_neg hb] at q1;exact q1
theorem scbehind:FnScope ["blade","spot","x","y","wide","high","tree","way","p","first","second","wide_ahead","high_ahead","wide_behind","high_behind","step","far_x","far_y"] ["blade","spot"] (defScope cx):=⟨Y,Y,Y,by decide +kernel,Y,by decide +kernel,by decide +kernel⟩
theorem qH {f wa:Addr} {fd:KD} (F:Fun K "spots_behind" "spots_behind" cx f fd) (Z:TrC K mg wa) (DP:Dn P w K mg base "cut_parts" ["blade","part","way","p"] 1 spParts2):FnOk P w K mg base CX0 2 f fd ["blade","spot"] (spBehind):=by
 refine F.ok scbehind (λ vs H Q E h=>?_) (λ cdv A outer s H vs Q E hr h=>?_)
 ·obtain ⟨b,x1,y1,w1,h1,p1,sp,a,dn,l,r,rfl,_⟩:=h
  rfl
 obtain ⟨b,x1,y1,w1,h1,p1,sp,a,dn,l,r,rfl,hsp,ha,q⟩:=h;have nd:=scbehind.nd;obtain ⟨tdn,hdn⟩:=Z.dn;obtain ⟨trs,hrs⟩:=Z.rs;obtain ⟨tpc,hpc⟩:=Z.pc;obtain ⟨tn1,hn1⟩:=Z.n1;obtain ⟨tn5,hn5⟩:=Z.n5;obtain ⟨tn4,hn4⟩:=Z.n4;refine ⟨_,(ad (bm (pv 1) (aS rfl (ah (ai (i:=2) nd rfl (Or.inl rfl)) (ah (ai (i:=3) nd rfl (Or.inl rfl)) (ah (ai (i:=4) nd rfl (Or.inl rfl)) (ah (ai (i:=5) nd rfl (Or.inl rfl)) (ah (ai (i:=6) nd rfl (Or.inl rfl)) aG)))))) rfl rfl rfl) (ad (bm (pv 6) (lZ rfl (ah (ai (i:=7) nd rfl (Or.inl rfl)) (ah (ai (i:=8) nd rfl (Or.inl rfl)) (ah (ai (i:=9) nd rfl (Or.inl rfl)) (ah (ai (i:=10) nd rfl (Or.inl rfl)) aG))))) rfl rfl rfl) (ad (bm (aq DP hr rfl ((pv 0)^^^((aB ((pv 4)^^^((pv 5)^^^ab)))^^^((pv 7)^^^((pv 8)^^^ab)))) (by decide) rfl rfl) (aS rfl (ah (aS rfl (ah (ai (i:=11) nd rfl (Or.inl rfl)) (ah (ai (i:=12) nd rfl (Or.inl rfl)) aG))) (ah (aS rfl (ah (ai (i:=13) nd rfl (Or.inl rfl)) (ah (ai (i:=14) nd rfl (Or.inl rfl)) aG))) aG))) rfl rfl rfl) (ad (@ax _ _ 15 _ _ _ _ nd rfl (Or.inl rfl) (aA aM (pv 8) (pv 0)) rfl (Or.inl rfl)) (ad (bm (gQ (az fe (pv 7) (aL (v:=.str "down") rfl hdn ⟨tdn,Y⟩) (aw _)) (aB ((aA aM (pv 2) (pv 15))^^^((pv 3)^^^ab))) (aB ((pv 2)^^^((aA aM (pv 3) (pv 15))^^^ab)))) (aS rfl (ah (ai (i:=16) nd rfl (Or.inl rfl)) (ah (ai (i:=17) nd rfl (Or.inl rfl)) aG))) rfl rfl rfl) (ag (au (bY ((aB ((pv 2)^^^((pv 3)^^^((pv 11)^^^((pv 12)^^^((pv 9)^^^ab))))))^^^((aB ((pv 16)^^^((pv 17)^^^((pv 13)^^^((pv 14)^^^((pv 10)^^^ab))))))^^^ab)))))))))),?_⟩;refine ⟨_,Y,sp,_,Y,KI hsp,Y,_,_,Y,_,_,Y,_,_,Y,_,_,Y,_,_,Y,Y,?_⟩;have sq:SqL K H a [.str (if dn=true then "down" else "across"),.int p1,l,r]\/SqT K H a [.str (if dn=true then "down" else "across"),.int p1,l,r]:=ha.imp (λ z=>KJ z) λ z=>KI z;refine ⟨_,Y,a,_,Y,sq,Y,_,_,Y,_,_,Y,_,_,Y,_,_,Y,Y,?_⟩;clear sq;cases dn with
 | true =>
  refine ⟨_,Y,_,Y,_,Y,zS2,λ tp htp=>?_⟩;have sa:Same H (upd H tp (.tup [.int w1,.int h1])):=KH htp;have ka:(upd H tp (.tup [.int w1,.int h1])) tp=some (.tup [.int w1,.int h1]):=ae;generalize upd H tp (.tup [.int w1,.int h1])=Ha at sa ka ⊢;refine ⟨_,Y,_,Y,b,w1,h1,p1,tp,true,Y,ka,λ u t1 t2 Hb ku k1 k2 sb=>?_⟩;refine ⟨u,_,Y,KI ku,Y,_,_,Y,t1,_,Y,KI k1,Y,_,_,Y,_,_,Y,Y,_,_,Y,t2,_,Y,KI k2,Y,_,_,Y,_,_,Y,Y,Y,?_⟩;refine bo (λ σ' H'=>σ'=[some (.int b), some (.ref sp), some (.int x1), some (.int y1), some (.int w1), some (.int h1), some (.ref a), some (.str "down"), some (.int p1), some l, some r, some (.int p1), some (.int h1), some (.int (w1 - p1 - b)), some (.int h1), none, none, none]/\Hb=H') (λ R hR=>hR _ _ ⟨rfl, rfl⟩) ?_;rintro _ _ ⟨rfl,rfl⟩;refine ⟨_,Y,_,Y,_,_,Y,Y,?_⟩;refine ⟨_,Y,Y,_,Y,aV ⟨_,Y,_,Y,_,_,Y,Y,_,Y,zS2,λ tf hf=>?_⟩⟩;have sd:Same Hb (upd Hb tf (.tup [.int (x1 + (p1 + b)),.int y1])):=KH hf;have kd:(upd Hb tf (.tup [.int (x1 + (p1 + b)),.int y1])) tf=some (.tup [.int (x1 + (p1 + b)),.int y1]):=ae;generalize upd Hb tf (.tup [.int (x1 + (p1 + b)),.int y1])=Hd at sd kd ⊢;refine ⟨tf,_,Y,KI kd,Y,_,_,Y,_,_,Y,Y,?_⟩;refine ⟨_,Y,_,Y,_,Y,_,Y,_,Y,zS5,λ g1 hg1=>?_⟩;have se:Same Hd (upd Hd g1 (.tup [.int x1,.int y1,.int p1,.int h1,l])):=KH hg1;have ke:(upd Hd g1 (.tup [.int x1,.int y1,.int p1,.int h1,l])) g1=some (.tup [.int x1,.int y1,.int p1,.int h1,l]):=ae;generalize upd Hd g1 (.tup [.int x1,.int y1,.int p1,.int h1,l])=He at se ke ⊢;refine ⟨_,Y,_,Y,_,Y,_,Y,_,Y,zS5,λ g2 hg2=>?_⟩;have sf:Same He (upd He g2 (.tup [.int (x1 + (p1 + b)),.int y1,.int (w1 - p1 - b),.int h1,r])):=KH hg2;have kf:(upd He g2 (.tup [.int (x1 + (p1 + b)),.int y1,.int (w1 - p1 - b),.int h1,r])) g2=some (.tup [.int (x1 + (p1 + b)),.int y1,.int (w1 - p1 - b),.int h1,r]):=ae;generalize upd He g2 (.tup [.int (x1 + (p1 + b)),.int y1,.int (w1 - p1 - b),.int h1,r])=Hf at sf kf ⊢;refine ⟨zS2,λ lu hlu=>?_⟩;have sg:Same Hf (upd Hf lu (.lst [.ref g1,.ref g2])):=KH hlu;have kg:(upd Hf lu (.lst [.ref g1,.ref g2])) lu=some (.lst [.ref g1,.ref g2]):=ae;generalize upd Hf lu (.lst [.ref g1,.ref g2])=Hg at sg kg ⊢;have sA:=((((sa.trans sb).trans sd).trans se).trans sf)
  exact q lu g1 g2 Hg (sA.free hlu) kg (sg _ _ (sf _ _ ke)) (sg _ _ kf) (sA.trans sg)
 | false =>
  refine ⟨_,Y,_,Y,_,Y,zS2,λ tp htp=>?_⟩;have sa:Same H (upd H tp (.tup [.int w1,.int h1])):=KH htp;have ka:(upd H tp (.tup [.int w1,.int h1])) tp=some (.tup [.int w1,.int h1]):=ae;generalize upd H tp (.tup [.int w1,.int h1])=Ha at sa ka ⊢;refine ⟨_,Y,_,Y,b,w1,h1,p1,tp,false,Y,ka,λ u t1 t2 Hb ku k1 k2 sb=>?_⟩;refine ⟨u,_,Y,KI ku,Y,_,_,Y,t1,_,Y,KI k1,Y,_,_,Y,_,_,Y,Y,_,_,Y,t2,_,Y,KI k2,Y,_,_,Y,_,_,Y,Y,Y,?_⟩;refine bo (λ σ' H'=>σ'=[some (.int b), some (.ref sp), some (.int x1), some (.int y1), some (.int w1), some (.int h1), some (.ref a), some (.str "across"), some (.int p1), some l, some r, some (.int w1), some (.int p1), some (.int w1), some (.int (h1 - p1 - b)), none, none, none]/\Hb=H') (λ R hR=>hR _ _ ⟨rfl, rfl⟩) ?_;rintro _ _ ⟨rfl,rfl⟩;refine ⟨_,Y,_,Y,_,_,Y,Y,?_⟩;refine ⟨_,Y,Y,_,Y,aF ⟨_,Y,_,Y,_,Y,_,_,Y,Y,zS2,λ tf hf=>?_⟩⟩;have sd:Same Hb (upd Hb tf (.tup [.int x1,.int (y1 + (p1 + b))])):=KH hf;have kd:(upd Hb tf (.tup [.int x1,.int (y1 + (p1 + b))])) tf=some (.tup [.int x1,.int (y1 + (p1 + b))]):=ae;generalize upd Hb tf (.tup [.int x1,.int (y1 + (p1 + b))])=Hd at sd kd ⊢;refine ⟨tf,_,Y,KI kd,Y,_,_,Y,_,_,Y,Y,?_⟩;refine ⟨_,Y,_,Y,_,Y,_,Y,_,Y,zS5,λ g1 hg1=>?_⟩;have se:Same Hd (upd Hd g1 (.tup [.int x1,.int y1,.int w1,.int p1,l])):=KH hg1;have ke:(upd Hd g1 (.tup [.int x1,.int y1,.int w1,.int p1,l])) g1=some (.tup [.int x1,.int y1,.int w1,.int p1,l]):=ae;generalize upd Hd g1 (.tup [.int x1,.int y1,.int w1,.int p1,l])=He at se ke ⊢;refine ⟨_,Y,_,Y,_,Y,_,Y,_,Y,zS5,λ g2 hg2=>?_⟩;have sf:Same He (upd He g2 (.tup [.int x1,.int (y1 + (p1 + b)),.int w1,.int (h1 - p1 - b),r])):=KH hg2;have kf:(upd He g2 (.tup [.int x1,.int (y1 + (p1 + b)),.int w1,.int (h1 - p1 - b),r])) g2=some (.tup [.int x1,.int (y1 + (p1 + b)),.int w1,.int (h1 - p1 - b),r]):=ae;generalize upd He g2 (.tup [.int x1,.int (y1 + (p1 + b)),.int w1,.int (h1 - p1 - b),r])=Hf at sf kf ⊢;refine ⟨zS2,λ lu hlu=>?_⟩;have sg:Same Hf (upd Hf lu (.lst [.ref g1,.ref g2])):=KH hlu;have kg:(upd Hf lu (.lst [.ref g1,.ref g2])) lu=some (.lst [.ref g1,.ref g2]):=ae;generalize upd Hf lu (.lst [.ref g1,.ref g2])=Hg at sg kg ⊢;have sA:=((((sa.trans sb).trans sd).trans se).trans sf)
  exact q lu g1 g2 Hg (sA.free hlu) kg (sg _ _ (sf _ _ ke)) (sg _ _ kf) (sA.trans sg)
end
def isT (b:Int) (ks:List Kd) (w h:Int) (d:PyData):Bool :=
 if isC b w h d=true then
  match e:bi d with
  | some [_,.int p,l,r]=>if bw d "down" 4=true then isT b ks p h l && isT b ks (w - p - b) h r else isT b ks w p l && isT b ks w (h - p - b) r
  | _=>false
 else isL ks w h d
termination_by sizeOf d
decreasing_by all_goals (apply tK e; simp)
theorem eC {b:Int} {ks:List Kd} {w h:Int} {d:PyData} (hc:isC b w h d=false):isT b ks w h d=isL ks w h d:=by rw [isT,if_neg (by rw [hc]; decide)]
theorem gM {b:Int} {ks:List Kd} {w h:Int} {d:PyData} (hc:isC b w h d=true):∃ (dn:Bool) (p:Int) (l r:PyData),bi d=some [.str (if dn=true then "down" else "across"),.int p,l,r]/\1<=p/\(dn=true->p + b < w)/\(dn=false->p + b < h) /\
  isT b ks w h d=(if dn=true then isT b ks p h l && isT b ks (w - p - b) h r else isT b ks w p l && isT b ks w (h - p - b) r):=by
 have key:∀side,fk b side d=true->∃x p l r,bi d=some [x,.int p,l,r]/\1<=p/\p + b < side:=λ side h=>by
  unfold fk at h
  split at h
  ·rename_i x p l r e
   unfold vH at h
   split at h
   ·rename_i p'
    rw [Bool.and_eq_true] at h;exact ⟨x,p',l,r,e,C0 h.1,C0 h.2⟩
   ·cases h
  ·cases h
 have hc':=hc;unfold isC at hc
 by_cases hb:bw d "down" 4=true
 ·rw [if_pos hb] at hc;obtain ⟨x,p,l,r,e,p1,p2⟩:=key _ hc;obtain ⟨r',e',_⟩:=ii hb;rw [e] at e';cases e';refine ⟨true,p,l,r,e,p1,λ _=>p2,λ z=>(by cases z),?_⟩;rw [isT,if_pos hc']
  split
  ·rename_i y p' l' r' e2
   rw [e] at e2;cases e2;rw [if_pos hb]; rfl
  ·rename_i z
   exact absurd e (z _ _ _ _)
 ·rw [if_neg hb] at hc
  by_cases hb2:bw d "across" 4=true
  ·rw [if_pos hb2] at hc;obtain ⟨x,p,l,r,e,p1,p2⟩:=key _ hc;obtain ⟨r',e',_⟩:=ii hb2;rw [e] at e';cases e';refine ⟨false,p,l,r,e,p1,λ z=>(by cases z),λ _=>p2,?_⟩;rw [isT,if_pos hc']
   split
   ·rename_i y p' l' r' e2
    rw [e] at e2;cases e2;rw [if_neg hb]; rfl
   ·rename_i z
    exact absurd e (z _ _ _ _)
  ·rw [if_neg hb2] at hc;cases hc
structure Spot where
 x:Int
 y:Int
 w:Int
 h:Int
 d:PyData
def SpAt (p:Addr) (H0 H:Hp) (v:V) (t:Spot):Prop:=∃a u,v=.ref a/\H a=some (.tup [.int t.x,.int t.y,.int t.w,.int t.h,u])/\Dt p H0 u t.d
theorem SpAt.keep {p:Addr} {H0 H H':Hp} (k:∀a xs,H a=some (.tup xs)->H' a=some (.tup xs)) {v:V} {t:Spot} (h:SpAt p H0 H v t):SpAt p H0 H' v t:=by obtain ⟨a,u,e,h1,h2⟩:=h;exact ⟨a,u,e,k _ _ h1,h2⟩
def gu (ts:List Spot):Nat:=(ts.map λ t=>wt t.d).sum
theorem eD (a b:List Spot):gu (a ++ b)=gu a + gu b:=by unfold gu; rw [List.map_append,List.sum_append]
theorem ld:∀ts:List Spot,ts.length<=gu ts
 | []=>B3 _
 | t :: r=>by have:=ld r;have:=wY t.d;show r.length + 1<=wt t.d + gu r;omega
theorem qI {d x y l r:PyData} (h:bi d=some [x,y,l,r]):wt l + wt r < wt d:=by
 cases d <;> simp only [bi,Option.some.injEq,reduceCtorEq] at h
 ·subst h; simp only [wt,wts]; omega
 ·subst h; simp only [wt,wts]; omega
theorem oX {α β:Type} {R:α->β->Prop} {x:α}:∀ {xs:List α} {zs:List β},Paired R (xs ++ [x]) zs->∃ys y,zs=ys ++ [y]/\Paired R xs ys/\R x y
 | [],zs,h=>by
  cases h with
  | cons a t=>cases t; exact ⟨[],_,Y,.nil,a⟩
 | z :: xs,zs,h=>by
  cases h with
  | cons a t =>
   obtain ⟨ys,y,rfl,p,r⟩:=oX t;exact ⟨_ :: ys,y,Y,.cons a p,r⟩
theorem jJ {α β:Type} {R:α->β->Prop}:∀ {xs:List α} {ys:List β} {xs':List α} {ys':List β},Paired R xs ys->Paired R xs' ys'->Paired R (xs ++ xs') (ys ++ ys')
 | _,_,_,_,.nil,h=>h
 | _,_,_,_,.cons a t,h=>.cons a (jJ t h)
section
variable {P:KC} {w:KF} {K:C4} {mg:Str->Option KG} {base:Heap}
inductive spCP (vs:List V) (H:Hp) (Q:VK) (E_:XK):Prop
 | mk (w h:Int) (e_1:vs=[.int w,.int h]) (e_2:1<=w) (e_3:1<=h) (e_4:Q .non H):spCP vs H Q E_
inductive spIsTree (C:Addr) (vs:List V) (H:Hp) (Q:VK) (E_:XK):Prop
 | mk (pp s:Addr) (b w h:Int) (ks:List Kd) (v:V) (d:PyData) (e_1:vs=[.ref s,.int w,.int h,v]) (e_2:ShopAt C H s b ks) (e_3:1<=w) (e_4:1<=h) (e_5:Dt pp H v d) (e_6:wt d<=30000) (e_7:∀H',Same H H'->Q (.bl (isT b ks w h d)) H'):spIsTree C vs H Q E_
theorem sccplate:FnScope ["wide","high"] ["wide","high"] (defScope cP):=⟨Y,Y,Y,by decide +kernel,Y,by decide +kernel,by decide +kernel⟩
theorem qJ {f:Addr} {fd:KD} (F:Fun K "check_plate" "check_plate" cP f fd) (DW:Dn P w K mg base "is_whole" ["thing","least"] 1 (bU K)):FnOk P w K mg base CX0 2 f fd ["wide","high"] (spCP):=by
 refine F.ok sccplate (λ vs H Q E h=>?_) (λ cdv A outer s H vs Q E hr h=>?_)
 ·obtain ⟨w1,h1,rfl,_⟩:=h
  rfl
 obtain ⟨w1,h1,rfl,w0,h0,q⟩:=h;have nd:=sccplate.nd;refine ⟨_,(ag (aI (PW.pt (bQ (aR (aK (aq DW hr rfl ((pv 0)^^^(af^^^ab)) (by decide) rfl rfl) (by intro _; rfl))) (bK (aR (aK (aq DW hr rfl ((pv 1)^^^(af^^^ab)) (by decide) rfl rfl) (by intro _; rfl)))))) (ag cY) av)),?_⟩;refine ⟨_,Y,.int w1,"int",1,Y,Ty.int,_,Y,?_⟩;rw [show aQ (.int w1) 1=true from decide_eq_true w0];refine aF ⟨_,rfl,.int h1,"int",1,rfl,Ty.int,_,rfl,?_⟩;rw [show aQ (.int h1) 1=true from decide_eq_true h0];exact aF q
theorem scistree:FnScope ["shop","wide","high","thing","blade","waiting","spot"] ["shop","wide","high","thing"] (defScope gH):=⟨Y,Y,Y,by decide +kernel,Y,by decide +kernel,by decide +kernel⟩
theorem qK {f C:Addr} {fd:KD} (F:Fun K "is_tree" "is_tree" gH f fd) (T:ShopTxt K C) (MB:Mn P w K mg base C "blade" ["self"] 1 (dD C)) (DCP:Dn P w K mg base "check_plate" ["wide","high"] 2 (spCP)) (DC:Dn P w K mg base "is_cut" ["blade","spot"] 3 (spCut)) (DF:Dn P w K mg base "is_leaf" ["shop","spot"] 5 (spLeaf C)) (DS:Dn P w K mg base "spots_behind" ["blade","spot"] 2 (spBehind)):FnOk P w K mg base CX0 6 f fd ["shop","wide","high","thing"] (spIsTree C):=by
 refine F.ok scistree (λ vs H Q E h=>?_) (λ cdv A outer s H vs Q E hr h=>?_)
 ·obtain ⟨pp,s,b,w1,h1,ks,v,d,rfl,_⟩:=h
  rfl
 obtain ⟨pp,s,b,w1,h1,ks,v,d,rfl,S,w0,h0,hd,dz,q⟩:=h;have nd:=scistree.nd;have hr1:=hr.mono (show 1<=5 by decide);have hr2:=hr.mono (show 2<=5 by decide);have hr3:=hr.mono (show 3<=5 by decide);refine ⟨_,(ad (bj (aq DCP hr2 rfl ((pv 1)^^^((pv 2)^^^ab)) (by decide) rfl rfl) rfl) (ad (@ax _ _ 4 _ _ _ _ nd rfl (Or.inl rfl) (cW (pv 0) T.cl MB hr1) rfl (Or.inl rfl)) (ad (@ax _ _ 5 _ _ _ _ nd rfl (Or.inl rfl) (bY ((aB (af^^^(af^^^((pv 1)^^^((pv 2)^^^((pv 3)^^^ab))))))^^^ab)) rfl (Or.inl rfl)) (ad (gR E5 (gY (pv 5) (λ _=>rfl)) (ad (@ax _ _ 6 _ _ _ _ nd rfl (Or.inl rfl) (lV KA PySem.F.slot_list_pop PySem.F.type_list_pop lX (pv 5)) rfl (Or.inl rfl)) (ag (aI (aK (aq DC hr3 rfl ((pv 4)^^^((pv 6)^^^ab)) (by decide) rfl rfl) (by intro _; rfl)) (ag (bj (fH KA PySem.F.slot_list_extend PySem.F.type_list_extend gq (pv 5) ((aq DS hr2 rfl ((pv 4)^^^((pv 6)^^^ab)) (by decide) rfl rfl)^^^ab) rfl rfl rfl rfl rfl) rfl)) (ag (aI (aR (aK (aq DF hr rfl ((pv 0)^^^((pv 6)^^^ab)) (by decide) rfl rfl) (by intro _; rfl))) (ag (au bD)) av)))))) (ag (au bD)))))),?_⟩;have sz:(40000:Nat)<=sizeLine:=by decide
 refine ⟨_,Y,_,Y,w1,h1,Y,w0,h0,?_⟩;obtain ⟨dx,r,rs,S1,S2,S3⟩:=id S;refine ⟨_,Y,s,dx,_,Y,S1,(bH _ _ (by decide +kernel) (by decide +kernel)),s,b,ks,Y,S,?_⟩;refine ⟨_,Y,_,Y,_,Y,zS5,λ t ht=>?_⟩;have sa:Same H (upd H t (.tup [.int 0,.int 0,.int w1,.int h1,v])):=KH ht;have ka:(upd H t (.tup [.int 0,.int 0,.int w1,.int h1,v])) t=some (.tup [.int 0,.int 0,.int w1,.int h1,v]):=ae;generalize upd H t (.tup [.int 0,.int 0,.int w1,.int h1,v])=Ha at sa ka ⊢;refine ⟨zS1,λ wl hwl=>?_⟩;have sb:Same Ha (upd Ha wl (.lst [.ref t])):=KH hwl;have kb:(upd Ha wl (.lst [.ref t])) wl=some (.lst [.ref t]):=ae;generalize upd Ha wl (.lst [.ref t])=Hb at sb kb ⊢;have fw:H wl=none:=sa.free hwl;have sab:=sa.trans sb;refine ⟨λ m σ H'=>∃ (vs:List V) (ts:List Spot) (v6:Option V),σ=[some (.ref s),some (.int w1),some (.int h1),some v,some (.int b),some (.ref wl),v6]/\m=gu ts/\H' wl=some (.lst vs)/\Paired (SpAt pp H H') vs ts/\gu ts<=30000/\isT b ks w1 h1 d=ts.all (λ t=>isT b ks t.w t.h t.d)/\Same H H',⟨_,[.ref t],[⟨0,0,w1,h1,d⟩],none,Y,Y,kb,.cons ⟨t,v,Y,sb _ _ ka,hd⟩ .nil,by show wt d + 0<=30000; omega,by rw [List.all_cons,List.all_nil,Bool.and_true],sab⟩,?_⟩;rintro m σ H1 ⟨vs,ts,v6,rfl,rfl,hw,pr,sz1,al,s1⟩;refine ⟨_,Y,_,.inl ⟨vs,KJ hw,Y⟩,?_⟩;rcases List.eq_nil_or_concat vs with rfl | ⟨vs',v0,rfl⟩
 ·have ets:ts=[]:=by
   have:=E4 pr;cases ts with
   | nil=>rfl
   | cons _ _=>simp at this
  subst ets;have q1:=q H1 s1;rw [al] at q1;exact aF q1
 rw [List.concat_eq_append] at pr hw ⊢;obtain ⟨ts',t0,rfl,prp,⟨sp,u,rfl,hsp,hdu⟩⟩:=oX pr;rw [show (!(vs' ++ [V.ref sp]).isEmpty)=true by cases vs' <;> rfl];have ssz:gu (ts' ++ [t0])=gu ts' + wt t0.d:=by rw [eD]; show _ + (wt t0.d + 0)=_; omega
 rw [ssz] at sz1 ⊢;refine aV ⟨λ σ' H'=>∃ (vs:List V) (ts:List Spot) (v6:Option V),σ'=[some (.ref s),some (.int w1),some (.int h1),some v,some (.int b),some (.ref wl),v6]/\gu ts < gu ts' + wt t0.d/\H' wl=some (.lst vs)/\Paired (SpAt pp H H') vs ts/\gu ts<=30000/\isT b ks w1 h1 d=ts.all (λ t=>isT b ks t.w t.h t.d)/\Same H H',λ σ' H' ⟨vs,ts,v6,e,l,r⟩=>⟨_,l,vs,ts,v6,e,rfl,r⟩,?_⟩;rw [List.all_append,List.all_cons,List.all_nil,Bool.and_true] at al;have ml:(vs' ++ [V.ref sp]).length=vs'.length + 1:=by rw [List.length_append]; rfl
 have keep:∀ {Hx:Hp} {o:HO},Same H Hx->Same H (upd Hx wl o):=λ {Hx o} sx c oo e=>by rw [aj (λ z=>by rw [z,fw] at e; cases e)];exact sx _ _ e
 refine ap (λ R=>∀ (H':Hp),H' wl=some (.lst vs')->Paired (SpAt pp H H') vs' ts'->H' sp=some (.tup [.int t0.x,.int t0.y,.int t0.w,.int t0.h,u])->Same H H'->R [some (.ref s),some (.int w1),some (.int h1),some v,some (.int b),some (.ref wl),some (.ref sp)] H') (λ Dd hR=>?_) ?_
 ·refine ⟨_,Y,.inl ⟨Y,_,KJ hw⟩,wl,_,.ref sp,Y,Y,hw,(by rw [ml]; simp),?_⟩;rw [List.dropLast_concat];have kt:∀ {c:Addr} {xs:List V},H1 c=some (.tup xs)->(upd H1 wl (.lst vs')) c=some (.tup xs):=λ {c xs} e=>by rw [aj (λ z=>by rw [z,hw] at e; cases e)]; exact e
  exact hR _ ae (KK prp λ v t h=>h.keep λ a xs e=>kt e) (kt hsp) (keep s1)
 rintro H2 hw2 pr2 hsp2 s2;refine ⟨_,Y,_,Y,pp,b,t0.x,t0.y,t0.w,t0.h,sp,u,t0.d,Y,hsp2,hdu.same s2,λ H3 s3=>⟨_,Y,?_⟩⟩;have s03:=s2.trans s3;refine cV (λ hc=>?_) (λ hc=>?_)
 ·obtain ⟨dn,p,l,r,er,p1,pw,ph,eT⟩:=gM (ks:=ks) hc;obtain ⟨a,xs,rfl,hx,dxs⟩:=hdu.ref_row er;cases dxs with
  | @cons x0 _ xs0 _ hd0 dxs =>
  cases dxs with
  | @cons x1 _ xs1 _ hd1 dxs =>
  cases dxs with
  | @cons lv _ xs2 _ hdl dxs =>
  cases dxs with
  | @cons rv _ xs3 _ hdr dxs =>
  cases dxs;cases hd0;cases hd1;refine ⟨_,Y,.inl ⟨Y,_,KJ (s3 _ _ hw2)⟩,_,Y,_,Y,?_⟩;refine ⟨b,t0.x,t0.y,t0.w,t0.h,p,sp,a,dn,lv,rv,Y,s3 _ _ hsp2,hx.imp (s03 _ _) (s03 _ _),λ lu t1 t2 H4 hlu ku k1 k2 s4=>?_⟩;have hw4:=s4 _ _ (s3 _ _ hw2);have pl:=E4 pr2;have sl:=ld ts';have two:=qI er;refine ⟨wl,lu,_,_,Y,Y,hw4,ku,by show _ + 2<=_; omega,?_⟩;have kt:∀ {c:Addr} {xs:List V},H4 c=some (.tup xs)->(upd H4 wl (.lst (vs' ++ [.ref t1,.ref t2]))) c=some (.tup xs):=λ {c xs} e=>by rw [aj (λ z=>by rw [z,hw4] at e; cases e)]; exact e
  have pr4:Paired (SpAt pp H (upd H4 wl (.lst (vs' ++ [.ref t1,.ref t2])))) vs' ts':=KK pr2 λ v t h=>h.keep λ a xs e=>kt (s4 _ _ (s3 _ _ e));cases dn with
  | true =>
   have k1:H4 t1=some (.tup [.int t0.x,.int t0.y,.int p,.int t0.h,lv]):=k1;have k2:H4 t2=some (.tup [.int (t0.x + (p + b)),.int t0.y,.int (t0.w - p - b),.int t0.h,rv]):=k2;refine ⟨vs' ++ [.ref t1,.ref t2],ts' ++ [⟨t0.x,t0.y,p,t0.h,l⟩,⟨t0.x + (p + b),t0.y,t0.w - p - b,t0.h,r⟩],_,Y,?_,ae,jJ pr4 (.cons ⟨t1,lv,Y,kt k1,hdl⟩ (.cons ⟨t2,rv,Y,kt k2,hdr⟩ .nil)),?_,?_,keep (s03.trans s4)⟩
   ·rw [eD]; show _ + (wt l + (wt r + 0)) < _; omega
   ·rw [eD]; show _ + (wt l + (wt r + 0))<=_; omega
   ·rw [al,eT,List.all_append];simp only [if_true,List.all_cons,List.all_nil,Bool.and_true]
  | false =>
   have k1:H4 t1=some (.tup [.int t0.x,.int t0.y,.int t0.w,.int p,lv]):=k1;have k2:H4 t2=some (.tup [.int t0.x,.int (t0.y + (p + b)),.int t0.w,.int (t0.h - p - b),rv]):=k2;refine ⟨vs' ++ [.ref t1,.ref t2],ts' ++ [⟨t0.x,t0.y,t0.w,p,l⟩,⟨t0.x,t0.y + (p + b),t0.w,t0.h - p - b,r⟩],_,Y,?_,ae,jJ pr4 (.cons ⟨t1,lv,Y,kt k1,hdl⟩ (.cons ⟨t2,rv,Y,kt k2,hdr⟩ .nil)),?_,?_,keep (s03.trans s4)⟩
   ·rw [eD]; show _ + (wt l + (wt r + 0)) < _; omega
   ·rw [eD]; show _ + (wt l + (wt r + 0))<=_; omega
   ·rw [al,eT,List.all_append];simp only [Bool.false_eq_true,if_false,List.all_cons,List.all_nil,Bool.and_true]
 ·have hc:isC b t0.w t0.h t0.d=false:=by simpa using hc
  have lf:=eC (ks:=ks) hc;refine ⟨_,Y,_,Y,pp,b,t0.x,t0.y,t0.w,t0.h,s,sp,ks,u,t0.d,Y,oW s03 S,s3 _ _ hsp2,hdu.same s03,λ H4 s4=>⟨_,Y,?_⟩⟩;have s04:=s03.trans s4;have sp0:=wY t0.d;cases hl:isL ks t0.w t0.h t0.d with
  | true =>
   rw [lf,hl,Bool.and_true] at al;exact aF ⟨vs',ts',_,rfl,by omega,s4 _ _ (s3 _ _ hw2),KK pr2 λ v t h=>h.keep λ a xs e=>s4 _ _ (s3 _ _ e),by omega,al,s04⟩
  | false =>
   rw [lf,hl,Bool.and_false] at al;have q1:=q H4 s04;rw [al] at q1;exact aV q1
end
theorem PotAt.ne {p q:Addr} {H:Hp} (x:PotAt H p) (h:H q=none):p≠q:=λ z=>x.some (z ▸ h)
theorem PotAt.same {p:Addr} {H H':Hp} (x:PotAt H p) (s:Same H H'):PotAt H' p:=by obtain ⟨a,b,h,e⟩:=x;exact ⟨a,b,h,s _ _ e⟩
theorem mD {H:Hp} {p:Addr} (h:PotAt H p):∃xs,H p=some (.lst xs):=by obtain ⟨_,_,_,e⟩:=h;exact ⟨_,e⟩
theorem xT {p c:Addr} {H0 H:Hp} {o:HO} (b:But p H0 H) (pt:PotAt H p) (h:H c=none):∃H',upd H c o=H'/\H' c=some o/\c≠p/\Same H H'/\But p H0 H'/\PotAt H' p :=
 ⟨_,rfl,ae,Ne.symm (pt.ne h),KH h,b.trans (But.new h),pt.new h⟩
theorem tM {C p s:Addr} {b':Int} {ks:List Kd} {H H':Hp} (b:But p H H') (pt:PotAt H p) (h:ShopAt C H s b' ks):ShopAt C H' s b' ks:=by obtain ⟨_,hp⟩:=mD pt;exact h.keep (λ x xs e=>b _ _ (λ z=>by rw [z,hp] at e; cases e) e) (λ x C' d fs e=>b _ _ (λ z=>by rw [z,hp] at e; cases e) e)
def iA (k:Kd) (c:Bool) (w h:Int):Bool:=decide (sd1 k c<=w) && decide (sd2 k c<=h)
def oY (k:Kd):List Bool:=if aW k=true then [false,true] else [false]
theorem vJ {a b c:St} (h1:leS a b) (h2:leS b c):leS a c:=⟨h2.1.trans h1.1,λ i v e=>h2.2 i v (h1.2 i v e)⟩
inductive Tr where
 | rest
 | piece (i:Nat) (c:Bool) (x y:Int)
 | cut (dn:Bool) (p:Int) (l r:Tr)
def toD:Tr->PyData
 | .rest=>.tuple [.str "rest"]
 | .piece i c x y=>.tuple [.str "piece",.int i,.bool c,.int x,.int y]
 | .cut dn p l r=>.tuple [.str (if dn=true then "down" else "across"),.int p,toD l,toD r]
def lvN:Tr->Nat
 | .cut _ _ l r=>lvN l + lvN r
 | _=>1
theorem GO:∀t:Tr,1<=(toD t).depth
 | .rest=>by decide +kernel
 | .piece .. => by show 1<=PyData.depthAll _ + 1; omega
 | .cut .. => by show 1<=PyData.depthAll _ + 1; omega
def TrV (H:Hp):Tr->V->Prop
 | .rest,v=>∃a,v=.ref a/\H a=some (.tup [.str "rest"])
 | .piece i c x y,v=>∃a,v=.ref a/\H a=some (.tup [.str "piece",.int i,.bl c,.int x,.int y])
 | .cut dn p l r,v=>∃a x y,v=.ref a/\H a=some (.tup [.str (if dn=true then "down" else "across"),.int p,x,y])/\TrV H l x/\TrV H r y
theorem TrV.keep {H H':Hp} (k:∀a xs,H a=some (.tup xs)->H' a=some (.tup xs)):∀ (t:Tr) {v:V},TrV H t v->TrV H' t v
 | .rest,_,⟨a,e,h⟩=>⟨a,e,k _ _ h⟩
 | .piece ..,_,⟨a,e,h⟩=>⟨a,e,k _ _ h⟩
 | .cut _ _ l r,_,⟨a,x,y,e,h,h1,h2⟩=>⟨a,x,y,e,k _ _ h,TrV.keep k l h1,TrV.keep k r h2⟩
theorem TrV.dt {p:Addr} {H:Hp}:∀ (t:Tr) {v:V},TrV H t v->Dt p H v (toD t)
 | .rest,_,⟨a,e,h⟩=>by subst e; exact .tup h (.cons (.str _) .nil)
 | .piece ..,_,⟨a,e,h⟩=>by subst e; exact .tup h (.cons (.str _) (.cons (.int _) (.cons (.bl _) (.cons (.int _) (.cons (.int _) .nil)))))
 | .cut _ _ l r,_,⟨a,x,y,e,h,h1,h2⟩=>by subst e; exact .tup h (.cons (.str _) (.cons (.int _) (.cons (TrV.dt l h1) (.cons (TrV.dt r h2) .nil))))
def okT (b:Int) (ks:List Kd):Int->Int->Tr->Prop
 | _,_,.rest=>True
 | w,h,.piece i c x y=>∃k,ks[i]? = some k/\c∈oY k/\0<=x/\0<=y/\x + sd1 k c<=w/\y + sd2 k c<=h
 | w,h,.cut dn p l r=>1<=p/\(if dn=true then p + b < w/\okT b ks p h l/\okT b ks (w - p - b) h r else p + b < h/\okT b ks w p l/\okT b ks w (h - p - b) r)
theorem oZ {ks:List Kd} {i:Nat} {c:Bool} {k:Kd} (hk:ks[i]? = some k) (hc:c∈oY k):dE ks (.int i) (.bl c)=true:=by
 unfold dE;simp only [Int.toNat_natCast,hk];rw [decide_eq_true (show (0:Int)<=i by omega),Bool.true_and];cases c with
 | false=>rfl
 | true =>
  unfold oY at hc;cases t:aW k with
  | true=>rfl
  | false=>rw [t] at hc; simp at hc
theorem ij {b:Int} {ks:List Kd}:∀ (t:Tr) (w h:Int),okT b ks w h t->isT b ks w h (toD t)=true
 | .rest,w,h,_=>by
  rw [eC (by rfl)]
  rfl
 | .piece i c x y,w,h,⟨k,hk,hc,x0,y0,hx,hy⟩=>by
  rw [eC (by rfl)];show fB ks w h (.int i) (.bl c) (.int x) (.int y)=true;unfold fB;rw [oZ hk hc];simp only [Int.toNat_natCast,hk];rw [show aQ (.int x) 0=true from decide_eq_true x0,show aQ (.int y) 0=true from decide_eq_true y0,decide_eq_true hx,decide_eq_true hy]
  rfl
 | .cut true p l r,w,h,⟨p1,hp,hl,hr⟩=>by
  have hc:isC b w h (toD (.cut true p l r))=true:=by show (decide (1<=p) && decide (p + b < w))=true;rw [decide_eq_true p1,decide_eq_true hp]; rfl
  obtain ⟨dn,p',l',r',e,_,_,_,eT⟩:=gM (ks:=ks) hc;cases dn with
  | true =>
   cases e;rw [eT,if_pos rfl,ij l p h hl,ij r _ h hr]; rfl
  | false =>
   exfalso;have:(PyData.str "down")=.str "across" := by have:=B8 e;exact (List.cons.inj this).1
   exact absurd (PyData.str.inj this) (by decide +kernel)
 | .cut false p l r,w,h,⟨p1,hp,hl,hr⟩=>by
  have hc:isC b w h (toD (.cut false p l r))=true:=by show (decide (1<=p) && decide (p + b < h))=true;rw [decide_eq_true p1,decide_eq_true hp]; rfl
  obtain ⟨dn,p',l',r',e,_,_,_,eT⟩:=gM (ks:=ks) hc;cases dn with
  | false =>
   cases e;rw [eT,if_neg Bool.false_ne_true,ij l w p hl,ij r w _ hr]; rfl
  | true =>
   exfalso;have:(PyData.str "across")=.str "down" := by have:=B8 e;exact (List.cons.inj this).1
   exact absurd (PyData.str.inj this) (by decide +kernel)
def Ji (p q:Addr) (H H':Hp):Prop:=∀c o,c≠p->c≠q->H c=some o->H' c=some o
theorem gy {d:PyData} {y:Str} {r:List PyData} (e:bi d=some (.str y :: r)) (z:Str) (n:Nat):bw d z n=(decide (r.length + 1=n) && decide (y=z)):=by unfold bw;rw [e]
def pcD (ks:List Kd) (w h:Int):List PyData->Bool
 | [k,t,x,y]=>lc ks w h k t x y
 | _=>false
theorem iZ {b:Int} {ks:List Kd} {w h:Int} {d:PyData} {y:Str} {r:List PyData} (e:bi d=some (.str y :: r)) (h1:(decide (y = "down"))=false) (h2:(decide (y = "across"))=false):isT b ks w h d=(if decide (y = "rest")=true then decide (r.length + 1=1) else if decide (y = "piece")=true then pcD ks w h r else false):=by
 have hc:isC b w h d=false:=by
  unfold isC;rw [gy e,gy e,h1,h2];simp only [Bool.and_false]
  rfl
 rw [eC hc];unfold isL;rw [gy e,gy e,e]
 by_cases hr:y = "rest"
 ·subst hr;rw [show decide ((Str.ofString "rest")=(Str.ofString "piece"))=false by decide +kernel,Bool.and_false,if_neg Bool.false_ne_true,decide_eq_true (rfl:(Str.ofString "rest")=Str.ofString "rest"),if_pos rfl,Bool.and_true]
 ·rw [decide_eq_false hr,if_neg Bool.false_ne_true]
  by_cases hp:y = "piece"
  ·subst hp;rw [decide_eq_true (rfl:(Str.ofString "piece")=Str.ofString "piece"),Bool.and_true,if_pos (rfl:true=true),Bool.and_false]
   match r with
   | []=>rfl
   | [_]=>rfl
   | [_,_]=>rfl
   | [_,_,_]=>rfl
   | [_,_,_,_]=>rfl
   | _ :: _ :: _ :: _ :: _ :: r=>simp [pcD]
  ·rw [decide_eq_false hp,Bool.and_false,Bool.and_false,if_neg Bool.false_ne_true,if_neg Bool.false_ne_true]
theorem pf {b:Int} {ks:List Kd} {w h:Int} {d:PyData} {dn:Bool} {r:List PyData} (e:bi d=some (.str (if dn=true then "down" else "across") :: r)):isT b ks w h d=(match r with
  | [.int p,l,r']=>decide (1<=p) && (if dn=true then decide (p + b < w) && (isT b ks p h l && isT b ks (w - p - b) h r') else decide (p + b < h) && (isT b ks w p l && isT b ks w (h - p - b) r'))
  | _=>false):=by
 have leafF:isC b w h d=false->isT b ks w h d=false:=λ hc=>by
  rw [eC hc];unfold isL;rw [gy e,gy e];cases dn
  ·rw [show decide ((if false=true then (Str.ofString "down") else Str.ofString "across")=Str.ofString "piece")=false by decide +kernel,show decide ((if false=true then (Str.ofString "down") else Str.ofString "across")=Str.ofString "rest")=false by decide +kernel,Bool.and_false,Bool.and_false,if_neg Bool.false_ne_true]
  ·rw [show decide ((if true=true then (Str.ofString "down") else Str.ofString "across")=Str.ofString "piece")=false by decide +kernel,show decide ((if true=true then (Str.ofString "down") else Str.ofString "across")=Str.ofString "rest")=false by decide +kernel,Bool.and_false,Bool.and_false,if_neg Bool.false_ne_true]
 cases hc:isC b w h d with
 | false =>
  rw [leafF hc]
  split
  ·rename_i p l r' e
   unfold isC at hc;rw [gy e,gy e] at hc;cases dn
   ·rw [show decide ((if false=true then (Str.ofString "down") else Str.ofString "across")=Str.ofString "down")=false by decide +kernel,show decide ((if false=true then (Str.ofString "down") else Str.ofString "across")=Str.ofString "across")=true by decide +kernel] at hc;unfold fk at hc;rw [e] at hc;have hc:(decide (1<=p) && decide (p + b < h))=false:=hc;rw [if_neg Bool.false_ne_true,<- Bool.and_assoc,hc,Bool.false_and]
   ·rw [show decide ((if true=true then (Str.ofString "down") else Str.ofString "across")=Str.ofString "down")=true by decide +kernel] at hc;unfold fk at hc;rw [e] at hc;have hc:(decide (1<=p) && decide (p + b < w))=false:=hc;rw [if_pos rfl,<- Bool.and_assoc,hc,Bool.false_and]
  ·rfl
 | true =>
  obtain ⟨dn',p,l,r',e',p1,pw,ph,eT⟩:=gM (ks:=ks) hc;rw [e] at e';have hdn:dn=dn':=by have:=PyData.str.inj (List.cons.inj (B8 e')).1;cases dn <;> cases dn' <;> first | rfl | exact absurd this (by decide +kernel)
  subst hdn;cases e';rw [eT];cases dn
  ·simp only [Bool.false_eq_true,if_false];rw [decide_eq_true p1,decide_eq_true (ph rfl)]; rfl
  ·simp only [if_true];rw [decide_eq_true p1,decide_eq_true (pw rfl)]; rfl
def TrD:Tr->PyData->Prop
 | .rest,d=>bi d=some [.str "rest"]
 | .piece i c x y,d=>bi d=some [.str "piece",.int i,.bool c,.int x,.int y]
 | .cut dn p l r,d=>∃dl dr,bi d=some [.str (if dn=true then "down" else "across"),.int p,dl,dr]/\TrD l dl/\TrD r dr
theorem TrD.to:∀t:Tr,TrD t (toD t)
 | .rest=>rfl
 | .piece .. => rfl
 | .cut _ _ l r=>⟨toD l,toD r,Y,TrD.to l,TrD.to r⟩
theorem TrD.good {b:Int} {ks:List Kd}:∀ (t:Tr) (d:PyData) (w h:Int),TrD t d->okT b ks w h t->isT b ks w h d=true
 | .rest,d,w,h,e,_=>by have e:bi d=some (.str "rest" :: []):=e;rw [iZ e (by decide +kernel) (by decide +kernel),if_pos (by decide +kernel)]; rfl
 | .piece i c x y,d,w,h,e,⟨k,hk,hc,x0,y0,hx,hy⟩=>by
  have e:bi d=some (.str "piece" :: [.int i,.bool c,.int x,.int y]):=e;rw [iZ e (by decide +kernel) (by decide +kernel),if_neg (by decide +kernel),if_pos (by decide +kernel)];show fB ks w h (.int i) (.bl c) (.int x) (.int y)=true;unfold fB;rw [oZ hk hc];simp only [Int.toNat_natCast,hk];rw [show aQ (.int x) 0=true from decide_eq_true x0,show aQ (.int y) 0=true from decide_eq_true y0,decide_eq_true hx,decide_eq_true hy]
  rfl
 | .cut true p l r,d,w,h,⟨dl,dr,e,tl,tr⟩,⟨p1,hp,hl,hr⟩=>by have eT:isT b ks w h d=(decide (1<=p) && (decide (p + b < w) && (isT b ks p h dl && isT b ks (w - p - b) h dr))):=pf (dn:=true) (r:=[.int p,dl,dr]) e;rw [eT,decide_eq_true p1,decide_eq_true hp,TrD.good l dl p h tl hl,TrD.good r dr _ h tr hr]; rfl
 | .cut false p l r,d,w,h,⟨dl,dr,e,tl,tr⟩,⟨p1,hp,hl,hr⟩=>by have eT:isT b ks w h d=(decide (1<=p) && (decide (p + b < h) && (isT b ks w p dl && isT b ks w (h - p - b) dr))):=pf (dn:=false) (r:=[.int p,dl,dr]) e;rw [eT,decide_eq_true p1,decide_eq_true hp,TrD.good l dl w p tl hl,TrD.good r dr w _ tr hr]; rfl
structure Lf where
 x:Int
 y:Int
 w:Int
 h:Int
 t:Tr
def lvs (b:Int):Tr->Int->Int->Int->Int->List Lf
 | .cut true p l r,x,y,w,h=>lvs b r (x + (p + b)) y (w - p - b) h ++ lvs b l x y p h
 | .cut false p l r,x,y,w,h=>lvs b r x (y + (p + b)) w (h - p - b) ++ lvs b l x y w p
 | .rest,x,y,w,h=>[⟨x,y,w,h,.rest⟩]
 | .piece i c u v,x,y,w,h=>[⟨x,y,w,h,.piece i c u v⟩]
def szT:Tr->Nat
 | .cut _ _ l r=>szT l + szT r + 1
 | _=>1
def LfAt (p:Addr) (H0 H:Hp) (v:V) (t:Lf):Prop:=∃a u d,v=.ref a/\H a=some (.tup [.int t.x,.int t.y,.int t.w,.int t.h,u])/\Dt p H0 u d/\TrD t.t d
theorem LfAt.keep {p:Addr} {H0 H H':Hp} (k:∀a xs,H a=some (.tup xs)->H' a=some (.tup xs)) {v:V} {t:Lf} (h:LfAt p H0 H v t):LfAt p H0 H' v t:=by obtain ⟨a,u,d,e,h1,h2,h3⟩:=h;exact ⟨a,u,d,e,k _ _ h1,h2,h3⟩
def lsz (ts:List Lf):Nat:=(ts.map λ t=>szT t.t).sum
theorem cC (a b:List Lf):lsz (a ++ b)=lsz a + lsz b:=by unfold lsz; rw [List.map_append,List.sum_append]
theorem tN (t:Tr):1<=szT t:=by cases t <;> simp only [szT] <;> omega
theorem gN:∀ts:List Lf,ts.length<=lsz ts
 | []=>B3 _
 | t :: r=>by have:=gN r;have:=tN t.t;show r.length + 1<=szT t.t + lsz r;omega
def qL (b:Int) (ts:List Lf):List Lf:=ts.reverse.flatMap λ t=>lvs b t.t t.x t.y t.w t.h
theorem dm (b:Int) (ts:List Lf) (t:Lf):qL b (ts ++ [t])=lvs b t.t t.x t.y t.w t.h ++ qL b ts:=by
 unfold qL;rw [List.reverse_append]
 rfl
theorem fU {d:PyData} {ds:List PyData} (h:bi d=some ds):wt d=wts ds + 1:=by
 cases d <;> simp only [bi,Option.some.injEq,reduceCtorEq] at h
 ·subst h; rw [wt]
 ·subst h; rw [wt]
mutual
theorem Dt.fresh {p q:Addr} {H:Hp} (hq:H q=none):∀ {v:V} {d:PyData},Dt p H v d->Dt q H v d
 | _,_,.non=>.non
 | _,_,.bl b=>.bl b
 | _,_,.int i=>.int i
 | _,_,.str z=>.str z
 | _,_,.lst n h r=>.lst (am h hq) h (r.fresh hq)
 | _,_,.tup h r=>.tup h (r.fresh hq)
 | _,_,.emp h=>.emp h
theorem Dts.fresh {p q:Addr} {H:Hp} (hq:H q=none):∀ {vs:List V} {ds:List PyData},Dts p H vs ds->Dts q H vs ds
 | _,_,.nil=>.nil
 | _,_,.cons a r=>.cons (a.fresh hq) (r.fresh hq)
end
theorem ja {C x dx:Addr} {H:Hp} (hx:H x=none) (hd:H dx=none):Same H (upd (upd H dx (.own x)) x (.ins C dx [])):=λ c o e=>by rw [aj (am e hx),aj (am e hd)]; exact e
def dpT:Tr->Nat
 | .cut _ _ l r=>max (dpT l) (dpT r) + 1
 | _=>0
section
variable {P:KC} {w:KF} {K:C4} {mg:Str->Option KG} {base:Heap}
inductive spLeaves (C:Addr) (vs:List V) (H:Hp) (Q:VK) (E_:XK):Prop
 | mk (pp s:Addr) (b w h:Int) (ks:List Kd) (v:V) (d:PyData) (t:Tr) (e_1:vs=[.ref s,.int w,.int h,v]) (e_2:ShopAt C H s b ks) (e_3:Dt pp H v d) (e_4:TrD t d) (e_5:szT t<=10000) (e_6:∀ (l:Addr) (us:List V) (H':Hp),H l=none->H' l=some (.lst us)->Paired (LfAt pp H H') us (lvs b t 0 0 w h)->Same H H'->Q (.ref l) H'):spLeaves C vs H Q E_
inductive spCheckT (C:Addr) (vs:List V) (H:Hp) (Q:VK) (E_:XK):Prop
 | mk (pp s:Addr) (b w h:Int) (ks:List Kd) (v:V) (d:PyData) (e_1:vs=[.ref s,.int w,.int h,v]) (e_2:ShopAt C H s b ks) (e_3:1<=w) (e_4:1<=h) (e_5:Dt pp H v d) (e_6:wt d<=30000) (e_7:isT b ks w h d=true) (e_8:∀H',Same H H'->Q .non H'):spCheckT C vs H Q E_
theorem scleaves:FnScope ["shop","wide","high","tree","leaves","waiting","spot"] ["shop","wide","high","tree"] (defScope eO):=⟨Y,Y,Y,by decide +kernel,Y,by decide +kernel,by decide +kernel⟩
theorem qM {f C wa:Addr} {fd:KD} (F:Fun K "leaves_of" "leaves_of" eO f fd) (T:ShopTxt K C) (Z:TrC K mg wa) (MB:Mn P w K mg base C "blade" ["self"] 1 (dD C)) (DS:Dn P w K mg base "spots_behind" ["blade","spot"] 2 (spBehind)):FnOk P w K mg base CX0 3 f fd ["shop","wide","high","tree"] (spLeaves C):=by
 refine F.ok scleaves (λ vs H Q E h=>?_) (λ cdv A outer s H vs Q E hr h=>?_)
 ·obtain ⟨pp,s,b,w1,h1,ks,v,d,t,rfl,_⟩:=h
  rfl
 obtain ⟨pp,s,b,w1,h1,ks,v,d,t,rfl,SH,hd,td,tz,q⟩:=h;have nd:=scleaves.nd;refine ⟨_,(ad (@ax _ _ 4 _ _ _ _ nd rfl (Or.inl rfl) (bY ab) rfl (Or.inl rfl)) (ad (@ax _ _ 5 _ _ _ _ nd rfl (Or.inl rfl) (bY ((aB (af^^^(af^^^((pv 1)^^^((pv 2)^^^((pv 3)^^^ab))))))^^^ab)) rfl (Or.inl rfl)) (ad (gR E5 (gY (pv 5) (λ _=>rfl)) (ad (@ax _ _ 6 _ _ _ _ nd rfl (Or.inl rfl) (lV KA PySem.F.slot_list_pop PySem.F.type_list_pop lX (pv 5)) rfl (Or.inl rfl)) (ag (aI (az iM (ay ci (ay ix_tup (pv 6) af (λ _ _=>rfl)) af (λ _ _=>rfl)) (aL (v:=.ref wa) rfl Z.wy rfl) rfl) (ag (bj (fH KA PySem.F.slot_list_extend PySem.F.type_list_extend gq (pv 5) ((aq DS hr rfl ((cW (pv 0) T.cl MB (hr.mono (by decide)))^^^((pv 6)^^^ab)) (by decide) rfl rfl)^^^ab) rfl rfl rfl rfl rfl) rfl)) (ag (bj (fH KA PySem.F.slot_list_append PySem.F.type_list_append cD (pv 4) ((pv 6)^^^ab) rfl rfl rfl rfl rfl) rfl)))))) (ag (au (pv 4)))))),?_⟩;have sz:(40000:Nat)<=sizeLine:=by decide
 obtain ⟨dx,r,rs,S1,S2,S3⟩:=id SH;refine ⟨by decide,λ ll hll=>?_⟩;have s0:Same H (upd H ll (.lst [])):=KH hll;have k0:(upd H ll (.lst [])) ll=some (.lst []):=ae;generalize upd H ll (.lst [])=H0 at s0 k0 ⊢;refine ⟨_,Y,_,Y,_,Y,zS5,λ t' ht=>?_⟩;have sa:Same H0 (upd H0 t' (.tup [.int 0,.int 0,.int w1,.int h1,v])):=KH ht;have ka:(upd H0 t' (.tup [.int 0,.int 0,.int w1,.int h1,v])) t'=some (.tup [.int 0,.int 0,.int w1,.int h1,v]):=ae;generalize upd H0 t' (.tup [.int 0,.int 0,.int w1,.int h1,v])=Ha at sa ka ⊢;refine ⟨zS1,λ wl hwl=>?_⟩;have sb:Same Ha (upd Ha wl (.lst [.ref t'])):=KH hwl;have kb:(upd Ha wl (.lst [.ref t'])) wl=some (.lst [.ref t']):=ae;generalize upd Ha wl (.lst [.ref t'])=Hb at sb kb ⊢;have fw:H wl=none:=(s0.trans sa).free hwl;have nlw:ll≠wl:=λ z=>by rw [<- z,sa _ _ k0] at hwl; cases hwl
 have sab:=(s0.trans sa).trans sb;refine ⟨λ m σ H'=>∃ (vs us:List V) (ts L:List Lf) (v6:Option V),σ=[some (.ref s),some (.int w1),some (.int h1),some v,some (.ref ll),some (.ref wl),v6]/\m=lsz ts/\H' wl=some (.lst vs)/\H' ll=some (.lst us)/\Paired (LfAt pp H H') vs ts/\Paired (LfAt pp H H') us L/\lsz ts + L.length<=10000/\L ++ qL b ts=lvs b t 0 0 w1 h1/\Same H H',⟨_,[.ref t'],[],[⟨0,0,w1,h1,t⟩],[],none,Y,Y,kb,sb _ _ (sa _ _ k0),.cons ⟨t',v,d,Y,sb _ _ ka,hd,td⟩ .nil,.nil,(by show szT t + 0 + 0<=10000; omega),(by show [] ++ (lvs b t 0 0 w1 h1 ++ [])=_; rw [List.append_nil]; rfl),sab⟩,?_⟩;rintro m σ H1 ⟨vs,us,ts,L,v6,rfl,rfl,hw,hl,pr,pu,sz1,al,s1⟩;refine ⟨_,Y,_,.inl ⟨vs,KJ hw,Y⟩,?_⟩;rcases List.eq_nil_or_concat vs with rfl | ⟨vs',v0,rfl⟩
 ·have ets:ts=[]:=by
   have:=E4 pr;cases ts with
   | nil=>rfl
   | cons _ _=>simp at this
  subst ets;rw [show qL b []=[] from rfl,List.append_nil] at al;rw [al] at pu;exact aF ⟨_,rfl,q ll us H1 hll hl pu s1⟩
 rw [List.concat_eq_append] at pr hw ⊢;obtain ⟨ts',t0,rfl,prp,⟨sp,u,du,rfl,hsp,hdu,tdu⟩⟩:=oX pr;rw [show (!(vs' ++ [V.ref sp]).isEmpty)=true by cases vs' <;> rfl];have ssz:lsz (ts' ++ [t0])=lsz ts' + szT t0.t:=by rw [cC]; show _ + (szT t0.t + 0)=_; omega
 rw [ssz] at sz1 ⊢;refine aV ⟨λ σ' H'=>∃ (vs us:List V) (ts L:List Lf) (v6:Option V),σ'=[some (.ref s),some (.int w1),some (.int h1),some v,some (.ref ll),some (.ref wl),v6]/\lsz ts < lsz ts' + szT t0.t/\H' wl=some (.lst vs)/\H' ll=some (.lst us)/\Paired (LfAt pp H H') vs ts/\Paired (LfAt pp H H') us L/\lsz ts + L.length<=10000/\L ++ qL b ts=lvs b t 0 0 w1 h1/\Same H H',λ σ' H' ⟨vs,us,ts,L,v6,e,l,r⟩=>⟨_,l,vs,us,ts,L,v6,e,rfl,r⟩,?_⟩;rw [dm] at al;have ml:(vs' ++ [V.ref sp]).length=vs'.length + 1:=by rw [List.length_append]; rfl
 have keep:∀ {Hx:Hp} {o:HO},Same H Hx->Same H (upd Hx wl o):=λ {Hx o} sx c oo e=>by rw [aj (λ z=>by rw [z,fw] at e; cases e)];exact sx _ _ e
 have keepL:∀ {Hx:Hp} {o:HO},Same H Hx->Same H (upd Hx ll o):=λ {Hx o} sx c oo e=>by rw [aj (λ z=>by rw [z,hll] at e; cases e)];exact sx _ _ e
 refine ap (λ R=>∀ (H':Hp),H' wl=some (.lst vs')->H' ll=some (.lst us)->Paired (LfAt pp H H') vs' ts'->Paired (LfAt pp H H') us L->H' sp=some (.tup [.int t0.x,.int t0.y,.int t0.w,.int t0.h,u])->Same H H'->R [some (.ref s),some (.int w1),some (.int h1),some v,some (.ref ll),some (.ref wl),some (.ref sp)] H') (λ Dd hR=>?_) ?_
 ·refine ⟨_,Y,.inl ⟨Y,_,KJ hw⟩,wl,_,.ref sp,Y,Y,hw,(by rw [ml]; simp),?_⟩;rw [List.dropLast_concat];have kt:∀ {c:Addr} {xs:List V},H1 c=some (.tup xs)->(upd H1 wl (.lst vs')) c=some (.tup xs):=λ {c xs} e=>by rw [aj (λ z=>by rw [z,hw] at e; cases e)]; exact e
  exact hR _ ae (by rw [aj nlw]; exact hl) (KK prp λ v t h=>h.keep λ a xs e=>kt e) (KK pu λ v t h=>h.keep λ a xs e=>kt e) (kt hsp) (keep s1)
 rintro H2 hw2 hl2 pr2 pu2 hsp2 s02;have a4:atI [.int t0.x,.int t0.y,.int t0.w,.int t0.h,u] 4=some u:=aU (by decide) rfl;have inT:∀z:Str,(z = "down" \/ z = "across")->inV (V.str z) [V.str "down",V.str "across"]=true:=λ z hz=>by rcases hz with e | e <;> subst e <;> decide +kernel
 have go:∀ (y:Str) (ys:List PyData),bi du=some (.str y :: ys)->∃a xs,u=.ref a/\(H a=some (.lst (.str y :: xs))\/H a=some (.tup (.str y :: xs)))/\Dts pp H xs ys:=λ y ys er=>by
  obtain ⟨a,xs,e,hx,dxs⟩:=hdu.ref_row er;cases dxs with
  | cons hd0 dxs =>
   cases hd0;exact ⟨a,_,e,hx,dxs⟩
 refine ⟨_,Y,sp,_,4,_,Y,Y,KI hsp2,a4,?_⟩;obtain ⟨tt,et⟩:∃tt,t0.t=tt:=⟨_,Y⟩
 cases tt with
 | cut dn p l r =>
  rw [et] at tdu;obtain ⟨dl,dr,er,tl,tr⟩:=tdu;obtain ⟨a,xs,eu,hx,dxs⟩:=go _ _ er;have hx0:=hx;cases dxs with
  | @cons x1 _ xs1 _ hd1 dxs =>
  cases dxs with
  | @cons lv _ xs2 _ hdl dxs =>
  cases dxs with
  | @cons rv _ xs3 _ hdr dxs =>
  cases dxs;cases hd1;subst eu;show rIx K (.ref a) (.int 0) H2 _;refine ixR s02 hx (aU (E6 _) rfl) ?_;refine ⟨wa,_,Y,.inr (Z.wq _),Y,Y,_,Y,?_⟩;show (if (inV (V.str (if dn=true then "down" else "across")) [V.str "down",V.str "across"])=true then _ else _);rw [inT _ (by cases dn <;> first | exact .inl rfl | exact .inr rfl)];have SH2:=oW s02 SH;obtain ⟨dx',r',rs',S1',S2',S3'⟩:=id SH2;refine aV ⟨_,rfl,.inl ⟨rfl,_,KJ hw2⟩,_,rfl,s,dx',_,rfl,S1',(bH _ _ (by decide +kernel) (by decide +kernel)),s,b,ks,rfl,SH2,_,rfl,?_⟩;refine ⟨b,t0.x,t0.y,t0.w,t0.h,p,sp,a,dn,lv,rv,Y,hsp2,hx.imp (s02 _ _) (s02 _ _),λ lu t1 t2 H4 hlu ku k1 k2 s4=>?_⟩;have hw4:=s4 _ _ hw2;have pl:=E4 pr2;have sl:=gN ts';have sz0:szT t0.t=szT l + szT r + 1:=by rw [et]; rfl
  refine ⟨wl,lu,_,_,Y,Y,hw4,ku,by show _ + 2<=_; omega,?_⟩;have kt:∀ {c:Addr} {xs:List V},H4 c=some (.tup xs)->(upd H4 wl (.lst (vs' ++ [.ref t1,.ref t2]))) c=some (.tup xs):=λ {c xs} e=>by rw [aj (λ z=>by rw [z,hw4] at e; cases e)]; exact e
  have kl4:(upd H4 wl (.lst (vs' ++ [.ref t1,.ref t2]))) ll=some (.lst us):=by rw [aj nlw]; exact s4 _ _ hl2
  have pr4:Paired (LfAt pp H (upd H4 wl (.lst (vs' ++ [.ref t1,.ref t2])))) vs' ts':=KK pr2 λ v t h=>h.keep λ a xs e=>kt (s4 _ _ e);have pu4:Paired (LfAt pp H (upd H4 wl (.lst (vs' ++ [.ref t1,.ref t2])))) us L:=KK pu2 λ v t h=>h.keep λ a xs e=>kt (s4 _ _ e);cases dn with
  | true =>
   have k1:H4 t1=some (.tup [.int t0.x,.int t0.y,.int p,.int t0.h,lv]):=k1;have k2:H4 t2=some (.tup [.int (t0.x + (p + b)),.int t0.y,.int (t0.w - p - b),.int t0.h,rv]):=k2;refine ⟨vs' ++ [.ref t1,.ref t2],us,ts' ++ [⟨t0.x,t0.y,p,t0.h,l⟩] ++ [⟨t0.x + (p + b),t0.y,t0.w - p - b,t0.h,r⟩],L,_,Y,?_,ae,kl4,?_,pu4,?_,?_,keep (s02.trans s4)⟩
   ·rw [cC,cC]; show _ + (szT l + 0) + (szT r + 0) < _; rw [sz0]; omega
   ·rw [List.append_assoc]; exact jJ pr4 (.cons ⟨t1,lv,dl,Y,kt k1,hdl,tl⟩ (.cons ⟨t2,rv,dr,Y,kt k2,hdr,tr⟩ .nil))
   ·rw [cC,cC]; show _ + (szT l + 0) + (szT r + 0) + _<=_; rw [sz0] at sz1; omega
   ·rw [dm,dm,<- al,et,lvs,List.append_assoc]
  | false =>
   have k1:H4 t1=some (.tup [.int t0.x,.int t0.y,.int t0.w,.int p,lv]):=k1;have k2:H4 t2=some (.tup [.int t0.x,.int (t0.y + (p + b)),.int t0.w,.int (t0.h - p - b),rv]):=k2;refine ⟨vs' ++ [.ref t1,.ref t2],us,ts' ++ [⟨t0.x,t0.y,t0.w,p,l⟩] ++ [⟨t0.x,t0.y + (p + b),t0.w,t0.h - p - b,r⟩],L,_,Y,?_,ae,kl4,?_,pu4,?_,?_,keep (s02.trans s4)⟩
   ·rw [cC,cC]; show _ + (szT l + 0) + (szT r + 0) < _; rw [sz0]; omega
   ·rw [List.append_assoc]; exact jJ pr4 (.cons ⟨t1,lv,dl,Y,kt k1,hdl,tl⟩ (.cons ⟨t2,rv,dr,Y,kt k2,hdr,tr⟩ .nil))
   ·rw [cC,cC]; show _ + (szT l + 0) + (szT r + 0) + _<=_; rw [sz0] at sz1; omega
   ·rw [dm,dm,<- al,et,lvs,List.append_assoc]
 | rest =>
  rw [et] at tdu;obtain ⟨a,xs,eu,hx,dxs⟩:=go _ _ tdu;subst eu;show rIx K (.ref a) (.int 0) H2 _;refine ixR s02 hx (aU (E6 _) rfl) ?_;refine ⟨wa,_,Y,.inr (Z.wq _),Y,Y,_,Y,?_⟩;show (if (inV (V.str "rest") [V.str "down",V.str "across"])=true then _ else _);rw [show inV (V.str "rest") [V.str "down",V.str "across"]=false by decide +kernel];have sl:=gN ts';have ul:=E4 pu2;have SZ:szT t0.t=1:=by rw [et]; rfl
  refine aF ⟨_,rfl,.inl ⟨rfl,_,KJ hl2⟩,_,rfl,ll,us,_,rfl,rfl,hl2,by omega,?_⟩;have kt:∀ {c:Addr} {xs:List V},H2 c=some (.tup xs)->(upd H2 ll (.lst (us ++ [.ref sp]))) c=some (.tup xs):=λ {c xs} e=>by rw [aj (λ z=>by rw [z,hl2] at e; cases e)]; exact e
  refine ⟨vs',us ++ [.ref sp],ts',L ++ [t0],_,Y,by omega,by rw [aj (Ne.symm nlw)]; exact hw2,ae,KK pr2 λ v t h=>h.keep λ a xs e=>kt e,jJ (KK pu2 λ v t h=>h.keep λ a xs e=>kt e) (.cons ⟨sp,.ref a,du,Y,kt hsp2,hdu,by rw [et]; exact tdu⟩ .nil),?_,?_,keepL s02⟩
  ·rw [List.length_append]; show _ + (_ + 1)<=_; omega
  ·rw [<- al,List.append_assoc];congr 2;rw [et];cases t0;cases et
   rfl
 | piece i c x y =>
  rw [et] at tdu;obtain ⟨a,xs,eu,hx,dxs⟩:=go _ _ tdu;subst eu;show rIx K (.ref a) (.int 0) H2 _;refine ixR s02 hx (aU (E6 _) rfl) ?_;refine ⟨wa,_,Y,.inr (Z.wq _),Y,Y,_,Y,?_⟩;show (if (inV (V.str "piece") [V.str "down",V.str "across"])=true then _ else _);rw [show inV (V.str "piece") [V.str "down",V.str "across"]=false by decide +kernel];have sl:=gN ts';have ul:=E4 pu2;have SZ:szT t0.t=1:=by rw [et]; rfl
  refine aF ⟨_,rfl,.inl ⟨rfl,_,KJ hl2⟩,_,rfl,ll,us,_,rfl,rfl,hl2,by omega,?_⟩;have kt:∀ {c:Addr} {xs:List V},H2 c=some (.tup xs)->(upd H2 ll (.lst (us ++ [.ref sp]))) c=some (.tup xs):=λ {c xs} e=>by rw [aj (λ z=>by rw [z,hl2] at e; cases e)]; exact e
  refine ⟨vs',us ++ [.ref sp],ts',L ++ [t0],_,Y,by omega,by rw [aj (Ne.symm nlw)]; exact hw2,ae,KK pr2 λ v t h=>h.keep λ a xs e=>kt e,jJ (KK pu2 λ v t h=>h.keep λ a xs e=>kt e) (.cons ⟨sp,.ref a,du,Y,kt hsp2,hdu,by rw [et]; exact tdu⟩ .nil),?_,?_,keepL s02⟩
  ·rw [List.length_append]; show _ + (_ + 1)<=_; omega
  ·rw [<- al,List.append_assoc];congr 2;rw [et];cases t0;cases et
   rfl
theorem sccheckt:FnScope ["shop","wide","high","thing"] ["shop","wide","high","thing"] (defScope dI):=⟨Y,Y,Y,by decide +kernel,Y,by decide +kernel,by decide +kernel⟩
theorem qN {f C:Addr} {fd:KD} (F:Fun K "check_tree" "check_tree" dI f fd) (DI:Dn P w K mg base "is_tree" ["shop","wide","high","thing"] 6 (spIsTree C)):FnOk P w K mg base CX0 7 f fd ["shop","wide","high","thing"] (spCheckT C):=by
 refine F.ok sccheckt (λ vs H Q E h=>?_) (λ cdv A outer s H vs Q E hr h=>?_)
 ·obtain ⟨pp,s,b,w1,h1,ks,v,d,rfl,_⟩:=h
  rfl
 obtain ⟨pp,s,b,w1,h1,ks,v,d,rfl,SH,w0,h0,hd,dz,ht,q⟩:=h;have nd:=sccheckt.nd;refine ⟨_,(ag (aI (aR (aK (aq DI hr rfl ((pv 0)^^^((pv 1)^^^((pv 2)^^^((pv 3)^^^ab)))) (by decide) rfl rfl) (by intro _; rfl))) (ag cY) av)),?_⟩;refine ⟨_,Y,_,Y,_,Y,_,Y,pp,s,b,w1,h1,ks,v,d,Y,SH,w0,h0,hd,dz,λ H1 s1=>⟨_,Y,?_⟩⟩;rw [ht];exact aF (q _ s1)
end
structure Pce where
 k:Nat
 c:Bool
 x:Int
 y:Int
def HA (p:Pce):List V:=[.int p.k,.bl p.c,.int p.x,.int p.y]
def HC (p:Pce):List Int:=[(p.k:Int),if p.c=true then 1 else 0,p.x,p.y]
def lfQ (f:Lf):Option Pce:=match f.t with
 | .piece i c u v=>some ⟨i,c,f.x + u,f.y + v⟩
 | _=>none
def pcs (b:Int) (t:Tr) (w h:Int):List Pce:=(lvs b t 0 0 w h).filterMap lfQ
def PA (H:Hp) (a:Addr) (p:Pce):Prop:=H a=some (.tup (HA p))
def gz (H:Hp) (a:Addr):Pce:=match H a with
 | some (.tup [.int k,.bl c,.int x,.int y])=>⟨k.toNat,c,x,y⟩
 | _=>⟨0,false,0,0⟩
theorem PA.of {H:Hp} {a:Addr} {p:Pce} (h:PA H a p):gz H a=p:=by unfold gz;rw [show H a=some (.tup [.int p.k,.bl p.c,.int p.x,.int p.y]) from h];show (⟨(p.k:Int).toNat,p.c,p.x,p.y⟩:Pce)=p;rw [Int.toNat_natCast]
theorem PA.map {H:Hp}:∀ {as:List Addr} {ps:List Pce},Paired (PA H) as ps->as.map (gz H)=ps
 | _,_,.nil=>rfl
 | _,_,.cons h r=>by rw [List.map_cons,h.of,PA.map r]
theorem PA.mem {H:Hp}:∀ {as:List Addr} {ps:List Pce},Paired (PA H) as ps->∀a∈as,PA H a (gz H a)
 | _,_,.nil,a,h=>by cases h
 | _,_,.cons h r,a,hm=>by
  rcases List.mem_cons.mp hm with e | e
  ·subst e; rw [h.of]; exact h
  ·exact PA.mem r a e
theorem PA.back {H:Hp}:∀ {as:List Addr},(∀a∈as,PA H a (gz H a))->Paired (PA H) as (as.map (gz H))
 | [],_=>.nil
 | a :: as,h=>.cons (h a B7) (PA.back λ b hb=>h b (B4 _ hb))
theorem PA.keep {H H':Hp} (k:∀a xs,H a=some (.tup xs)->H' a=some (.tup xs)) {as:List Addr} {ps:List Pce} (h:Paired (PA H) as ps):Paired (PA H') as ps:=KK h λ a p e=>k _ _ e
theorem TrD.many {b:Int}:∀ (t:Tr) (d:PyData) (x y w h:Int),TrD t d->(lvs b t x y w h).length=lvN t/\szT t<=wt d
 | .rest,d,_,_,_,_,e=>by
  have:=fU (show bi d=some [.str "rest"] from e);have w1:wts [.str "rest"]=5:=by decide +kernel
  refine ⟨Y,?_⟩;show 1<=wt d;omega
 | .piece i c u v,d,_,_,_,_,e=>by
  have:=fU (show bi d=some [.str "piece",.int i,.bool c,.int u,.int v] from e);have w1:wts [.str "piece",.int i,.bool c,.int u,.int v]=10:=by
   show wt (.str "piece") + (1 + (1 + (1 + (1 + 0))))=10
   decide +kernel
  refine ⟨Y,?_⟩;show 1<=wt d;omega
 | .cut true p l r,d,x,y,w,h,⟨dl,dr,e,tl,tr⟩=>by
  have h0:=fU e;have w1:wts [.str (if true=true then "down" else "across"),.int p,dl,dr]=5 + (1 + (wt dl + (wt dr + 0))):=by show wt (.str "down") + (1 + (wt dl + (wt dr + 0)))=_;rw [show wt (.str "down")=5 by decide +kernel]
  have h1:=TrD.many (b:=b) r dr (x + (p + b)) y (w - p - b) h tr;have h2:=TrD.many (b:=b) l dl x y p h tl;rw [lvs,List.length_append,szT,lvN];omega
 | .cut false p l r,d,x,y,w,h,⟨dl,dr,e,tl,tr⟩=>by
  have h0:=fU e;have w1:wts [.str (if false=true then "down" else "across"),.int p,dl,dr]=7 + (1 + (wt dl + (wt dr + 0))):=by show wt (.str "across") + (1 + (wt dl + (wt dr + 0)))=_;rw [show wt (.str "across")=7 by decide +kernel]
  have h1:=TrD.many (b:=b) r dr x (y + (p + b)) w (h - p - b) tr;have h2:=TrD.many (b:=b) l dl x y w p tl;rw [lvs,List.length_append,szT,lvN];omega
theorem dq (b:Int):∀ (t:Tr) (x y w h:Int),∀f∈lvs b t x y w h,f.t=.rest\/∃i c u v,f.t=.piece i c u v
 | .rest,_,_,_,_,f,hf=>by cases E3.mp hf; exact .inl rfl
 | .piece i c u v,_,_,_,_,f,hf=>by cases E3.mp hf; exact .inr ⟨i,c,u,v,Y⟩
 | .cut true p l r,x,y,w,h,f,hf=>by rw [lvs] at hf;exact (C2.mp hf).elim (dq b r _ _ _ _ f) (dq b l _ _ _ _ f)
 | .cut false p l r,x,y,w,h,f,hf=>by rw [lvs] at hf;exact (C2.mp hf).elim (dq b r _ _ _ _ f) (dq b l _ _ _ _ f)
section
variable {P:KC} {w:KF} {K:C4} {mg:Str->Option KG} {base:Heap}
structure TrH (C pp s:Addr) (b w h:Int) (ks:List Kd) (v:V) (d:PyData) (t:Tr) (H:Hp):Prop where
 sh:ShopAt C H s b ks
 w1:1<=w
 h1:1<=h
 dt:Dt pp H v d
 td:TrD t d
 ok:okT b ks w h t
 wd:wt d<=9000
 ln:lvN t<=1000
theorem TrH.same {C pp s:Addr} {b w h:Int} {ks:List Kd} {v:V} {d:PyData} {t:Tr} {H H':Hp} (x:TrH C pp s b w h ks v d t H) (k:Same H H'):TrH C pp s b w h ks v d t H':=⟨oW k x.sh,x.w1,x.h1,x.dt.same k,x.td,x.ok,x.wd,x.ln⟩
inductive spPieces (C:Addr) (vs:List V) (H:Hp) (Q:VK) (E_:XK):Prop
 | mk (pp s:Addr) (b w h:Int) (ks:List Kd) (v:V) (d:PyData) (t:Tr) (e_1:vs=[.ref s,.int w,.int h,v]) (e_2:TrH C pp s b w h ks v d t H) (e_3:∀ (l:Addr) (as:List Addr) (ps:List Pce) (H':Hp),H l=none->H' l=some (.lst (as.map V.ref))->Paired (PA H') as ps->ps.Perm (pcs b t w h)->Same H H'->Q (.ref l) H'):spPieces C vs H Q E_
theorem scpieces:FnScope ["shop","wide","high","tree","pieces","x","y","part_wide","part_high","leaf","word","kind","turned","piece_x","piece_y"] ["shop","wide","high","tree"] (defScope eQ):=⟨Y,Y,Y,by decide +kernel,Y,by decide +kernel,by decide +kernel⟩
theorem qO {f C wa:Addr} {fd:KD} (F:Fun K "pieces_of" "pieces_of" eQ f fd) (B:Blt mg) (Z:TrC K mg wa) (DC:Dn P w K mg base "check_tree" ["shop","wide","high","thing"] 7 (spCheckT C)) (DL:Dn P w K mg base "leaves_of" ["shop","wide","high","tree"] 3 (spLeaves C)):FnOk P w K mg base CX0 8 f fd ["shop","wide","high","tree"] (spPieces C):=by
 refine F.ok scpieces (λ vs H Q E h=>?_) (λ cdv A outer s H vs Q E hr h=>?_)
 ·obtain ⟨pp,s,b,w1,h1,ks,v,d,t,rfl,_⟩:=h
  rfl
 obtain ⟨pp,s,b,w1,h1,ks,v,d,t,rfl,th,q⟩:=h;have nd:=scpieces.nd;obtain ⟨trs,hrs⟩:=Z.rs;refine ⟨_,(ad (bj (aq DC hr rfl ((pv 0)^^^((pv 1)^^^((pv 2)^^^((pv 3)^^^ab)))) (by decide) rfl rfl) rfl) (ad (@ax _ _ 4 _ _ _ _ nd rfl (Or.inl rfl) (bY ab) rfl (Or.inl rfl)) (ad (bE E5 rfl (bq (aq DL (hr.mono (by decide)) rfl ((pv 0)^^^((pv 1)^^^((pv 2)^^^((pv 3)^^^ab)))) (by decide) rfl rfl)) (aS rfl (ah (ai (i:=5) nd rfl (Or.inl rfl)) (ah (ai (i:=6) nd rfl (Or.inl rfl)) (ah (ai (i:=7) nd rfl (Or.inl rfl)) (ah (ai (i:=8) nd rfl (Or.inl rfl)) (ah (ai (i:=9) nd rfl (Or.inl rfl)) aG)))))) (ag (aI (az fg (ay ci (pv 9) af (λ _ _=>rfl)) (aL (v:=.str "rest") rfl hrs ⟨trs,Y⟩) (aw _)) (ad (bm (pv 9) (lZ rfl (ah (ai (i:=10) nd rfl (Or.inl rfl)) (ah (ai (i:=11) nd rfl (Or.inl rfl)) (ah (ai (i:=12) nd rfl (Or.inl rfl)) (ah (ai (i:=13) nd rfl (Or.inl rfl)) (ah (ai (i:=14) nd rfl (Or.inl rfl)) aG)))))) rfl rfl rfl) (ag (bj (fH KA PySem.F.slot_list_append PySem.F.type_list_append cD (pv 4) ((aB ((pv 11)^^^((pv 12)^^^((aA aM (pv 5) (pv 13))^^^((aA aM (pv 6) (pv 14))^^^ab)))))^^^ab) rfl rfl rfl rfl rfl) rfl))) av)) (by intro _; rfl)) (ag (au (aO jD rfl B.sorted PyProof.Rows.boot_sorted ((pv 4)^^^ab) (by decide) (by decide) rfl rfl)))))),?_⟩;have sz:(40000:Nat)<=sizeLine:=by decide
 obtain ⟨m1,m2⟩:=TrD.many (b:=b) t d 0 0 w1 h1 th.td;have wd:=th.wd;have ln:=th.ln;refine ⟨_,Y,_,Y,_,Y,_,Y,pp,s,b,w1,h1,ks,v,d,Y,th.sh,th.w1,th.h1,th.dt,by omega,TrD.good t d w1 h1 th.td th.ok,λ H1 s1=>?_⟩;refine ⟨by decide,λ pl hpl=>?_⟩;have s2:Same H1 (upd H1 pl (.lst [])):=KH hpl;have k2:(upd H1 pl (.lst [])) pl=some (.lst []):=ae;generalize upd H1 pl (.lst [])=H2 at s2 k2 ⊢;have s02:=s1.trans s2;have th2:=th.same s02;have fp:H pl=none:=s1.free hpl;have dp:Dt pl H2 v d:=(th.dt.fresh fp).same s02;refine bo (λ σ' H'=>σ'=[some (.ref s),some (.int w1),some (.int h1),some v,some (.ref pl),none,none,none,none,none,none,none,none,none,none]/\H2=H') (λ R hR=>hR _ _ ⟨rfl,rfl⟩) ?_;rintro _ _ ⟨rfl,rfl⟩;refine ap (λ R=>∀v5 v6 v7 v8 v9 v10 v11 v12 v13 v14 (H':Hp),(∃as,H' pl=some (.lst (as.map V.ref))/\Paired (PA H') as (pcs b t w1 h1)/\as.length<=1000)->Same H H'->R [some (.ref s),some (.int w1),some (.int h1),some v,some (.ref pl),v5,v6,v7,v8,v9,v10,v11,v12,v13,v14] H') (λ Dd hR=>?_) ?_
 ·refine ⟨_,Y,_,Y,_,Y,_,Y,pl,s,b,w1,h1,ks,v,d,t,Y,th2.sh,dp,th2.td,by omega,λ ll us H3 hll l3 pu s23=>?_⟩;have s03:=s02.trans s23;have ul:=E4 pu;have npl:ll≠pl:=λ z=>by rw [z,k2] at hll; cases hll
  refine ⟨ll,Y,⟨_,KJ l3⟩,bJ (xs:=us) (λ i σ' H'=>(∃v5 v6 v7 v8 v9 v10 v11 v12 v13 v14,σ'=[some (.ref s),some (.int w1),some (.int h1),some v,some (.ref pl),v5,v6,v7,v8,v9,v10,v11,v12,v13,v14])/\(∃as,H' pl=some (.lst (as.map V.ref))/\Paired (PA H') as (((lvs b t 0 0 w1 h1).take i).filterMap lfQ))/\H' ll=some (.lst us)/\Paired (LfAt pl H2 H') us (lvs b t 0 0 w1 h1)/\But pl H2 H'/\Same H H') ⟨⟨_,_,_,_,_,_,_,_,_,_,Y⟩,⟨[],s23 _ _ k2,.nil⟩,l3,pu,Hv s23,s03⟩ (λ i σ H' _ h=>KJ h.2.2.1) ?_ ?_⟩
  ·rintro i x σ H4 hi ⟨⟨v5,v6,v7,v8,v9,v10,v11,v12,v13,v14,rfl⟩,⟨as,hp4,pa4⟩,l4,pu4,b4,s4⟩;have hin:i < us.length:=(A6.mp hi).1;obtain ⟨f,hf,a,u,du,rfl,ha,hdu,tdu⟩:=KL pu4 hi;have pal:=E4 pa4;have fml:(((lvs b t 0 0 w1 h1).take i).filterMap lfQ).length<=i:=C5 (List.length_filterMap_le _ _) (by rw [List.length_take]; omega);have tk:(lvs b t 0 0 w1 h1).take (i + 1)=(lvs b t 0 0 w1 h1).take i ++ [f]:=by rw [List.take_add_one,hf]; rfl
   refine ⟨a,_,Y,KI ha,Y,_,_,Y,_,_,Y,_,_,Y,_,_,Y,_,_,Y,Y,?_⟩;have hdu4:Dt pl H4 u du:=hdu.but ⟨_,k2⟩ b4;rcases dq b t 0 0 w1 h1 f (B5 hf) with et | ⟨ki,c,px,py,et⟩
   ·rw [et] at tdu;obtain ⟨a', xs, rfl, hx, dxs⟩:=hdu4.ref_row (show bi du=some [.str "rest"] from tdu);cases dxs with
    | cons hd0 dxs =>
    cases hd0;cases dxs;refine ⟨_,Y,ixR (Same.refl _) hx (aU (E6 _) rfl) ⟨Y,_,Y,?_⟩⟩;refine aF ⟨⟨_,_,_,_,_,_,_,_,_,_,rfl⟩,⟨as,hp4,?_⟩,l4,pu4,b4,s4⟩;rw [tk,List.filterMap_append,show [f].filterMap lfQ=[] by rw [List.filterMap_cons,show lfQ f=none by unfold lfQ; rw [et]]; rfl,List.append_nil];exact pa4
   ·rw [et] at tdu;obtain ⟨a', xs, rfl, hx, dxs⟩:=hdu4.ref_row (show bi du=some [.str "piece", .int ki, .bool c, .int px, .int py] from tdu);cases dxs with
    | cons hd0 dxs =>
    cases dxs with
    | cons hd1 dxs =>
    cases dxs with
    | cons hd2 dxs =>
    cases dxs with
    | cons hd3 dxs =>
    cases dxs with
    | cons hd4 dxs =>
    cases dxs;cases hd0; cases hd1; cases hd2; cases hd3; cases hd4;refine ⟨_,Y,ixR (Same.refl _) hx (aU (E6 _) rfl) ⟨Y,_,Y,?_⟩⟩;refine aV ?_;refine ⟨_,Y,a',_,Y,hx.imp (λ z=>KJ z) (λ z=>KI z),Y,_,_,Y,_,_,Y,_,_,Y,_,_,Y,_,_,Y,Y,?_⟩;refine ⟨_,Y,.inl ⟨Y,_,KJ hp4⟩,_,Y,_,Y,_,Y,_,Y,_,_,Y,Y,_,Y,_,Y,_,_,Y,Y,zS4,λ tp htp=>?_⟩;have s5:=KH htp (o:=.tup [.int ki,.bl c,.int (f.x + px),.int (f.y + py)]);have k5:(upd H4 tp (.tup [.int ki,.bl c,.int (f.x + px),.int (f.y + py)])) tp=some (.tup [.int ki,.bl c,.int (f.x + px),.int (f.y + py)]):=ae;rw [show upd H4 tp _=upd H4 tp (.tup [.int ki,.bl c,.int (f.x + px),.int (f.y + py)]) from rfl];generalize upd H4 tp (.tup [.int ki,.bl c,.int (f.x + px),.int (f.y + py)])=H5 at s5 k5 ⊢;have hp5:=s5 _ _ hp4;refine ⟨pl,_,_,Y,Y,hp5,(by rw [List.length_map]; omega),?_⟩;have kt:∀ (a:Addr) (xs:List V),H4 a=some (.tup xs)->(upd H5 pl (.lst (as.map V.ref ++ [.ref tp]))) a=some (.tup xs):=λ a xs e=>by rw [aj (λ z=>by rw [z,hp4] at e; cases e)]; exact s5 _ _ e
    refine ⟨⟨_,_,_,_,_,_,_,_,_,_,Y⟩,⟨as ++ [tp],by rw [ae,List.map_append]; rfl,?_⟩,by rw [aj npl]; exact s5 _ _ l4,KK pu4 λ v f h=>h.keep kt,b4.trans (λ cc o n e=>by rw [aj n]; exact s5 _ _ e),λ cc o e=>by rw [aj (λ z=>by rw [z,fp] at e; cases e)]; exact s5 _ _ (s4 _ _ e)⟩;rw [tk,List.filterMap_append,show [f].filterMap lfQ=[⟨ki,c,f.x + px,f.y + py⟩] by rw [List.filterMap_cons,show lfQ f=some ⟨ki,c,f.x + px,f.y + py⟩ by unfold lfQ; rw [et]]; rfl];exact jJ (PA.keep kt pa4) (.cons (show _=_ by rw [aj (λ z=>by rw [z,hp5] at k5; cases k5)]; exact k5) .nil)
  ·rintro σ H4 ⟨⟨v5,v6,v7,v8,v9,v10,v11,v12,v13,v14,rfl⟩,⟨as,hp4,pa4⟩,l4,pu4,b4,s4⟩;rw [ul,List.take_length] at pa4;have:=E4 pa4;have fml:((lvs b t 0 0 w1 h1).filterMap lfQ).length<=(lvs b t 0 0 w1 h1).length:=List.length_filterMap_le _ _;exact hR _ _ _ _ _ _ _ _ _ _ _ ⟨as,hp4,pa4,by omega⟩ s4
 rintro v5 v6 v7 v8 v9 v10 v11 v12 v13 v14 H3 ⟨as,hp3,pa3,al⟩ s3;have mem:=PA.mem pa3;have mp:=PA.map pa3;refine ⟨_,Y,pl,as,[false,true,false,false],λ a=>HC (gz H3 a),Y,KJ hp3,by omega,Y,λ a ha=>⟨_,KI (mem a ha),Y⟩,λ l as' hl pa=>?_⟩;have s4:=KH hl (o:=.lst (as'.map V.ref));refine q l as' (as'.map (gz H3)) _ (s3.free hl) ae (PA.keep (λ a xs e=>s4 _ _ e) (PA.back λ a ha=>mem a (pa.mem_iff.mp ha))) ?_ (s3.trans s4);rw [<- mp]; exact pa.map _
end
theorem tO {X:Cx}:CL X (λ o i H Q=>∃p xs k x,o=.ref p/\i=.int k/\0<=k/\H p=some (.lst xs)/\atI xs k=some x/\Q x H):=by
 intro pins s σ H o i ov iv Q I ro ri h;obtain ⟨p,xs,k,x,rfl,rfl,k0,hp,hx,q⟩:=h;cases ro;obtain ⟨t,rfl⟩:=ri;obtain ⟨its,r,pl,hz⟩:=I.list (KJ hp);obtain ⟨j,h1,h2,h3,h4,h5⟩:=gE hx;obtain ⟨w,ew,rw'⟩:=r.get h2;have hl:=r.length;have hn:=fo;have hj:k.toNat=j:=by rw [seqIndex_of k0 h5] at h1;exact B8 h1
 exact wpAny_getItem_list pl.isList k0 (by omega) (by rw [hj]; simpa using ew) ⟨x,H,I,rw',q⟩
def cu (ps:List Pce) (n:Nat):List Int:=(List.range n).map λ k=>((ps.filter λ p=>p.k == k).length:Int)
theorem eE (ps:List Pce) (n:Nat):(cu ps n).length=n:=by unfold cu; rw [List.length_map,List.length_range]
theorem fV {ps:List Pce} {n k:Nat} (h:k < n):(cu ps n)[k]? = some ((ps.filter λ p=>p.k == k).length:Int):=by unfold cu;rw [List.getElem?_map,List.getElem?_range h]; rfl
theorem qQ {ps qs:List Pce} (h:ps.Perm qs) (n:Nat):cu ps n=cu qs n:=by unfold cu;apply List.map_congr_left;intro k _;rw [(h.filter _).length_eq]
theorem tP {ps:List Pce} {p:Pce} {n:Nat} (h:p.k < n):((cu ps n).map V.int).set p.k (.int (((ps.filter λ q=>q.k == p.k).length:Int) + 1))=(cu (ps ++ [p]) n).map V.int:=by
 apply List.ext_getElem?;intro j;rw [List.getElem?_set]
 by_cases hj:j < n
 ·rw [List.getElem?_map,List.getElem?_map,fV hj,fV hj,List.length_map,eE]
  by_cases e:p.k=j
  ·subst e;rw [if_pos rfl,if_pos h,List.filter_append,List.length_append];simp
  ·rw [if_neg e,List.filter_append,List.length_append];have:([p].filter λ q=>q.k == j)=[]:=by simp [e]
   rw [this]; rfl
 ·have h1:((cu ps n).map V.int)[j]? = none:=C8 (by rw [List.length_map,eE]; omega);have h2:((cu (ps ++ [p]) n).map V.int)[j]? = none:=C8 (by rw [List.length_map,eE]; omega);rw [h1,h2,if_neg (by omega)]
theorem ik {b:Int} {ks:List Kd}:∀ (t:Tr) (x y w h:Int),okT b ks w h t->∀f∈lvs b t x y w h,∀i c u v,f.t=.piece i c u v->i < ks.length
 | .rest,_,_,_,_,_,f,hf,i,c,u,v,e=>by cases E3.mp hf; cases e
 | .piece ..,_,_,_,_,⟨k,hk,_⟩,f,hf,i,c,u,v,e=>by cases E3.mp hf;cases e;exact (A6.mp hk).1
 | .cut true p l r,x,y,w,h,⟨_,_,hl,hr⟩,f,hf,i,c,u,v,e=>by rw [lvs] at hf;exact (C2.mp hf).elim (λ z=>ik r _ _ _ _ hr f z i c u v e) (λ z=>ik l _ _ _ _ hl f z i c u v e)
 | .cut false p l r,x,y,w,h,⟨_,_,hl,hr⟩,f,hf,i,c,u,v,e=>by rw [lvs] at hf;exact (C2.mp hf).elim (λ z=>ik r _ _ _ _ hr f z i c u v e) (λ z=>ik l _ _ _ _ hl f z i c u v e)
theorem tQ {b:Int} {ks:List Kd} {t:Tr} {w h:Int} (ok:okT b ks w h t) {p:Pce} (hp:p∈pcs b t w h):p.k < ks.length:=by
 obtain ⟨f,hf,e⟩:=List.mem_filterMap.mp hp;rcases dq b t 0 0 w h f hf with et | ⟨i,c,u,v,et⟩
 ·unfold lfQ at e; rw [et] at e; cases e
 ·have:=ik t 0 0 w h ok f hf i c u v et;unfold lfQ at e; rw [et] at e; cases e; exact this
section
variable {P:KC} {w:KF} {K:C4} {mg:Str->Option KG} {base:Heap}
inductive spCountsO (C:Addr) (vs:List V) (H:Hp) (Q:VK) (E_:XK):Prop
 | mk (pp s:Addr) (b w h:Int) (ks:List Kd) (v:V) (d:PyData) (t:Tr) (e_1:vs=[.ref s,.int w,.int h,v]) (e_2:TrH C pp s b w h ks v d t H) (e_3:ks.length<=8) (e_4:∀ (l:Addr) (H':Hp),H l=none->H' l=some (.lst ((cu (pcs b t w h) ks.length).map V.int))->Same H H'->Q (.ref l) H'):spCountsO C vs H Q E_
inductive spWorthO (C:Addr) (vs:List V) (H:Hp) (Q:VK) (E_:XK):Prop
 | mk (pp s:Addr) (b w h:Int) (ks:List Kd) (v:V) (d:PyData) (t:Tr) (e_1:vs=[.ref s,.int w,.int h,v]) (e_2:TrH C pp s b w h ks v d t H) (e_3:ks.length<=8) (e_4:(∀k∈ks,Good k)) (e_5:∀ (H':Hp),Same H H'->Q (.int (((cu (pcs b t w h) ks.length).zip ks).map λ z=>z.1 * z.2.wo).sum) H'):spWorthO C vs H Q E_
theorem sccountso:FnScope ["shop","wide","high","tree","pieces","counts","kind","turned","x","y"] ["shop","wide","high","tree"] (defScope dj):=⟨Y,Y,Y,by decide +kernel,Y,by decide +kernel,by decide +kernel⟩
theorem mE {f C:Addr} {fd:KD} (F:Fun K "counts_of" "counts_of" dj f fd) (B:Blt mg) (T:ShopTxt K C) (MK:Mn P w K mg base C "kinds" ["self"] 1 (eK C)) (DP:Dn P w K mg base "pieces_of" ["shop","wide","high","tree"] 8 (spPieces C)):FnOk P w K mg base CX0 9 f fd ["shop","wide","high","tree"] (spCountsO C):=by
 refine F.ok sccountso (λ vs H Q E h=>?_) (λ cdv A outer s H vs Q E hr h=>?_)
 ·obtain ⟨pp,s,b,w1,h1,ks,v,d,t,rfl,_⟩:=h
  rfl
 obtain ⟨pp,s,b,w1,h1,ks,v,d,t,rfl,th,k8,q⟩:=h;have nd:=sccountso.nd;refine ⟨_,(ad (@ax _ _ 4 _ _ _ _ nd rfl (Or.inl rfl) (aq DP hr rfl ((pv 0)^^^((pv 1)^^^((pv 2)^^^((pv 3)^^^ab)))) (by decide) rfl rfl) rfl (Or.inl rfl)) (ad (jr (i:=5) (own:=["kind"]) (cs:=[]) (cap:=[]) rfl nd rfl rfl rfl (bq (cW (pv 0) T.cl MK (hr.mono (by decide)))) (bv (sc:=defScope dj) (N:=["shop","wide","high","tree","pieces","counts","kind","turned","x","y"]) rfl rfl (by decide +kernel)) (λ _ _ _ _ _=>ai (i:=0) (by show List.Nodup (["kind"]:List Str) ; decide +kernel) rfl (Or.inl rfl) (Or.inr rfl)) (λ _ _ _ _ _=>bR) (λ _ _ _ _ _=>af)) (ad (bE E5 rfl (bq (pv 4)) (aS rfl (ah (ai (i:=6) nd rfl (Or.inl rfl)) (ah (ai (i:=7) nd rfl (Or.inl rfl)) (ah (ai (i:=8) nd rfl (Or.inl rfl)) (ah (ai (i:=9) nd rfl (Or.inl rfl)) aG))))) (ag (uT (pv 5) (pv 6) tO af rO gZ)) (by intro _; rfl)) (ag (au (pv 5)))))),?_⟩;have sz:(40000:Nat)<=sizeLine:=by decide
 refine ap (λ R=>∀pl as ps (H':Hp),H' pl=some (.lst (as.map V.ref))->Paired (PA H') as ps->ps.Perm (pcs b t w1 h1)->Same H H'->R [some (.ref s),some (.int w1),some (.int h1),some v,some (.ref pl),none,none,none,none,none] H') (λ Dd hR=>?_) ?_
 ·exact ⟨_,Y,_,Y,_,Y,_,Y,pp,s,b,w1,h1,ks,v,d,t,Y,th,λ l as ps H1 hl l1 pa pe s1=>hR l as ps _ l1 pa pe s1⟩
 rintro pl as ps H1 hp1 pa1 pe s1;have th1:=th.same s1;refine ap (λ R=>∀cl (H':Hp),H1 cl=none->H' cl=some (.lst ((cu [] ks.length).map V.int))->Same H1 H'->R [some (.ref s),some (.int w1),some (.int h1),some v,some (.ref pl),some (.ref cl),none,none,none,none] H') (λ Dd hR=>?_) ?_
 ·obtain ⟨dx,r,rs,S1,S2,S3⟩:=id th1.sh;refine ⟨_,Y,s,dx,_,Y,S1,(bH _ _ (by decide +kernel) (by decide +kernel)),s,b,ks,Y,th1.sh,λ l rs' hl tp=>?_⟩;have s2:=KH hl (o:=.lst rs');have k2:(upd H1 l (.lst rs')) l=some (.lst rs'):=ae;generalize upd H1 l (.lst rs')=H2 at s2 k2 ⊢;have tl:=E4 tp;refine ⟨l,Y,⟨_,KJ k2⟩,(ed (K:=K) (.inl k2) (λ i ys Hx=>Same H2 Hx/\ys=List.replicate i (.int 0)) (λ i ys Hx _ ⟨sx,_⟩ o e=>sx _ _ e) ⟨Same.refl _,Y⟩ ?_ ?_).1 k2⟩
  ·rintro i x ys Hx hi ⟨sx,rfl⟩;have hin:i < rs'.length:=(A6.mp hi).1;refine ⟨by rw [List.length_replicate]; omega,leS.set rfl,bS ?_⟩;show Nx rs'.length (λ i ys Hx=>Same H2 Hx/\ys=List.replicate i (V.int 0)) i (List.replicate i (V.int 0) ++ [.int 0]) Hx;refine Nx.of hin ?_;exact ⟨sx,(List.replicate_succ' ..).symm⟩
  ·rintro ys Hx ⟨sx,rfl⟩;refine ⟨by rw [List.length_replicate]; omega,λ cl hcl=>hR cl _ ((s2.trans sx).free hcl) ?_ ((s2.trans sx).trans (KH hcl))⟩;rw [ae];congr 2;rw [tl];unfold cu;apply List.ext_getElem
   ·simp
   ·intro j h1 h2;simp
 rintro cl H2 hcl hc2 s2;have fc:H cl=none:=s1.free hcl;have npc:pl≠cl:=λ z=>by rw [<- z,hp1] at hcl; cases hcl
 have pal:=E4 pa1;have pa2:Paired (PA H2) as ps:=PA.keep (λ a xs e=>s2 _ _ e) pa1;have hp2:=s2 _ _ hp1;refine ap (λ R=>∀v6 v7 v8 v9 (H':Hp),H' cl=some (.lst ((cu ps ks.length).map V.int))->Same H H'->R [some (.ref s),some (.int w1),some (.int h1),some v,some (.ref pl),some (.ref cl),v6,v7,v8,v9] H') (λ Dd hR=>?_) ?_
 ·refine ⟨_,Y,pl,Y,⟨_,KJ hp2⟩,bJ (xs:=as.map V.ref) (λ i σ' H'=>(∃v6 v7 v8 v9,σ'=[some (.ref s),some (.int w1),some (.int h1),some v,some (.ref pl),some (.ref cl),v6,v7,v8,v9])/\H' cl=some (.lst ((cu (ps.take i) ks.length).map V.int))/\H' pl=some (.lst (as.map V.ref))/\Paired (PA H') as ps/\Same H H') ⟨⟨_,_,_,_,Y⟩,hc2,hp2,pa2,s1.trans s2⟩ (λ i σ H' _ h=>KJ h.2.2.1) ?_ ?_⟩
  ·rintro i x σ H3 hi ⟨⟨v6,v7,v8,v9,rfl⟩,hc3,hp3,pa3,s3⟩;rw [List.getElem?_map] at hi;obtain ⟨a,ha,rfl⟩:=Option.map_eq_some_iff.mp hi;obtain ⟨p,hpi,pA⟩:=KL pa3 ha;have hk:=tQ th.ok (pe.mem_iff.mp (B5 hpi));have pA:H3 a=some (.tup [.int p.k,.bl p.c,.int p.x,.int p.y]):=pA;refine ⟨a,_,Y,KI pA,Y,_,_,Y,_,_,Y,_,_,Y,_,_,Y,Y,?_⟩;have hat:atI ((cu (ps.take i) ks.length).map V.int) (p.k:Int)=some (.int (((ps.take i).filter λ q=>q.k == p.k).length:Int)):=aU (by omega) (by rw [Int.toNat_natCast,List.getElem?_map,fV hk]; rfl);have hix:ixN ((cu (ps.take i) ks.length).map V.int).length (p.k:Int)=some p.k:=by unfold ixN;rw [if_pos (by omega),List.length_map,eE,if_pos (by omega),Int.toNat_natCast]
   refine ⟨_,Y,_,Y,cl,_,_,_,Y,Y,by omega,hc3,hat,_,_,Y,Y,cl,_,_,p.k,Y,Y,hc3,hix,?_⟩;have kt:∀ (o:HO) (a:Addr) (xs:List V),H3 a=some (.tup xs)->(upd H3 cl o) a=some (.tup xs):=λ o a xs e=>by rw [aj (λ z=>by rw [z,hc3] at e; cases e)]; exact e
   refine ⟨⟨_,_,_,_,Y⟩,?_,by rw [aj npc]; exact hp3,PA.keep (kt _) pa3,λ c o e=>by rw [aj (λ z=>by rw [z,fc] at e; cases e)]; exact s3 _ _ e⟩;rw [ae,tP hk,List.take_add_one,hpi]; rfl
  ·rintro σ H3 ⟨⟨v6,v7,v8,v9,rfl⟩,hc3,hp3,pa3,s3⟩;rw [List.length_map,pal,List.take_length] at hc3;exact hR _ _ _ _ _ hc3 s3
 rintro v6 v7 v8 v9 H3 hc3 s3;rw [qQ pe] at hc3;exact ⟨_,Y,q cl H3 fc hc3 s3⟩
end
section
variable {P:KC} {w:KF} {K:C4} {mg:Str->Option KG} {base:Heap}
theorem scwortho:FnScope ["shop","wide","high","tree","counts"] ["shop","wide","high","tree"] (defScope ez):=⟨Y,Y,Y,by decide +kernel,Y,by decide +kernel,by decide +kernel⟩
theorem qR {f C:Addr} {fd:KD} (F:Fun K "worth_of" "worth_of" ez f fd) (B:Blt mg) (T:ShopTxt K C) (MK:Mn P w K mg base C "kinds" ["self"] 1 (eK C)) (DCo:Dn P w K mg base "counts_of" ["shop","wide","high","tree"] 9 (spCountsO C)):FnOk P w K mg base CX0 10 f fd ["shop","wide","high","tree"] (spWorthO C):=by
 refine F.ok scwortho (λ vs H Q E h=>?_) (λ cdv A outer s H vs Q E hr h=>?_)
 ·obtain ⟨pp,s,b,w1,h1,ks,v,d,t,rfl,_⟩:=h
  rfl
 obtain ⟨pp,s,b,w1,h1,ks,v,d,t,rfl,th,k8,gk,q⟩:=h;have nd:=scwortho.nd;refine ⟨_,(ad (@ax _ _ 4 _ _ _ _ nd rfl (Or.inl rfl) (aq DCo hr rfl ((pv 0)^^^((pv 1)^^^((pv 2)^^^((pv 3)^^^ab)))) (by decide) rfl rfl) rfl (Or.inl rfl)) (ag (au (aO (qm rfl) rfl B.sum PyProof.Rows.boot_sum ((dB (own:=["count","kind"]) (cs:=[]) (cap:=[]) rfl (xA rfl B.zip ((pv 4)^^^((cW (pv 0) T.cl MK (hr.mono (by decide)))^^^ab))) (bv (sc:=defScope ez) (N:=["shop","wide","high","tree","counts"]) rfl rfl (by decide +kernel)) (λ _ _ _ _ _=>jw K rfl rfl (by show List.Nodup (["count","kind"]:List Str) ; decide +kernel) rfl rfl rfl rfl) (λ _ _ _ _ _=>bR) (λ _ _ _ _ _=>(aA dA (pv 0) (ay (r:=rIxT K) ix_tup (pv 1) af (λ _ _=>rfl)))))^^^ab) (by decide) (by decide) rfl rfl)))),?_⟩;have sz:(40000:Nat)<=sizeLine:=by decide
 refine ap (λ R=>∀cl (H':Hp),H' cl=some (.lst ((cu (pcs b t w1 h1) ks.length).map V.int))->Same H H'->R [some (.ref s),some (.int w1),some (.int h1),some v,some (.ref cl)] H') (λ Dd hR=>?_) ?_
 ·exact ⟨_,Y,_,Y,_,Y,_,Y,pp,s,b,w1,h1,ks,v,d,t,Y,th,k8,λ l H1 hl l1 s1=>hR l _ l1 s1⟩
 rintro cl H1 hc1 s1;have th1:=th.same s1;obtain ⟨dx,r,rs,S1,S2,S3⟩:=id th1.sh;obtain ⟨m1,m2⟩:=TrD.many (b:=b) t d 0 0 w1 h1 th.td;have wd:=th.wd;have ln:=th.ln;have pl54:(pcs b t w1 h1).length<=1000:=C5 (List.length_filterMap_le _ _) (by omega);refine ⟨_,Y,_,Y,s,dx,_,Y,S1,(bH _ _ (by decide +kernel) (by decide +kernel)),s,b,ks,Y,th1.sh,λ l rs' hl tp=>?_⟩;have s2:=KH hl (o:=.lst rs');have k2:(upd H1 l (.lst rs')) l=some (.lst rs'):=ae;have tp2:Tups (upd H1 l (.lst rs')) rs' ks:=Tups.keep (λ c xs e=>s2 _ _ e) tp;generalize upd H1 l (.lst rs')=H2 at s2 k2 tp2 ⊢;have tl:=E4 tp;have hc2:=s2 _ _ hc1;have e60:(100:Int) < 10 ^ 60:=by decide
 generalize hcn:cu (pcs b t w1 h1) ks.length=cn at *;have cl0:cn.length=ks.length:=by rw [<- hcn,eE]
 have cb:∀ (i:Nat) (c:Int),cn[i]? = some c->0<=c/\c<=1000:=λ i c hi=>by
  have hlt:i < ks.length:=by rw [<- cl0]; exact (A6.mp hi).1
  rw [<- hcn,fV hlt] at hi;cases hi;have:=List.length_filter_le (λ p:Pce=>p.k == i) (pcs b t w1 h1);omega
 refine ⟨cl,l,_,_,Y,hc2,k2,sP (xs:=cn.map V.int) (ys:=rs') (λ i zs H4=>Same H2 H4/\zs=(((cn.zip ks).take i).map λ z=>z.1 * z.2.wo).map V.int) (by rw [List.length_map,cl0]; exact tl.symm) (λ i zs H4 ⟨s4,_⟩=>⟨s4 _ _ hc2,s4 _ _ k2⟩) ⟨Same.refl _,Y⟩ (λ i zs H4 hi ⟨_,e⟩=>by rw [e,List.length_map,List.length_map,List.length_take]; rw [List.length_map] at hi; omega) ?_ ?_⟩
 ·rintro i x y tz zs H4 hx hy htz ⟨s4,rfl⟩;rw [List.getElem?_map] at hx;obtain ⟨c,hc,rfl⟩:=Option.map_eq_some_iff.mp hx;obtain ⟨k,hk,ak,rfl,hak⟩:=KL tp2 hy;have g:=gk k (B5 hk);have hcb:=cb i c hc;have s5:=KH htz (o:=.tup [.int c,.ref ak]);have k5:(upd H4 tz (.tup [.int c,.ref ak])) tz=some (.tup [.int c,.ref ak]):=ae;generalize upd H4 tz (.tup [.int c,.ref ak])=H5 at s5 k5 ⊢;have ak5:H5 ak=some (.tup [.int k.w,.int k.h,.int k.wo,.int k.wa,.bl k.tu]):=s5 _ _ (s4 _ _ hak);refine ⟨tz,_,Y,KI k5,Y,_,_,Y,_,_,Y,Y,vJ (leS.set rfl) (leS.set rfl),bS ?_⟩;refine ⟨_,Y,_,Y,ak,_,2,_,Y,Y,KI ak5,Y,_,_,Y,Y,?_,Nx.of (by rw [List.length_map,cl0]; exact (A6.mp hk).1) ⟨s4.trans s5,?_⟩⟩
  ·exact .inl ⟨by omega,by omega⟩
  ·have hzz:(cn.zip ks)[i]? = some (c,k):=by rw [List.getElem?_zip_eq_some]; exact ⟨hc,hk⟩
   rw [List.take_add_one,hzz];simp only [Option.toList_some,List.map_append,List.map_cons,List.map_nil]
 ·rintro zs H4 ⟨s4,rfl⟩;refine ⟨by rw [List.length_map,List.length_map,List.length_take,List.length_zip]; omega,λ p hp=>?_⟩;rw [List.length_map,List.take_of_length_le (by rw [List.length_zip]; omega)];exact ⟨p,_,Y,KJ ae,q _ (((s1.trans s2).trans s4).trans (KH hp))⟩
end
section
variable {P:KC} {w:KF} {K:C4} {mg:Str->Option KG} {base:Heap}
inductive spCS (vs:List V) (H:Hp) (Q:VK) (E_:XK):Prop
 | mk (w h m:Int) (e_1:vs=[.int w,.int h,.int m]) (e_2:w<=m) (e_3:h<=m) (e_4:Q .non H):spCS vs H Q E_
inductive spLies (C:Addr) (vs:List V) (H:Hp) (Q:VK) (E_:XK):Prop
 | mk (s:Addr) (b:Int) (ks:List Kd) (w h i:Int) (c:Bool) (k:Kd) (e_1:vs=[.ref s,.int w,.int h,.int i,.bl c,.int 0,.int 0]) (e_2:ShopAt C H s b ks) (e_3:dE ks (.int i) (.bl c)=true) (e_4:ks[i.toNat]? = some k) (e_5:∀H',Same H H'->Q (.bl (iA k c w h)) H'):spLies C vs H Q E_
theorem sccsides:FnScope ["wide","high","most"] ["wide","high","most"] (defScope cQ):=⟨Y,Y,Y,by decide +kernel,Y,by decide +kernel,by decide +kernel⟩
theorem qS {f:Addr} {fd:KD} (F:Fun K "check_sides" "check_sides" cQ f fd)  : FnOk P w K mg base CX0 1 f fd ["wide","high","most"] (spCS):=by
 refine F.ok sccsides (λ vs H Q E h=>?_) (λ cdv A outer s H vs Q E hr h=>?_)
 ·obtain ⟨w1,h1,m,rfl,_⟩:=h
  rfl
 obtain ⟨w1,h1,m,rfl,hw,hh,q⟩:=h;have nd:=sccsides.nd;refine ⟨_,(ag (aI (PW.pt (bQ (az cN (pv 0) (pv 2) (aw _)) (bK (az cN (pv 1) (pv 2) (aw _))))) (ag cY) av)),?_⟩;refine ⟨_,Y,_,Y,_,_,Y,Y,_,Y,?_⟩;rw [decide_eq_false (show ¬ m < w1 by omega)];refine aF ⟨_,rfl,_,rfl,_,_,rfl,rfl,_,rfl,?_⟩;rw [decide_eq_false (show ¬ m < h1 by omega)];exact aF q
theorem sclies:FnScope ["shop","wide","high","kind","turned","x","y","piece_wide","piece_high"] ["shop","wide","high","kind","turned","x","y"] (defScope eM):=⟨Y,Y,Y,by decide +kernel,Y,by decide +kernel,by decide +kernel⟩
theorem vK {f C:Addr} {fd:KD} (F:Fun K "lies_in" "lies_in" eM f fd) (T:ShopTxt K C) (DW:Dn P w K mg base "is_whole" ["thing","least"] 1 (bU K)) (MI:Mn P w K mg base C "is_lying" ["self","kind","turned"] 2 (de K C)) (MS:Mn P w K mg base C "sides" ["self","kind","turned"] 3 (spSides K C)):FnOk P w K mg base CX0 4 f fd ["shop","wide","high","kind","turned","x","y"] (spLies C):=by
 refine F.ok sclies (λ vs H Q E h=>?_) (λ cdv A outer s H vs Q E hr h=>?_)
 ·obtain ⟨s,b,ks,w,h,i,c,k,rfl,_⟩:=h
  rfl
 obtain ⟨s,b,ks,w,h,i,c,k,rfl,S,ly,hk,q⟩:=h;have nd:=sclies.nd;have hr1:=hr.mono (show 1<=3 by decide);have hr2:=hr.mono (show 2<=3 by decide);refine ⟨_,(ad (aI (PW.pt (bQ (aR (aK (kB (pv 0) T.cl MI hr2 ((pv 3)^^^((pv 4)^^^ab))) (by intro _; rfl))) (bQ (aR (aK (aq DW hr1 rfl ((pv 5)^^^(af^^^ab)) (by decide) rfl rfl) (by intro _; rfl))) (bK (aR (aK (aq DW hr1 rfl ((pv 6)^^^(af^^^ab)) (by decide) rfl rfl) (by intro _; rfl))))))) (ag (au bD)) av) (ad (bm (kB (pv 0) T.cl MS hr ((pv 3)^^^((pv 4)^^^ab))) (aS rfl (ah (ai (i:=7) nd rfl (Or.inl rfl)) (ah (ai (i:=8) nd rfl (Or.inl rfl)) aG))) rfl rfl rfl) (ag (au (bL (be cM (aA aM (pv 5) (pv 7)) (pv 1) (aw _)) (bV (be cM (aA aM (pv 6) (pv 8)) (pv 2) (aw _)))))))),?_⟩;obtain ⟨dx,r,rs,h1,h2,h3⟩:=id S;refine ⟨_,Y,s,dx,_,Y,h1,bH _ _ (by decide +kernel) (by decide +kernel),_,Y,_,Y,s,b,ks,.int i,.bl c,"int","bool",Y,S,Ty.int,Ty.bl,_,Y,?_⟩;rw [ly];refine aF ⟨_,rfl,.int 0,"int",0,rfl,Ty.int,_,rfl,aF ⟨_,rfl,.int 0,"int",0,rfl,Ty.int,_,rfl,aF ?_⟩⟩;refine ⟨_, Y, s, dx, _, Y, h1, bH _ _ (by decide +kernel) (by decide +kernel), _, Y, _, Y, s, b, ks, .int i, .bl c, "int", "bool", Y, S, Ty.int, Ty.bl, ly, λ i' c' k' p e1 e2 hk' _ hp=>?_⟩;cases e1;cases e2;rw [hk] at hk';cases hk';rw [kZ];have q1:=q _ (KH hp (o:=.tup [.int (sd1 k c),.int (sd2 k c)]));refine ⟨p,_,Y,KI ae,Y,_,_,Y,_,_,Y,Y,?_⟩;refine ⟨_,Y,_,Y,_,_,Y,Y,_,Y,_,_,Y,Y,_,Y,?_⟩;unfold iA at q1;refine cV (λ cc=>?_) (λ cc=>?_)
 ·refine ⟨_,Y,_,Y,_,_,Y,Y,_,Y,_,_,Y,Y,?_⟩;rw [Int.zero_add] at cc ⊢;rw [cc] at q1;exact q1
 ·rw [Int.zero_add] at cc;rw [show decide (sd1 k c<=w)=false by simpa using cc] at q1;exact q1
end
section
variable {P:KC} {w:KF} {K:C4} {mg:Str->Option KG} {base:Heap}
theorem vL {i:Nat} {k:Kd} {q:Nat×Bool} (h:q∈lyT i k):q.1=i/\(q.2=false\/aW k=true):=by
 unfold lyT at h;rcases List.mem_cons.mp h with rfl | h
 ·exact ⟨Y,.inl rfl⟩
 ·by_cases c:aW k=true
  ·rw [if_pos c] at h;rw [List.mem_singleton.mp h];exact ⟨Y,.inr c⟩
  ·rw [if_neg c] at h;simp at h
theorem fW:∀ {ks:List Kd} {i:Nat} {q:Nat×Bool},q∈lyK ks i->i<=q.1/\∃k,ks[q.1 - i]? = some k/\(q.2=false\/aW k=true)
 | [],_,_,h=>by simp [lyK] at h
 | k :: r,i,q,h=>by
  rcases C2.mp h with h | h
  ·obtain ⟨h1,h2⟩:=vL h;exact ⟨by omega,k,by rw [h1,Nat.sub_self]; rfl,h2⟩
  ·obtain ⟨h1,k',h2,h3⟩:=fW h;refine ⟨by omega,k',?_,h3⟩;rw [show q.1 - i=(q.1 - (i + 1)) + 1 by omega];exact h2
theorem jK {ks:List Kd} {q:Nat×Bool} (h:q∈lyK ks 0):dE ks (.int q.1) (.bl q.2)=true/\∃k,ks[q.1]? = some k:=by
 obtain ⟨_,k,h2,h3⟩:=fW h;rw [Nat.sub_zero] at h2;refine ⟨?_,k,h2⟩;unfold dE;simp only [Int.toNat_natCast,h2,Bool.and_eq_true];refine ⟨B0 (by omega),?_⟩;rcases h3 with e | e
 ·rw [e]; rfl
 ·rw [e,Bool.or_true]
def ck (ks:List Kd) (w h:Int) (q:Nat×Bool):Bool:=match ks[q.1]? with
 | some k=>iA k q.2 w h
 | none=>false
inductive spLyIn (C:Addr) (vs:List V) (H:Hp) (Q:VK) (E_:XK):Prop
 | mk (s t:Addr) (b:Int) (ks:List Kd) (w h:Int) (e_1:vs=[.ref s,.ref t]) (e_2:ShopAt C H s b ks) (e_3:ks.length<=8) (e_4:H t=some (.tup [.int w,.int h])) (e_5:∀ (l:Addr) (ys:List V) (H':Hp),H l=none->H' l=some (.lst ys)->Lys H' ys ((lyK ks 0).filter (ck ks w h))->Same H H'->Q (.ref l) H'):spLyIn C vs H Q E_
theorem sclyin:FnScope ["shop","part","wide","high"] ["shop","part"] (defScope di):=⟨Y,Y,Y,by decide +kernel,Y,by decide +kernel,by decide +kernel⟩
theorem vM {f C:Addr} {fd:KD} (F:Fun K "lyings_in" "lyings_in" di f fd) (T:ShopTxt K C) (ML:Mn P w K mg base C "lyings" ["self"] 2 (hV C)) (DLI:Dn P w K mg base "lies_in" ["shop","wide","high","kind","turned","x","y"] 4 (spLies C)):FnOk P w K mg base CX0 5 f fd ["shop","part"] (spLyIn C):=by
 refine F.ok sclyin (λ vs H Q E h=>?_) (λ cdv A outer s H vs Q E hr h=>?_)
 ·obtain ⟨s,t,b,ks,w,h,rfl,_⟩:=h
  rfl
 obtain ⟨s,t,b,ks,w,h,rfl,S,k8,ht,q⟩:=h;have nd:=sclyin.nd;have hr2:=hr.mono (show 2<=4 by decide);refine ⟨_,(ad (bm (pv 1) (aS rfl (ah (ai (i:=2) nd rfl (Or.inr rfl)) (ah (ai (i:=3) nd rfl (Or.inr rfl)) aG))) rfl rfl rfl) (ag (au (dB (own:=["kind","turned"]) (cs:=["shop","wide","high"]) (cap:=[0,2,3]) rfl (bq (cW (pv 0) T.cl ML hr2)) (bv (sc:=defScope di) (N:=["shop","part","wide","high"]) rfl rfl (by decide +kernel)) (λ _ _ _ _ _=>jw K rfl rfl (by show List.Nodup (["kind","turned","shop","wide","high"]:List Str) ; decide +kernel) rfl rfl rfl rfl) (λ _ _ _ _ _=>(kn (aK (aq DLI hr rfl ((pv 2)^^^((pv 3)^^^((pv 4)^^^((pv 0)^^^((pv 1)^^^(af^^^(af^^^ab))))))) (by decide) rfl rfl) (by intro _; rfl)))) (λ _ _ _ _ _=>(aB ((pv 0)^^^((pv 1)^^^ab)))))))),?_⟩;have sz:(100:Nat) < sizeLine:=by decide
 obtain ⟨dx,r,rs,h1,h2,h3⟩:=id S;refine ⟨_,Y,t,_,Y,KI ht,Y,_,_,Y,_,_,Y,Y,?_⟩;refine ⟨_,Y,s,dx,_,Y,h1,bH _ _ (by decide +kernel) (by decide +kernel),s,b,ks,Y,S,k8,λ l1 ys H1 hl1 l1' ly s1=>?_⟩;have lyl:=jt ks 0;have ylen:=E4 ly;refine ⟨l1,Y,⟨_,KJ l1'⟩,(ed (K:=K) (.inl l1') (λ i zs H4=>Same H1 H4/\zs.length<=i/\Lys H4 zs (((lyK ks 0).take i).filter (ck ks w h))) (λ i zs H4 _ ⟨s4,_⟩ o e=>s4 _ _ e) ⟨Same.refl _,B3 _,.nil⟩ ?_ ?_).1 l1'⟩
 ·rintro i y zs H4 hi ⟨s4,zl,lz⟩;have hin:i < ys.length:=(A6.mp hi).1;obtain ⟨qq,hq,a,rfl,ha⟩:=KL ly hi;obtain ⟨li,k,hk⟩:=jK (B5 hq);refine ⟨by omega,a,_,Y,KI (s4 _ _ ha),Y,_,_,Y,_,_,Y,Y,?_⟩;refine ⟨vJ (leS.set rfl) (leS.set rfl),?_⟩;have S4:ShopAt C H4 s b ks:=S.keep (λ c o e=>s4 _ _ (s1 _ _ e)) (λ c C' d fs e=>s4 _ _ (s1 _ _ e));refine ⟨_,Y,_,Y,_,Y,_,Y,_,Y,s,b,ks,w,h,(qq.1:Int),qq.2,k,Y,S4,li,(by rw [Int.toNat_natCast]; exact hk),λ H5 s5=>⟨_,Y,?_⟩⟩;have st:((lyK ks 0).take (i + 1)).filter (ck ks w h)=((lyK ks 0).take i).filter (ck ks w h) ++ (if iA k qq.2 w h=true then [qq] else []):=by rw [List.take_add_one,hq,List.filter_append];simp only [Option.toList_some,List.filter_cons,List.filter_nil];rw [show ck ks w h qq=iA k qq.2 w h by unfold ck; rw [hk]]
  dsimp only;refine cV (λ cc=>?_) (λ cc=>?_)
  ·rw [cc,if_pos rfl] at st;refine ⟨_,Y,_,Y,zS2,λ p hp=>Nx.of hin ⟨(s4.trans s5).trans (KH hp),by rw [List.length_append]; show _ + 1<=_; omega,?_⟩⟩;rw [st];refine Paired.snoc (Lys.keep (λ c o e=>?_) lz) ⟨p,rfl,ae⟩;have e5:=s5 _ _ e;rw [aj (am e5 hp)]; exact e5
  ·rw [if_neg cc,List.append_nil] at st;refine Nx.of hin ⟨s4.trans s5,by omega,?_⟩;rw [st];exact Lys.keep (λ c o e=>s5 _ _ e) lz
 ·rintro zs H4 ⟨s4,zl,lz⟩;rw [ylen,List.take_length] at lz;refine ⟨by omega,λ p hp=>q p zs _ ((s1.trans s4).free hp) ae (Lys.keep (λ c o e=>?_) lz) ((s1.trans s4).trans (KH hp))⟩;rw [aj (am e hp)]; exact e
end
def PtAt (H:Hp) (v:V) (p:Int×Int):Prop:=∃q,v=.ref q/\H q=some (.tup [.int p.1,.int p.2])
theorem PtAt.keep {H H':Hp} (s:Same H H') {v:V} {p:Int×Int} (h:PtAt H v p):PtAt H' v p:=by obtain ⟨q,e,h⟩:=h;exact ⟨q,e,s _ _ h⟩
def im (a:Int) (n:Nat):List (Int×Int):=(List.range n).map λ (c:Nat)=>(a,1 + (c:Int))
def ao (m n:Nat):List (Int×Int):=(List.range m).flatMap λ (a:Nat)=>im (1 + (a:Int)) n
theorem lg (a:Int) (n:Nat):(im a n).length=n:=by unfold im; rw [List.length_map,List.length_range]
theorem cT (m n:Nat):ao (m + 1) n=ao m n ++ im (1 + (m:Int)) n:=by unfold ao;rw [List.range_succ,List.flatMap_append];simp
theorem jb (a:Int) (n:Nat):im a (n + 1)=im a n ++ [(a,1 + (n:Int))]:=by
 unfold im;rw [List.range_succ,List.map_append]
 rfl
theorem bI (m n:Nat):(ao m n).length=m * n:=by
 induction m with
 | zero=>simp [ao]
 | succ m ih=>rw [cT,List.length_append,ih,lg,Nat.succ_mul]
section
variable {P:KC} {w:KF} {K:C4} {mg:Str->Option KG} {base:Heap}
inductive spParts (vs:List V) (H:Hp) (Q:VK) (E_:XK):Prop
 | mk (m n:Nat) (e_1:vs=[.int m,.int n]) (e_2:m<=16) (e_3:n<=16) (e_4:∀ (l:Addr) (ys:List V) (H':Hp),H' l=some (.lst ys)->Paired (PtAt H') ys (ao m n)->Same H H'->Q (.ref l) H'):spParts vs H Q E_
theorem scparts:FnScope ["wide","high"] ["wide","high"] (defScope cG):=⟨Y,Y,Y,by decide +kernel,Y,by decide +kernel,by decide +kernel⟩
theorem tS {f:Addr} {fd:KD} (F:Fun K "parts_up_to" "parts_up_to" cG f fd) (B:Blt mg):FnOk P w K mg base CX0 1 f fd ["wide","high"] (spParts):=by
 refine F.ok scparts (λ vs H Q E h=>?_) (λ cdv A outer s H vs Q E hr h=>?_)
 ·obtain ⟨m,n,rfl,_⟩:=h
  rfl
 obtain ⟨m,n,rfl,m16,n16,q⟩:=h;have nd:=scparts.nd;refine ⟨_,(ag (au (sR (own:=["a","b"]) (cs:=["high"]) (cap:=[1]) rfl (gi rfl B.range (af^^^((aA aM (pv 0) af)^^^ab))) (bv (sc:=defScope cG) (N:=["wide","high"]) rfl rfl (by decide +kernel)) (λ _ _ _ _ _=>ai (i:=0) (by show List.Nodup (["a","b","high"]:List Str) ; decide +kernel) rfl (Or.inl rfl) (Or.inr rfl)) (λ _ _ _ _ _=>bR) (λ _ _ _ _ _=>(gi rfl B.range (af^^^((aA aM (pv 2) af)^^^ab)))) (λ _ _ _ _ _=>ai (i:=1) (by show List.Nodup (["a","b","high"]:List Str) ; decide +kernel) rfl (Or.inl rfl) (Or.inr rfl)) (λ _ _ _ _ _=>bR) (λ _ _ _ _ _=>(aB ((pv 0)^^^((pv 1)^^^ab))))))),?_⟩;have z4:4096<=sizeLine:=by decide
 refine ⟨_,Y,_,_,Y,Y,1,_,Y,⟨by decide,by decide,by show -(2 ^ 62)<=(m:Int) + 1; omega,by show (m:Int) + 1 < 2 ^ 62; omega⟩,?_⟩;have em:((m:Int) + 1 - 1).toNat=m:=by omega
 show ∃W,_/\jA _ _ _ (Itr 1 ((m:Int) + 1 - 1).toNat) _ _ _ _ _ _ _ W;rw [em];refine qv (lo:=1) (n:=m) (λ i ys Hx=>Same H Hx/\Paired (PtAt Hx) ys (ao i n)) ⟨Same.refl _,.nil⟩ ?_ ?_
 ·rintro i ys Hx hi ⟨sx,py⟩;refine ⟨leS.set rfl,bS ?_⟩;refine ⟨_,Y,_,_,Y,Y,1,_,Y,⟨by decide,by decide,by show -(2 ^ 62)<=(n:Int) + 1; omega,by show (n:Int) + 1 < 2 ^ 62; omega⟩,?_⟩;have en:((n:Int) + 1 - 1).toNat=n:=by omega
  show ∃W2,_/\jz _ (Itr 1 ((n:Int) + 1 - 1).toNat) _ _ _ _ W2;rw [en];refine xI (lo:=1) (n:=n) (λ j zs Hy=>Same H Hy/\Paired (PtAt Hy) zs (ao i n ++ im (1 + (i:Int)) j)) ⟨sx,by show Paired _ _ (_ ++ []); rw [List.append_nil]; exact py⟩ ?_ ?_
  ·rintro j zs Hy hj ⟨sy,pz⟩;have pl:=E4 pz;rw [List.length_append,bI,lg] at pl;have:i * n<=16 * 16:=Nat.mul_le_mul (by omega) (by omega);refine ⟨by omega,leS.set rfl,bS ?_⟩;refine ⟨_,Y,_,Y,zS2,λ t ht=>?_⟩;obtain ⟨Hz,e1,k1,s1⟩:∃H',upd Hy t (.tup [.int (1 + i),.int (1 + j)])=H'/\H' t=some (.tup [.int (1 + i),.int (1 + j)])/\Same Hy H':=⟨_,Y,ae,KH ht⟩
   rw [show upd Hy t _=Hz from e1];refine Nx.of hj ⟨sy.trans s1,?_⟩;rw [jb,<- List.append_assoc];exact Paired.app (KK pz λ v p h=>h.keep s1) (.cons ⟨t,Y,k1⟩ .nil)
  ·rintro zs Hy ⟨sy,pz⟩;refine Nx.of hi ⟨sy,?_⟩;rw [cT];exact pz
 ·rintro ys Hx ⟨sx,py⟩;have pl:=E4 py;rw [bI] at pl;have:m * n<=16 * 16:=Nat.mul_le_mul (by omega) (by omega);refine ⟨by omega,λ l hl=>?_⟩;obtain ⟨Hz,e2,k2,s2⟩:∃H',upd Hx l (.lst ys)=H'/\H' l=some (.lst ys)/\Same Hx H':=⟨_,Y,ae,KH hl⟩
  rw [show upd Hx l _=Hz from e2];exact q l ys Hz k2 (KK py λ v p h=>h.keep s2) (sx.trans s2)
end
structure BeC (K:C4) (mg:Str->Option Value) (wa:Addr):Prop where
 dn:∃t,mg "DOWN" = some (.str "down" t)
 rs:∃t,mg "REST" = some (.str "rest" t)
 pc:∃t,mg "PIECE" = some (.str "piece" t)
 ac:∃t,mg "ACROSS" = some (.str "across" t)
 ms:∃t,mg "MOST_SIDE" = some (.int 16 t)
 wy:mg "WAYS" = some (.ref wa)
 wq:∀H,SqT K H wa [.str "down",.str "across"]
abbrev wv (dn:Bool):V:=.str (if dn=true then "down" else "across")
def WpAt (H:Hp) (v:V) (x:Bool×Int):Prop:=∃q,v=.ref q/\H q=some (.tup [wv x.1,.int x.2])
theorem WpAt.keep {H H':Hp} (s:Same H H') {v:V} {x:Bool×Int} (h:WpAt H v x):WpAt H' v x:=by obtain ⟨q,e,h⟩:=h;exact ⟨q,e,s _ _ h⟩
def wpL (dn:Bool) (n:Nat):List (Bool×Int):=(List.range n).map λ (j:Nat)=>(dn,1 + (j:Int))
theorem dO (dn:Bool) (n:Nat):(wpL dn n).length=n:=by unfold wpL; rw [List.length_map,List.length_range]
theorem lh (dn:Bool) (n:Nat):wpL dn (n + 1)=wpL dn n ++ [(dn,1 + (n:Int))]:=by
 unfold wpL;rw [List.range_succ,List.map_append]
 rfl
def aJ (b w h:Int):List (Bool×Int):=wpL true (w - b - 1).toNat ++ wpL false (h - b - 1).toNat
def aD (w h:Int) (x:Bool×Int):Int×Int:=if x.1=true then (x.2,h) else (w,x.2)
def aE (b w h:Int) (x:Bool×Int):Int×Int:=if x.1=true then (w - x.2 - b,h) else (w,h - x.2 - b)
def CutAt (b w h:Int) (H:Hp) (v:V) (x:Bool×Int):Prop:=∃q t1 t2,v=.ref q/\H q=some (.tup [wv x.1,.int x.2,.ref t1,.ref t2])/\H t1=some (.tup [.int (aD w h x).1,.int (aD w h x).2])/\H t2=some (.tup [.int (aE b w h x).1,.int (aE b w h x).2])
theorem CutAt.keep {b w h:Int} {H H':Hp} (s:Same H H') {v:V} {x:Bool×Int} (c:CutAt b w h H v x):CutAt b w h H' v x:=by obtain ⟨q,t1,t2,e,h1,h2,h3⟩:=c;exact ⟨q,t1,t2,e,s _ _ h1,s _ _ h2,s _ _ h3⟩
section
variable {P:KC} {w:KF} {K:C4} {mg:Str->Option KG} {base:Heap}
inductive spCuts (vs:List V) (H:Hp) (Q:VK) (E_:XK):Prop
 | mk (b w h:Int) (t:Addr) (e_1:vs=[.int b,.ref t]) (e_2:H t=some (.tup [.int w,.int h])) (e_3:w<=16) (e_4:h<=16) (e_5:0<=b) (e_6:∀ (l:Addr) (ys:List V) (H':Hp),H' l=some (.lst ys)->Paired (CutAt b w h H') ys (aJ b w h)->Same H H'->Q (.ref l) H'):spCuts vs H Q E_
theorem sccuts:FnScope ["blade","part","down","across"] ["blade","part"] (defScope dH):=⟨Y,Y,Y,by decide +kernel,Y,by decide +kernel,by decide +kernel⟩
theorem vN {f wa:Addr} {fd:KD} (F:Fun K "cuts_of" "cuts_of" dH f fd) (B:Blt mg) (Z:BeC K mg wa) (DP:Dn P w K mg base "cut_parts" ["blade","part","way","p"] 1 (spParts2)):FnOk P w K mg base CX0 2 f fd ["blade","part"] (spCuts):=by
 refine F.ok sccuts (λ vs H Q E h=>?_) (λ cdv A outer s H vs Q E hr h=>?_)
 ·obtain ⟨b,w1,h1,t,rfl,_⟩:=h
  rfl
 obtain ⟨b,w1,h1,t,rfl,ht,w16,h16,b0,q⟩:=h;have nd:=sccuts.nd;obtain ⟨tdn,hdn⟩:=Z.dn;obtain ⟨tac,hac⟩:=Z.ac;refine ⟨_,(ad (jr (i:=2) (own:=["p"]) (cs:=[]) (cap:=[]) rfl nd rfl rfl rfl (hX rfl B.range (af^^^((aA dX (ay ix_tup (pv 1) af (λ _ _=>rfl)) (pv 0))^^^ab))) (bv (sc:=defScope dH) (N:=["blade","part","down","across"]) rfl rfl (by decide +kernel)) (λ _ _ _ _ _=>ai (i:=0) (by show List.Nodup (["p"]:List Str) ; decide +kernel) rfl (Or.inl rfl) (Or.inr rfl)) (λ _ _ _ _ _=>bR) (λ _ _ _ _ _=>(aB ((aL (v:=.str "down") rfl hdn ⟨tdn,Y⟩)^^^((pv 0)^^^ab))))) (ad (jr (i:=3) (own:=["p"]) (cs:=[]) (cap:=[]) rfl nd rfl rfl rfl (hX rfl B.range (af^^^((aA dX (ay ix_tup (pv 1) af (λ _ _=>rfl)) (pv 0))^^^ab))) (bv (sc:=defScope dH) (N:=["blade","part","down","across"]) rfl rfl (by decide +kernel)) (λ _ _ _ _ _=>ai (i:=0) (by show List.Nodup (["p"]:List Str) ; decide +kernel) rfl (Or.inl rfl) (Or.inr rfl)) (λ _ _ _ _ _=>bR) (λ _ _ _ _ _=>(aB ((aL (v:=.str "across") rfl hac ⟨tac,Y⟩)^^^((pv 0)^^^ab))))) (ag (au (dB (own:=["way","p"]) (cs:=["blade","part"]) (cap:=[0,1]) rfl (bq (aA sk (pv 2) (pv 3))) (bv (sc:=defScope dH) (N:=["blade","part","down","across"]) rfl rfl (by decide +kernel)) (λ _ _ _ _ _=>jw K rfl rfl (by show List.Nodup (["way","p","blade","part"]:List Str) ; decide +kernel) rfl rfl rfl rfl) (λ _ _ _ _ _=>bR) (λ _ _ _ _ _=>(aA (r:=wU K) vh (aB ((pv 0)^^^((pv 1)^^^ab))) (aq DP hr rfl ((pv 2)^^^((pv 3)^^^((pv 0)^^^((pv 1)^^^ab)))) (by decide) rfl rfl)))))))),?_⟩;have z4:4096<=sizeLine:=by decide
 have wn:(w1 - b - 1).toNat<=16:=by omega
 have hn:(h1 - b - 1).toNat<=16:=by omega
 refine ap (λ R=>∀ (dl:Addr) (ys:List V) (H':Hp),H' dl=some (.lst ys)->Paired (WpAt H') ys (wpL true (w1 - b - 1).toNat)->Same H H'->R [some (.int b),some (.ref t),some (.ref dl),none] H') (λ Dd hR=>?_) ?_
 ·refine ⟨_,Y,t,_,0,_,Y,Y,KI ht,Y,_,Y,_,_,Y,Y,1,_,Y,⟨by decide,by decide,by show w1 - b < 2 ^ 62; omega⟩,?_⟩;show ∃W,_/\fj _ _ _ (Itr 1 (w1 - b - 1).toNat) _ _ _ _ W;generalize (w1 - b - 1).toNat=n at *;refine kL (lo:=1) (n:=n) (λ i ys Hx=>Same H Hx/\Paired (WpAt Hx) ys (wpL true i)) ⟨Same.refl _,.nil⟩ ?_ ?_
  ·rintro i ys Hx hi ⟨sx,py⟩;have pl:=E4 py;rw [dO] at pl;refine ⟨by omega,leS.set rfl,bS ?_⟩;refine ⟨_,Y,zS2,λ q' hq=>?_⟩;obtain ⟨Hy, e9, k9, s9⟩:∃H', upd Hx q' (.tup [.str "down", .int (1 + i)])=H'/\H' q'=some (.tup [.str "down", .int (1 + i)])/\Same Hx H':=⟨_, Y, ae, KH hq⟩
   rw [show upd Hx q' _=Hy from e9];refine Nx.of hi ⟨sx.trans s9,?_⟩;rw [lh];exact Paired.app (KK py λ v p h=>h.keep s9) (.cons ⟨q',Y,k9⟩ .nil)
  ·rintro ys Hx ⟨sx,py⟩;have pl:=E4 py;rw [dO] at pl;refine ⟨by omega,λ l hl=>?_⟩;obtain ⟨Hy,e9,k9,s9⟩:∃H',upd Hx l (.lst ys)=H'/\H' l=some (.lst ys)/\Same Hx H':=⟨_,Y,ae,KH hl⟩
   rw [show upd Hx l _=Hy from e9];exact hR l ys _ k9 (KK py λ v p h=>h.keep s9) (sx.trans s9)
 rintro dl ys H1 kd pd s1;refine ap (λ R=>∀ (al:Addr) (zs:List V) (H':Hp),H' al=some (.lst zs)->Paired (WpAt H') zs (wpL false (h1 - b - 1).toNat)->Same H1 H'->R [some (.int b),some (.ref t),some (.ref dl),some (.ref al)] H') (λ Dd hR=>?_) ?_
 ·refine ⟨_,Y,t,_,1,_,Y,Y,KI (s1 _ _ ht),Y,_,Y,_,_,Y,Y,1,_,Y,⟨by decide,by decide,by show h1 - b < 2 ^ 62; omega⟩,?_⟩;show ∃W,_/\fj _ _ _ (Itr 1 (h1 - b - 1).toNat) _ _ _ _ W;generalize (h1 - b - 1).toNat=n at *;refine kL (lo:=1) (n:=n) (λ i ys Hx=>Same H1 Hx/\Paired (WpAt Hx) ys (wpL false i)) ⟨Same.refl _,.nil⟩ ?_ ?_
  ·rintro i ys Hx hi ⟨sx,py⟩;have pl:=E4 py;rw [dO] at pl;refine ⟨by omega,leS.set rfl,bS ?_⟩;refine ⟨_,Y,zS2,λ q' hq=>?_⟩;obtain ⟨Hy, e9, k9, s9⟩:∃H', upd Hx q' (.tup [.str "across", .int (1 + i)])=H'/\H' q'=some (.tup [.str "across", .int (1 + i)])/\Same Hx H':=⟨_, Y, ae, KH hq⟩
   rw [show upd Hx q' _=Hy from e9];refine Nx.of hi ⟨sx.trans s9,?_⟩;rw [lh];exact Paired.app (KK py λ v p h=>h.keep s9) (.cons ⟨q',Y,k9⟩ .nil)
  ·rintro ys Hx ⟨sx,py⟩;have pl:=E4 py;rw [dO] at pl;refine ⟨by omega,λ l hl=>?_⟩;obtain ⟨Hy,e9,k9,s9⟩:∃H',upd Hx l (.lst ys)=H'/\H' l=some (.lst ys)/\Same Hx H':=⟨_,Y,ae,KH hl⟩
   rw [show upd Hx l _=Hy from e9];exact hR l ys _ k9 (KK py λ v p h=>h.keep s9) (sx.trans s9)
 rintro al zs H2 ka pa s2;have s02:=s1.trans s2;have ht2:=s02 _ _ ht;have pd2:Paired (WpAt H2) ys (wpL true (w1 - b - 1).toNat):=KK pd λ v p h=>h.keep s2;have l1:=E4 pd2;have l2:=E4 pa;rw [dO] at l1 l2;have pc:Paired (WpAt H2) (ys ++ zs) (aJ b w1 h1):=Paired.app pd2 pa;refine ⟨_,Y,_,Y,dl,al,_,_,Y,Y,s2 _ _ kd,ka,by omega,λ cl hcl=>?_⟩;obtain ⟨H3,e3,k3,s3⟩:∃H',upd H2 cl (.lst (ys ++ zs))=H'/\H' cl=some (.lst (ys ++ zs))/\Same H2 H':=⟨_,Y,ae,KH hcl⟩
 rw [show upd H2 cl _=H3 from e3];have pc3:Paired (WpAt H3) (ys ++ zs) (aJ b w1 h1):=KK pc λ v p h=>h.keep s3;have cl32:(ys ++ zs).length<=32:=by rw [List.length_append]; omega
 refine ⟨cl,Y,⟨_,KJ k3⟩,(ed (K:=K) (.inl k3) (λ i us Hx=>Same H3 Hx/\Paired (CutAt b w1 h1 Hx) us ((aJ b w1 h1).take i)) (λ i us Hx _ ⟨sx,_⟩ o e=>sx _ _ e) ⟨Same.refl _,.nil⟩ ?_ ?_).1 k3⟩
 ·rintro i y us Hx hi ⟨sx,pu⟩;have hin:i < (ys ++ zs).length:=(A6.mp hi).1;obtain ⟨⟨dn,p⟩,hq,a,rfl,ha⟩:=KL pc3 hi;have ul:=E4 pu;rw [List.length_take] at ul;have hax:=sx _ _ ha;refine ⟨by omega,a,_,Y,KI hax,Y,_,_,Y,_,_,Y,Y,?_⟩;refine ⟨vJ (leS.set rfl) (leS.set rfl),bS ?_⟩;refine ⟨_,Y,_,Y,zS2,λ x hx=>?_⟩;obtain ⟨Hy,e4,k4,s4⟩:∃H',upd Hx x (.tup [wv dn,.int p])=H'/\H' x=some (.tup [wv dn,.int p])/\Same Hx H':=⟨_,Y,ae,KH hx⟩
  rw [show upd Hx x _=Hy from e4];refine ⟨_,Y,_,Y,_,Y,_,Y,b,w1,h1,p,t,dn,Y,s4 _ _ (sx _ _ (s3 _ _ ht2)),λ u t1 t2 Hz ku k1 k2 s5=>?_⟩;refine ⟨x,u,_,_,Y,Y,KI (s5 _ _ k4),KI ku,List.cons_ne_nil _ _,zS4,(λ z=>by cases z),λ _ m hm=>?_⟩;rw [show [wv dn,V.int p] ++ [V.ref t1,V.ref t2]=[wv dn,V.int p,V.ref t1,V.ref t2] from rfl];obtain ⟨Hw,e6,k6,s6⟩:∃H',upd Hz m (.tup [wv dn,.int p,.ref t1,.ref t2])=H'/\H' m=some (.tup [wv dn,.int p,.ref t1,.ref t2])/\Same Hz H':=⟨_,Y,ae,KH hm⟩
  rw [show upd Hz m _=Hw from e6];have sxw:=s4.trans (s5.trans s6);refine Nx.of hin ⟨sx.trans sxw,?_⟩;rw [List.take_add_one,hq];refine Paired.app (KK pu λ v p h=>h.keep sxw) (.cons ⟨m,t1,t2,Y,k6,?_,?_⟩ .nil)
  ·cases dn <;> exact s6 _ _ k1
  ·cases dn <;> exact s6 _ _ k2
 ·rintro us Hx ⟨sx,pu⟩;have pl:=E4 pc3;rw [pl,List.take_length] at pu;have ul:=E4 pu;refine ⟨by omega,λ l hl=>?_⟩;obtain ⟨Hy,e7,k7,s7⟩:∃H',upd Hx l (.lst us)=H'/\H' l=some (.lst us)/\Same Hx H':=⟨_,Y,ae,KH hl⟩
  rw [show upd Hx l _=Hy from e7];exact q l us Hy k7 (KK pu λ v p h=>h.keep s7) (s02.trans (s3.trans (sx.trans s7)))
end
def dpt:Tr->Nat
 | .cut _ _ l r=>max (dpt l) (dpt r) + 1
 | _=>0
def wq (ks:List Kd) (q:Nat×Bool):Int:=match ks[q.1]? with
 | some k=>k.wo
 | none=>0
def mxL {α:Type} (f:α->Int) (l:List α) (x:Int):Int:=l.foldl (λ m q=>max m (f q)) x
theorem io {α:Type} (f:α->Int) (l:List α) (x:Int) {i:Nat} {q:α} (h:l[i]? = some q):mxL f (l.take (i + 1)) x=max (mxL f (l.take i) x) (f q):=by
 unfold mxL;rw [List.take_add_one,h,List.foldl_append]
 rfl
def lfW (ks:List Kd) (w h:Int):Int:=mxL (wq ks) ((lyK ks 0).filter (ck ks w h)) 0
def LfV (H:Hp) (v:V):Prop:=∃ (q:Addr) (y:Str) (r:List V),v=.ref q/\H q=some (.tup (.str y :: r))/\inV (V.str y) [V.str "down",V.str "across"]=false
def lfF (ks:List Kd) (m:Int×Tr) (q:Nat×Bool):Int×Tr:=if m.1 < wq ks q then (wq ks q,.piece q.1 q.2 0 0) else m
def lfP (ks:List Kd) (l:List (Nat×Bool)):Int×Tr:=l.foldl (lfF ks) (0,.rest)
theorem pi (ks:List Kd):∀ (l:List (Nat×Bool)) (m:Int×Tr),(l.foldl (lfF ks) m).1=mxL (wq ks) l m.1
 | [],_=>rfl
 | q :: l,m=>by
  show (l.foldl (lfF ks) (lfF ks m q)).1=mxL (wq ks) l (max m.1 (wq ks q));rw [pi ks l];unfold lfF
  split
  ·rw [show max m.1 (wq ks q)=wq ks q by omega]
  ·rw [show max m.1 (wq ks q)=m.1 by omega]
theorem jL (ks:List Kd) (l:List (Nat×Bool)):(lfP ks l).1=mxL (wq ks) l 0:=pi ks l _
theorem tU (ks:List Kd) (l:List (Nat×Bool)) {i:Nat} {q:Nat×Bool} (h:l[i]? = some q):lfP ks (l.take (i + 1))=lfF ks (lfP ks (l.take i)) q:=by
 unfold lfP;rw [List.take_add_one,h,List.foldl_append]
 rfl
def vO:Tr->Bool
 | .cut .. => false
 | _=>true
theorem lj (ks:List Kd):∀ (l:List (Nat×Bool)) (m:Int×Tr),vO m.2=true->vO (l.foldl (lfF ks) m).2=true
 | [],_,h=>h
 | q :: l,m,h=>by
  refine lj ks l _ ?_;unfold lfF
  split
  ·rfl
  ·exact h
def lfT (ks:List Kd) (w h:Int):Tr:=(lfP ks ((lyK ks 0).filter (ck ks w h))).2
theorem lm (ks:List Kd) (w h:Int):vO (lfT ks w h)=true:=lj ks _ _ rfl
theorem TrV.lf {H:Hp} {v:V}:∀ {t:Tr},vO t=true->TrV H t v->LfV H v
 | .rest,_,⟨a,e,h⟩=>⟨a,_,_,e,h,by decide +kernel⟩
 | .piece ..,_,⟨a,e,h⟩=>⟨a,_,_,e,h,by decide +kernel⟩
def stF (g:Bool×Int->Int) (m:Int×Option (Bool×Int)) (c:Bool×Int):Int×Option (Bool×Int):=if m.1 < g c then (g c,some c) else m
def stP (g:Bool×Int->Int) (cs:List (Bool×Int)) (x:Int):Int×Option (Bool×Int):=cs.foldl (stF g) (x,none)
def stC (g:Bool×Int->Int) (cs:List (Bool×Int)) (x:Int):Option (Bool×Int):=(stP g cs x).2
theorem jM (g:Bool×Int->Int):∀ (l:List (Bool×Int)) (m:Int×Option (Bool×Int)),(l.foldl (stF g) m).1=mxL g l m.1
 | [],_=>rfl
 | q :: l,m=>by
  show (l.foldl (stF g) (stF g m q)).1=mxL g l (max m.1 (g q));rw [jM g l];unfold stF
  split
  ·rw [show max m.1 (g q)=g q by omega]
  ·rw [show max m.1 (g q)=m.1 by omega]
theorem tV (g:Bool×Int->Int) (l:List (Bool×Int)) (x:Int) {i:Nat} {q:Bool×Int} (h:l[i]? = some q):stP g (l.take (i + 1)) x=stF g (stP g (l.take i) x) q:=by
 unfold stP;rw [List.take_add_one,h,List.foldl_append]
 rfl
theorem pj (g:Bool×Int->Int):∀ (l:List (Bool×Int)) (m:Int×Option (Bool×Int)) {c:Bool×Int},(l.foldl (stF g) m).2=some c->c∈l\/m.2=some c
 | [],_,_,h=>.inr h
 | q :: l,m,c,h=>by
  rcases pj g l _ h with h | h
  ·exact .inl (B4 _ h)
  ·unfold stF at h
   split at h
   ·cases h;exact .inl B7
   ·exact .inr h
theorem pq {g:Bool×Int->Int} {l:List (Bool×Int)} {x:Int} {c:Bool×Int} (h:stC g l x=some c):c∈l:=by
 rcases pj g l _ h with h | h
 ·exact h
 ·cases h
def StV (b w h:Int) (H:Hp) (lv v:V):Option (Bool×Int)->Prop
 | none=>v=lv
 | some c=>CutAt b w h H v c
theorem StV.keep {b w h:Int} {H H':Hp} (s:Same H H') {lv v:V}:∀ {o:Option (Bool×Int)},StV b w h H lv v o->StV b w h H' lv v o
 | none,e=>e
 | some _,e=>CutAt.keep s e
abbrev pk (p:Int×Int):List Key:=[.inl p.1,.inl p.2]
section
variable {P:KC} {w:KF} {K:C4} {mg:Str->Option KG} {base:Heap}
inductive spBLeaf (C:Addr) (vs:List V) (H:Hp) (Q:VK) (E_:XK):Prop
 | mk (s t:Addr) (b:Int) (ks:List Kd) (w h:Int) (e_1:vs=[.ref s,.ref t]) (e_2:ShopAt C H s b ks) (e_3:ks.length<=8) (e_4:H t=some (.tup [.int w,.int h])) (e_5:∀ (r:Addr) (v:V) (H':Hp),H' r=some (.tup [.int (lfW ks w h),v])->TrV H' (lfT ks w h) v->Same H H'->Q (.ref r) H'):spBLeaf C vs H Q E_
inductive spStep (vs:List V) (H:Hp) (Q:VK) (E_:XK):Prop
 | mk (lf cl wt:Addr) (x:Int) (lv:V) (ys:List V) (b w h:Int) (cs:List (Bool×Int)) (f:Int×Int->Int) (kvs:List (List Key×V)) (e_1:vs=[.ref lf,.ref cl,.ref wt]) (e_2:H lf=some (.tup [.int x,lv])) (e_3:H cl=some (.lst ys)) (e_4:Paired (CutAt b w h H) ys cs) (e_5:H wt=some (.dT kvs)) (e_6:(∀c∈cs,bO kvs (pk (aD w h c))=some (.int (f (aD w h c)))/\bO kvs (pk (aE b w h c))=some (.int (f (aE b w h c))))) (e_7:∀ (r:Addr) (v:V) (H':Hp),H' r=some (.tup [.int (mxL (λ c=>f (aD w h c) + f (aE b w h c)) cs x),v])->StV b w h H' lv v (stC (λ c=>f (aD w h c) + f (aE b w h c)) cs x)->Same H H'->Q (.ref r) H'):spStep vs H Q E_
theorem scbleaf:FnScope ["shop","part","worth","leaf","kinds","kind","turned"] ["shop","part"] (defScope eP):=⟨Y,Y,Y,by decide +kernel,Y,by decide +kernel,by decide +kernel⟩
theorem tX {f wa C:Addr} {fd:KD} (F:Fun K "best_leaf" "best_leaf" eP f fd) (Z:BeC K mg wa) (T:ShopTxt K C) (MK:Mn P w K mg base C "kinds" ["self"] 1 (eK C)) (DL:Dn P w K mg base "lyings_in" ["shop","part"] 5 (spLyIn C)):FnOk P w K mg base CX0 6 f fd ["shop","part"] (spBLeaf C):=by
 refine F.ok scbleaf (λ vs H Q E h=>?_) (λ cdv A outer s H vs Q E hr h=>?_)
 ·obtain ⟨s,t,b,ks,w1,h1,rfl,_⟩:=h
  rfl
 obtain ⟨s,t,b,ks,w1,h1,rfl,S0,k8,ht,q⟩:=h;have nd:=scbleaf.nd;obtain ⟨trs,hrs⟩:=Z.rs;obtain ⟨tpc,hpc⟩:=Z.pc;refine ⟨_,(ad (ji rfl nd rfl rfl (i:=2) (j:=3) (by decide) rfl rfl (af^^^((aB ((aL (v:=.str "rest") rfl hrs ⟨trs,Y⟩)^^^ab))^^^ab)) rfl) (ad (@ax _ _ 4 _ _ _ _ nd rfl (Or.inl rfl) (cW (pv 0) T.cl MK (hr.mono (by decide))) rfl (Or.inl rfl)) (ad (bE E5 rfl (bq (aq DL hr rfl ((pv 0)^^^((pv 1)^^^ab)) (by decide) rfl rfl)) (aS rfl (ah (ai (i:=5) nd rfl (Or.inl rfl)) (ah (ai (i:=6) nd rfl (Or.inl rfl)) aG))) (ag (aI (az cN (ay ix_tup (ay ix_list (pv 4) (pv 5) (λ _ _=>rfl)) af (λ _ _=>rfl)) (pv 2) (aw _)) (ag (ji rfl nd rfl rfl (i:=2) (j:=3) (by decide) rfl rfl ((ay ix_tup (ay ix_list (pv 4) (pv 5) (λ _ _=>rfl)) af (λ _ _=>rfl))^^^((aB ((aL (v:=.str "piece") rfl hpc ⟨tpc,Y⟩)^^^((pv 5)^^^((pv 6)^^^(af^^^(af^^^ab))))))^^^ab)) rfl)) av)) (by intro _; rfl)) (ag (au (aB ((pv 2)^^^((pv 3)^^^ab)))))))),?_⟩;have z4:4096<=sizeLine:=by decide
 refine ap (λ R=>∀lv (H':Hp),TrV H' .rest lv->Same H H'->R [some (.ref s),some (.ref t),some (.int 0),some lv,none,none,none] H') (λ Dd hR=>?_) ?_
 ·refine ⟨zS1,λ x hx=>?_⟩;obtain ⟨H1, e1, k1, s1⟩:∃H', upd H x (.tup [.str "rest"])=H'/\H' x=some (.tup [.str "rest"])/\Same H H':=⟨_, Y, ae, KH hx⟩
  rw [show upd H x _=H1 from e1];exact ⟨_,_,Y,hR _ _ ⟨x,Y,k1⟩ s1⟩
 rintro lv H1 hlv s1;have S1:=S0.keep (λ c o e=>s1 _ _ e) (λ c C' d fs e=>s1 _ _ e);obtain ⟨dx,r0,rs0,g1,g2,g3⟩:=id S1;refine ap (λ R=>∀ (kl:Addr) (rs:List V) (H':Hp),H' kl=some (.lst rs)->Tups H' rs ks->Same H1 H'->R [some (.ref s),some (.ref t),some (.int 0),some lv,some (.ref kl),none,none] H') (λ Dd hR=>?_) ?_
 ·refine ⟨_,Y,s,dx,_,Y,g1,bH _ _ (by decide +kernel) (by decide +kernel),s,b,ks,Y,S1,λ kl rs hkl tp=>?_⟩;obtain ⟨H2,e2,k2,s2⟩:∃H',upd H1 kl (.lst rs)=H'/\H' kl=some (.lst rs)/\Same H1 H':=⟨_,Y,ae,KH hkl⟩
  rw [show upd H1 kl _=H2 from e2];exact hR kl rs _ k2 (Tups.keep (λ c o e=>s2 _ _ e) tp) s2
 rintro kl rs H2 kk2 tp2 s2;have s02:=s1.trans s2;have S2:=S0.keep (λ c o e=>s02 _ _ e) (λ c C' d fs e=>s02 _ _ e);refine bo (λ σ' H'=>∃ (lv:V) (v5 v6:Option V),σ'=[some (.ref s),some (.ref t),some (.int (lfW ks w1 h1)),some lv,some (.ref kl),v5,v6]/\TrV H' (lfT ks w1 h1) lv/\Same H2 H') (λ R hR=>?_) ?_
 ·refine ⟨_,Y,_,Y,s,t,b,ks,w1,h1,Y,S2,k8,s02 _ _ ht,λ l ys H3 hl hl3 ly s3=>?_⟩;have kk:=s3 _ _ kk2;have tp3:Tups H3 rs ks:=Tups.keep (λ c o e=>s3 _ _ e) tp2;have yl:=E4 ly;refine ⟨l,Y,⟨_,KJ hl3⟩,bJ (xs:=ys) (λ i σ' H'=>∃ (lv:V) (v5 v6:Option V),σ'=[some (.ref s),some (.ref t),some (.int (mxL (wq ks) (((lyK ks 0).filter (ck ks w1 h1)).take i) 0)),some lv,some (.ref kl),v5,v6]/\TrV H' (lfP ks (((lyK ks 0).filter (ck ks w1 h1)).take i)).2 lv/\Same H3 H') ⟨lv,none,none,Y,TrV.keep (λ a xs e=>(s2.trans s3) _ _ e) _ hlv,Same.refl _⟩ (λ i σ Hx _ ⟨_,_,_,_,_,sx⟩=>KJ (sx _ _ hl3)) ?_ ?_⟩
  ·rintro i x σ Hx hi ⟨lv,v5,v6,rfl,hlv,sx⟩;obtain ⟨⟨ki,c⟩,hq,qa,rfl,hqa⟩:=KL ly hi;obtain ⟨_,k,hk⟩:=jK (List.mem_filter.mp (B5 hq)).1;have hk:ks[ki]? = some k:=hk;obtain ⟨vv,hvv,hva⟩:=Paired.getL tp3 hk;obtain ⟨a,rfl,ha2⟩:=hva;have hat:atI rs (ki:Int)=some (.ref a):=aU (by omega) (by rw [Int.toNat_natCast]; exact hvv);have ewq:wq ks (ki,c)=k.wo:=by unfold wq; simp only [hk]
   have hmx:=io (wq ks) ((lyK ks 0).filter (ck ks w1 h1)) 0 hq;rw [ewq] at hmx;have hlt:=tU ks ((lyK ks 0).filter (ck ks w1 h1)) hq;have hlf:=jL ks (((lyK ks 0).filter (ck ks w1 h1)).take i);refine ⟨qa,_,Y,KI (sx _ _ hqa),Y,_,_,Y,_,_,Y,Y,?_⟩;obtain ⟨m,hm⟩:∃m,mxL (wq ks) (((lyK ks 0).filter (ck ks w1 h1)).take i) 0=m:=⟨_,Y⟩
   rw [hm] at hmx hlf ⊢;unfold lfF at hlt;rw [hlf,ewq] at hlt;refine ⟨_,Y,_,Y,kl,_,_,_,Y,Y,KJ (sx _ _ kk),hat,a,_,2,_,Y,Y,KI (sx _ _ ha2),Y,_,Y,_,_,Y,Y,_,Y,?_⟩
   by_cases c1:m < k.wo
   ·rw [show decide (m < k.wo)=true from decide_eq_true c1];refine aV ⟨_,rfl,_,rfl,kl,_,_,_,rfl,rfl,KJ (sx _ _ kk),hat,a,_,2,_,rfl,rfl,KI (sx _ _ ha2),rfl,_,rfl,_,rfl,zS5,λ x hx=>?_⟩;obtain ⟨Hy, e4, k4, s4⟩:∃H', upd Hx x (.tup [.str "piece", .int ki, .bl c, .int 0, .int 0])=H'/\H' x=some (.tup [.str "piece", .int ki, .bl c, .int 0, .int 0])/\Same Hx H':=⟨_, Y, ae, KH hx⟩
    rw [show upd Hx x _=Hy from e4];refine ⟨_,_,Y,.ref x,some (.int ki),some (.bl c),?_,by rw [hlt,if_pos c1]; exact ⟨x,Y,k4⟩,sx.trans s4⟩;rw [hmx,show max m k.wo=k.wo by omega]
    rfl
   ·rw [show decide (m < k.wo)=false from decide_eq_false c1];refine aF ⟨lv,some (.int ki),some (.bl c),?_,by rw [hlt,if_neg c1]; exact hlv,sx⟩;rw [hmx,show max m k.wo=m by omega]
    rfl
  ·rintro σ Hx ⟨lv,v5,v6,rfl,hlv,sx⟩;rw [yl,List.take_length] at hlv;refine hR _ _ ⟨lv,v5,v6,?_,hlv,s3.trans sx⟩;rw [yl,List.take_length]
   rfl
 rintro _ H3 ⟨lv,v5,v6,rfl,hlv,s3⟩;refine ⟨_,Y,_,Y,zS2,λ x hx=>?_⟩;obtain ⟨H4,e5,k5,s5⟩:∃H',upd H3 x (.tup [.int (lfW ks w1 h1),lv])=H'/\H' x=some (.tup [.int (lfW ks w1 h1),lv])/\Same H3 H':=⟨_,Y,ae,KH hx⟩
 rw [show upd H3 x _=H4 from e5];exact q x lv H4 k5 (TrV.keep (λ a xs e=>s5 _ _ e) _ hlv) (s02.trans (s3.trans s5))
theorem scbstep:FnScope ["leaf_found","cuts","worths","worth","step","cut","together"] ["leaf_found","cuts","worths"] (defScope cF):=⟨Y,Y,Y,by decide +kernel,Y,by decide +kernel,by decide +kernel⟩
theorem tY {f:Addr} {fd:KD} (F:Fun K "best_step" "best_step" cF f fd)  : FnOk P w K mg base CX0 1 f fd ["leaf_found","cuts","worths"] (spStep):=by
 refine F.ok scbstep (λ vs H Q E h=>?_) (λ cdv A outer s H vs Q E hr h=>?_)
 ·obtain ⟨lf,cl,wt,x0,lv,ys,b,w1,h1,cs,f0,kvs,rfl,_⟩:=h
  rfl
 obtain ⟨lf,cl,wt,x0,lv,ys,b,w1,h1,cs,f0,kvs,rfl,hlf,hcl,pc,hwt,hv,q⟩:=h;have nd:=scbstep.nd;have hu:=hr.units;have hu1:=C6 (Nat.add_le_add_left (show 1<=64 by decide) _) hu;refine ⟨_,(ad (bm (pv 0) (aS rfl (ah (ai (i:=3) nd rfl (Or.inl rfl)) (ah (ai (i:=4) nd rfl (Or.inl rfl)) aG))) rfl rfl rfl) (ad (bE E5 rfl (bq (pv 1)) (ai (i:=5) nd rfl (Or.inl rfl)) (ad (@ax _ _ 6 _ _ _ _ nd rfl (Or.inl rfl) (aA aM (bZ hu1 (pv 2) (ay ix_tup (pv 5) af (λ _ _=>rfl)) (λ _ _=>rfl)) (bZ hu1 (pv 2) (ay ix_tup (pv 5) af (λ _ _=>rfl)) (λ _ _=>rfl))) rfl (Or.inl rfl)) (ag (aI (az cN (pv 6) (pv 3) (aw _)) (ag (ji rfl nd rfl rfl (i:=3) (j:=4) (by decide) rfl rfl ((pv 6)^^^((pv 5)^^^ab)) rfl)) av))) (by intro _; rfl)) (ag (au (aB ((pv 3)^^^((pv 4)^^^ab))))))),?_⟩;have z4:4096<=sizeLine:=by decide
 refine ap (λ R=>R [some (.ref lf),some (.ref cl),some (.ref wt),some (.int x0),some lv,none,none] H) (λ Dd hR=>?_) ?_
 ·exact ⟨_,Y,lf,_,Y,KI hlf,Y,_,_,Y,_,_,Y,Y,hR⟩
 skip
 have cln:=E4 pc;refine bo (λ σ' H'=>∃ (sv:V) (v5 v6:Option V),σ'=[some (.ref lf),some (.ref cl),some (.ref wt),some (.int (mxL (λ c=>f0 (aD w1 h1 c) + f0 (aE b w1 h1 c)) cs x0)),some sv,v5,v6]/\StV b w1 h1 H lv sv (stC (λ c=>f0 (aD w1 h1 c) + f0 (aE b w1 h1 c)) cs x0)/\H=H') (λ R hR=>?_) ?_
 ·refine ⟨_,Y,cl,Y,⟨_,KJ hcl⟩,bJ (xs:=ys) (λ i σ' H'=>∃ (sv:V) (v5 v6:Option V),σ'=[some (.ref lf),some (.ref cl),some (.ref wt),some (.int (mxL (λ c=>f0 (aD w1 h1 c) + f0 (aE b w1 h1 c)) (cs.take i) x0)),some sv,v5,v6]/\StV b w1 h1 H lv sv (stC (λ c=>f0 (aD w1 h1 c) + f0 (aE b w1 h1 c)) (cs.take i) x0)/\H=H') ⟨lv,none,none,Y,Y,Y⟩ (λ i σ Hx _ ⟨_,_,_,_,_,e⟩=>by subst e; exact KJ hcl) ?_ ?_⟩
  ·rintro i x σ Hx hi ⟨sv,v5,v6,rfl,hsv,rfl⟩;obtain ⟨c,hc,ca⟩:=KL pc hi;obtain ⟨q',t1,t2,rfl,h1',h2',h3'⟩:=id ca;have cm:=B5 hc;obtain ⟨e1,e2⟩:=hv c cm;have hmx:=io (λ c=>f0 (aD w1 h1 c) + f0 (aE b w1 h1 c)) cs x0 hc;have hst:=tV (λ c=>f0 (aD w1 h1 c) + f0 (aE b w1 h1 c)) cs x0 hc;have hsf:(stP (λ c=>f0 (aD w1 h1 c) + f0 (aE b w1 h1 c)) (cs.take i) x0).1=_:=jM (λ c=>f0 (aD w1 h1 c) + f0 (aE b w1 h1 c)) (cs.take i) (x0,none);have hsf:(stP (λ c=>f0 (aD w1 h1 c) + f0 (aE b w1 h1 c)) (cs.take i) x0).1=mxL (λ c=>f0 (aD w1 h1 c) + f0 (aE b w1 h1 c)) (cs.take i) x0:=hsf;obtain ⟨m,hm⟩:∃m,mxL (λ c=>f0 (aD w1 h1 c) + f0 (aE b w1 h1 c)) (cs.take i) x0=m:=⟨_,Y⟩
   rw [hm] at hmx hsf ⊢;unfold stF at hst;rw [hsf] at hst;refine ⟨_,Y,_,Y,q',_,2,_,Y,Y,KI h1',Y,wt,_,Y,e1 ▸ DGet.t (k:=pk (aD w1 h1 c)) hwt h2',_,Y,_,Y,q',_,3,_,Y,Y,KI h1',Y,wt,_,Y,e2 ▸ DGet.t (k:=pk (aE b w1 h1 c)) hwt h3',_,_,Y,Y,?_⟩;refine ⟨_,Y,_,Y,_,_,Y,Y,_,Y,?_⟩
   by_cases c1:m < (f0 (aD w1 h1 c) + f0 (aE b w1 h1 c))
   ·rw [show decide (m < (f0 (aD w1 h1 c) + f0 (aE b w1 h1 c)))=true from decide_eq_true c1];refine aV ⟨_,rfl,_,rfl,_,_,rfl,.ref q',some (.ref q'),some (.int (f0 (aD w1 h1 c) + f0 (aE b w1 h1 c))),?_,by unfold stC; rw [hst,if_pos c1]; exact ca,rfl⟩;rw [hmx,show max m (f0 (aD w1 h1 c) + f0 (aE b w1 h1 c))=(f0 (aD w1 h1 c) + f0 (aE b w1 h1 c)) by omega]
    rfl
   ·rw [show decide (m < (f0 (aD w1 h1 c) + f0 (aE b w1 h1 c)))=false from decide_eq_false c1];refine aF ⟨sv,some (.ref q'),some (.int (f0 (aD w1 h1 c) + f0 (aE b w1 h1 c))),?_,by unfold stC; rw [hst,if_neg c1]; exact hsv,rfl⟩;rw [hmx,show max m (f0 (aD w1 h1 c) + f0 (aE b w1 h1 c))=m by omega]
    rfl
  ·rintro σ Hx ⟨sv,v5,v6,rfl,hsv,rfl⟩;rw [cln,List.take_length] at hsv;refine hR _ _ ⟨sv,v5,v6,?_,hsv,rfl⟩;rw [cln,List.take_length]
 rintro _ _ ⟨sv,v5,v6,rfl,hsv,rfl⟩;refine ⟨_,Y,_,Y,zS2,λ x hx=>?_⟩;obtain ⟨H4,e5,k5,s5⟩:∃H',upd H x (.tup [.int (mxL (λ c=>f0 (aD w1 h1 c) + f0 (aE b w1 h1 c)) cs x0),sv])=H'/\H' x=some (.tup [.int (mxL (λ c=>f0 (aD w1 h1 c) + f0 (aE b w1 h1 c)) cs x0),sv])/\Same H H':=⟨_,Y,ae,KH hx⟩
 rw [show upd H x _=H4 from e5];exact q x sv H4 k5 (hsv.keep s5) s5
end
def msr (p:Int×Int):Nat:=(p.1 + p.2).toNat
theorem pC {dn:Bool} {n:Nat} {x:Bool×Int} (h:x∈wpL dn n):x.1=dn/\1<=x.2/\x.2<=n:=by unfold wpL at h;obtain ⟨j,hj,rfl⟩:=List.mem_map.mp h;have:=List.mem_range.mp hj;exact ⟨Y,by show 1<=1 + (j:Int); omega,by show 1 + (j:Int)<=n; omega⟩
theorem eU {b w h:Int} {x:Bool×Int} (m:x∈aJ b w h):1<=x.2/\(if x.1=true then x.2 + b < w else x.2 + b < h):=by
 unfold aJ at m;rcases C2.mp m with m | m
 ·obtain ⟨e,h1,h2⟩:=pC m;rw [e,if_pos rfl];exact ⟨h1,by omega⟩
 ·obtain ⟨e,h1,h2⟩:=pC m;rw [e,if_neg Bool.false_ne_true];exact ⟨h1,by omega⟩
theorem qT {b w h:Int} {dn:Bool} {p:Int} (h1:1<=p) (h2:if dn=true then p + b < w else p + b < h):(dn,p)∈aJ b w h:=by
 unfold aJ wpL;cases dn with
 | true =>
  have h2:p + b < w:=h2;refine B6 _ (List.mem_map.mpr ⟨(p - 1).toNat,List.mem_range.mpr (by omega),?_⟩);rw [show 1 + ((p - 1).toNat:Int)=p by omega]
 | false =>
  have h2:p + b < h:=h2;refine A5 _ (List.mem_map.mpr ⟨(p - 1).toNat,List.mem_range.mpr (by omega),?_⟩);rw [show 1 + ((p - 1).toNat:Int)=p by omega]
theorem aY {b w h:Int} {x:Bool×Int} (b0:0<=b) (w0:1<=w) (h0:1<=h) (m:x∈aJ b w h) :
  (1<=(aD w h x).1/\1<=(aD w h x).2/\(aD w h x).1<=w/\(aD w h x).2<=h/\((aD w h x).1 < w\/(aD w h x).1=w/\(aD w h x).2 < h)/\msr (aD w h x) < msr (w,h)) /\
  (1<=(aE b w h x).1/\1<=(aE b w h x).2/\(aE b w h x).1<=w/\(aE b w h x).2<=h/\((aE b w h x).1 < w\/(aE b w h x).1=w/\(aE b w h x).2 < h)/\msr (aE b w h x) < msr (w,h)):=by
 obtain ⟨h1,h2⟩:=eU m;obtain ⟨dn,p⟩:=x;cases dn with
 | true =>
  have h2:p + b < w:=h2;have h1:1<=p:=h1;show (1<=p/\1<=h/\p<=w/\h<=h/\(p < w\/p=w/\h < h)/\(p + h).toNat < (w + h).toNat)/\(1<=w - p - b/\1<=h/\w - p - b<=w/\h<=h/\(w - p - b < w\/w - p - b=w/\h < h)/\(w - p - b + h).toNat < (w + h).toNat)
  refine ⟨⟨?_,?_,?_,?_,?_,?_⟩,⟨?_,?_,?_,?_,?_,?_⟩⟩ <;> omega
 | false =>
  have h2:p + b < h:=h2;have h1:1<=p:=h1;show (1<=w/\1<=p/\w<=w/\p<=h/\(w < w\/w=w/\p < h)/\(w + p).toNat < (w + h).toNat)/\(1<=w/\1<=h - p - b/\w<=w/\h - p - b<=h/\(w < w\/w=w/\h - p - b < h)/\(w + (h - p - b)).toNat < (w + h).toNat)
  refine ⟨⟨?_,?_,?_,?_,?_,?_⟩,⟨?_,?_,?_,?_,?_,?_⟩⟩ <;> omega
theorem dv {α:Type} {f g:α->Int}:∀ {l:List α} {x:Int},(∀a∈l,f a=g a)->mxL f l x=mxL g l x
 | [],_,_=>rfl
 | a :: r,x,h=>by show mxL f r (max x (f a))=mxL g r (max x (g a));rw [h a List.mem_cons_self];exact dv λ b hb=>h b (B4 _ hb)
def bF (b:Int) (ks:List Kd):Nat->Int×Int->Int
 | 0,_=>0
 | n + 1,p=>mxL (λ c=>bF b ks n (aD p.1 p.2 c) + bF b ks n (aE b p.1 p.2 c)) (aJ b p.1 p.2) (lfW ks p.1 p.2)
theorem eV {b:Int} {ks:List Kd} (b0:0<=b):∀ (n m:Nat) (p:Int×Int),msr p < n->msr p < m->1<=p.1->1<=p.2->bF b ks n p=bF b ks m p
 | 0,_,_,h,_,_,_=>absurd h (G0 _)
 | _ + 1,0,_,_,h,_,_=>absurd h (G0 _)
 | n + 1,m + 1,p,h1,h2,p1,p2=>by show mxL _ _ _=mxL _ _ _;refine dv λ c hc=>?_;obtain ⟨⟨a1,a2,_,_,_,a3⟩,⟨c1,c2,_,_,_,c3⟩⟩:=aY b0 p1 p2 hc;have e:msr (p.1,p.2)=msr p:=rfl;rw [eV b0 n m _ (by omega) (by omega) a1 a2,eV b0 n m _ (by omega) (by omega) c1 c2]
def bW (b:Int) (ks:List Kd) (p:Int×Int):Int:=bF b ks (msr p + 1) p
theorem gA {b:Int} {ks:List Kd} (b0:0<=b) (p:Int×Int) (p1:1<=p.1) (p2:1<=p.2):bW b ks p=mxL (λ c=>bW b ks (aD p.1 p.2 c) + bW b ks (aE b p.1 p.2 c)) (aJ b p.1 p.2) (lfW ks p.1 p.2):=by show mxL _ _ _=mxL _ _ _;refine dv λ c hc=>?_;obtain ⟨⟨a1,a2,_,_,_,a3⟩,⟨c1,c2,_,_,_,c3⟩⟩:=aY b0 p1 p2 hc;have e:msr (p.1,p.2)=msr p:=rfl;unfold bW;rw [eV b0 (msr p) (msr (aD p.1 p.2 c) + 1) _ (by omega) (by omega) a1 a2,eV b0 (msr p) (msr (aE b p.1 p.2 c) + 1) _ (by omega) (by omega) c1 c2]
def ltP (p q:Int×Int):Prop:=p.1 < q.1\/p.1=q.1/\p.2 < q.2
theorem rowP_mem {a:Int} {n:Nat} {p:Int×Int}:p∈im a n↔p.1=a/\1<=p.2/\p.2<=n:=by
 unfold im;constructor
 ·intro h;obtain ⟨j,hj,rfl⟩:=List.mem_map.mp h;have:=List.mem_range.mp hj;exact ⟨Y,by show 1<=1 + (j:Int); omega,by show 1 + (j:Int)<=n; omega⟩
 ·rintro ⟨e,h1,h2⟩;refine List.mem_map.mpr ⟨(p.2 - 1).toNat,List.mem_range.mpr (by omega),?_⟩;rw [<- e,show 1 + ((p.2 - 1).toNat:Int)=p.2 by omega]
theorem partsL_mem {n:Nat} {p:Int×Int}:∀ {m:Nat},p∈ao m n↔(1<=p.1/\p.1<=m)/\1<=p.2/\p.2<=n
 | 0=>by
  constructor
  ·intro h; simp [ao] at h
  ·rintro ⟨⟨h1,h2⟩,_⟩; exfalso; have h2:p.1<=0:=h2; omega
 | m + 1=>by
  rw [cT,List.mem_append,partsL_mem (m:=m),rowP_mem];constructor
  ·rintro (⟨⟨h1,h2⟩,h3⟩ | ⟨h1,h2⟩)
   ·exact ⟨⟨h1,by omega⟩,h3⟩
   ·exact ⟨⟨by omega,by omega⟩,h2⟩
  ·rintro ⟨⟨h1,h2⟩,h3⟩
   by_cases e:p.1=1 + (m:Int)
   ·exact .inr ⟨e,h3⟩
   ·exact .inl ⟨⟨h1,by omega⟩,h3⟩
theorem jc (a:Int):∀n:Nat,(im a n).Pairwise ltP
 | 0=>List.Pairwise.nil
 | n + 1=>by rw [jb,List.pairwise_append];refine ⟨jc a n,List.pairwise_singleton _ _,λ p hp q hq=>?_⟩;rw [List.mem_singleton.mp hq];obtain ⟨e,_,h⟩:=rowP_mem.mp hp;exact .inr ⟨e,by show p.2 < 1 + (n:Int); omega⟩
theorem eF (n:Nat):∀m:Nat,(ao m n).Pairwise ltP
 | 0=>List.Pairwise.nil
 | m + 1=>by rw [cT,List.pairwise_append];refine ⟨eF n m,jc _ n,λ p hp q hq=>?_⟩;obtain ⟨⟨_,h⟩,_⟩:=partsL_mem.mp hp;obtain ⟨e,_⟩:=rowP_mem.mp hq;exact .inl (by omega)
theorem cU {m n i:Nat} {p q:Int×Int} (hi:(ao m n)[i]? = some p) (hq:q∈ao m n) (hl:ltP q p):q∈(ao m n).take i:=by
 obtain ⟨j,hj⟩:=List.mem_iff_getElem?.mp hq;obtain ⟨i1,i2⟩:=A6.mp hi;obtain ⟨j1,j2⟩:=A6.mp hj
 by_cases h:j < i
 ·refine List.mem_iff_getElem?.mpr ⟨j,?_⟩;rw [List.getElem?_take_of_lt h]; exact hj
 ·exfalso;rcases Nat.lt_or_ge i j with h' | h'
  ·have:=List.pairwise_iff_getElem.mp (eF n m) i j i1 j1 h';rw [i2,j2] at this;unfold ltP at this hl;omega
  ·have e:i=j:=by omega
   subst e;rw [hi] at hj;cases hj;unfold ltP at hl;omega
theorem mF {m n i:Nat} {p:Int×Int} (hi:(ao m n)[i]? = some p):p∉(ao m n).take i:=λ h=>by obtain ⟨j,hj⟩:=List.mem_iff_getElem?.mp h;obtain ⟨j0,_⟩:=A6.mp hj;rw [List.length_take] at j0;rw [List.getElem?_take_of_lt (by omega)] at hj;obtain ⟨i1,i2⟩:=A6.mp hi;obtain ⟨j1,j2⟩:=A6.mp hj;have:=List.pairwise_iff_getElem.mp (eF n m) j i j1 i1 (by omega);rw [i2,j2] at this;unfold ltP at this;omega
theorem tZ {p q:Int×Int} (h:pk p=pk q):p=q:=by
 obtain ⟨a,b⟩:=p;obtain ⟨c,d⟩:=q;have h:([.inl a,.inl b]:List Key)=[.inl c,.inl d]:=h;injection h with h1 h2
 injection h1 with h1
 injection h2 with h2 _
 injection h2 with h2
 rw [h1,h2]
def byP (ss:List ((Int×Int)×V)):List (List Key×V):=ss.map λ s=>(pk s.1,s.2)
theorem pE {ss:List ((Int×Int)×V)} {p:Int×Int} {v:V} (h:p∉ss.map (·.1)):cI (byP ss) (pk p) v=byP (ss ++ [(p,v)]):=by
 unfold cI;rw [if_neg,byP,byP,List.map_append]
 ·rfl
 ·intro e;obtain ⟨x,hx,e⟩:=List.any_eq_true.mp e;obtain ⟨s,hs,rfl⟩:=List.mem_map.mp hx;have:s.1=p:=tZ (C0 e);exact h (List.mem_map.mpr ⟨s,hs,this⟩)
theorem gO:∀ {ss:List ((Int×Int)×V)} {p:Int×Int},p∈ss.map (·.1)->∃v,bO (byP ss) (pk p)=some v/\(p,v)∈ss
 | s :: r,p,h=>by
  by_cases e:s.1=p
  ·refine ⟨s.2,bz (by show pk s.1=pk p; rw [e]),?_⟩;rw [<- e];exact B7
  ·have h:p∈r.map (·.1):=(List.mem_cons.mp h).resolve_left (λ z=>e z.symm);obtain ⟨v,h1,h2⟩:=gO h;refine ⟨v,?_,B4 _ h2⟩;show bO ((pk s.1,s.2) :: byP r) (pk p)=some v;rw [bA (λ z=>e (tZ z))];exact h1
def bp (b:Int) (ks:List Kd) (ps:List (Int×Int)):List ((Int×Int)×V):=ps.map λ p=>(p,.int (bW b ks p))
theorem lp (b:Int) (ks:List Kd) (ps:List (Int×Int)):(bp b ks ps).map (·.1)=ps:=by unfold bp;rw [List.map_map];exact List.map_id' ps
theorem eG {b:Int} {ks:List Kd} {ps:List (Int×Int)} {p:Int×Int} (h:p∈ps):bO (byP (bp b ks ps)) (pk p)=some (.int (bW b ks p)):=by obtain ⟨v,h1,h2⟩:=gO (ss:=bp b ks ps) (p:=p) (by rw [lp]; exact h);unfold bp at h2;obtain ⟨q,_,e⟩:=List.mem_map.mp h2;cases e;exact h1
def bC (b:Int) (ks:List Kd) (p:Int×Int):Option (Bool×Int):=stC (λ c=>bW b ks (aD p.1 p.2 c) + bW b ks (aE b p.1 p.2 c)) (aJ b p.1 p.2) (lfW ks p.1 p.2)
def bT (b:Int) (ks:List Kd):Nat->Int×Int->Tr
 | 0,_=>.rest
 | n + 1,p=>match bC b ks p with
  | none=>lfT ks p.1 p.2
  | some c=>.cut c.1 c.2 (bT b ks n (aD p.1 p.2 c)) (bT b ks n (aE b p.1 p.2 c))
def StOk (b:Int) (ks:List Kd) (H:Hp) (ss:List ((Int×Int)×V)):Prop:=∀p v,(p,v)∈ss->(bC b ks p=none/\TrV H (lfT ks p.1 p.2) v)\/∃x:Bool×Int,bC b ks p=some x/\CutAt b p.1 p.2 H v x/\aD p.1 p.2 x∈ss.map (·.1)/\aE b p.1 p.2 x∈ss.map (·.1)/\msr (aD p.1 p.2 x) < msr p/\msr (aE b p.1 p.2 x) < msr p
theorem StOk.keep {b:Int} {ks:List Kd} {H H':Hp} {ss:List ((Int×Int)×V)} (s:∀a xs,H a=some (.tup xs)->H' a=some (.tup xs)) (h:StOk b ks H ss):StOk b ks H' ss:=λ p v hm=>by
 rcases h p v hm with ⟨e,h1⟩ | ⟨x,ec,⟨q,t1,t2,e,c1,c2,c3⟩,h1⟩
 ·exact .inl ⟨e,TrV.keep s _ h1⟩
 ·exact .inr ⟨x,ec,⟨q,t1,t2,e,s _ _ c1,s _ _ c2,s _ _ c3⟩,h1⟩
theorem Do (dn:Bool):inV (wv dn) [V.str "down",V.str "across"]=true:=by cases dn <;> decide +kernel
section
variable {P:KC} {w:KF} {K:C4} {mg:Str->Option KG} {base:Heap}
inductive spTBS (n:Nat) (vs:List V) (H:Hp) (Q:VK) (E_:XK):Prop
 | mk (st kt:Addr) (b:Int) (ks:List Kd) (ss:List ((Int×Int)×V)) (p:Int×Int) (e_1:vs=[.ref st,.ref kt]) (e_2:H st=some (.dT (byP ss))) (e_3:H kt=some (.tup [.int p.1,.int p.2])) (e_4:StOk b ks H ss) (e_5:p∈ss.map (·.1)) (e_6:msr p < n) (e_7:∀v' H',TrV H' (bT b ks n p) v'->Same H H'->Q v' H'):spTBS n vs H Q E_
inductive spBestOf (C:Addr) (vs:List V) (H:Hp) (Q:VK) (E_:XK):Prop
 | mk (s:Addr) (b:Int) (ks:List Kd) (m n:Nat) (e_1:vs=[.ref s,.int m,.int n]) (e_2:ShopAt C H s b ks) (e_3:ks.length<=8) (e_4:0<=b) (e_5:1<=m) (e_6:m<=16) (e_7:1<=n) (e_8:n<=16) (e_9:∀ (r tb:Addr) (v:V) (H':Hp),H tb=none->H' r=some (.tup [.int (bW b ks (m,n)),v,.ref tb])->H' tb=some (.dT (byP (bp b ks (ao m n))))->TrV H' (bT b ks 33 (m,n)) v->Same H H'->Q (.ref r) H'):spBestOf C vs H Q E_
theorem sctbs:FnScope ["steps","key","step","way","p","first","second"] ["steps","key"] (defScope aX):=⟨Y,Y,Y,by decide +kernel,Y,by decide +kernel,by decide +kernel⟩
theorem xU {f wa:Addr} {fd:KD} (F:Fun K "tree_by_steps" "tree_by_steps" aX f fd) (n:Nat) (Z:BeC K mg wa) (DT:Dn P w K mg base "tree_by_steps" ["steps","key"] (1 + n) (spTBS n)):FnOk P w K mg base CX0 (1 + (n + 1)) f fd ["steps","key"] (spTBS (n + 1)):=by
 refine F.ok sctbs (λ vs H Q E h=>?_) (λ cdv A outer s H vs Q E hr h=>?_)
 ·obtain ⟨st,kt,b,ks,ss,p,rfl,_⟩:=h
  rfl
 obtain ⟨st,kt,b,ks,ss,p,rfl,hst,hkt,ok0,hp,hn,q⟩:=h;have nd:=sctbs.nd;have hu:=hr.units;have hu1:=C6 (Nat.add_le_add_left (show 1<=64 by decide) _) hu;refine ⟨_,(ad (@ax _ _ 2 _ _ _ _ nd rfl (Or.inl rfl) (bZ hu1 (pv 0) (pv 1) (λ _ _=>rfl)) rfl (Or.inl rfl)) (ad (aI (az fG (ay ix_tup (pv 2) af (λ _ _=>rfl)) (aL (v:=.ref wa) rfl Z.wy rfl) rfl) (ag (au (pv 2))) av) (ad (bm (pv 2) (aS rfl (ah (ai (i:=3) nd rfl (Or.inl rfl)) (ah (ai (i:=4) nd rfl (Or.inl rfl)) (ah (ai (i:=5) nd rfl (Or.inl rfl)) (ah (ai (i:=6) nd rfl (Or.inl rfl)) aG))))) rfl rfl rfl) (ag (au (aB ((pv 3)^^^((pv 4)^^^((aq DT hr rfl ((pv 0)^^^((pv 5)^^^ab)) (by decide) rfl rfl)^^^((aq DT hr rfl ((pv 0)^^^((pv 6)^^^ab)) (by decide) rfl rfl)^^^ab)))))))))),?_⟩;obtain ⟨v,hv,hm⟩:=gO hp;refine ap (λ R=>R [some (.ref st),some (.ref kt),some v,none,none,none,none] H) (λ Dd hR=>?_) ?_
 ·exact ⟨_,Y,_,Y,st,_,Y,hv ▸ DGet.t (k:=pk p) hst hkt,hR⟩
 skip
 rcases ok0 p v hm with ⟨ec,hlt⟩ | ⟨x,ec,⟨qa,t1,t2,rfl,c1,c2,c3⟩,m1,m2,l1,l2⟩
 ·obtain ⟨qa,y,r,rfl,h1,h2⟩:=TrV.lf (lm ks _ _) hlt;refine bo (λ σ' H'=>False) (λ R hR=>?_) (λ _ _ z=>z.elim);refine ⟨_,Y,qa,_,0,_,Y,Y,KI h1,aU (E6 _) rfl,wa,_,Y,.inr (Z.wq _),Y,Y,_,Y,?_⟩;rw [show (if true=true then !inV (V.str y) [V.str "down",V.str "across"] else inV (V.str y) [V.str "down",V.str "across"])=true by rw [if_pos rfl,h2]; rfl];exact aV ⟨_,rfl,q _ H (by unfold bT; rw [ec]; exact hlt) (Same.refl _)⟩
 refine ap (λ R=>R [some (.ref st),some (.ref kt),some (.ref qa),none,none,none,none] H) (λ Dd hR=>?_) ?_
 ·refine ⟨_,Y,qa,_,0,_,Y,Y,KI c1,Y,wa,_,Y,.inr (Z.wq _),Y,Y,_,Y,?_⟩;rw [show (if true=true then !inV (wv x.1) [V.str "down",V.str "across"] else inV (wv x.1) [V.str "down",V.str "across"])=false by rw [if_pos rfl,Do]; rfl];exact aF (hR)
 skip
 refine ap (λ R=>R [some (.ref st),some (.ref kt),some (.ref qa),some (wv x.1),some (.int x.2),some (.ref t1),some (.ref t2)] H) (λ Dd hR=>?_) ?_
 ·exact ⟨_,Y,qa,_,Y,KI c1,Y,_,_,Y,_,_,Y,_,_,Y,_,_,Y,Y,hR⟩
 skip
 refine ⟨_,Y,_,Y,_,Y,_,Y,st,t1,b,ks,ss,aD p.1 p.2 x,Y,hst,c2,ok0,m1,by omega,λ v1 H1 hv1 s1=>?_⟩;refine ⟨_,Y,_,Y,st,t2,b,ks,ss,aE b p.1 p.2 x,Y,s1 _ _ hst,s1 _ _ c3,ok0.keep (λ a xs e=>s1 _ _ e),m2,by omega,λ v2 H2 hv2 s2=>?_⟩;exact ⟨zS4,λ t ht=>q _ _ (by
  have sn:Same H2 (upd H2 t (.tup [wv x.1,.int x.2,v1,v2])):=KH ht;unfold bT;rw [ec];exact ⟨t,v1,v2,Y,ae,TrV.keep (λ a xs e=>sn _ _ (s2 _ _ e)) _ hv1,TrV.keep (λ a xs e=>sn _ _ e) _ hv2⟩) ((s1.trans s2).trans (KH ht))⟩
theorem vP {f:Addr} {fd:KD} (F:Fun K "tree_by_steps" "tree_by_steps" aX f fd):FnOk P w K mg base CX0 1 f fd ["steps","key"] (spTBS 0):=by
 refine F.ok sctbs (λ vs H Q E h=>?_) (λ cdv A outer s H vs Q E hr h=>?_)
 ·obtain ⟨st,kt,b,ks,ss,p,rfl,_⟩:=h
  rfl
 ·obtain ⟨st,kt,b,ks,ss,p,_,_,_,_,_,z,_⟩:=h;exact absurd z (G0 _)
theorem pF {f wa:Addr} {fd:KD} (F:Fun K "tree_by_steps" "tree_by_steps" aX f fd) (Z:BeC K mg wa) (mk:∀n,FnOk P w K mg base CX0 (1 + n) f fd ["steps","key"] (spTBS n)->Dn P w K mg base "tree_by_steps" ["steps","key"] (1 + n) (spTBS n)):∀n,FnOk P w K mg base CX0 (1 + n) f fd ["steps","key"] (spTBS n)
 | 0=>vP F
 | n + 1=>xU F n Z (mk n (pF F Z mk n))
theorem scbestof:FnScope ["shop","wide","high","blade","table","steps","part","worth","step","plate"] ["shop","wide","high"] (defScope gI):=⟨Y,Y,Y,by decide +kernel,Y,by decide +kernel,by decide +kernel⟩
theorem qU {f wa C:Addr} {fd:KD} (F:Fun K "best_of" "best_of" gI f fd) (Z:BeC K mg wa) (T:ShopTxt K C) (MB:Mn P w K mg base C "blade" ["self"] 1 (dD C)) (DCP:Dn P w K mg base "check_plate" ["wide","high"] 2 (spCP)) (DCS:Dn P w K mg base "check_sides" ["wide","high","most"] 1 (spCS)) (DPu:Dn P w K mg base "parts_up_to" ["wide","high"] 1 (spParts)) (DCu:Dn P w K mg base "cuts_of" ["blade","part"] 2 (spCuts)) (DBL:Dn P w K mg base "best_leaf" ["shop","part"] 6 (spBLeaf C)) (DBS:Dn P w K mg base "best_step" ["leaf_found","cuts","worths"] 1 (spStep)) (DTB:Dn P w K mg base "tree_by_steps" ["steps","key"] 34 (spTBS 33)):FnOk P w K mg base CX0 35 f fd ["shop","wide","high"] (spBestOf C):=by
 refine F.ok scbestof (λ vs H Q E h=>?_) (λ cdv A outer s H vs Q E hr h=>?_)
 ·obtain ⟨s,b,ks,m,n,rfl,_⟩:=h
  rfl
 obtain ⟨s,b,ks,m,n,rfl,S0,k8,b0,m1,m16,n1,n16,q⟩:=h;have nd:=scbestof.nd;have hu:=hr.units;have hu1:=C6 (Nat.add_le_add_left (show 1<=64 by decide) _) hu;obtain ⟨tms,hms⟩:=Z.ms;refine ⟨_,(ad (bj (aq DCP (hr.mono (by decide)) rfl ((pv 1)^^^((pv 2)^^^ab)) (by decide) rfl rfl) rfl) (ad (bj (aq DCS (hr.mono (by decide)) rfl ((pv 1)^^^((pv 2)^^^((aL (v:=.int 16) rfl hms ⟨tms,Y⟩)^^^ab))) (by decide) rfl rfl) rfl) (ad (@ax _ _ 3 _ _ _ _ nd rfl (Or.inl rfl) (cW (pv 0) T.cl MB (hr.mono (by decide))) rfl (Or.inl rfl)) (ad (@ax _ _ 4 _ _ _ _ nd rfl (Or.inl rfl) kH rfl (Or.inl rfl)) (ad (@ax _ _ 5 _ _ _ _ nd rfl (Or.inl rfl) kH rfl (Or.inl rfl)) (ad (bE E5 rfl (bq (aq DPu (hr.mono (by decide)) rfl ((pv 1)^^^((pv 2)^^^ab)) (by decide) rfl rfl)) (ai (i:=6) nd rfl (Or.inl rfl)) (ad (bm (aq DBS (hr.mono (by decide)) rfl ((aq DBL (hr.mono (by decide)) rfl ((pv 0)^^^((pv 6)^^^ab)) (by decide) rfl rfl)^^^((aq DCu (hr.mono (by decide)) rfl ((pv 3)^^^((pv 6)^^^ab)) (by decide) rfl rfl)^^^((pv 4)^^^ab))) (by decide) rfl rfl) (aS rfl (ah (ai (i:=7) nd rfl (Or.inl rfl)) (ah (ai (i:=8) nd rfl (Or.inl rfl)) aG))) rfl rfl rfl) (ad (oH hu1 (pv 4) (pv 6) (pv 7) rfl) (ag (oH hu1 (pv 5) (pv 6) (pv 8) rfl)))) (by intro _; rfl)) (ad (@ax _ _ 9 _ _ _ _ nd rfl (Or.inl rfl) (aB ((pv 1)^^^((pv 2)^^^ab))) rfl (Or.inl rfl)) (ag (au (aB ((bZ hu1 (pv 4) (pv 9) (λ _ _=>rfl))^^^((aq DTB (hr.mono (by decide)) rfl ((pv 5)^^^((pv 9)^^^ab)) (by decide) rfl rfl)^^^((pv 4)^^^ab))))))))))))),?_⟩;have z4:4096<=sizeLine:=by decide
 refine ap (λ R=>R [some (.ref s),some (.int m),some (.int n),none,none,none,none,none,none,none] H) (λ Dd hR=>?_) ?_
 ·exact ⟨_,Y,_,Y,m,n,Y,by omega,by omega,hR⟩
 skip
 refine ap (λ R=>R [some (.ref s),some (.int m),some (.int n),none,none,none,none,none,none,none] H) (λ Dd hR=>?_) ?_
 ·exact ⟨_,Y,_,Y,m,n,16,Y,by omega,by omega,hR⟩
 skip
 obtain ⟨dx,r0,rs0,g1,g2,g3⟩:=id S0;refine ap (λ R=>R [some (.ref s),some (.int m),some (.int n),some (.int b),none,none,none,none,none,none] H) (λ Dd hR=>?_) ?_
 ·exact ⟨_,Y,s,dx,_,Y,g1,bH _ _ (by decide +kernel) (by decide +kernel),s,b,ks,Y,S0,hR⟩
 skip
 refine ap (λ R=>∀ (tb:Addr) (H':Hp),H tb=none->H' tb=some (.dT [])->Same H H'->R [some (.ref s),some (.int m),some (.int n),some (.int b),some (.ref tb),none,none,none,none,none] H') (λ Dd hR=>?_) ?_
 ·intro tb htb;obtain ⟨H1,e1,k1,s1⟩:∃H',upd H tb (.dT [])=H'/\H' tb=some (.dT [])/\Same H H':=⟨_,Y,ae,KH htb⟩
  rw [show upd H tb _=H1 from e1];exact hR tb _ htb k1 s1
 rintro tb H1 htb k1 s1;refine ap (λ R=>∀ (st:Addr) (H':Hp),H1 st=none->H' st=some (.dT [])->Same H1 H'->R [some (.ref s),some (.int m),some (.int n),some (.int b),some (.ref tb),some (.ref st),none,none,none,none] H') (λ Dd hR=>?_) ?_
 ·intro st hst;obtain ⟨H2,e2,k2,s2⟩:∃H',upd H1 st (.dT [])=H'/\H' st=some (.dT [])/\Same H1 H':=⟨_,Y,ae,KH hst⟩
  rw [show upd H1 st _=H2 from e2];exact hR st _ hst k2 s2
 rintro st H2 hst1 k2 s2;have hst:H st=none:=s1.free hst1;have nts:tb≠st:=am k1 hst1;have s02:=s1.trans s2;refine bo (λ σ' H'=>∃ (ss:List ((Int×Int)×V)) (v6 v7 v8:Option V),σ'=[some (.ref s),some (.int m),some (.int n),some (.int b),some (.ref tb),some (.ref st),v6,v7,v8,none]/\H' tb=some (.dT (byP (bp b ks (ao m n))))/\H' st=some (.dT (byP ss))/\ss.map (·.1)=ao m n/\StOk b ks H' ss/\Same H H') (λ R hR=>?_) ?_
 ·refine ⟨_,Y,_,Y,m,n,Y,m16,n16,λ pl ys H3 hpl pys s3=>?_⟩;have pln:=E4 pys;have p256:(ao m n).length<=256:=by rw [bI]; exact Nat.mul_le_mul m16 n16
  refine ⟨pl,Y,⟨_,KJ hpl⟩,bJ (xs:=ys) (λ i σ' H'=>∃ (ss:List ((Int×Int)×V)) (v6 v7 v8:Option V),σ'=[some (.ref s),some (.int m),some (.int n),some (.int b),some (.ref tb),some (.ref st),v6,v7,v8,none]/\H' tb=some (.dT (byP (bp b ks ((ao m n).take i))))/\H' st=some (.dT (byP ss))/\ss.map (·.1)=(ao m n).take i/\StOk b ks H' ss/\Paired (PtAt H') ys (ao m n)/\H' pl=some (.lst ys)/\Same H H') ⟨[],none,none,none,Y,s3 _ _ (s2 _ _ k1),s3 _ _ k2,Y,(λ p v h=>by simp at h),pys,hpl,s02.trans s3⟩ (λ i σ Hx _ ⟨_,_,_,_,_,_,_,_,_,_,h,_⟩=>KJ h) ?_ ?_⟩
  ·rintro i x σ Hx hi ⟨ss,v6,v7,v8,rfl,ht,hs,es,so,py,hl,sx⟩;obtain ⟨p,hp,ta,rfl,hta⟩:=KL py hi;have pm:=B5 hp;obtain ⟨⟨p1,p2⟩,p3,p4⟩:=partsL_mem.mp pm;have pnew:=mF hp;have il:i < (ao m n).length:=(A6.mp hp).1;have tl:(bp b ks ((ao m n).take i)).length<=256:=by unfold bp;rw [List.length_map,List.length_take]; omega
   have sl:ss.length<=256:=by have:=congrArg List.length es;rw [List.length_map,List.length_take] at this;omega
   have cutIn:∀c∈aJ b p.1 p.2,aD p.1 p.2 c∈(ao m n).take i/\aE b p.1 p.2 c∈(ao m n).take i:=λ c hc=>by obtain ⟨⟨a1,a2,a3,a4,a5,_⟩,⟨c1,c2,c3,c4,c5,_⟩⟩:=aY b0 p1 p3 hc;exact ⟨cU hp (partsL_mem.mpr ⟨⟨a1,by omega⟩,a2,by omega⟩) a5,cU hp (partsL_mem.mpr ⟨⟨c1,by omega⟩,c2,by omega⟩) c5⟩
   refine ap (λ R=>∀ (sv:V) (H':Hp),((bC b ks p=none/\TrV H' (lfT ks p.1 p.2) sv)\/∃c,bC b ks p=some c/\CutAt b p.1 p.2 H' sv c)->Same Hx H'->R [some (.ref s),some (.int m),some (.int n),some (.int b),some (.ref tb),some (.ref st),some (.ref ta),some (.int (bW b ks p)),some sv,none] H') (λ Dd hR=>?_) ?_
   ·have Sx:=S0.keep (λ c o e=>sx _ _ e) (λ c C' d fs e=>sx _ _ e);refine ⟨_,Y,_,Y,s,ta,b,ks,p.1,p.2,Y,Sx,k8,hta,λ lf lv Ha hlf hlv sa=>?_⟩;refine ⟨_,Y,_,Y,b,p.1,p.2,ta,Y,sa _ _ hta,by omega,by omega,b0,λ cl cy Hb hcl pc sb=>?_⟩;have sab:=sa.trans sb;refine ⟨_,Y,lf,cl,tb,lfW ks p.1 p.2,lv,cy,b,p.1,p.2,aJ b p.1 p.2,bW b ks,_,Y,sb _ _ hlf,hcl,pc,sab _ _ ht,λ c hc=>⟨eG (cutIn c hc).1,eG (cutIn c hc).2⟩,λ r sv Hc hr hsv sc=>?_⟩;rw [<- gA b0 p p1 p3] at hr;exact ⟨r,_,Y,KI hr,Y,_,_,Y,_,_,Y,Y,hR sv _ (by
     change StV b p.1 p.2 Hc lv sv (bC b ks p) at hsv;cases ec:bC b ks p with
     | none=>rw [ec] at hsv; exact .inl ⟨Y,(show sv=lv from hsv) ▸ TrV.keep (λ a xs e=>sc _ _ (sb _ _ e)) _ hlv⟩
     | some c=>rw [ec] at hsv; exact .inr ⟨c,Y,hsv⟩) (sab.trans sc)⟩
   rintro sv Hy hsv sxy;have ktu:∀ {Hz:Hp} {d:Addr} {o o':HO} {k:List (List Key×V)},Hz d=some (.dT k)->∀a xs,Hz a=some (.tup xs)->(upd Hz d o) a=some (.tup xs):=λ {Hz d o o' k} hd a xs e=>by rw [aj (λ z=>by rw [z,hd] at e; cases e)]; exact e
   have hty:=sxy _ _ ht;have hsy:=sxy _ _ hs;refine ap (λ R=>∀ (H':Hp),H'=upd Hy tb (.dT (byP (bp b ks ((ao m n).take (i + 1)))))->R [some (.ref s),some (.int m),some (.int n),some (.int b),some (.ref tb),some (.ref st),some (.ref ta),some (.int (bW b ks p)),some sv,none] H') (λ Dd hR=>?_) ?_
   ·refine ⟨_,Y,_,Y,_,Y,tb,_,Y,DPut.t (k:=pk p) hty (sxy _ _ hta) (by unfold byP; rw [List.length_map]; omega),hR _ ?_⟩;rw [pE (by rw [lp]; exact pnew),List.take_add_one,hp];unfold bp;rw [List.map_append]
    rfl
   rintro Hz eHz;have tz:Hz tb=some (.dT (byP (bp b ks ((ao m n).take (i + 1))))):=by rw [eHz]; exact ae
   have sz:Hz st=some (.dT (byP ss)):=by rw [eHz,aj (Ne.symm nts)]; exact hsy
   have kz:∀a xs,Hy a=some (.tup xs)->Hz a=some (.tup xs):=λ a xs e=>by rw [eHz,aj (λ z=>by rw [z,hty] at e; cases e)]; exact e
   have s0z:Same H Hz:=λ c o e=>by rw [eHz,aj (am e htb)]; exact sxy _ _ (sx _ _ e)
   have lz:Hz pl=some (.lst ys):=by rw [eHz,aj (λ z=>by rw [z,ht] at hl; cases hl)]; exact sxy _ _ hl
   refine ⟨_,Y,_,Y,_,Y,st,_,Y,DPut.t (k:=pk p) sz (kz _ _ (sxy _ _ hta)) (by unfold byP; rw [List.length_map]; omega),ss ++ [(p,sv)],_,_,_,Y,?_,?_,?_,?_,?_,?_,?_⟩
   ·rw [aj nts]; exact tz
   ·rw [pE (by rw [es]; exact pnew)]; exact ae
   ·rw [List.map_append,es,List.take_add_one,hp]; rfl
   ·have kw:∀a xs,Hy a=some (.tup xs)->(upd Hz st (.dT (cI (byP ss) (pk p) sv))) a=some (.tup xs):=λ a xs e=>by have e':=kz _ _ e;rw [aj (λ z=>by rw [z,sz] at e'; cases e')]; exact e'
    intro p' v' hm;rcases C2.mp hm with hm | hm
    ·rcases (so.keep (λ a xs e=>kw _ _ (sxy _ _ e))) p' v' hm with h | ⟨x,hc,h1,h2,h3,h4⟩
     ·exact .inl h
     ·exact .inr ⟨x,hc,h1,by rw [List.map_append]; exact B6 _ h2,by rw [List.map_append]; exact B6 _ h3,h4⟩
    ·rw [List.mem_singleton] at hm;cases hm;rcases hsv with ⟨ec,hl'⟩ | ⟨c,ec,⟨q',t1,t2,e,c1,c2,c3⟩⟩
     ·exact .inl ⟨ec,TrV.keep kw _ hl'⟩
     ·have hc:=pq ec;obtain ⟨⟨_,_,_,_,_,l1⟩,⟨_,_,_,_,_,l2⟩⟩:=aY b0 p1 p3 hc;obtain ⟨i1,i2⟩:=cutIn c hc;exact .inr ⟨c,ec,⟨q',t1,t2,e,kw _ _ c1,kw _ _ c2,kw _ _ c3⟩,by rw [List.map_append,es]; exact B6 _ i1,by rw [List.map_append,es]; exact B6 _ i2,l1,l2⟩
   ·refine KK py λ v p ⟨q',e,h⟩=>⟨q',e,?_⟩
    have e':=kz _ _ (sxy _ _ h);rw [aj (λ z=>by rw [z,sz] at e'; cases e')]; exact e'
   ·rw [aj (λ z=>by rw [z,sz] at lz; cases lz)]; exact lz
   ·exact λ c o e=>by rw [aj (am e hst)]; exact s0z _ _ e
  ·rintro σ Hx ⟨ss,v6,v7,v8,rfl,ht,hs,es,so,py,hl,sx⟩;rw [pln,List.take_length] at ht es;exact hR _ _ ⟨ss,v6,v7,v8,rfl,ht,hs,es,so,sx⟩
 rintro _ H3 ⟨ss,v6,v7,v8,rfl,ht,hs,es,so,s03⟩;have pmem:((m:Int),(n:Int))∈ao m n:=partsL_mem.mpr ⟨⟨by show (1:Int)<=m; omega,E6 _⟩,by show (1:Int)<=n; omega,E6 _⟩;refine ap (λ R=>∀ (pa:Addr) (H':Hp),H' pa=some (.tup [.int m,.int n])->Same H3 H'->R [some (.ref s),some (.int m),some (.int n),some (.int b),some (.ref tb),some (.ref st),v6,v7,v8,some (.ref pa)] H') (λ Dd hR=>?_) ?_
 ·refine ⟨_,Y,_,Y,zS2,λ pa hpa=>?_⟩;obtain ⟨H4,e4,k4,s4⟩:∃H',upd H3 pa (.tup [.int m,.int n])=H'/\H' pa=some (.tup [.int m,.int n])/\Same H3 H':=⟨_,Y,ae,KH hpa⟩
  rw [show upd H3 pa _=H4 from e4];exact hR pa _ k4 s4
 rintro pa H4 hpa s34;refine ⟨_,Y,_,Y,tb,_,Y,eG pmem ▸ DGet.t (k:=pk (m,n)) (s34 _ _ ht) hpa,?_⟩;refine ⟨_,Y,_,Y,st,pa,b,ks,ss,((m:Int),(n:Int)),Y,s34 _ _ hs,hpa,so.keep (λ a xs e=>s34 _ _ e),(by rw [es]; exact pmem),(by show ((m:Int) + n).toNat < 33; omega),λ v5 H5 hv5 s45=>?_⟩;refine ⟨_,Y,zS3,λ r hr=>?_⟩;obtain ⟨H6,e6,k6,s6⟩:∃H',upd H5 r (.tup [.int (bW b ks (m,n)),v5,.ref tb])=H'/\H' r=some (.tup [.int (bW b ks (m,n)),v5,.ref tb])/\Same H5 H':=⟨_,Y,ae,KH hr⟩
 rw [show upd H5 r _=H6 from e6];have s36:=s34.trans (s45.trans s6);exact q r tb v5 H6 htb k6 (s36 _ _ ht) (TrV.keep (λ a xs e=>s6 _ _ e) _ hv5) (s03.trans s36)
end
abbrev TC:=(Bool×Int)×Nat
def jN (wa:Bool) (left:Nat) (c:Bool×Int):Option TC:=if c.1=wa then some (c,left) else if left=0 then none else some (c,left - 1)
def cbt (cs:List (Bool×Int)) (wa:Bool) (left:Nat):List TC:=cs.filterMap (jN wa left)
theorem uh {cs:List (Bool×Int)} {wa:Bool} {left i:Nat} {c:Bool×Int} (h:cs[i]? = some c):cbt (cs.take (i + 1)) wa left=cbt (cs.take i) wa left ++ (jN wa left c).toList:=by unfold cbt;rw [List.take_add_one,h,List.filterMap_append];congr 1
theorem dP {cs:List (Bool×Int)} {wa:Bool} {left:Nat} {x:TC} (h:x∈cbt cs wa left):x.1∈cs/\x.2<=left/\(x.1.1=wa->x.2=left)/\(x.1.1≠wa->x.2 + 1=left):=by
 unfold cbt at h;obtain ⟨c,hc,e⟩:=List.mem_filterMap.mp h;unfold jN at e
 split at e
 ·rename_i hw
  cases e;exact ⟨hc,B3 _,λ _=>rfl,λ n=>absurd hw n⟩
 ·rename_i hw
  split at e
  ·cases e
  ·cases e;exact ⟨hc,by show left - 1<=left; omega,λ z=>absurd z hw,λ _=>by show left - 1 + 1=left; omega⟩
theorem eW {cs:List (Bool×Int)} {wa:Bool} {left l:Nat} {c:Bool×Int} (hc:c∈cs) (h:(c.1=wa/\l=left)\/(c.1≠wa/\l + 1=left)):(c,l)∈cbt cs wa left:=by
 refine List.mem_filterMap.mpr ⟨c,hc,?_⟩;unfold jN;rcases h with ⟨h1,rfl⟩ | ⟨h1,rfl⟩
 ·rw [if_pos h1]
 ·rw [if_neg h1,if_neg (by omega)]; rfl
theorem vQ (cs:List (Bool×Int)) (wa:Bool) (left:Nat):(cbt cs wa left).length<=cs.length:=List.length_filterMap_le _ _
def wS (dn:Bool):Str:=if dn=true then "down" else "across"
theorem ui {a b:Bool} (h:wS a=wS b):a=b:=by cases a <;> cases b <;> first | rfl | exact absurd h (by decide +kernel)
def nk (p:Int×Int) (dn:Bool) (l:Nat):NK:=([.inl p.1,.inl p.2],[.inr (wS dn),.inl (l:Int)])
theorem uj {p p':Int×Int} {dn dn':Bool} {l l':Nat} (h:nk p dn l=nk p' dn' l'):p=p'/\dn=dn'/\l=l':=by
 unfold nk at h;injection h with h1 h2
 injection h1 with a1 a2
 injection a1 with a1
 injection a2 with a2 _
 injection a2 with a2
 injection h2 with c1 c2
 injection c1 with c1
 injection c2 with c2 _
 injection c2 with c2
 exact ⟨Prod.ext a1 a2,ui c1,by omega⟩
def TcAt (b w h:Int) (H:Hp) (v:V) (x:TC):Prop:=∃q p1 p2,v=.ref q/\H q=some (.tup [wv x.1.1,.int x.1.2,.ref p1,.ref p2])/\NkAt H p1 (nk (aD w h x.1) x.1.1 x.2)/\NkAt H p2 (nk (aE b w h x.1) x.1.1 x.2)
theorem TcAt.keep {b w h:Int} {H H':Hp} (t:∀c xs,H c=some (.tup xs)->H' c=some (.tup xs)) {v:V} {x:TC} (c:TcAt b w h H v x):TcAt b w h H' v x:=by obtain ⟨q,p1,p2,e,h1,h2,h3⟩:=c;exact ⟨q,p1,p2,e,t _ _ h1,h2.keep t,h3.keep t⟩
def cq {α:Type} (g:α->Int) (m:Int×Option α) (c:α):Int×Option α:=if m.1 < g c then (g c,some c) else m
def qV {α:Type} (g:α->Int) (cs:List α) (x:Int):Int×Option α:=cs.foldl (cq g) (x,none)
def lq {α:Type} (g:α->Int) (cs:List α) (x:Int):Option α:=(qV g cs x).2
theorem fX {α:Type} (g:α->Int):∀ (l:List α) (m:Int×Option α),(l.foldl (cq g) m).1=mxL g l m.1
 | [],_=>rfl
 | q :: l,m=>by
  show (l.foldl (cq g) (cq g m q)).1=mxL g l (max m.1 (g q));rw [fX g l];unfold cq
  split
  ·rw [show max m.1 (g q)=g q by omega]
  ·rw [show max m.1 (g q)=m.1 by omega]
theorem qW {α:Type} (g:α->Int) (l:List α) (x:Int) {i:Nat} {q:α} (h:l[i]? = some q):qV g (l.take (i + 1)) x=cq g (qV g (l.take i) x) q:=by
 unfold qV;rw [List.take_add_one,h,List.foldl_append]
 rfl
theorem lr {α:Type} (g:α->Int):∀ (l:List α) (m:Int×Option α) {c:α},(l.foldl (cq g) m).2=some c->(c∈l/\(l.foldl (cq g) m).1=g c)\/(m.2=some c/\(l.foldl (cq g) m).1=m.1)
 | [],_,_,h=>.inr ⟨h,Y⟩
 | q :: l,m,c,h=>by
  show (c∈q :: l/\(l.foldl (cq g) (cq g m q)).1=g c)\/(m.2=some c/\(l.foldl (cq g) (cq g m q)).1=m.1)
  rcases lr g l _ h with ⟨h1,h2⟩ | ⟨h1,h2⟩
  ·exact .inl ⟨B4 _ h1,h2⟩
  ·rw [h2];unfold cq at h1 ⊢
   split at h1
   ·rename_i hc
    cases h1;exact .inl ⟨B7,by rw [if_pos hc]⟩
   ·rename_i hc
    exact .inr ⟨h1,by rw [if_neg hc]⟩
theorem lw {α:Type} {g:α->Int} {l:List α} {x:Int} {c:α} (h:lq g l x=some c):c∈l/\mxL g l x=g c:=by
 rcases lr g l _ h with ⟨h1,h2⟩ | ⟨h1,h2⟩
 ·exact ⟨h1,(fX g l (x,none)).symm.trans h2⟩
 ·cases h1
theorem jd {α:Type} (g:α->Int):∀ (l:List α) (m:Int×Option α),(l.foldl (cq g) m).2=none->(l.foldl (cq g) m).1=m.1
 | [],_,_=>rfl
 | q :: l,m,h=>by
  have h1:=jd g l (cq g m q) h;show (l.foldl (cq g) (cq g m q)).1=m.1;rw [h1];unfold cq
  split
  ·rename_i hc
   exfalso;have some2:∀ (l:List α) (m:Int×Option α),m.2≠none->(l.foldl (cq g) m).2≠none:=by
    intro l
    induction l with
    | nil=>intro m hm; exact hm
    | cons a r ih =>
     intro m hm;refine ih (cq g m a) ?_;unfold cq
     split
     ·exact λ z=>by cases z
     ·exact hm
   refine some2 l (cq g m q) ?_ h;unfold cq;rw [if_pos hc];exact λ z=>by cases z
  ·rfl
theorem qX {α:Type} {g:α->Int} {l:List α} {x:Int} (h:lq g l x=none):mxL g l x=x:=(fX g l (x,none)).symm.trans (jd g l _ h)
def StVN (b w h:Int) (H:Hp) (lv v:V):Option TC->Prop
 | none=>v=lv
 | some c=>TcAt b w h H v c
theorem StVN.keep {b w h:Int} {H H':Hp} (s:Same H H') {lv v:V}:∀ {o:Option TC},StVN b w h H lv v o->StVN b w h H' lv v o
 | none,e=>e
 | some _,e=>TcAt.keep (λ c xs e=>s _ _ e) e
def tcW (b:Int) (f:Int×Int->Bool->Nat->Int) (w h:Int) (x:TC):Int:=f (aD w h x.1) x.1.1 x.2 + f (aE b w h x.1) x.1.1 x.2
section
variable {P:KC} {w:KF} {K:C4} {mg:Str->Option KG} {base:Heap}
inductive spCbt (vs:List V) (H:Hp) (Q:VK) (E_:XK):Prop
 | mk (cl:Addr) (ys:List V) (b w h:Int) (cs:List (Bool×Int)) (wa:Bool) (left:Nat) (e_1:vs=[.ref cl,wv wa,.int (left:Int)]) (e_2:H cl=some (.lst ys)) (e_3:Paired (CutAt b w h H) ys cs) (e_4:cs.length<=32) (e_5:∀ (l:Addr) (ys':List V) (H':Hp),H' l=some (.lst ys')->Paired (TcAt b w h H') ys' (cbt cs wa left)->Same H H'->Q (.ref l) H'):spCbt vs H Q E_
inductive spStepN (P:Program) (w:World) (vs:List V) (H:Hp) (Q:VK) (E_:XK):Prop
 | mk (lf cl wt:Addr) (x:Int) (lv:V) (ys:List V) (b w1 h1:Int) (cs:List TC) (f:Int×Int->Bool->Nat->Int) (kvs:List (NK×V)) (e_1:vs=[.ref lf,.ref cl,.ref wt]) (e_2:H lf=some (.tup [.int x,lv])) (e_3:H cl=some (.lst ys)) (e_4:Paired (TcAt b w1 h1 H) ys cs) (e_5:NDict P w H wt kvs) (e_6:(∀c∈cs,bO kvs (nk (aD w1 h1 c.1) c.1.1 c.2)=some (.int (f (aD w1 h1 c.1) c.1.1 c.2))/\bO kvs (nk (aE b w1 h1 c.1) c.1.1 c.2)=some (.int (f (aE b w1 h1 c.1) c.1.1 c.2)))) (e_7:∀ (r:Addr) (v:V) (H':Hp),H' r=some (.tup [.int (mxL (tcW b f w1 h1) cs x),v])->StVN b w1 h1 H' lv v (lq (tcW b f w1 h1) cs x)->Same H H'->Q (.ref r) H'):spStepN P w vs H Q E_
theorem sccbt:FnScope ["cuts","way_ahead","left","allowed","way","p","first","second","still_left"] ["cuts","way_ahead","left"] (defScope cA):=⟨Y,Y,Y,by decide +kernel,Y,by decide +kernel,by decide +kernel⟩
theorem xV {f:Addr} {fd:KD} (F:Fun K "cuts_by_turns" "cuts_by_turns" cA f fd)  : FnOk P w K mg base CX0 1 f fd ["cuts","way_ahead","left"] (spCbt):=by
 refine F.ok sccbt (λ vs H Q E h=>?_) (λ cdv A outer s H vs Q E hr h=>?_)
 ·obtain ⟨cl,ys,b,w1,h1,cs,wa,left,rfl,_⟩:=h
  rfl
 obtain ⟨cl,ys,b,w1,h1,cs,wa,left,rfl,hcl,pc,c32,q⟩:=h;have nd:=sccbt.nd;refine ⟨_,(ad (@ax _ _ 3 _ _ _ _ nd rfl (Or.inl rfl) (bY ab) rfl (Or.inl rfl)) (ad (bE E5 rfl (bq (pv 0)) (aS rfl (ah (ai (i:=4) nd rfl (Or.inl rfl)) (ah (ai (i:=5) nd rfl (Or.inl rfl)) (ah (ai (i:=6) nd rfl (Or.inl rfl)) (ah (ai (i:=7) nd rfl (Or.inl rfl)) aG))))) (ad (@ax _ _ 8 _ _ _ _ nd rfl (Or.inl rfl) (gQ (az fe (pv 4) (pv 1) (aw _)) (pv 2) (aA dX (pv 2) af)) rfl (Or.inl rfl)) (ag (aI (az oq (pv 8) af (aw _)) (ag (bj (fH KA PySem.F.slot_list_append PySem.F.type_list_append cD (pv 3) ((aB ((pv 4)^^^((pv 5)^^^((aB ((pv 6)^^^((pv 4)^^^((pv 8)^^^ab))))^^^((aB ((pv 7)^^^((pv 4)^^^((pv 8)^^^ab))))^^^ab)))))^^^ab) rfl rfl rfl rfl rfl) rfl)) av))) (by intro _; rfl)) (ag (au (pv 3))))),?_⟩;have z4:4096<=sizeLine:=by decide
 refine ap (λ R=>∀ (l:Addr) (H':Hp),H l=none->H' l=some (.lst [])->Same H H'->R [some (.ref cl),some (wv wa),some (.int (left:Int)),some (.ref l),none,none,none,none,none] H') (λ Dd hR=>?_) ?_
 ·refine ⟨by decide,λ l hl=>?_⟩;obtain ⟨H1,e1,k1,s1⟩:∃H',upd H l (.lst [])=H'/\H' l=some (.lst [])/\Same H H':=⟨_,Y,ae,KH hl⟩
  rw [show upd H l _=H1 from e1];exact hR l _ hl k1 s1
 rintro l H1 hl l1 s1;have ncl:cl≠l:=am hcl hl;have yl:=E4 pc;refine bo (λ σ' H'=>(∃v4 v5 v6 v7 v8:Option V,σ'=[some (.ref cl),some (wv wa),some (.int (left:Int)),some (.ref l),v4,v5,v6,v7,v8])/\(∃us,H' l=some (.lst us)/\Paired (TcAt b w1 h1 H') us (cbt cs wa left))/\But l H1 H') (λ R hR=>?_) ?_
 ·refine ⟨_,Y,cl,Y,⟨_,KJ (s1 _ _ hcl)⟩,bJ (xs:=ys) (λ i σ' H'=>(∃v4 v5 v6 v7 v8:Option V,σ'=[some (.ref cl),some (wv wa),some (.int (left:Int)),some (.ref l),v4,v5,v6,v7,v8])/\(∃us,H' l=some (.lst us)/\Paired (TcAt b w1 h1 H') us (cbt (cs.take i) wa left))/\But l H1 H') ⟨⟨_,_,_,_,_,Y⟩,⟨[],l1,.nil⟩,But.refl⟩ (λ i σ Hx _ ⟨_,_,bx⟩=>KJ (bx _ _ ncl (s1 _ _ hcl))) ?_ ?_⟩
  ·rintro i x σ H2 hi ⟨⟨v4,v5,v6,v7,v8,rfl⟩,⟨us,l2,pu⟩,b2⟩;obtain ⟨c,hc,q0,t1,t2,rfl,g1,g2,g3⟩:=KL pc hi;have il:i < ys.length:=(A6.mp hi).1;have g1':=b2 _ _ (am g1 hl) (s1 _ _ g1);have g2':=b2 _ _ (am g2 hl) (s1 _ _ g2);have g3':=b2 _ _ (am g3 hl) (s1 _ _ g3);have ul:=E4 pu;have ul2:=vQ (cs.take i) wa left;rw [List.length_take] at ul2;have ct:=uh (wa:=wa) (left:=left) hc;refine ⟨q0,_,Y,KI g1',Y,_,_,Y,_,_,Y,_,_,Y,_,_,Y,Y,?_⟩;refine bo (λ σ' H'=>(∃st:Int,σ'=[some (.ref cl),some (wv wa),some (.int (left:Int)),some (.ref l),some (wv c.1),some (.int c.2),some (.ref t1),some (.ref t2),some (.int st)]/\((0<=st/\∃n:Nat,st=n/\jN wa left c=some (c,n))\/(st < 0/\jN wa left c=none)))/\H2=H') (λ R hR=>?_) ?_
   ·refine ⟨_,Y,_,Y,Y,_,Y,?_⟩
    by_cases hw:c.1=wa
    ·rw [show decide (wv c.1=wv wa)=true by rw [hw]; exact decide_eq_true rfl];refine aV ⟨_,rfl,hR _ _ ⟨⟨left,rfl,.inl ⟨by omega,left,rfl,by unfold jN; rw [if_pos hw]⟩⟩,rfl⟩⟩
    ·rw [show decide (wv c.1=wv wa)=false from decide_eq_false λ z=>hw (ui (V.str.inj z))];refine aF ⟨_,rfl,_,_,rfl,rfl,hR _ _ ⟨⟨left - 1,rfl,?_⟩,rfl⟩⟩
     by_cases h0:left=0
     ·exact .inr ⟨by omega,by unfold jN; rw [if_neg hw,if_pos h0]⟩
     ·exact .inl ⟨by omega,left - 1,by omega,by unfold jN; rw [if_neg hw,if_neg h0]⟩
   rintro _ _ ⟨⟨st,rfl,hst⟩,rfl⟩;refine ⟨_,Y,_,_,Y,Y,_,Y,?_⟩;rcases hst with ⟨s0,n,rfl,hcb⟩ | ⟨s0,hcb⟩
   ·rw [show decide ((0:Int)<=(n:Int))=true from decide_eq_true s0];refine aV ⟨_,rfl,.inl ⟨rfl,_,KJ l2⟩,_,rfl,_,rfl,_,rfl,_,rfl,_,rfl,zS3,λ p1 hp1=>?_⟩;obtain ⟨H3,e3,k3,s3⟩:∃H',upd H2 p1 (.tup [.ref t1,wv c.1,.int (n:Int)])=H'/\H' p1=some (.tup [.ref t1,wv c.1,.int (n:Int)])/\Same H2 H':=⟨_,Y,ae,KH hp1⟩
    rw [show upd H2 p1 _=H3 from e3];refine ⟨_,Y,_,Y,_,Y,zS3,λ p2 hp2=>?_⟩;obtain ⟨H4,e4,k4,s4⟩:∃H',upd H3 p2 (.tup [.ref t2,wv c.1,.int (n:Int)])=H'/\H' p2=some (.tup [.ref t2,wv c.1,.int (n:Int)])/\Same H3 H':=⟨_,Y,ae,KH hp2⟩
    rw [show upd H3 p2 _=H4 from e4];refine ⟨zS4,λ m hm=>?_⟩;obtain ⟨H5,e5,k5,s5⟩:∃H',upd H4 m (.tup [wv c.1,.int c.2,.ref p1,.ref p2])=H'/\H' m=some (.tup [wv c.1,.int c.2,.ref p1,.ref p2])/\Same H4 H':=⟨_,Y,ae,KH hm⟩
    rw [show upd H4 m _=H5 from e5];have s25:=s3.trans (s4.trans s5);have l5:=s25 _ _ l2;have kt:∀d xs,H5 d=some (.tup xs)->(upd H5 l (.lst (us ++ [.ref m]))) d=some (.tup xs):=λ d xs e=>by rw [aj (λ z=>by rw [z,l5] at e; cases e)]; exact e
    refine ⟨l,_,_,Y,Y,l5,by omega,⟨_,_,_,_,_,Y⟩,⟨_,ae,?_⟩,λ d o nn e=>by rw [aj nn]; exact s25 _ _ (b2 _ _ nn e)⟩;rw [ct,hcb];exact Paired.app (KK pu λ v x h=>TcAt.keep (λ d xs e=>kt _ _ (s25 _ _ e)) h) (.cons ⟨m,p1,p2,Y,kt _ _ k5,⟨t1,kt _ _ (s5 _ _ (s4 _ _ k3)),kt _ _ (s25 _ _ g2')⟩,⟨t2,kt _ _ (s5 _ _ k4),kt _ _ (s25 _ _ g3')⟩⟩ .nil)
   ·rw [show decide ((0:Int)<=st)=false from decide_eq_false (by omega)];refine aF ⟨⟨_,_,_,_,_,rfl⟩,⟨us,l2,?_⟩,b2⟩;rw [ct,hcb];exact (List.append_nil _).symm ▸ pu
  ·rintro σ H2 ⟨e,⟨us,l2,pu⟩,b2⟩;rw [yl,List.take_length] at pu;exact hR _ _ ⟨e,⟨us,l2,pu⟩,b2⟩
 rintro _ H2 ⟨⟨v4,v5,v6,v7,v8,rfl⟩,⟨us,l2,pu⟩,b2⟩;exact ⟨_,Y,q l us H2 l2 pu (λ c o e=>b2 _ _ (am e hl) (s1 _ _ e))⟩
theorem scbstepn:FnScope ["leaf_found","cuts","worths","worth","step","cut","together"] ["leaf_found","cuts","worths"] (defScope cF):=⟨Y,Y,Y,by decide +kernel,Y,by decide +kernel,by decide +kernel⟩
theorem qY {f:Addr} {fd:KD} (F:Fun K "best_step" "best_step" cF f fd)  : FnOk P w K mg base CX0 1 f fd ["leaf_found","cuts","worths"] (spStepN P w):=by
 refine F.ok scbstepn (λ vs H Q E h=>?_) (λ cdv A outer s H vs Q E hr h=>?_)
 ·obtain ⟨lf,cl,wt,x0,lv,ys,b,w1,h1,cs,f0,kvs,rfl,_⟩:=h
  rfl
 obtain ⟨lf,cl,wt,x0,lv,ys,b,w1,h1,cs,f0,kvs,rfl,hlf,hcl,pc,hwt,hv,q⟩:=h;have nd:=scbstepn.nd;have hu2:=C6 (Nat.add_le_add_left (show 2<=64 by decide) _) hr.units;refine ⟨_,(ad (bm (pv 0) (aS rfl (ah (ai (i:=3) nd rfl (Or.inl rfl)) (ah (ai (i:=4) nd rfl (Or.inl rfl)) aG))) rfl rfl rfl) (ad (bE E5 rfl (bq (pv 1)) (ai (i:=5) nd rfl (Or.inl rfl)) (ad (@ax _ _ 6 _ _ _ _ nd rfl (Or.inl rfl) (aA aM (eL hu2 (pv 2) (ay ix_tup (pv 5) af (λ _ _=>rfl)) (λ _ _=>rfl)) (eL hu2 (pv 2) (ay ix_tup (pv 5) af (λ _ _=>rfl)) (λ _ _=>rfl))) rfl (Or.inl rfl)) (ag (aI (az cN (pv 6) (pv 3) (aw _)) (ag (ji rfl nd rfl rfl (i:=3) (j:=4) (by decide) rfl rfl ((pv 6)^^^((pv 5)^^^ab)) rfl)) av))) (by intro _; rfl)) (ag (au (aB ((pv 3)^^^((pv 4)^^^ab))))))),?_⟩;have z4:4096<=sizeLine:=by decide
 refine ap (λ R=>R [some (.ref lf),some (.ref cl),some (.ref wt),some (.int x0),some lv,none,none] H) (λ Dd hR=>?_) ?_
 ·exact ⟨_,Y,lf,_,Y,KI hlf,Y,_,_,Y,_,_,Y,Y,hR⟩
 skip
 have cln:=E4 pc;refine bo (λ σ' H'=>∃ (sv:V) (v5 v6:Option V),σ'=[some (.ref lf),some (.ref cl),some (.ref wt),some (.int (mxL (tcW b f0 w1 h1) cs x0)),some sv,v5,v6]/\StVN b w1 h1 H lv sv (lq (tcW b f0 w1 h1) cs x0)/\H=H') (λ R hR=>?_) ?_
 ·refine ⟨_,Y,cl,Y,⟨_,KJ hcl⟩,bJ (xs:=ys) (λ i σ' H'=>∃ (sv:V) (v5 v6:Option V),σ'=[some (.ref lf),some (.ref cl),some (.ref wt),some (.int (mxL (tcW b f0 w1 h1) (cs.take i) x0)),some sv,v5,v6]/\StVN b w1 h1 H lv sv (lq (tcW b f0 w1 h1) (cs.take i) x0)/\H=H') ⟨lv,none,none,Y,Y,Y⟩ (λ i σ Hx _ ⟨_,_,_,_,_,e⟩=>by subst e; exact KJ hcl) ?_ ?_⟩
  ·rintro i x σ Hx hi ⟨sv,v5,v6,rfl,hsv,rfl⟩;obtain ⟨c,hc,ca⟩:=KL pc hi;obtain ⟨q',t1,t2,rfl,h1',h2',h3'⟩:=id ca;have cm:=B5 hc;obtain ⟨e1,e2⟩:=hv c cm;have hmx:=io (tcW b f0 w1 h1) cs x0 hc;have hst:=qW (tcW b f0 w1 h1) cs x0 hc;have hsf:(qV (tcW b f0 w1 h1) (cs.take i) x0).1=_:=fX (tcW b f0 w1 h1) (cs.take i) (x0,none);have hsf:(qV (tcW b f0 w1 h1) (cs.take i) x0).1=mxL (tcW b f0 w1 h1) (cs.take i) x0:=hsf;obtain ⟨m,hm⟩:∃m,mxL (tcW b f0 w1 h1) (cs.take i) x0=m:=⟨_,Y⟩
   rw [hm] at hmx hsf ⊢;unfold cq at hst;rw [hsf] at hst;refine ⟨_,Y,_,Y,q',_,2,_,Y,Y,KI h1',Y,wt,_,_,_,t1,Y,Y,hwt,h2',e1,_,Y,_,Y,q',_,3,_,Y,Y,KI h1',Y,wt,_,_,_,t2,Y,Y,hwt,h3',e2,_,_,Y,Y,?_⟩;have gg:f0 (aD w1 h1 c.1) c.1.1 c.2 + f0 (aE b w1 h1 c.1) c.1.1 c.2=(tcW b f0 w1 h1) c:=rfl;refine ⟨_,Y,_,Y,_,_,Y,Y,_,Y,?_⟩
   by_cases c1:m < (tcW b f0 w1 h1) c
   ·rw [show decide (m < (f0 (aD w1 h1 c.1) c.1.1 c.2 + f0 (aE b w1 h1 c.1) c.1.1 c.2))=true from decide_eq_true c1];refine aV ⟨_,rfl,_,rfl,_,_,rfl,.ref q',some (.ref q'),some (.int ((tcW b f0 w1 h1) c)),?_,by unfold lq; rw [hst,if_pos c1]; exact ca,rfl⟩;rw [hmx,show max m ((tcW b f0 w1 h1) c)=(tcW b f0 w1 h1) c by omega]
    rfl
   ·rw [show decide (m < (f0 (aD w1 h1 c.1) c.1.1 c.2 + f0 (aE b w1 h1 c.1) c.1.1 c.2))=false from decide_eq_false c1];refine aF ⟨sv,some (.ref q'),some (.int ((tcW b f0 w1 h1) c)),?_,by unfold lq; rw [hst,if_neg c1]; exact hsv,rfl⟩;rw [hmx,show max m ((tcW b f0 w1 h1) c)=m by omega]
    rfl
  ·rintro σ Hx ⟨sv,v5,v6,rfl,hsv,rfl⟩;rw [cln,List.take_length] at hsv;refine hR _ _ ⟨sv,v5,v6,?_,hsv,rfl⟩;rw [cln,List.take_length]
 rintro _ _ ⟨sv,v5,v6,rfl,hsv,rfl⟩;refine ⟨_,Y,_,Y,zS2,λ x hx=>?_⟩;obtain ⟨H4,e5,k5,s5⟩:∃H',upd H x (.tup [.int (mxL (tcW b f0 w1 h1) cs x0),sv])=H'/\H' x=some (.tup [.int (mxL (tcW b f0 w1 h1) cs x0),sv])/\Same H H':=⟨_,Y,ae,KH hx⟩
 rw [show upd H x _=H4 from e5];exact q x sv H4 k5 (hsv.keep s5) s5
end
def tF (b:Int) (ks:List Kd):Nat->Int×Int->Bool->Nat->Int
 | 0,_,_,_=>0
 | n + 1,p,wa,l=>mxL (tcW b (tF b ks n) p.1 p.2) (cbt (aJ b p.1 p.2) wa l) (lfW ks p.1 p.2)
theorem eX {b:Int} {ks:List Kd} (b0:0<=b):∀ (n m:Nat) (p:Int×Int) (wa:Bool) (l:Nat),msr p < n->msr p < m->1<=p.1->1<=p.2->tF b ks n p wa l=tF b ks m p wa l
 | 0,_,_,_,_,h,_,_,_=>absurd h (G0 _)
 | _ + 1,0,_,_,_,_,h,_,_=>absurd h (G0 _)
 | n + 1,m + 1,p,wa,l,h1,h2,p1,p2=>by show mxL _ _ _=mxL _ _ _;refine dv λ c hc=>?_;obtain ⟨⟨a1,a2,_,_,_,a3⟩,⟨c1,c2,_,_,_,c3⟩⟩:=aY b0 p1 p2 (dP hc).1;have e:msr (p.1,p.2)=msr p:=rfl;unfold tcW;rw [eX b0 n m _ _ _ (by omega) (by omega) a1 a2,eX b0 n m _ _ _ (by omega) (by omega) c1 c2]
def tW (b:Int) (ks:List Kd) (p:Int×Int) (wa:Bool) (l:Nat):Int:=tF b ks (msr p + 1) p wa l
theorem pG {b:Int} {ks:List Kd} (b0:0<=b) (p:Int×Int) (wa:Bool) (l:Nat) (p1:1<=p.1) (p2:1<=p.2):tW b ks p wa l=mxL (tcW b (tW b ks) p.1 p.2) (cbt (aJ b p.1 p.2) wa l) (lfW ks p.1 p.2):=by show mxL _ _ _=mxL _ _ _;refine dv λ c hc=>?_;obtain ⟨⟨a1,a2,_,_,_,a3⟩,⟨c1,c2,_,_,_,c3⟩⟩:=aY b0 p1 p2 (dP hc).1;have e:msr (p.1,p.2)=msr p:=rfl;unfold tcW tW;rw [eX b0 (msr p) (msr (aD p.1 p.2 c.1) + 1) _ _ _ (by omega) (by omega) a1 a2,eX b0 (msr p) (msr (aE b p.1 p.2 c.1) + 1) _ _ _ (by omega) (by omega) c1 c2]
def tC (b:Int) (ks:List Kd) (p:Int×Int) (wa:Bool) (l:Nat):Option TC:=lq (tcW b (tW b ks) p.1 p.2) (cbt (aJ b p.1 p.2) wa l) (lfW ks p.1 p.2)
def tT (b:Int) (ks:List Kd):Nat->Int×Int->Bool->Nat->Tr
 | 0,_,_,_=>.rest
 | n + 1,p,wa,l=>match tC b ks p wa l with
  | none=>lfT ks p.1 p.2
  | some x=>.cut x.1.1 x.1.2 (tT b ks n (aD p.1 p.2 x.1) x.1.1 x.2) (tT b ks n (aE b p.1 p.2 x.1) x.1.1 x.2)
def StepN (b:Int) (ks:List Kd) (H:Hp) (p:Int×Int) (wa:Bool) (l:Nat) (v:V):Prop:=(tC b ks p wa l=none/\TrV H (lfT ks p.1 p.2) v)\/∃x,tC b ks p wa l=some x/\TcAt b p.1 p.2 H v x
theorem StepN.keep {b:Int} {ks:List Kd} {H H':Hp} (t:∀c xs,H c=some (.tup xs)->H' c=some (.tup xs)) {p:Int×Int} {wa:Bool} {l:Nat} {v:V} (h:StepN b ks H p wa l v):StepN b ks H' p wa l v:=by
 rcases h with ⟨e,h⟩ | ⟨x,e,h⟩
 ·exact .inl ⟨e,TrV.keep t _ h⟩
 ·exact .inr ⟨x,e,h.keep t⟩
abbrev je:=Int×Int->Bool->Nat->Prop
def TWd (b:Int) (ks:List Kd) (D:je) (kvs:List (NK×V)):Prop:=∀p wa l,D p wa l->bO kvs (nk p wa l)=some (.int (tW b ks p wa l))
def TSd (b:Int) (ks:List Kd) (H:Hp) (D:je) (kws:List (NK×V)):Prop:=∀p wa l,D p wa l->∃v,bO kws (nk p wa l)=some v/\StepN b ks H p wa l v
theorem TWd.put {b:Int} {ks:List Kd} {D D':je} {kvs:List (NK×V)} {p0:Int×Int} {wa0:Bool} {l0:Nat} (h:TWd b ks D kvs) (hd:∀p wa l,D' p wa l->D p wa l\/(p=p0/\wa=wa0/\l=l0)):TWd b ks D' (cI kvs (nk p0 wa0 l0) (.int (tW b ks p0 wa0 l0))):=λ p wa l d=>by
 rw [kF]
 by_cases e:nk p wa l=nk p0 wa0 l0
 ·rw [if_pos e];obtain ⟨rfl,rfl,rfl⟩:=uj e
  rfl
 ·rw [if_neg e];rcases hd p wa l d with h1 | ⟨rfl,rfl,rfl⟩
  ·exact h p wa l h1
  ·exact absurd rfl e
theorem TSd.put {b:Int} {ks:List Kd} {H H':Hp} {D D':je} {kvs:List (NK×V)} {p0:Int×Int} {wa0:Bool} {l0:Nat} {v:V} (h:TSd b ks H D kvs) (t:∀c xs,H c=some (.tup xs)->H' c=some (.tup xs)) (hv:StepN b ks H' p0 wa0 l0 v) (hd:∀p wa l,D' p wa l->D p wa l\/(p=p0/\wa=wa0/\l=l0)):TSd b ks H' D' (cI kvs (nk p0 wa0 l0) v):=λ p wa l d=>by
 rw [kF]
 by_cases e:nk p wa l=nk p0 wa0 l0
 ·rw [if_pos e];obtain ⟨rfl,rfl,rfl⟩:=uj e;exact ⟨v,Y,hv⟩
 ·rw [if_neg e];rcases hd p wa l d with h1 | ⟨rfl,rfl,rfl⟩
  ·obtain ⟨u,h2,h3⟩:=h p wa l h1;exact ⟨u,h2,h3.keep t⟩
  ·exact absurd rfl e
theorem TSd.keep {b:Int} {ks:List Kd} {H H':Hp} {D D':je} {kvs:List (NK×V)} (h:TSd b ks H D kvs) (t:∀c xs,H c=some (.tup xs)->H' c=some (.tup xs)) (hd:∀p wa l,D' p wa l->D p wa l):TSd b ks H' D' kvs:=λ p wa l d=>by obtain ⟨u,h2,h3⟩:=h p wa l (hd p wa l d);exact ⟨u,h2,h3.keep t⟩
def DnT (m n k i j t:Nat):je:=λ p wa l=>(p∈(ao m n).take i/\l<=k)\/((ao m n)[i]? = some p/\(l < j\/(l=j/\((wa=true/\1<=t)\/(wa=false/\2<=t)))))
def tB (b:Int) (ks:List Kd) (p:Int×Int) (k:Nat):Int:=max (tW b ks p true k) (tW b ks p false k)
def tR (b:Int) (ks:List Kd) (p:Int×Int) (k:Nat):Tr:=if tW b ks p true k < tW b ks p false k then tT b ks 33 p false k else tT b ks 33 p true k
theorem xW (dn:Bool):inV (wv dn) [V.str "down",V.str "across"]=true:=by cases dn <;> decide +kernel
section
variable {P:KC} {w:KF} {K:C4} {mg:Str->Option KG} {base:Heap}
inductive spTBSN (P:Program) (w:World) (n:Nat) (vs:List V) (H:Hp) (Q:VK) (E_:XK):Prop
 | mk (st kt:Addr) (b:Int) (ks:List Kd) (kvs:List (NK×V)) (M N k:Nat) (p:Int×Int) (wa:Bool) (l:Nat) (e_1:vs=[.ref st,.ref kt]) (e_2:NDict P w H st kvs) (e_3:NkAt H kt (nk p wa l)) (e_4:0<=b) (e_5:TSd b ks H (λ p _ l=>p∈ao M N/\l<=k) kvs) (e_6:p∈ao M N) (e_7:l<=k) (e_8:msr p < n) (e_9:∀v' H',TrV H' (tT b ks n p wa l) v'->Same H H'->Q v' H'):spTBSN P w n vs H Q E_
inductive spByT (C:Addr) (vs:List V) (H:Hp) (Q:VK) (E_:XK):Prop
 | mk (s:Addr) (b:Int) (ks:List Kd) (m n k:Nat) (e_1:vs=[.ref s,.int (m:Int),.int (n:Int),.int (k:Int)]) (e_2:ShopAt C H s b ks) (e_3:ks.length<=8) (e_4:0<=b) (e_5:1<=m) (e_6:m<=16) (e_7:1<=n) (e_8:n<=16) (e_9:k<=32) (e_10:∀ (r:Addr) (v:V) (H':Hp),H' r=some (.tup [.int (tB b ks (m,n) k),v])->TrV H' (tR b ks (m,n) k) v->Same H H'->Q (.ref r) H'):spByT C vs H Q E_
theorem sctbsn:FnScope ["steps","key","step","way","p","first","second"] ["steps","key"] (defScope aX):=⟨Y,Y,Y,by decide +kernel,Y,by decide +kernel,by decide +kernel⟩
theorem vR {f wy:Addr} {fd:KD} (F:Fun K "tree_by_steps" "tree_by_steps" aX f fd) (n:Nat) (Z:BeC K mg wy) (DT:Dn P w K mg base "tree_by_steps" ["steps","key"] (1 + n) (spTBSN P w n)):FnOk P w K mg base CX0 (1 + (n + 1)) f fd ["steps","key"] (spTBSN P w (n + 1)):=by
 refine F.ok sctbsn (λ vs H Q E h=>?_) (λ cdv A outer s H vs Q E hr h=>?_)
 ·obtain ⟨st,kt,b,ks,kvs,M,N,k,p,wa,l,rfl,_⟩:=h
  rfl
 obtain ⟨st,kt,b,ks,kvs,M,N,k,p,wa,l,rfl,hst,hkt,b0,hts,hp,hl,hn,q⟩:=h;have nd:=sctbsn.nd;have hu2:=C6 (Nat.add_le_add_left (show 2<=64 by decide) _) hr.units;refine ⟨_,(ad (@ax _ _ 2 _ _ _ _ nd rfl (Or.inl rfl) (eL hu2 (pv 0) (pv 1) (λ _ _=>rfl)) rfl (Or.inl rfl)) (ad (aI (az fG (ay ix_tup (pv 2) af (λ _ _=>rfl)) (aL (v:=.ref wy) rfl Z.wy rfl) rfl) (ag (au (pv 2))) av) (ad (bm (pv 2) (aS rfl (ah (ai (i:=3) nd rfl (Or.inl rfl)) (ah (ai (i:=4) nd rfl (Or.inl rfl)) (ah (ai (i:=5) nd rfl (Or.inl rfl)) (ah (ai (i:=6) nd rfl (Or.inl rfl)) aG))))) rfl rfl rfl) (ag (au (aB ((pv 3)^^^((pv 4)^^^((aq DT hr rfl ((pv 0)^^^((pv 5)^^^ab)) (by decide) rfl rfl)^^^((aq DT hr rfl ((pv 0)^^^((pv 6)^^^ab)) (by decide) rfl rfl)^^^ab)))))))))),?_⟩;obtain ⟨v,hv,hm⟩:=hts p wa l ⟨hp,hl⟩;obtain ⟨⟨pp1,pp2⟩,pp3,pp4⟩:=partsL_mem.mp hp;refine ap (λ R=>R [some (.ref st),some (.ref kt),some v,none,none,none,none] H) (λ Dd hR=>?_) ?_
 ·exact ⟨_,Y,_,Y,st,_,_,_,kt,Y,Y,hst,hkt,hv,hR⟩
 skip
 rcases hm with ⟨ec,hlt⟩ | ⟨x,ec,⟨qa,t1,t2,rfl,c1,c2,c3⟩⟩
 ·obtain ⟨qa,y,r,rfl,h1,h2⟩:=TrV.lf (lm ks _ _) hlt;refine bo (λ σ' H'=>False) (λ R hR=>?_) (λ _ _ z=>z.elim);refine ⟨_,Y,qa,_,0,_,Y,Y,KI h1,aU (E6 _) rfl,wy,_,Y,.inr (Z.wq _),Y,Y,_,Y,?_⟩;rw [show (if true=true then !inV (V.str y) [V.str "down",V.str "across"] else inV (V.str y) [V.str "down",V.str "across"])=true by rw [if_pos rfl,h2]; rfl];exact aV ⟨_,rfl,q _ H (by unfold tT; rw [ec]; exact hlt) (Same.refl _)⟩
 have hx:=dP (lw ec).1;obtain ⟨⟨a1,a2,a3,a4,_,a5⟩,⟨d1,d2,d3,d4,_,d5⟩⟩:=aY b0 pp1 pp3 hx.1;have em:msr (p.1,p.2)=msr p:=rfl;have m1:aD p.1 p.2 x.1∈ao M N:=partsL_mem.mpr ⟨⟨a1,by omega⟩,a2,by omega⟩;have m2:aE b p.1 p.2 x.1∈ao M N:=partsL_mem.mpr ⟨⟨d1,by omega⟩,d2,by omega⟩;have lx:x.2<=k:=C5 hx.2.1 hl;refine ap (λ R=>R [some (.ref st),some (.ref kt),some (.ref qa),none,none,none,none] H) (λ Dd hR=>?_) ?_
 ·refine ⟨_,Y,qa,_,0,_,Y,Y,KI c1,Y,wy,_,Y,.inr (Z.wq _),Y,Y,_,Y,?_⟩;rw [show (if true=true then !inV (wv x.1.1) [V.str "down",V.str "across"] else inV (wv x.1.1) [V.str "down",V.str "across"])=false by rw [if_pos rfl,xW]; rfl];exact aF (hR)
 skip
 refine ap (λ R=>R [some (.ref st),some (.ref kt),some (.ref qa),some (wv x.1.1),some (.int x.1.2),some (.ref t1),some (.ref t2)] H) (λ Dd hR=>?_) ?_
 ·exact ⟨_,Y,qa,_,Y,KI c1,Y,_,_,Y,_,_,Y,_,_,Y,_,_,Y,Y,hR⟩
 skip
 refine ⟨_,Y,_,Y,_,Y,_,Y,st,t1,b,ks,kvs,M,N,k,aD p.1 p.2 x.1,x.1.1,x.2,Y,hst,c2,b0,hts,m1,lx,by omega,λ v1 H1 hv1 s1=>?_⟩;refine ⟨_,Y,_,Y,st,t2,b,ks,kvs,M,N,k,aE b p.1 p.2 x.1,x.1.1,x.2,Y,hst.same s1,c3.keep (λ c xs e=>s1 _ _ e),b0,hts.keep (λ c xs e=>s1 _ _ e) (λ _ _ _ h=>h),m2,lx,by omega,λ v2 H2 hv2 s2=>?_⟩;refine ⟨zS4,λ t ht=>q _ _ (?_) ((s1.trans s2).trans (KH ht))⟩;have sn:Same H2 (upd H2 t (.tup [wv x.1.1,.int x.1.2,v1,v2])):=KH ht;unfold tT;rw [ec];exact ⟨t,v1,v2,Y,ae,TrV.keep (λ a xs e=>sn _ _ (s2 _ _ e)) _ hv1,TrV.keep (λ a xs e=>sn _ _ e) _ hv2⟩
theorem uk {f:Addr} {fd:KD} (F:Fun K "tree_by_steps" "tree_by_steps" aX f fd):FnOk P w K mg base CX0 1 f fd ["steps","key"] (spTBSN P w 0):=by
 refine F.ok sctbsn (λ vs H Q E h=>?_) (λ cdv A outer s H vs Q E hr h=>?_)
 ·obtain ⟨st,kt,b,ks,kvs,M,N,k,p,wa,l,rfl,_⟩:=h
  rfl
 ·obtain ⟨st,kt,b,ks,kvs,M,N,k,p,wa,l,_,_,_,_,_,_,_,z,_⟩:=h;exact absurd z (G0 _)
theorem lA {f wy:Addr} {fd:KD} (F:Fun K "tree_by_steps" "tree_by_steps" aX f fd) (Z:BeC K mg wy) (mk:∀n,FnOk P w K mg base CX0 (1 + n) f fd ["steps","key"] (spTBSN P w n)->Dn P w K mg base "tree_by_steps" ["steps","key"] (1 + n) (spTBSN P w n)):∀n,FnOk P w K mg base CX0 (1 + n) f fd ["steps","key"] (spTBSN P w n)
 | 0=>uk F
 | n + 1=>vR F n Z (mk n (lA F Z mk n))
theorem scbyt:FnScope ["shop","wide","high","k","worths","steps","part","leaf_found","cuts","left","way","worth","step","key","other"] ["shop","wide","high","k"] (defScope cB):=⟨Y,Y,Y,by decide +kernel,Y,by decide +kernel,by decide +kernel⟩
theorem xX {f wy C:Addr} {fd:KD} (F:Fun K "best_by_turns" "best_by_turns" cB f fd) (Z:BeC K mg wy) (B:Blt mg) (mt:∃t,mg "MOST_TURNS" = some (.int 32 t)) (T:ShopTxt K C) (MB:Mn P w K mg base C "blade" ["self"] 1 (dD C)) (DW:Dn P w K mg base "is_whole" ["thing","least"] 1 (bU K)) (DCP:Dn P w K mg base "check_plate" ["wide","high"] 2 (spCP)) (DCS:Dn P w K mg base "check_sides" ["wide","high","most"] 1 (spCS)) (DPu:Dn P w K mg base "parts_up_to" ["wide","high"] 1 (spParts)) (DCu:Dn P w K mg base "cuts_of" ["blade","part"] 2 (spCuts)) (DBL:Dn P w K mg base "best_leaf" ["shop","part"] 6 (spBLeaf C)) (DCb:Dn P w K mg base "cuts_by_turns" ["cuts","way_ahead","left"] 1 (spCbt)) (DBS:Dn P w K mg base "best_step" ["leaf_found","cuts","worths"] 1 (spStepN P w)) (DTB:Dn P w K mg base "tree_by_steps" ["steps","key"] 34 (spTBSN P w 33)):FnOk P w K mg base CX0 35 f fd ["shop","wide","high","k"] (spByT C):=by
 refine F.ok scbyt (λ vs H Q E h=>?_) (λ cdv A outer s H vs Q E hr h=>?_)
 ·obtain ⟨s,b,ks,m,n,k,rfl,_⟩:=h
  rfl
 obtain ⟨s,b,ks,m,n,k,rfl,S0,k8,b0,m1,m16,n1,n16,k32,q⟩:=h;have nd:=scbyt.nd;have hu2:=C6 (Nat.add_le_add_left (show 2<=64 by decide) _) hr.units;obtain ⟨tms,hms⟩:=Z.ms;obtain ⟨tmt,hmt⟩:=mt;obtain ⟨tdn,hdn⟩:=Z.dn;obtain ⟨tac,hac⟩:=Z.ac;refine ⟨_,(ad (bj (aq DCP (hr.mono (by decide)) rfl ((pv 1)^^^((pv 2)^^^ab)) (by decide) rfl rfl) rfl) (ad (bj (aq DCS (hr.mono (by decide)) rfl ((pv 1)^^^((pv 2)^^^((aL (v:=.int 16) rfl hms ⟨tms,Y⟩)^^^ab))) (by decide) rfl rfl) rfl) (ad (aI (PW.pt (bQ (aR (aK (aq DW (hr.mono (by decide)) rfl ((pv 3)^^^(af^^^ab)) (by decide) rfl rfl) (by intro _; rfl))) (bK (az cN (pv 3) (aL (v:=.int 32) rfl hmt ⟨tmt,Y⟩) (aw _))))) (ag cY) av) (ad (@ax _ _ 4 _ _ _ _ nd rfl (Or.inl rfl) oN rfl (Or.inl rfl)) (ad (@ax _ _ 5 _ _ _ _ nd rfl (Or.inl rfl) oN rfl (Or.inl rfl)) (ad (bE E5 rfl (bq (aq DPu (hr.mono (by decide)) rfl ((pv 1)^^^((pv 2)^^^ab)) (by decide) rfl rfl)) (ai (i:=6) nd rfl (Or.inl rfl)) (ad (@ax _ _ 7 _ _ _ _ nd rfl (Or.inl rfl) (aq DBL (hr.mono (by decide)) rfl ((pv 0)^^^((pv 6)^^^ab)) (by decide) rfl rfl) rfl (Or.inl rfl)) (ad (@ax _ _ 8 _ _ _ _ nd rfl (Or.inl rfl) (aq DCu (hr.mono (by decide)) rfl ((cW (pv 0) T.cl MB (hr.mono (by decide)))^^^((pv 6)^^^ab)) (by decide) rfl rfl) rfl (Or.inl rfl)) (ag (bE E5 rfl (iE rfl B.range ((aA aM (pv 3) af)^^^ab)) (ai (i:=9) nd rfl (Or.inl rfl)) (ag (bE E5 rfl (lN (aL (v:=.ref wy) rfl Z.wy rfl)) (ai (i:=10) nd rfl (Or.inl rfl)) (ad (bm (aq DBS (hr.mono (by decide)) rfl ((pv 7)^^^((aq DCb (hr.mono (by decide)) rfl ((pv 8)^^^((pv 10)^^^((pv 9)^^^ab))) (by decide) rfl rfl)^^^((pv 4)^^^ab))) (by decide) rfl rfl) (aS rfl (ah (ai (i:=11) nd rfl (Or.inl rfl)) (ah (ai (i:=12) nd rfl (Or.inl rfl)) aG))) rfl rfl rfl) (ad (oO hu2 (pv 4) (aB ((pv 6)^^^((pv 10)^^^((pv 9)^^^ab)))) (pv 11) rfl) (ag (oO hu2 (pv 5) (aB ((pv 6)^^^((pv 10)^^^((pv 9)^^^ab)))) (pv 12) rfl)))) (by intro _; rfl))) (by intro _; rfl))))) (by intro _; rfl)) (ad (@ax _ _ 13 _ _ _ _ nd rfl (Or.inl rfl) (aB ((aB ((pv 1)^^^((pv 2)^^^ab)))^^^((aL (v:=.str "down") rfl hdn ⟨tdn,Y⟩)^^^((pv 3)^^^ab)))) rfl (Or.inl rfl)) (ad (@ax _ _ 14 _ _ _ _ nd rfl (Or.inl rfl) (aB ((aB ((pv 1)^^^((pv 2)^^^ab)))^^^((aL (v:=.str "across") rfl hac ⟨tac,Y⟩)^^^((pv 3)^^^ab)))) rfl (Or.inl rfl)) (ad (aI (az cN (eL hu2 (pv 4) (pv 14) (λ _ _=>rfl)) (eL hu2 (pv 4) (pv 13) (λ _ _=>rfl)) (aw _)) (ag (@ax _ _ 13 _ _ _ _ nd rfl (Or.inl rfl) (pv 14) rfl (Or.inl rfl))) av) (ag (au (aB ((eL hu2 (pv 4) (pv 13) (λ _ _=>rfl))^^^((aq DTB (hr.mono (by decide)) rfl ((pv 5)^^^((pv 13)^^^ab)) (by decide) rfl rfl)^^^ab)))))))))))))),?_⟩;have z4:40000<=sizeLine:=by decide
 refine ap (λ R=>R [some (.ref s),some (.int (m:Int)),some (.int (n:Int)),some (.int (k:Int)),none,none,none,none,none,none,none,none,none,none,none] H) (λ Dd hR=>?_) ?_
 ·exact ⟨_,Y,_,Y,m,n,Y,by omega,by omega,hR⟩
 skip
 refine ap (λ R=>R [some (.ref s),some (.int (m:Int)),some (.int (n:Int)),some (.int (k:Int)),none,none,none,none,none,none,none,none,none,none,none] H) (λ Dd hR=>?_) ?_
 ·exact ⟨_,Y,_,Y,m,n,16,Y,by omega,by omega,hR⟩
 skip
 refine ap (λ R=>R [some (.ref s),some (.int (m:Int)),some (.int (n:Int)),some (.int (k:Int)),none,none,none,none,none,none,none,none,none,none,none] H) (λ Dd hR=>?_) ?_
 ·refine ⟨_,Y,.int (k:Int),"int",0,Y,⟨by decide,.int _⟩,_,Y,aF ⟨_,Y,_,_,Y,Y,_,Y,?_⟩⟩;rw [show decide ((32:Int) < (k:Int))=false from decide_eq_false (by omega)];exact aF (hR)
 skip
 refine ap (λ R=>∀ (wt:Addr) (H':Hp),H wt=none->NDict P w H' wt []->Same H H'->R [some (.ref s),some (.int (m:Int)),some (.int (n:Int)),some (.int (k:Int)),some (.ref wt),none,none,none,none,none,none,none,none,none,none] H') (λ Dd hR=>?_) ?_
 ·exact λ wt hwt H1 nd s1=>hR wt _ hwt nd s1
 rintro wt H1 hwt nd1 s1;refine ap (λ R=>∀ (st:Addr) (H':Hp),H1 st=none->NDict P w H' st []->Same H1 H'->R [some (.ref s),some (.int (m:Int)),some (.int (n:Int)),some (.int (k:Int)),some (.ref wt),some (.ref st),none,none,none,none,none,none,none,none,none] H') (λ Dd hR=>?_) ?_
 ·exact λ st hst H2 nd s2=>hR st _ hst nd s2
 rintro st H2 hst1 ns2 s2;have nd2:=nd1.same s2;have hst:H st=none:=s1.free hst1;have nts:wt≠st:=λ z=>nd1.some (z ▸ hst1);have s02:=s1.trans s2;have keepU:∀ {Hx:Hp},(∀c o,c≠wt->c≠st->H2 c=some o->Hx c=some o)->Same H Hx:=λ {Hx} kx c o e=>kx c o (am e hwt) (am e hst) (s02 _ _ e);obtain ⟨dx,r0,rs0,g1,g2,g3⟩:=id S0;refine bo (λ σ' H'=>(∃v6 v7 v8 v9 v10 v11 v12:Option V,σ'=[some (.ref s),some (.int (m:Int)),some (.int (n:Int)),some (.int (k:Int)),some (.ref wt),some (.ref st),v6,v7,v8,v9,v10,v11,v12,none,none])/\(∃kvs,NDict P w H' wt kvs/\TWd b ks (DnT m n k (m * n) 0 0) kvs/\kvs.length<=16896)/\(∃kws,NDict P w H' st kws/\TSd b ks H' (DnT m n k (m * n) 0 0) kws/\kws.length<=16896)/\(∀c o,c≠wt->c≠st->H2 c=some o->H' c=some o)) (λ R hR=>?_) ?_
 ·refine ⟨_,Y,_,Y,m,n,Y,m16,n16,λ pl ys H3 hpl pys s3=>?_⟩;have pln:=E4 pys;have p256:(ao m n).length<=256:=by rw [bI]; exact Nat.mul_le_mul m16 n16
  have kee3:∀c o,c≠wt->c≠st->H2 c=some o->H3 c=some o:=λ c o _ _ e=>s3 _ _ e;have npw:pl≠wt:=λ z=>by obtain ⟨_,e,_⟩:=nd2.same s3; rw [<- z,hpl] at e; cases e
  have nps:pl≠st:=λ z=>by obtain ⟨_,e,_⟩:=ns2.same s3; rw [<- z,hpl] at e; cases e
  have d0:∀p wa l,DnT m n k 0 0 0 p wa l->False:=λ p wa l h=>by
   rcases h with ⟨h,_⟩ | ⟨_,h | ⟨_,⟨_,h⟩ | ⟨_,h⟩⟩⟩
   ·simp at h
   ·exact G0 _ h
   ·omega
   ·omega
  refine ⟨pl,Y,⟨_,KJ hpl⟩,bJ (xs:=ys) (λ i σ' H'=>(∃v6 v7 v8 v9 v10 v11 v12:Option V,σ'=[some (.ref s),some (.int (m:Int)),some (.int (n:Int)),some (.int (k:Int)),some (.ref wt),some (.ref st),v6,v7,v8,v9,v10,v11,v12,none,none])/\(∃kvs,NDict P w H' wt kvs/\TWd b ks (DnT m n k i 0 0) kvs/\kvs.length<=66 * i)/\(∃kws,NDict P w H' st kws/\TSd b ks H' (DnT m n k i 0 0) kws/\kws.length<=66 * i)/\(∀c o,c≠wt->c≠st->H3 c=some o->H' c=some o)) ⟨⟨_,_,_,_,_,_,_,Y⟩,⟨[],nd2.same s3,(λ p wa l h=>(d0 p wa l h).elim),E9 _⟩,⟨[],ns2.same s3,(λ p wa l h=>(d0 p wa l h).elim),E9 _⟩,λ c o _ _ e=>e⟩ (λ i σ Hx _ ⟨_,_,_,kx⟩=>KJ (kx _ _ npw nps hpl)) ?_ ?_⟩
  ·rintro i x σ Hx hi ⟨⟨v6,v7,v8,v9,v10,v11,v12,rfl⟩,⟨kvs,nd,tw,kl⟩,⟨kws,ns,ts,wl⟩,kx⟩;obtain ⟨p,hp,ta,rfl,hta0⟩:=KL pys hi;have pm:=B5 hp;obtain ⟨⟨p1,p2⟩,p3,p4⟩:=partsL_mem.mp pm;have il:i < (ao m n).length:=(A6.mp hp).1;have tupN:∀ {Hz:Hp} {d:Addr} {kk} {c xs},NDict P w Hz d kk->Hz c=some (.tup xs)->c≠d:=λ h e=>h.tup e;have nd3:=nd2.same s3;have ns3:=ns2.same s3;have hta:=kx _ _ (nd3.tup hta0) (ns3.tup hta0) hta0;have Sx:ShopAt C Hx s b ks:=S0.keep (λ c o e=>kx _ _ (am e hwt) (am e hst) (s3 _ _ (s02 _ _ e))) (λ c C' d fs e=>kx _ _ (am e hwt) (am e hst) (s3 _ _ (s02 _ _ e)));obtain ⟨dx',r0',rs0',g1',_,_⟩:=id Sx;have cutIn:∀c∈aJ b p.1 p.2,aD p.1 p.2 c∈(ao m n).take i/\aE b p.1 p.2 c∈(ao m n).take i:=λ c hc=>by obtain ⟨⟨a1,a2,a3,a4,a5,_⟩,⟨c1,c2,c3,c4,c5,_⟩⟩:=aY b0 p1 p3 hc;exact ⟨cU hp (partsL_mem.mpr ⟨⟨a1,by omega⟩,a2,by omega⟩) a5,cU hp (partsL_mem.mpr ⟨⟨c1,by omega⟩,c2,by omega⟩) c5⟩
   refine ap (λ R=>∀ (lf:Addr) (lv:V) (H':Hp),H' lf=some (.tup [.int (lfW ks p.1 p.2),lv])->TrV H' (lfT ks p.1 p.2) lv->Same Hx H'->R [some (.ref s),some (.int (m:Int)),some (.int (n:Int)),some (.int (k:Int)),some (.ref wt),some (.ref st),some (.ref ta),some (.ref lf),v8,v9,v10,v11,v12,none,none] H') (λ Dd hR=>?_) ?_
   ·exact ⟨_,Y,_,Y,s,ta,b,ks,p.1,p.2,Y,Sx,k8,hta,λ lf lv Ha hlf hlv sa=>hR lf lv _ hlf hlv sa⟩
   rintro lf lv Ha hlf hlv sa;refine ap (λ R=>∀ (cl:Addr) (cy:List V) (H':Hp),H' cl=some (.lst cy)->Paired (CutAt b p.1 p.2 H') cy (aJ b p.1 p.2)->Same Ha H'->R [some (.ref s),some (.int (m:Int)),some (.int (n:Int)),some (.int (k:Int)),some (.ref wt),some (.ref st),some (.ref ta),some (.ref lf),some (.ref cl),v9,v10,v11,v12,none,none] H') (λ Dd hR=>?_) ?_
   ·have Sa:ShopAt C Ha s b ks:=Sx.keep (λ c o e=>sa _ _ e) (λ c C' d fs e=>sa _ _ e);obtain ⟨dxa,_,_,ga,_,_⟩:=id Sa;exact ⟨_,Y,s,dxa,_,Y,ga,bH _ _ (by decide +kernel) (by decide +kernel),s,b,ks,Y,Sa,_,Y,b,p.1,p.2,ta,Y,sa _ _ hta,by omega,by omega,b0,λ cl cy Hb hcl pc sb=>hR cl cy _ hcl pc sb⟩
   rintro cl cy Hb hcl pc sb;have sab:=sa.trans sb;have htab:=sab _ _ hta;have hlfb:=sb _ _ hlf;have hlvb:TrV Hb (lfT ks p.1 p.2) lv:=TrV.keep (λ c xs e=>sb _ _ e) _ hlv;have ndb:=nd.same sab;have nsb:=ns.same sab;have ncw:cl≠wt:=λ z=>by obtain ⟨_,e,_⟩:=id ndb; rw [<- z,hcl] at e; cases e
   have ncs:cl≠st:=λ z=>by obtain ⟨_,e,_⟩:=id nsb; rw [<- z,hcl] at e; cases e
   obtain ⟨kvsb,ndb'⟩:∃kvsb,NDict P w Hb wt kvsb:=⟨_,ndb⟩
   obtain ⟨kwsb,nsb'⟩:∃kwsb,NDict P w Hb st kwsb:=⟨_,nsb⟩
   have cl32:(aJ b p.1 p.2).length<=32:=by unfold aJ;rw [List.length_append,dO,dO]; omega
   clear hta Sx hlf hlv;refine ⟨_,Y,_,_,Y,Y,_,Y,by omega,by omega,?_⟩;refine gj (lo:=0) (n:=((k:Int) + 1).toNat) (λ j σ' H'=>(∃v9 v10 v11 v12:Option V,σ'=[some (.ref s),some (.int (m:Int)),some (.int (n:Int)),some (.int (k:Int)),some (.ref wt),some (.ref st),some (.ref ta),some (.ref lf),some (.ref cl),v9,v10,v11,v12,none,none])/\(∃kvs,NDict P w H' wt kvs/\TWd b ks (DnT m n k i j 0) kvs/\kvs.length<=66 * i + 2 * j)/\(∃kws,NDict P w H' st kws/\TSd b ks H' (DnT m n k i j 0) kws/\kws.length<=66 * i + 2 * j)/\(∀c o,c≠wt->c≠st->Hb c=some o->H' c=some o)) ⟨⟨_,_,_,_,rfl⟩,⟨kvs,ndb,tw,by omega⟩,⟨kws,nsb,ts.keep (λ c xs e=>sab _ _ e) (λ _ _ _ h=>h),by omega⟩,λ c o _ _ e=>e⟩ ?_ ?_
   ·clear nd tw kl ns ts wl;clear kvs kws ndb nsb;rintro j σ Hc hj ⟨⟨v9,v10,v11,v12,rfl⟩,⟨kvs,nd,tw,kl⟩,⟨kws,ns,ts,wl⟩,kc⟩;have wyq:=Z.wq Hc;refine ⟨wy, Y, ⟨_, Z.wq Hc⟩, jj (xs:=[.str "down", .str "across"]) (λ t σ' H'=>(∃v10 v11 v12:Option V, σ'=[some (.ref s), some (.int (m:Int)), some (.int (n:Int)), some (.int (k:Int)), some (.ref wt), some (.ref st), some (.ref ta), some (.ref lf), some (.ref cl), some (.int (0 + (j:Int))), v10, v11, v12, none, none])/\(∃kvs, NDict P w H' wt kvs/\TWd b ks (DnT m n k i j t) kvs/\kvs.length<=66 * i + 2 * j + t)/\(∃kws, NDict P w H' st kws/\TSd b ks H' (DnT m n k i j t) kws/\kws.length<=66 * i + 2 * j + t)/\(∀c o, c≠wt->c≠st->Hb c=some o->H' c=some o)) ⟨⟨_, _, _, Y⟩, ⟨kvs, nd, tw, by omega⟩, ⟨kws, ns, ts, by omega⟩, kc⟩ (λ t σ Hx _ _=>Z.wq _) ?_ ?_⟩
    ·clear nd tw kl ns ts wl kc wyq;clear kvs kws Hc v10 v11 v12;rintro t x σ Hc ht ⟨⟨v10,v11,v12,rfl⟩,⟨kvs,nd,tw,kl⟩,⟨kws,ns,ts,wl⟩,kc⟩;have t2:t < 2:=(A6.mp ht).1;obtain ⟨wa,rfl,hwa⟩:∃wa:Bool,x=wv wa/\((wa=true/\t=0)\/(wa=false/\t=1)):=by
      match t,t2 with
      | 0,_=>exact ⟨true,(B8 ht).symm,.inl ⟨Y,Y⟩⟩
      | 1,_=>exact ⟨false,(B8 ht).symm,.inr ⟨Y,Y⟩⟩
     have hclc:=kc _ _ ncw ncs hcl;have tpk:∀c xs,Hb c=some (.tup xs)->Hc c=some (.tup xs):=λ c xs e=>kc _ _ (ndb'.tup e) (nsb'.tup e) e;have pcc:Paired (CutAt b p.1 p.2 Hc) cy (aJ b p.1 p.2):=KK pc λ v c ⟨q',u1,u2,e,e1,e2,e3⟩=>⟨q',u1,u2,e,tpk _ _ e1,tpk _ _ e2,tpk _ _ e3⟩
     have htac:=tpk _ _ htab;have hlfc:=tpk _ _ hlfb;have hlvc:TrV Hc (lfT ks p.1 p.2) lv:=TrV.keep tpk _ hlvb;refine ap (λ R=>∀ (sv:V) (H':Hp),StepN b ks H' p wa j sv->Same Hc H'->R [some (.ref s),some (.int (m:Int)),some (.int (n:Int)),some (.int (k:Int)),some (.ref wt),some (.ref st),some (.ref ta),some (.ref lf),some (.ref cl),some (.int (0 + (j:Int))),some (wv wa),some (.int (tW b ks p wa j)),some sv,none,none] H') (λ Dd hR=>?_) ?_
     ·refine ⟨_,Y,_,Y,_,Y,_,Y,cl,cy,b,p.1,p.2,aJ b p.1 p.2,wa,j,by rw [Int.zero_add]; rfl,hclc,pcc,cl32,λ l zs Hd hl pz sd=>?_⟩;refine ⟨_,Y,lf,l,wt,lfW ks p.1 p.2,lv,zs,b,p.1,p.2,_,tW b ks,kvs,Y,sd _ _ hlfc,hl,pz,nd.same sd,(λ x hx=>?_),λ r sv He hr hsv se=>?_⟩
      ·obtain ⟨h1,h2,_,_⟩:=dP hx;obtain ⟨i1,i2⟩:=cutIn x.1 h1;exact ⟨tw _ _ _ (.inl ⟨i1,by omega⟩),tw _ _ _ (.inl ⟨i2,by omega⟩)⟩
      ·rw [<- pG b0 p wa j p1 p3] at hr;refine ⟨r,_,Y,KI hr,Y,_,_,Y,_,_,Y,Y,hR sv _ ?_ (sd.trans se)⟩;change StVN b p.1 p.2 He lv sv (tC b ks p wa j) at hsv;cases ec:tC b ks p wa j with
       | none=>rw [ec] at hsv; exact .inl ⟨ec,(show sv=lv from hsv) ▸ TrV.keep (λ c xs e=>se _ _ (sd _ _ e)) _ hlvc⟩
       | some x=>rw [ec] at hsv; exact .inr ⟨x,ec,hsv⟩
     rintro sv Hd hsv scd;have upD:∀p' wa' l,DnT m n k i j (t + 1) p' wa' l->DnT m n k i j t p' wa' l\/(p'=p/\wa'=wa/\l=j):=λ p' wa' l h=>by
      rcases h with h | ⟨h1,h2 | ⟨h2,h3⟩⟩
      ·exact .inl (.inl h)
      ·exact .inl (.inr ⟨h1,.inl h2⟩)
      ·rw [hp] at h1;cases h1;subst h2;rcases h3 with ⟨e1,e2⟩ | ⟨e1,e2⟩ <;> rcases hwa with ⟨w1,w2⟩ | ⟨w1,w2⟩
       ·exact .inr ⟨Y,by rw [e1,w1],Y⟩
       ·exact .inl (.inr ⟨hp,.inr ⟨Y,.inl ⟨e1,by omega⟩⟩⟩)
       ·omega
       ·exact .inr ⟨Y,by rw [e1,w1],Y⟩
     have ndd:=nd.same scd;have nsd:=ns.same scd;refine ap (λ R=>∀ (H':Hp),(∃kvs,NDict P w H' wt kvs/\TWd b ks (DnT m n k i j (t + 1)) kvs/\kvs.length<=66 * i + 2 * j + (t + 1))->(∃kws,NDict P w H' st kws/\TSd b ks H' (DnT m n k i j t) kws/\kws.length<=66 * i + 2 * j + t)->StepN b ks H' p wa j sv->H' ta=some (.tup [.int p.1,.int p.2])->((∀c o,c≠wt->c≠st->Hb c=some o->H' c=some o))->R [some (.ref s),some (.int (m:Int)),some (.int (n:Int)),some (.int (k:Int)),some (.ref wt),some (.ref st),some (.ref ta),some (.ref lf),some (.ref cl),some (.int (0 + (j:Int))),some (wv wa),some (.int (tW b ks p wa j)),some sv,none,none] H') (λ Dd hR=>?_) ?_
     ·refine ⟨_,Y,_,Y,_,Y,_,Y,_,Y,zS3,λ ku hku=>?_⟩;obtain ⟨He,e6,k6,s6⟩:∃H',upd Hd ku (.tup [.ref ta,wv wa,.int (0 + (j:Int))])=H'/\H' ku=some (.tup [.ref ta,wv wa,.int (0 + (j:Int))])/\Same Hd H':=⟨_,Y,ae,KH hku⟩
      rw [show upd Hd ku _=He from e6];refine ⟨wt,kvs,nk p wa j,ku,Y,Y,ndd.same s6,⟨ta,by rw [show (0 + (j:Int))=(j:Int) by omega] at k6; exact k6,s6 _ _ (scd _ _ htac)⟩,by omega,λ Hf nf bf ff=>?_⟩;have tdf:∀c xs,Hd c=some (.tup xs)->Hf c=some (.tup xs):=λ c xs e=>bf _ _ ((ndd.same s6).tup (s6 _ _ e)) (s6 _ _ e);refine hR _ ⟨_,nf,tw.put upD,?_⟩ ⟨kws,nsd.keep (λ o e=>bf _ _ (Ne.symm nts) (s6 _ _ e)) tdf,ts.keep (λ c xs e=>tdf _ _ (scd _ _ e)) (λ _ _ _ h=>h),wl⟩ (hsv.keep tdf) (tdf _ _ (scd _ _ htac)) (λ c o n1 n2 e=>bf _ _ n1 (s6 _ _ (scd _ _ (kc _ _ n1 n2 e))));have:=cO kvs (nk p wa j) (.int (tW b ks p wa j));omega
     clear nd tw kl ns ts wl ndd nsd hsv scd hclc pcc htac hlfc hlvc tpk kc;clear kvs kws Hc Hd;rintro Hc ⟨kvs,nd,tw,kl⟩ ⟨kws,ns,ts,wl⟩ hsv htac kc;refine ⟨_,Y,_,Y,_,Y,_,Y,_,Y,zS3,λ ku hku=>?_⟩;obtain ⟨He,e6,k6,s6⟩:∃H',upd Hc ku (.tup [.ref ta,wv wa,.int (0 + (j:Int))])=H'/\H' ku=some (.tup [.ref ta,wv wa,.int (0 + (j:Int))])/\Same Hc H':=⟨_,Y,ae,KH hku⟩
     rw [show upd Hc ku _=He from e6];refine ⟨st,kws,nk p wa j,ku,Y,Y,ns.same s6,⟨ta,by rw [show (0 + (j:Int))=(j:Int) by omega] at k6; exact k6,s6 _ _ htac⟩,by omega,λ Hf nf bf ff=>?_⟩;have tdf:∀c xs,Hc c=some (.tup xs)->Hf c=some (.tup xs):=λ c xs e=>bf _ _ ((ns.same s6).tup (s6 _ _ e)) (s6 _ _ e);refine ⟨⟨_,_,_,Y⟩,⟨kvs,nd.keep (λ o e=>bf _ _ nts (s6 _ _ e)) tdf,tw,kl⟩,⟨_,nf,ts.put tdf (hsv.keep tdf) upD,?_⟩,λ c o n1 n2 e=>bf _ _ n2 (s6 _ _ (kc _ _ n1 n2 e))⟩;have:=cO kws (nk p wa j) sv;omega
    ·rintro σ Hd ⟨⟨v10,v11,v12,rfl⟩,⟨kvs,nd,tw,kl⟩,⟨kws,ns,ts,wl⟩,kd⟩;have up:∀p wa l,DnT m n k i (j + 1) 0 p wa l->DnT m n k i j 2 p wa l:=λ p wa l h=>by
      rcases h with h | ⟨h1,h2 | ⟨_,⟨_,h2⟩ | ⟨_,h2⟩⟩⟩
      ·exact .inl h
      ·refine .inr ⟨h1,?_⟩;rcases Nat.lt_succ_iff_lt_or_eq.mp h2 with h3 | h3
       ·exact .inl h3
       ·cases wa with
        | true=>exact .inr ⟨h3,.inl ⟨Y,by decide⟩⟩
        | false=>exact .inr ⟨h3,.inr ⟨Y,by decide⟩⟩
      ·omega
      ·omega
     exact ⟨⟨_,_,_,_,Y⟩,⟨kvs,nd,λ p wa l h=>tw p wa l (up p wa l h),by have:kvs.length<=66 * i + 2 * j + 2:=kl; omega⟩,⟨kws,ns,ts.keep (λ _ _ e=>e) up,by have:kws.length<=66 * i + 2 * j + 2:=wl; omega⟩,kd⟩
   ·rintro σ Hd ⟨⟨v9,v10,v11,v12,rfl⟩,⟨kvs,nd,tw,kl⟩,⟨kws,ns,ts,wl⟩,kd⟩;have ek:((k:Int) + 1).toNat=k + 1:=by omega
    rw [ek] at tw ts kl wl;have up:∀p' wa l,DnT m n k (i + 1) 0 0 p' wa l->DnT m n k i (k + 1) 0 p' wa l:=λ p' wa l h=>by
     rcases h with ⟨h,hl⟩ | ⟨_,h2 | ⟨_,⟨_,h2⟩ | ⟨_,h2⟩⟩⟩
     ·rw [List.take_add_one,hp] at h;rcases C2.mp h with h | h
      ·exact .inl ⟨h,hl⟩
      ·rw [List.mem_singleton.mp h];exact .inr ⟨hp,.inl (by omega)⟩
     ·exact absurd h2 (G0 _)
     ·omega
     ·omega
    exact ⟨⟨_,_,_,_,_,_,_,Y⟩,⟨kvs,nd,λ p wa l h=>tw p wa l (up p wa l h),by omega⟩,⟨kws,ns,ts.keep (λ _ _ e=>e) up,by omega⟩,λ c o n1 n2 e=>kd _ _ n1 n2 (sab _ _ (kx _ _ n1 n2 e))⟩
  ·rintro σ Hx ⟨e,⟨kvs,nd,tw,kl⟩,⟨kws,ns,ts,wl⟩,kx⟩;have ey:ys.length=m * n:=pln.trans (bI m n);have mn:=bI m n;rw [ey] at tw ts kl wl;exact hR _ _ ⟨e,⟨kvs,nd,tw,by omega⟩,⟨kws,ns,ts,by omega⟩,λ c o n1 n2 e=>kx _ _ n1 n2 (s3 _ _ e)⟩
 rintro _ H3 ⟨⟨v6,v7,v8,v9,v10,v11,v12,rfl⟩,⟨kvs,nd,tw,kl⟩,⟨kws,ns,ts,wl⟩,k23⟩;have pmem:((m:Int),(n:Int))∈ao m n:=partsL_mem.mpr ⟨⟨by show (1:Int)<=m; omega,E6 _⟩,by show (1:Int)<=n; omega,E6 _⟩;have all:∀p (wa:Bool) l,p∈ao m n/\l<=k->DnT m n k (m * n) 0 0 p wa l:=λ p wa l h=>.inl ⟨by rw [List.take_of_length_le (by rw [bI]; exact Nat.le_refl _)]; exact h.1,h.2⟩;have twD:=tw _ true k (all (m,n) true k ⟨pmem,B3 _⟩);have twA:=tw _ false k (all (m,n) false k ⟨pmem,B3 _⟩);have s03:=keepU k23;refine ap (λ R=>∀ (kd:Addr) (H':Hp),NkAt H' kd (nk ((m:Int),(n:Int)) true k)->Same H3 H'->R [some (.ref s),some (.int (m:Int)),some (.int (n:Int)),some (.int (k:Int)),some (.ref wt),some (.ref st),v6,v7,v8,v9,v10,v11,v12,some (.ref kd),none] H') (λ Dd hR=>?_) ?_
 ·refine ⟨_,Y,_,Y,zS2,λ pa hpa=>?_⟩;obtain ⟨H4,e4,k4,s4⟩:∃H',upd H3 pa (.tup [.int (m:Int),.int (n:Int)])=H'/\H' pa=some (.tup [.int (m:Int),.int (n:Int)])/\Same H3 H':=⟨_,Y,ae,KH hpa⟩
  rw [show upd H3 pa _=H4 from e4];refine ⟨_,Y,zS3,λ kd hkd=>?_⟩;obtain ⟨H5, e5, k5, s5⟩:∃H', upd H4 kd (.tup [.ref pa, .str "down", .int (k:Int)])=H'/\H' kd=some (.tup [.ref pa, .str "down", .int (k:Int)])/\Same H4 H':=⟨_, Y, ae, KH hkd⟩
  rw [show upd H4 kd _=H5 from e5];exact hR kd _ ⟨pa,k5,s5 _ _ k4⟩ (s4.trans s5)
 rintro kd H4 hkd s34;refine ap (λ R=>∀ (ka:Addr) (H':Hp),NkAt H' ka (nk ((m:Int),(n:Int)) false k)->Same H4 H'->R [some (.ref s),some (.int (m:Int)),some (.int (n:Int)),some (.int (k:Int)),some (.ref wt),some (.ref st),v6,v7,v8,v9,v10,v11,v12,some (.ref kd),some (.ref ka)] H') (λ Dd hR=>?_) ?_
 ·refine ⟨_,Y,_,Y,zS2,λ pa hpa=>?_⟩;obtain ⟨H5,e4,k4,s4⟩:∃H',upd H4 pa (.tup [.int (m:Int),.int (n:Int)])=H'/\H' pa=some (.tup [.int (m:Int),.int (n:Int)])/\Same H4 H':=⟨_,Y,ae,KH hpa⟩
  rw [show upd H4 pa _=H5 from e4];refine ⟨_,Y,zS3,λ ka hka=>?_⟩;obtain ⟨H6, e5, k5, s5⟩:∃H', upd H5 ka (.tup [.ref pa, .str "across", .int (k:Int)])=H'/\H' ka=some (.tup [.ref pa, .str "across", .int (k:Int)])/\Same H5 H':=⟨_, Y, ae, KH hka⟩
  rw [show upd H5 ka _=H6 from e5];exact hR ka _ ⟨pa,k5,s5 _ _ k4⟩ (s4.trans s5)
 rintro ka H5 hka s45;have s35:=s34.trans s45;have hkd5:=hkd.keep (λ c xs e=>s45 _ _ e);have nd5:=nd.same s35;have ns5:=ns.same s35;refine ap (λ R=>∀ (ky:Addr) (wa:Bool),NkAt H5 ky (nk ((m:Int),(n:Int)) wa k)->tB b ks ((m:Int),(n:Int)) k=tW b ks ((m:Int),(n:Int)) wa k->tR b ks ((m:Int),(n:Int)) k=tT b ks 33 ((m:Int),(n:Int)) wa k->R [some (.ref s),some (.int (m:Int)),some (.int (n:Int)),some (.int (k:Int)),some (.ref wt),some (.ref st),v6,v7,v8,v9,v10,v11,v12,some (.ref ky),some (.ref ka)] H5) (λ Dd hR=>?_) ?_
 ·refine ⟨_,Y,_,Y,wt,_,_,_,ka,Y,Y,nd5,hka,twA,_,Y,_,Y,wt,_,_,_,kd,Y,Y,nd5,hkd5,twD,_,_,Y,Y,_,Y,?_⟩
  by_cases c:tW b ks ((m:Int),(n:Int)) true k < tW b ks ((m:Int),(n:Int)) false k
  ·rw [decide_eq_true c];exact aV ⟨_,rfl,hR ka false hka (by unfold tB; omega) (by unfold tR; rw [if_pos c])⟩
  ·rw [decide_eq_false c];exact aF (hR kd true hkd5 (by unfold tB; omega) (by unfold tR; rw [if_neg c]))
 rintro ky wa hky eB eR;refine ⟨_,Y,_,Y,wt,_,_,_,ky,Y,Y,nd5,hky,tw _ wa k (all (m,n) wa k ⟨pmem,B3 _⟩),?_⟩;refine ⟨_,Y,_,Y,st,ky,b,ks,kws,m,n,k,((m:Int),(n:Int)),wa,k,Y,ns5,hky,b0,ts.keep (λ c xs e=>s35 _ _ e) all,pmem,B3 _,(by show ((m:Int) + n).toNat < 33; omega),λ v6 H6 hv6 s56=>?_⟩;refine ⟨zS2,λ r hr=>?_⟩;obtain ⟨H7,e7,k7,s7⟩:∃H',upd H6 r (.tup [.int (tW b ks ((m:Int),(n:Int)) wa k),v6])=H'/\H' r=some (.tup [.int (tW b ks ((m:Int),(n:Int)) wa k),v6])/\Same H6 H':=⟨_,Y,ae,KH hr⟩
 rw [show upd H6 r _=H7 from e7];exact q r v6 H7 (by rw [eB]; exact k7) (by rw [eR]; exact TrV.keep (λ c xs e=>s7 _ _ e) _ hv6) (s03.trans (s35.trans (s56.trans s7)))
end
def dS (k:Kd) (w h:Int):Bool:=(decide (k.w<=w) && decide (k.h<=h)) || (k.tu && (decide (k.h<=w) && decide (k.w<=h)))
theorem um {k:Kd} {c:Bool} (hc:c=false\/aW k=true):∀ {ks:List Kd} {i j:Nat},ks[i]? = some k->(j + i,c)∈lyK ks j
 | [],_,_,h=>by simp at h
 | x :: r,0,j,h=>by
  have h:x=k:=by simpa using h
  subst h;refine B6 _ ?_;unfold lyT;rcases hc with rfl | ht
  ·exact B7
  ·cases c with
   | false=>exact B7
   | true=>rw [if_pos ht]; exact B4 _ B7
 | x :: r,i + 1,j,h=>by have:=um hc (ks:=r) (i:=i) (j:=j + 1) (by simpa using h);rw [show j + (i + 1)=j + 1 + i by omega];exact A5 _ this
theorem mxL_ge {α:Type} {f:α->Int}:∀ {l:List α} {x:Int},x<=mxL f l x/\∀a∈l,f a<=mxL f l x
 | [],_=>⟨E6 _,λ a h=>by simp at h⟩
 | a :: r,x=>by
  obtain ⟨h1,h2⟩:=mxL_ge (f:=f) (l:=r) (x:=max x (f a));have e:mxL f (a :: r) x=mxL f r (max x (f a)):=rfl;rw [e];refine ⟨by omega,λ b hb=>?_⟩;rcases List.mem_cons.mp hb with rfl | hb
  ·omega
  ·exact h2 b hb
theorem dQ {α:Type} {f:α->Int}:∀ {l:List α} {x:Int},mxL f l x=x\/∃a∈l,mxL f l x=f a
 | [],_=>.inl rfl
 | a :: r,x=>by
  have e:mxL f (a :: r) x=mxL f r (max x (f a)):=rfl;rw [e];rcases dQ (f:=f) (l:=r) (x:=max x (f a)) with h | ⟨b,hb,h⟩
  ·by_cases c:x<=f a
   ·exact .inr ⟨a,B7,by rw [h]; omega⟩
   ·exact .inl (by rw [h]; omega)
  ·exact .inr ⟨b,B4 _ hb,h⟩
theorem mG {ks:List Kd} {w h:Int} {k:Kd} (hk:k∈ks) (hf:dS k w h=true):k.wo<=lfW ks w h:=by
 obtain ⟨i,hi⟩:=List.mem_iff_getElem?.mp hk;obtain ⟨c,hc,hfit⟩:∃c:Bool,(c=false\/aW k=true)/\iA k c w h=true:=by
  unfold dS at hf;rcases Bool.or_eq_true_iff.mp hf with h1 | h1
  ·exact ⟨false,.inl rfl,h1⟩
  ·obtain ⟨ht,h2⟩:=C9.mp h1
   by_cases e:k.w=k.h
   ·refine ⟨false,.inl rfl,?_⟩;unfold iA sd1 sd2;rw [if_neg Bool.false_ne_true,if_neg Bool.false_ne_true];rw [e] at h2 ⊢;exact h2
   ·exact ⟨true,.inr (by unfold aW; rw [ht,decide_eq_false e]; rfl),h2⟩
 have hm:=um hc (j:=0) hi;rw [Nat.zero_add] at hm;have e:wq ks (i,c)=k.wo:=by unfold wq; simp only [hi]
 rw [<- e];exact (mxL_ge (f:=wq ks) (x:=0)).2 _ (List.mem_filter.mpr ⟨hm,by unfold ck; simp only [hi]; exact hfit⟩)
theorem pH {ks:List Kd} {w h:Int}:lfW ks w h=0\/∃k∈ks,dS k w h=true/\lfW ks w h=k.wo:=by
 rcases dQ (f:=wq ks) (l:=(lyK ks 0).filter (ck ks w h)) (x:=0) with h1 | ⟨⟨i,c⟩,hm,h1⟩
 ·exact .inl h1
 ·obtain ⟨hm,hf⟩:=List.mem_filter.mp hm;obtain ⟨_,k,hk,hc⟩:=fW hm;rw [Nat.sub_zero] at hk;have hk:ks[i]? = some k:=hk;refine .inr ⟨k,B5 hk,?_,?_⟩
  ·have hf:iA k c w h=true:=by unfold ck at hf; simp only [hk] at hf; exact hf
   unfold dS;cases c with
   | false =>
    have hf:(decide (k.w<=w) && decide (k.h<=h))=true:=hf;rw [hf]; rfl
   | true =>
    have hf:(decide (k.h<=w) && decide (k.w<=h))=true:=hf;have ht:aW k=true:=hc.resolve_left (λ z=>by cases z);unfold aW at ht;rw [hf,(Bool.and_eq_true_iff.mp ht).1];simp
  ·have e:wq ks (i,c)=k.wo:=by unfold wq; simp only [hk]
   rw [<- e]; exact h1
theorem mH {ks:List Kd} {w h:Int}:0<=lfW ks w h:=(mxL_ge (f:=wq ks)).1
theorem gP {b:Int} {ks:List Kd} (b0:0<=b) {p:Int×Int} (p1:1<=p.1) (p2:1<=p.2):lfW ks p.1 p.2<=bW b ks p:=by rw [gA b0 p p1 p2];exact mxL_ge.1
theorem mI {b:Int} {ks:List Kd} (b0:0<=b) {p:Int×Int} (p1:1<=p.1) (p2:1<=p.2) {c:Bool×Int} (hc:c∈aJ b p.1 p.2):bW b ks (aD p.1 p.2 c) + bW b ks (aE b p.1 p.2 c)<=bW b ks p:=by rw [gA b0 p p1 p2];exact mxL_ge.2 c hc
theorem vS {b:Int} {ks:List Kd} {ps:List (Int×Int)} {i:Nat} {k:List Key} {v:V} (h:(byP (bp b ks ps))[i]? = some (k,v)):∃p∈ps,k=pk p/\v=.int (bW b ks p):=by unfold byP bp at h;rw [List.map_map,List.getElem?_map] at h;obtain ⟨p,hp,e⟩:=Option.map_eq_some_iff.mp h;cases e;exact ⟨p,B5 hp,Y,Y⟩
theorem uo {b:Int} (b0:0<=b) {ks ks':List Kd} (hk:∀k∈ks,∃k'∈ks',(∀w h,dS k w h=true->dS k' w h=true)/\k.wo<=k'.wo):∀ (n:Nat) (p p':Int×Int),msr p < n->1<=p.1->1<=p.2->p.1<=p'.1->p.2<=p'.2->bW b ks p<=bW b ks' p'
 | 0,_,_,h,_,_,_,_=>absurd h (G0 _)
 | n + 1,p,p',hn,p1,p2,l1,l2=>by
  have e:=gA (ks:=ks) b0 p p1 p2;have q1:1<=p'.1:=Int.le_trans p1 l1;have q2:1<=p'.2:=Int.le_trans p2 l2;rcases dQ (f:=λ c=>bW b ks (aD p.1 p.2 c) + bW b ks (aE b p.1 p.2 c)) (l:=aJ b p.1 p.2) (x:=lfW ks p.1 p.2) with h | ⟨⟨dn,q⟩,hc,h⟩
  ·rw [e,h];refine Int.le_trans ?_ (gP b0 q1 q2);rcases pH (ks:=ks) (w:=p.1) (h:=p.2) with h' | ⟨k,km,kf,h'⟩
   ·rw [h']; exact mH
   ·rw [h'];obtain ⟨k',km',f',w'⟩:=hk k km;refine Int.le_trans w' (mG km' ?_);have kf:=f' _ _ kf;unfold dS at kf ⊢;rcases Bool.or_eq_true_iff.mp kf with h1 | h1
    ·obtain ⟨h2,h3⟩:=C9.mp h1;rw [decide_eq_true (Int.le_trans (of_decide_eq_true h2) l1),decide_eq_true (Int.le_trans (of_decide_eq_true h3) l2)]; rfl
    ·obtain ⟨ht,h1⟩:=C9.mp h1;obtain ⟨h2,h3⟩:=C9.mp h1;rw [ht,decide_eq_true (Int.le_trans (of_decide_eq_true h2) l1),decide_eq_true (Int.le_trans (of_decide_eq_true h3) l2)]; simp
  ·rw [e,h];obtain ⟨⟨a1,a2,_,_,_,a3⟩,⟨c1,c2,_,_,_,c3⟩⟩:=aY b0 p1 p2 hc;have em:msr (p.1,p.2)=msr p:=rfl;obtain ⟨g1,g2⟩:=eU hc;have hc':(dn,q)∈aJ b p'.1 p'.2:=qT g1 (by
    cases dn
    ·have g2:q + b < p.2:=g2;show q + b < p'.2; omega
    ·have g2:q + b < p.1:=g2;show q + b < p'.1; omega)
   have i1:=uo b0 hk n (aD p.1 p.2 (dn,q)) (aD p'.1 p'.2 (dn,q)) (by omega) a1 a2 (by cases dn <;> simp only [aD] <;> first | exact l1 | exact E6 _) (by cases dn <;> simp only [aD] <;> first | exact l2 | exact E6 _);have i2:=uo b0 hk n (aE b p.1 p.2 (dn,q)) (aE b p'.1 p'.2 (dn,q)) (by omega) c1 c2 (by cases dn <;> simp [aE] <;> omega) (by cases dn <;> simp [aE] <;> omega);have s:=mI (ks:=ks') b0 (p:=p') q1 q2 hc';show bW b ks (aD p.1 p.2 (dn,q)) + bW b ks (aE b p.1 p.2 (dn,q))<=_;omega
theorem jO {b:Int} (b0:0<=b) {ks ks':List Kd} (hk:∀k∈ks,∃k'∈ks',(∀w h,dS k w h=true->dS k' w h=true)/\k.wo<=k'.wo) {p p':Int×Int} (p1:1<=p.1) (p2:1<=p.2) (l1:p.1<=p'.1) (l2:p.2<=p'.2):bW b ks p<=bW b ks' p':=uo b0 hk _ p p' (G1 _) p1 p2 l1 l2
theorem lB {b:Int} {ks:List Kd} (b0:0<=b) {p:Int×Int} {wa:Bool} {l:Nat} (p1:1<=p.1) (p2:1<=p.2):lfW ks p.1 p.2<=tW b ks p wa l/\∀x∈cbt (aJ b p.1 p.2) wa l,tcW b (tW b ks) p.1 p.2 x<=tW b ks p wa l:=by rw [pG b0 p wa l p1 p2];exact mxL_ge
theorem wZ {b:Int} {ks:List Kd} (b0:0<=b) {p:Int×Int} {wa:Bool} {l:Nat} {x:Int} (p1:1<=p.1) (p2:1<=p.2) (h0:lfW ks p.1 p.2<=x) (h:∀y∈cbt (aJ b p.1 p.2) wa l,tcW b (tW b ks) p.1 p.2 y<=x):tW b ks p wa l<=x:=by
 rw [pG b0 p wa l p1 p2];rcases dQ (f:=tcW b (tW b ks) p.1 p.2) (l:=cbt (aJ b p.1 p.2) wa l) (x:=lfW ks p.1 p.2) with e | ⟨c,hc,e⟩
 ·rw [e]; exact h0
 ·rw [e]; exact h c hc
theorem eY {b:Int} {ks:List Kd} (b0:0<=b):∀ (n:Nat) (p:Int×Int) (dn:Bool) (l l':Nat),msr p < n->1<=p.1->1<=p.2->l<=l'->tW b ks p dn l<=tW b ks p dn l'
 | 0,_,_,_,_,h,_,_,_=>absurd h (G0 _)
 | n + 1,p,dn,l,l',hn,p1,p2,hl=>by
  obtain ⟨t0,t1⟩:=lB (ks:=ks) b0 (p:=p) (wa:=dn) (l:=l') p1 p2;refine wZ b0 p1 p2 t0 λ y hy=>?_;obtain ⟨h1,h2,h3,h4⟩:=dP hy;obtain ⟨⟨a1,a2,_,_,_,a3⟩,⟨c1,c2,_,_,_,c3⟩⟩:=aY b0 p1 p2 h1;have em:msr (p.1,p.2)=msr p:=rfl;have go:∀l2,y.2<=l2->(y.1,l2)∈cbt (aJ b p.1 p.2) dn l'->tcW b (tW b ks) p.1 p.2 y<=tW b ks p dn l':=λ l2 h5 h6=>by have i1:=eY (ks:=ks) b0 n (aD p.1 p.2 y.1) y.1.1 y.2 l2 (by omega) a1 a2 h5;have i2:=eY (ks:=ks) b0 n (aE b p.1 p.2 y.1) y.1.1 y.2 l2 (by omega) c1 c2 h5;have:=t1 _ h6;unfold tcW at this ⊢;have e:tW b ks (aD p.1 p.2 y.1) y.1.1 l2 + tW b ks (aE b p.1 p.2 y.1) y.1.1 l2<=tW b ks p dn l':=this;omega
  by_cases hw:y.1.1=dn
  ·exact go l' (by omega) (eW h1 (.inl ⟨hw,Y⟩))
  ·exact go (l' - 1) (by have:=h4 hw; omega) (eW h1 (.inr ⟨hw,by have:=h4 hw; omega⟩))
def swK (k:Kd):Kd:=⟨k.h,k.w,k.wo,k.wa,k.tu⟩
def swP (p:Int×Int):Int×Int:=(p.2,p.1)
theorem vT {b:Int} {ks:List Kd} (b0:0<=b) {p:Int×Int} {l l':Nat} (p1:1<=p.1) (p2:1<=p.2) (hl:l<=l'):tB b ks p l<=tB b ks p l':=by have h1:=eY (ks:=ks) b0 _ p true l l' (G1 _) p1 p2 hl;have h2:=eY (ks:=ks) b0 _ p false l l' (G1 _) p1 p2 hl;unfold tB;omega
def tBd (b:Int) (ks:List Kd) (p:Int×Int):Option Bool->Nat->Int
 | none,t=>tB b ks p t
 | some d,t=>tW b ks p d t
theorem uq {b:Int} {ks:List Kd} (b0:0<=b) {p:Int×Int} (p1:1<=p.1) (p2:1<=p.2) (o:Option Bool) (t:Nat):lfW ks p.1 p.2<=tBd b ks p o t:=by
 cases o with
 | none =>
  have:=(lB (ks:=ks) b0 (p:=p) (wa:=true) (l:=t) p1 p2).1;show _<=tB b ks p t;unfold tB;omega
 | some d=>exact (lB b0 p1 p2).1
def dw (o:Option Bool) (dn:Bool):Nat:=if o=some (!dn) then 1 else 0
theorem vU {b:Int} {ks:List Kd} (b0:0<=b) {p:Int×Int} (p1:1<=p.1) (p2:1<=p.2) (o:Option Bool) {dn:Bool} {q:Int} (hc:(dn,q)∈aJ b p.1 p.2) {r1 r2:Int} {t1 t2:Nat} (h1:r1<=tW b ks (aD p.1 p.2 (dn,q)) dn t1) (h2:r2<=tW b ks (aE b p.1 p.2 (dn,q)) dn t2):r1 + r2<=tBd b ks p o (dw o dn + max t1 t2):=by
 obtain ⟨⟨a1,a2,_⟩,⟨c1,c2,_⟩⟩:=aY b0 p1 p2 hc;have i1:=eY (ks:=ks) b0 _ (aD p.1 p.2 (dn,q)) dn t1 (max t1 t2) (G1 _) a1 a2 (by omega);have i2:=eY (ks:=ks) b0 _ (aE b p.1 p.2 (dn,q)) dn t2 (max t1 t2) (G1 _) c1 c2 (by omega);have go:∀d l,((dn,q),max t1 t2)∈cbt (aJ b p.1 p.2) d l->r1 + r2<=tW b ks p d l:=λ d l hm=>by have:=(lB (ks:=ks) b0 (p:=p) (wa:=d) (l:=l) p1 p2).2 _ hm;unfold tcW at this;have:tW b ks (aD p.1 p.2 (dn,q)) dn (max t1 t2) + tW b ks (aE b p.1 p.2 (dn,q)) dn (max t1 t2)<=tW b ks p d l:=this;omega
 cases o with
 | none =>
  have h:=go dn (max t1 t2) (eW hc (.inl ⟨Y,Y⟩));show _<=tB b ks p (dw none dn + max t1 t2);rw [show dw none dn=0 from rfl,Nat.zero_add];unfold tB;cases dn <;> omega
 | some d =>
  show _<=tW b ks p d (dw (some d) dn + max t1 t2);refine go d _ (eW hc ?_);unfold dw
  by_cases e:dn=d
  ·subst e;rw [if_neg (λ z=>by have:=Option.some.inj z; cases dn <;> cases this)];exact .inl ⟨Y,by omega⟩
  ·have:d=!dn:=by cases d <;> cases dn <;> simp_all
   rw [if_pos (by rw [this])];exact .inr ⟨e,by omega⟩
def Jh:Option Bool->V
 | none=>.non
 | some d=>wv d
def cJ (ks:List Kd):Tr->Int
 | .rest=>0
 | .piece i c _ _=>wq ks (i,c)
 | .cut _ _ l r=>cJ ks l + cJ ks r
def okL (b:Int) (ks:List Kd):Int->Int->Tr->Option Bool->Nat->Prop
 | _,_,.rest,_,_=>True
 | w,h,.piece i c x y,_,_=>x=0/\y=0/\∃k,ks[i]? = some k/\(c=false\/aW k=true)/\iA k c w h=true
 | w,h,.cut dn q l r,o,left=>(dn,q)∈aJ b w h/\dw o dn<=left/\okL b ks (aD w h (dn,q)).1 (aD w h (dn,q)).2 l (some dn) (left - dw o dn)/\okL b ks (aE b w h (dn,q)).1 (aE b w h (dn,q)).2 r (some dn) (left - dw o dn)
theorem jP (ks:List Kd) (L:List (Nat×Bool)):∀ (l:List (Nat×Bool)),(∀q∈l,q∈L)->∀m:Int×Tr,(m.1=cJ ks m.2/\(m.2=.rest\/∃q∈L,m.2=.piece q.1 q.2 0 0))->((l.foldl (lfF ks) m).1=cJ ks (l.foldl (lfF ks) m).2/\((l.foldl (lfF ks) m).2=.rest\/∃q∈L,(l.foldl (lfF ks) m).2=.piece q.1 q.2 0 0))
 | [],_,_,h=>h
 | q :: l,hl,m,h=>by
  refine jP ks L l (λ x hx=>hl x (B4 _ hx)) (lfF ks m q) ?_;unfold lfF
  split
  ·exact ⟨Y,.inr ⟨q,hl q B7,Y⟩⟩
  ·exact h
theorem xY (b:Int) (ks:List Kd) (w h:Int) (o:Option Bool) (left:Nat):okL b ks w h (lfT ks w h) o left/\cJ ks (lfT ks w h)=lfW ks w h:=by
 obtain ⟨h1,h2⟩:=jP ks _ ((lyK ks 0).filter (ck ks w h)) (λ q hq=>hq) (0,.rest) ⟨rfl,.inl rfl⟩;have e:(lfP ks ((lyK ks 0).filter (ck ks w h))).1=lfW ks w h:=jL ks _;refine ⟨?_,h1.symm.trans e⟩;rcases h2 with h2 | ⟨q,hq,h2⟩
 ·rw [show lfT ks w h=.rest from h2]; exact True.intro
 ·rw [show lfT ks w h=.piece q.1 q.2 0 0 from h2];obtain ⟨hm,hf⟩:=List.mem_filter.mp hq;obtain ⟨_,k,hk,hc⟩:=fW hm;rw [Nat.sub_zero] at hk;refine ⟨Y,Y,k,hk,hc,?_⟩;unfold ck at hf;simp only [hk] at hf;exact hf
theorem pI {b:Int} {ks:List Kd} (b0:0<=b):∀ (n:Nat) (p:Int×Int) (wa:Bool) (l:Nat) (o:Option Bool) (left:Nat),msr p < n->1<=p.1->1<=p.2->(o=none\/o=some wa)->l<=left->okL b ks p.1 p.2 (tT b ks n p wa l) o left/\cJ ks (tT b ks n p wa l)=tW b ks p wa l
 | 0,_,_,_,_,_,h,_,_,_,_=>absurd h (G0 _)
 | n + 1,p,wa,l,o,left,hn,p1,p2,ho,hl=>by
  have e:=pG (ks:=ks) b0 p wa l p1 p2;unfold tT
  split
  ·rename_i hc
   obtain ⟨h1,h2⟩:=xY b ks p.1 p.2 o left;exact ⟨h1,by rw [h2,e]; exact (qX hc).symm⟩
  ·rename_i x hc
   obtain ⟨hm,hv⟩:=lw hc;obtain ⟨⟨dn,q⟩,l'⟩:=x;obtain ⟨h1,h2,h3,h4⟩:=dP hm;obtain ⟨⟨a1,a2,_,_,_,a3⟩,⟨c1,c2,_,_,_,c3⟩⟩:=aY b0 p1 p2 h1;have em:msr (p.1,p.2)=msr p:=rfl;have own:dw o dn<=left/\l'<=left - dw o dn:=by
    rcases ho with rfl | rfl
    ·exact ⟨E9 _,by show l'<=left - 0; have:l'<=l:=h2; omega⟩
    ·by_cases hw:dn=wa
     ·have e0:dw (some wa) dn=0:=by unfold dw;rw [if_neg (λ z=>by have:=Option.some.inj z; rw [hw] at this; cases wa <;> cases this)]
      rw [e0];have:l'<=l:=h2;exact ⟨E9 _,by omega⟩
     ·have e0:dw (some wa) dn=1:=by unfold dw;rw [if_pos (by cases wa <;> cases dn <;> simp_all)]
      rw [e0];have:l' + 1=l:=h4 hw;exact ⟨by omega,by omega⟩
   obtain ⟨f1,f2⟩:=pI b0 n (aD p.1 p.2 (dn,q)) dn l' (some dn) (left - dw o dn) (by have:msr (aD p.1 p.2 (dn,q)) < msr (p.1,p.2):=a3; omega) a1 a2 (.inr rfl) own.2;obtain ⟨g1,g2⟩:=pI b0 n (aE b p.1 p.2 (dn,q)) dn l' (some dn) (left - dw o dn) (by have:msr (aE b p.1 p.2 (dn,q)) < msr (p.1,p.2):=c3; omega) c1 c2 (.inr rfl) own.2;refine ⟨⟨h1,own.1,f1,g1⟩,?_⟩;show cJ ks (tT b ks n (aD p.1 p.2 (dn,q)) dn l') + cJ ks (tT b ks n (aE b p.1 p.2 (dn,q)) dn l')=_;rw [f2,g2,e];exact hv.symm
theorem Dp {b:Int} {ks:List Kd} (b0:0<=b) (p:Int×Int) (k:Nat) (h33:msr p < 33) (p1:1<=p.1) (p2:1<=p.2):okL b ks p.1 p.2 (tR b ks p k) none k/\cJ ks (tR b ks p k)=tB b ks p k:=by
 unfold tR tB
 by_cases c:tW b ks p true k < tW b ks p false k
 ·rw [if_pos c];obtain ⟨h1,h2⟩:=pI (ks:=ks) b0 33 p false k none k h33 p1 p2 (.inl rfl) (B3 _);exact ⟨h1,by omega⟩
 ·rw [if_neg c];obtain ⟨h1,h2⟩:=pI (ks:=ks) b0 33 p true k none k h33 p1 p2 (.inl rfl) (B3 _);exact ⟨h1,by omega⟩
theorem pJ {b:Int} {ks:List Kd} (b0:0<=b):∀ (n:Nat) (p:Int×Int) (wa:Bool) (l:Nat),msr p < n->1<=p.1->1<=p.2->tW b ks p wa l<=bW b ks p
 | 0,_,_,_,h,_,_=>absurd h (G0 _)
 | n + 1,p,wa,l,hn,p1,p2=>by refine wZ b0 p1 p2 (gP b0 p1 p2) λ y hy=>?_;obtain ⟨h1,_⟩:=dP hy;obtain ⟨⟨a1,a2,_,_,_,a3⟩,⟨c1,c2,_,_,_,c3⟩⟩:=aY b0 p1 p2 h1;have em:msr (p.1,p.2)=msr p:=rfl;have i1:=pJ b0 n (ks:=ks) (aD p.1 p.2 y.1) y.1.1 y.2 (by omega) a1 a2;have i2:=pJ b0 n (ks:=ks) (aE b p.1 p.2 y.1) y.1.1 y.2 (by omega) c1 c2;have s:=mI (ks:=ks) b0 p1 p2 h1;unfold tcW;omega
theorem lC {b:Int} {ks:List Kd} (b0:0<=b) {p:Int×Int} (k:Nat) (p1:1<=p.1) (p2:1<=p.2):tB b ks p k<=bW b ks p:=by have h1:=pJ (ks:=ks) b0 _ p true k (G1 _) p1 p2;have h2:=pJ (ks:=ks) b0 _ p false k (G1 _) p1 p2;unfold tB;omega
theorem pK {b w h:Int} {x:Bool×Int} (b0:0<=b) (m:x∈aJ b w h):(aD w h x).1 + (aD w h x).2 + 1<=w + h/\(aE b w h x).1 + (aE b w h x).2 + 1<=w + h:=by
 obtain ⟨g1,g2⟩:=eU m;obtain ⟨dn,q⟩:=x;cases dn
 ·have g2:q + b < h:=g2;have g1:1<=q:=g1;show w + q + 1<=w + h/\w + (h - q - b) + 1<=w + h;omega
 ·have g2:q + b < w:=g2;have g1:1<=q:=g1;show q + h + 1<=w + h/\w - q - b + h + 1<=w + h;omega
theorem pL {b:Int} {ks:List Kd} (b0:0<=b):∀ (n:Nat) (p:Int×Int) (wa:Bool) (l:Nat),msr p < n->1<=p.1->1<=p.2->p.1 + p.2<=l + 2->bW b ks p<=tW b ks p wa l
 | 0,_,_,_,h,_,_,_=>absurd h (G0 _)
 | n + 1,p,wa,l,hn,p1,p2,hs=>by
  obtain ⟨t0,t1⟩:=lB (ks:=ks) b0 (p:=p) (wa:=wa) (l:=l) p1 p2;rw [gA b0 p p1 p2];rcases dQ (f:=λ c=>bW b ks (aD p.1 p.2 c) + bW b ks (aE b p.1 p.2 c)) (l:=aJ b p.1 p.2) (x:=lfW ks p.1 p.2) with e | ⟨c,hc,e⟩
  ·rw [e]; exact t0
  ·rw [e];obtain ⟨⟨a1,a2,_,_,_,a3⟩,⟨c1,c2,_,_,_,c3⟩⟩:=aY b0 p1 p2 hc;obtain ⟨s1,s2⟩:=pK b0 hc;have em:msr (p.1,p.2)=msr p:=rfl;obtain ⟨l',hl',hm⟩:∃l':Nat,(l:Int)<=l' + 1/\(c,l')∈cbt (aJ b p.1 p.2) wa l:=by
    by_cases hw:c.1=wa
    ·exact ⟨l,by omega,eW hc (.inl ⟨hw,Y⟩)⟩
    ·exact ⟨l - 1,by omega,eW hc (.inr ⟨hw,by omega⟩)⟩
   have i1:=pL b0 n (ks:=ks) (aD p.1 p.2 c) c.1 l' (by omega) a1 a2 (by omega);have i2:=pL b0 n (ks:=ks) (aE b p.1 p.2 c) c.1 l' (by omega) c1 c2 (by omega);have:=t1 _ hm;unfold tcW at this;have:tW b ks (aD p.1 p.2 c) c.1 l' + tW b ks (aE b p.1 p.2 c) c.1 l'<=tW b ks p wa l:=this;show bW b ks (aD p.1 p.2 c) + bW b ks (aE b p.1 p.2 c)<=_;omega
theorem Dq {b:Int} {ks:List Kd} (b0:0<=b) {p:Int×Int} {k:Nat} (p1:1<=p.1) (p2:1<=p.2) (hs:p.1 + p.2<=k + 3):tB b ks p k=bW b ks p:=by
 refine Int.le_antisymm (lC b0 k p1 p2) ?_;rw [gA b0 p p1 p2];rcases dQ (f:=λ c=>bW b ks (aD p.1 p.2 c) + bW b ks (aE b p.1 p.2 c)) (l:=aJ b p.1 p.2) (x:=lfW ks p.1 p.2) with e | ⟨c,hc,e⟩
 ·rw [e];exact uq b0 p1 p2 none k
 ·rw [e];obtain ⟨⟨a1,a2,_,_,_,a3⟩,⟨c1,c2,_,_,_,c3⟩⟩:=aY b0 p1 p2 hc;obtain ⟨s1,s2⟩:=pK b0 hc;have i1:=pL b0 _ (ks:=ks) (aD p.1 p.2 c) c.1 k (G1 _) a1 a2 (by omega);have i2:=pL b0 _ (ks:=ks) (aE b p.1 p.2 c) c.1 k (G1 _) c1 c2 (by omega);have:=vU (ks:=ks) b0 p1 p2 none (dn:=c.1) (q:=c.2) hc (t1:=k) (t2:=k) i1 i2;rw [show dw none c.1=0 from rfl,Nat.zero_add,Nat.max_self] at this;exact this
def fY (la:Option Bool) (dn:Bool):Nat:=match la with
 | none=>0
 | some d=>if d=dn then 0 else 1
def tn:Tr->Option Bool->Nat->Nat
 | .cut dn _ l r,la,n=>max (tn l (some dn) (n + fY la dn)) (tn r (some dn) (n + fY la dn))
 | .rest,_,n=>n
 | .piece _ _ _ _,_,n=>n
theorem xa:∀ (t:Tr) (la:Option Bool) (n:Nat),n<=tn t la n
 | .rest,_,_=>B3 _
 | .piece ..,_,_=>B3 _
 | .cut dn _ l r,la,n=>by have:=xa l (some dn) (n + fY la dn);show n<=max _ _;omega
structure Sk where
 t:Tr
 la:Option Bool
 n:Nat
def laV:Option Bool->V
 | none=>.non
 | some d=>wv d
def SkAt (p:Addr) (H0 H:Hp) (v:V) (k:Sk):Prop:=∃a u d,v=.ref a/\H a=some (.tup [u,laV k.la,.int (k.n:Nat)])/\Dt p H0 u d/\TrD k.t d
theorem SkAt.keep {p:Addr} {H0 H H':Hp} (k:∀a xs,H a=some (.tup xs)->H' a=some (.tup xs)) {v:V} {t:Sk} (h:SkAt p H0 H v t):SkAt p H0 H' v t:=by obtain ⟨a,u,d,e,h1,h2,h3⟩:=h;exact ⟨a,u,d,e,k _ _ h1,h2,h3⟩
def ksz (ts:List Sk):Nat:=(ts.map λ k=>szT k.t).sum
theorem pM (a b:List Sk):ksz (a ++ b)=ksz a + ksz b:=by unfold ksz; rw [List.map_append,List.sum_append]
theorem pN:∀ts:List Sk,ts.length<=ksz ts
 | []=>B3 _
 | t :: r=>by have:=pN r;have:=tN t.t;show r.length + 1<=szT t.t + ksz r;omega
def gv:List Sk->Nat
 | []=>0
 | k :: r=>max (tn k.t k.la k.n) (gv r)
theorem ip:∀a b:List Sk,gv (a ++ b)=max (gv a) (gv b)
 | [],b=>(Nat.zero_max (gv b)).symm
 | k :: r,b=>by show max _ (gv (r ++ b))=max (max _ (gv r)) (gv b);rw [ip r b,Nat.max_assoc]
theorem xZ {a n S M:Nat} (h:n<=M):max (max a n) (max S M)=max a (max S M) :=
 Nat.le_antisymm (Nat.max_le.2 ⟨Nat.max_le.2 ⟨Nat.le_max_left _ _,C5 h (C5 (Nat.le_max_right _ _) (Nat.le_max_right _ _))⟩,Nat.le_max_right _ _⟩) (Nat.max_le.2 ⟨C5 (Nat.le_max_left _ _) (Nat.le_max_left _ _),Nat.le_max_right _ _⟩)
section
variable {P:KC} {w:KF} {K:C4} {mg:Str->Option KG} {base:Heap}
inductive spCheckTX (C NT:Addr) (vs:List V) (H:Hp) (Q:VK) (E:XK):Prop
 | mk (pp s:Addr) (b w h:Int) (ks:List Kd) (v:V) (d:PyData) (e_1:vs=[.ref s,.int w,.int h,v]) (e_2:ShopAt C H s b ks) (e_3:1<=w) (e_4:1<=h) (e_5:Dt pp H v d) (e_6:wt d<=30000) (e_7:isT b ks w h d=false) (e_8:∀H',Same H H'->E (.ref NT) none H'):spCheckTX C NT vs H Q E
inductive spTurns (C:Addr) (vs:List V) (H:Hp) (Q:VK) (E_:XK):Prop
 | mk (pp s:Addr) (b w h:Int) (ks:List Kd) (v:V) (d:PyData) (t:Tr) (e_1:vs=[.ref s,.int w,.int h,v]) (e_2:ShopAt C H s b ks) (e_3:1<=w) (e_4:1<=h) (e_5:Dt pp H v d) (e_6:wt d<=30000) (e_7:TrD t d) (e_8:okT b ks w h t) (e_9:szT t<=10000) (e_10:∀H',Same H H'->Q (.int (tn t none 0:Nat)) H'):spTurns C vs H Q E_
inductive spTurnsX (C NT:Addr) (vs:List V) (H:Hp) (Q:VK) (E:XK):Prop
 | mk (pp s:Addr) (b w h:Int) (ks:List Kd) (v:V) (d:PyData) (e_1:vs=[.ref s,.int w,.int h,v]) (e_2:ShopAt C H s b ks) (e_3:1<=w) (e_4:1<=h) (e_5:Dt pp H v d) (e_6:wt d<=30000) (e_7:isT b ks w h d=false) (e_8:∀H',Same H H'->E (.ref NT) none H'):spTurnsX C NT vs H Q E
theorem scturns:FnScope ["shop","wide","high","tree","most","waiting","part_tree","way_ahead","turns","way"] ["shop","wide","high","tree"] (defScope fS):=⟨Y,Y,Y,by decide +kernel,Y,by decide +kernel,by decide +kernel⟩
theorem ur {f C wa:Addr} {fd:KD} (F:Fun K "turns_of" "turns_of" fS f fd) (B:Blt mg) (Z:TrC K mg wa) (DC:Dn P w K mg base "check_tree" ["shop","wide","high","thing"] 7 (spCheckT C)):FnOk P w K mg base CX0 8 f fd ["shop","wide","high","tree"] (spTurns C):=by
 refine F.ok scturns (λ vs H Q E h=>?_) (λ cdv A outer s H vs Q E hr h=>?_)
 ·obtain ⟨pp,s,b,w1,h1,ks,v,d,t,rfl,_⟩:=h
  rfl
 obtain ⟨pp,s,b,w1,h1,ks,v,d,t,rfl,SH,w0,h0,hd,dz,td,hok,tz,q⟩:=h;have nd:=scturns.nd;refine ⟨_,(ad (bj (aq DC hr rfl ((pv 0)^^^((pv 1)^^^((pv 2)^^^((pv 3)^^^ab)))) (by decide) rfl rfl) rfl) (ad (@ax _ _ 4 _ _ _ _ nd rfl (Or.inl rfl) af rfl (Or.inl rfl)) (ad (@ax _ _ 5 _ _ _ _ nd rfl (Or.inl rfl) (bY ((aB ((pv 3)^^^(rG^^^(af^^^ab))))^^^ab)) rfl (Or.inl rfl)) (ad (gR E5 (gY (pv 5) (λ _=>rfl)) (ad (bm (lV KA PySem.F.slot_list_pop PySem.F.type_list_pop lX (pv 5)) (aS rfl (ah (ai (i:=6) nd rfl (Or.inl rfl)) (ah (ai (i:=7) nd rfl (Or.inl rfl)) (ah (ai (i:=8) nd rfl (Or.inl rfl)) aG)))) rfl rfl rfl) (ad (@ax _ _ 4 _ _ _ _ nd rfl (Or.inl rfl) (aO (iH rfl) rfl B.max PyProof.Rows.boot_max ((pv 4)^^^((pv 8)^^^ab)) (by decide) (by decide) rfl rfl) rfl (Or.inl rfl)) (ad (@ax _ _ 9 _ _ _ _ nd rfl (Or.inl rfl) (ay ci (pv 6) af (λ _ _=>rfl)) rfl (Or.inl rfl)) (ag (aI (az iM (pv 9) (aL (v:=.ref wa) rfl Z.wy rfl) rfl) (ad (aI (PW.pt (rH (az uW (pv 7) rG (aw _)) (oh (az fg (pv 7) (pv 9) (aw _))))) (ag (xn (i:=8) nd rfl (Or.inl rfl) af rO)) av) (ag (bj (fH KA PySem.F.slot_list_extend PySem.F.type_list_extend gq (pv 5) ((bY ((aB ((ay ci (pv 6) af (λ _ _=>rfl))^^^((pv 9)^^^((pv 8)^^^ab))))^^^((aB ((ay ci (pv 6) af (λ _ _=>rfl))^^^((pv 9)^^^((pv 8)^^^ab))))^^^ab)))^^^ab) rfl rfl rfl rfl rfl) rfl))) av)))))) (ag (au (pv 4))))))),?_⟩;refine ap (λ R=>∀ (H':Hp),Same H H'->R [some (.ref s),some (.int w1),some (.int h1),some v,none,none,none,none,none,none] H') (λ Dd hR=>?_) ?_
 ·exact ⟨_,Y,_,Y,_,Y,_,Y,pp,s,b,w1,h1,ks,v,d,Y,SH,w0,h0,hd,dz,TrD.good t d w1 h1 td hok,λ H1 s1=>hR _ s1⟩
 rintro H0 s0;refine bo (λ σ' H'=>σ'=[some (.ref s),some (.int w1),some (.int h1),some v,some (.int 0),none,none,none,none,none]/\H0=H') (λ R hR=>hR _ _ ⟨rfl,rfl⟩) ?_;rintro _ _ ⟨rfl,rfl⟩;refine ap (λ R=>∀ (t' wl:Addr) (H':Hp),H' t'=some (.tup [v,.non,.int 0])->H' wl=some (.lst [.ref t'])->H wl=none->Same H H'->R [some (.ref s),some (.int w1),some (.int h1),some v,some (.int 0),some (.ref wl),none,none,none,none] H') (λ Dd hR=>?_) ?_
 ·refine ⟨_,Y,zS3,λ t' ht'=>?_⟩;obtain ⟨Ha,e1,k1,s1⟩:∃H',upd H0 t' (.tup [v,.non,.int 0])=H'/\H' t'=some (.tup [v,.non,.int 0])/\Same H0 H':=⟨_,Y,ae,KH ht'⟩
  rw [show upd H0 t' _=Ha from e1];refine ⟨zS1,λ wl hwl=>?_⟩;have fw:H wl=none:=(s0.trans s1).free hwl;obtain ⟨Hb,e2,k2,s2⟩:∃H',upd Ha wl (.lst [.ref t'])=H'/\H' wl=some (.lst [.ref t'])/\Same Ha H':=⟨_,Y,ae,KH hwl⟩
  rw [show upd Ha wl _=Hb from e2];exact hR t' wl _ (s2 _ _ k1) k2 fw ((s0.trans s1).trans s2)
 rintro t' wl Hb kt' kb fw sab;refine bo (λ σ' H'=>∃v6 v7 v8 v9:Option V,σ'=[some (.ref s),some (.int w1),some (.int h1),some v,some (.int (tn t none 0:Nat)),some (.ref wl),v6,v7,v8,v9]/\Same H H') (λ R hR=>?_) ?_
 ·refine ⟨λ m σ' H'=>∃ (vs:List V) (ts:List Sk) (m0:Nat) (v6 v7 v8 v9:Option V),σ'=[some (.ref s),some (.int w1),some (.int h1),some v,some (.int (m0:Nat)),some (.ref wl),v6,v7,v8,v9]/\m=ksz ts/\H' wl=some (.lst vs)/\Paired (SkAt pp H H') vs ts/\ksz ts<=10000/\max m0 (gv ts)=tn t none 0/\Same H H',⟨_,[.ref t'],[⟨t,none,0⟩],0,none,none,none,none,Y,Y,kb,.cons ⟨t',v,d,Y,kt',hd,td⟩ .nil,(by show szT t + 0<=10000; omega),(by show max 0 (max (tn t none 0) 0)=_; omega),sab⟩,?_⟩;rintro m σ H1 ⟨vs,ts,m0,v6,v7,v8,v9,rfl,rfl,hw,pr,sz1,al,s1⟩;refine ⟨_,Y,_,.inl ⟨vs,KJ hw,Y⟩,?_⟩;rcases List.eq_nil_or_concat vs with rfl | ⟨vs',v0,rfl⟩
  ·have ets:ts=[]:=by
    have:=E4 pr;cases ts with
    | nil=>rfl
    | cons _ _=>simp at this
   subst ets;have al:max m0 0=tn t none 0:=al;have em:m0=tn t none 0:=by omega
   subst em;exact aF (hR _ _ ⟨v6,v7,v8,v9,rfl,s1⟩)
  rw [List.concat_eq_append] at pr hw ⊢;obtain ⟨ts',t0,rfl,prp,⟨sp,u,du,rfl,hsp,hdu,tdu⟩⟩:=oX pr;rw [show (!(vs' ++ [V.ref sp]).isEmpty)=true by cases vs' <;> rfl];have ssz:ksz (ts' ++ [t0])=ksz ts' + szT t0.t:=by rw [pM]; show _ + (szT t0.t + 0)=_; omega
  rw [ssz] at sz1 ⊢;have al2:max m0 (max (gv ts') (tn t0.t t0.la t0.n))=tn t none 0:=by rw [<- al,ip];show _=max m0 (max (gv ts') (max (tn t0.t t0.la t0.n) 0));rw [Nat.max_zero]
  refine aV ⟨λ σ' H'=>∃ (vs:List V) (ts:List Sk) (m0:Nat) (v6 v7 v8 v9:Option V),σ'=[some (.ref s),some (.int w1),some (.int h1),some v,some (.int (m0:Nat)),some (.ref wl),v6,v7,v8,v9]/\ksz ts < ksz ts' + szT t0.t/\H' wl=some (.lst vs)/\Paired (SkAt pp H H') vs ts/\ksz ts<=10000/\max m0 (gv ts)=tn t none 0/\Same H H',λ σ' H' ⟨vs,ts,m0,v6,v7,v8,v9,e,l,r⟩=>⟨_,l,vs,ts,m0,v6,v7,v8,v9,e,rfl,r⟩,?_⟩;have ml:(vs' ++ [V.ref sp]).length=vs'.length + 1:=by rw [List.length_append]; rfl
  have keep:∀ {Hx:Hp} {o:HO},Same H Hx->Same H (upd Hx wl o):=λ {Hx o} sx c oo e=>by rw [aj (λ z=>by rw [z,fw] at e; cases e)];exact sx _ _ e
  have go:∀ (y:Str) (ys:List PyData),bi du=some (.str y :: ys)->∃a xs,u=.ref a/\(H a=some (.lst (.str y :: xs))\/H a=some (.tup (.str y :: xs)))/\Dts pp H xs ys:=λ y ys er=>by
   obtain ⟨a,xs,e,hx,dxs⟩:=hdu.ref_row er;cases dxs with
   | cons hd0 dxs =>
    cases hd0;exact ⟨a,_,e,hx,dxs⟩
  refine ap (λ R=>∀ (H':Hp),H' wl=some (.lst vs')->Paired (SkAt pp H H') vs' ts'->Same H H'->R [some (.ref s),some (.int w1),some (.int h1),some v,some (.int (m0:Nat)),some (.ref wl),some u,some (laV t0.la),some (.int (t0.n:Nat)),v9] H') (λ Dd hR=>?_) ?_
  ·refine ⟨_,Y,.inl ⟨Y,_,KJ hw⟩,wl,_,.ref sp,Y,Y,hw,(by rw [ml]; simp),?_⟩;rw [List.dropLast_concat];have kt:∀ {c:Addr} {xs:List V},H1 c=some (.tup xs)->(upd H1 wl (.lst vs')) c=some (.tup xs):=λ {c xs} e=>by rw [aj (λ z=>by rw [z,hw] at e; cases e)]; exact e
   exact ⟨sp,_,Y,KI (kt hsp),Y,_,_,Y,_,_,Y,_,_,Y,Y,hR _ ae (KK prp λ v t h=>h.keep λ a xs e=>kt e) (keep s1)⟩
  rintro H2 hw2 pr2 s02;clear prp hsp hw pr;obtain ⟨m1,hm1⟩:∃m1:Nat,m1=max m0 t0.n:=⟨_,Y⟩
  refine bo (λ σ' H'=>σ'=[some (.ref s),some (.int w1),some (.int h1),some v,some (.int (m1:Nat)),some (.ref wl),some u,some (laV t0.la),some (.int (t0.n:Nat)),v9]/\H2=H') (λ R hR=>?_) ?_
  ·refine ⟨_,Y,_,Y,_,_,Y,hR _ _ ⟨?_,Y⟩⟩;have em:(m1:Int)=(if (t0.n:Int) > (m0:Int) then (t0.n:Int) else m0):=by split <;> omega
   rw [em]
   rfl
  rintro _ _ ⟨rfl,rfl⟩;have pl:=E4 pr2;have sl:=pN ts';have big:30000<=sizeLine:=by decide
  have tg:=xa t0.t t0.la t0.n;obtain ⟨tt,et⟩:∃tt,t0.t=tt:=⟨_,Y⟩
  have zpos:=tN t0.t;cases tt with
  | cut dn p l r =>
   rw [et] at tdu;obtain ⟨dl,dr,er,tl,tr⟩:=tdu;obtain ⟨a,xs,eu,hx,dxs⟩:=go _ _ er;cases dxs with
   | @cons x1 _ xs1 _ hd1 dxs =>
   cases dxs with
   | @cons lv _ xs2 _ hdl dxs =>
   cases dxs with
   | @cons rv _ xs3 _ hdr dxs =>
   cases dxs;cases hd1;subst eu;refine ap (λ R=>R [some (.ref s),some (.int w1),some (.int h1),some v,some (.int (m1:Nat)),some (.ref wl),some (.ref a),some (laV t0.la),some (.int (t0.n:Nat)),some (wv dn)] H2) (λ Dd hR=>?_) ?_
   ·refine ⟨_,Y,?_⟩;show rIx K (.ref a) (.int 0) H2 _;exact ixR s02 hx (aU (E6 _) rfl) (hR)
   skip
   refine ⟨_,Y,wa,_,Y,.inr (Z.wq _),Y,Y,_,Y,?_⟩;show (if (inV (wv dn) [V.str "down",V.str "across"])=true then _ else _);rw [show inV (wv dn) [V.str "down",V.str "across"]=true by cases dn <;> decide +kernel];refine aV ?_;obtain ⟨n1,hn1⟩:∃n1:Nat,n1=t0.n + fY t0.la dn:=⟨_,Y⟩
   refine bo (λ σ' H'=>σ'=[some (.ref s),some (.int w1),some (.int h1),some v,some (.int (m1:Nat)),some (.ref wl),some (.ref a),some (laV t0.la),some (.int (n1:Nat)),some (wv dn)]/\H2=H') (λ R hR=>?_) ?_
   ·obtain ⟨la,ela⟩:∃la,t0.la=la:=⟨_,Y⟩
    rw [ela] at hn1 ⊢;refine ⟨_,Y,Y,_,Y,?_⟩;cases la with
    | none =>
     have:n1=t0.n:=hn1;subst this;exact aF (aF (hR _ _ ⟨by rw [ela],rfl⟩))
    | some d0 =>
     refine aV ⟨_,rfl,_,rfl,rfl,_,rfl,?_⟩;have ek:(!decide (wv d0=wv dn))=!decide (d0=dn):=by cases d0 <;> cases dn <;> decide +kernel
     show (if (!decide (wv d0=wv dn))=true then _ else _);rw [ek];have hn1:n1=t0.n + (if d0=dn then 0 else 1):=hn1
     by_cases e:d0=dn
     ·rw [if_pos e] at hn1;have:n1=t0.n:=hn1;subst this;rw [decide_eq_true e];exact aF (hR _ _ ⟨by rw [ela],rfl⟩)
     ·rw [if_neg e] at hn1;rw [decide_eq_false e];exact aV ⟨_,rfl,_,_,rfl,rfl,hR _ _ ⟨by rw [ela,hn1]; rfl,rfl⟩⟩
   rintro _ _ ⟨rfl,rfl⟩;refine ⟨_,Y,.inl ⟨Y,_,KJ hw2⟩,_,Y,?_⟩;refine ixR s02 hx (aU (i:=2) (by decide) rfl) ?_;refine ⟨_,Y,_,Y,zS3,λ t1 ht1=>?_⟩;obtain ⟨H3,e3,k3,s3⟩:∃H',upd H2 t1 (.tup [lv,wv dn,.int (n1:Nat)])=H'/\H' t1=some (.tup [lv,wv dn,.int (n1:Nat)])/\Same H2 H':=⟨_,Y,ae,KH ht1⟩
   rw [show upd H2 t1 _=H3 from e3];have s03:=s02.trans s3;refine ⟨_,Y,?_⟩;refine ixR s03 hx (aU (i:=3) (by decide) rfl) ?_;refine ⟨_,Y,_,Y,zS3,λ t2 ht2=>?_⟩;obtain ⟨H4,e4,k4,s4⟩:∃H',upd H3 t2 (.tup [rv,wv dn,.int (n1:Nat)])=H'/\H' t2=some (.tup [rv,wv dn,.int (n1:Nat)])/\Same H3 H':=⟨_,Y,ae,KH ht2⟩
   rw [show upd H3 t2 _=H4 from e4];refine ⟨zS2,λ lu hlu=>?_⟩;obtain ⟨H5,e5,k5,s5⟩:∃H',upd H4 lu (.lst [.ref t1,.ref t2])=H'/\H' lu=some (.lst [.ref t1,.ref t2])/\Same H4 H':=⟨_,Y,ae,KH hlu⟩
   rw [show upd H4 lu _=H5 from e5];have s25:=s3.trans (s4.trans s5);have hw5:=s25 _ _ hw2;refine ⟨wl,lu,_,_,Y,Y,hw5,k5,(by show _ + 2<=_; omega),?_⟩;have kt:∀ {c:Addr} {xs:List V},H5 c=some (.tup xs)->(upd H5 wl (.lst (vs' ++ [.ref t1,.ref t2]))) c=some (.tup xs):=λ {c xs} e=>by rw [aj (λ z=>by rw [z,hw5] at e; cases e)]; exact e
   have e2:ksz (ts' ++ [⟨l,some dn,n1⟩,⟨r,some dn,n1⟩])=ksz ts' + (szT l + szT r):=by rw [pM];show _ + (szT l + (szT r + 0))=_;omega
   have sz0:szT t0.t=szT l + szT r + 1:=by rw [et]; rfl
   refine ⟨_,ts' ++ [⟨l,some dn,n1⟩,⟨r,some dn,n1⟩],m1,_,_,_,_,Y,by rw [e2]; omega,ae,jJ (KK pr2 λ v t h=>h.keep λ a xs e=>kt (s25 _ _ e)) (.cons (show SkAt pp H _ (.ref t1) ⟨l,some dn,n1⟩ from ⟨t1,lv,dl,Y,kt (s5 _ _ (s4 _ _ k3)),hdl,tl⟩) (.cons (show SkAt pp H _ (.ref t2) ⟨r,some dn,n1⟩ from ⟨t2,rv,dr,Y,kt (s5 _ _ k4),hdr,tr⟩) .nil)),by rw [e2]; omega,?_,keep (s02.trans s25)⟩;rw [ip];show max m1 (max (gv ts') (max (tn l (some dn) n1) (max (tn r (some dn) n1) 0)))=_;have etn:tn t0.t t0.la t0.n=max (tn l (some dn) n1) (tn r (some dn) n1):=by rw [et,hn1]; rfl
   rw [etn] at al2 tg;rw [Nat.max_zero,show m1=max m0 t0.n from hm1,xZ tg,al2]
  | rest =>
   rw [et] at tdu;obtain ⟨a,xs,eu,hx,dxs⟩:=go _ _ tdu;subst eu;refine ap (λ R=>R [some (.ref s),some (.int w1),some (.int h1),some v,some (.int (m1:Nat)),some (.ref wl),some (.ref a),some (laV t0.la),some (.int (t0.n:Nat)),some (.str "rest")] H2) (λ Dd hR=>?_) ?_
   ·refine ⟨_,Y,?_⟩;show rIx K (.ref a) (.int 0) H2 _;exact ixR s02 hx (aU (E6 _) rfl) (hR)
   skip
   refine ⟨_,Y,wa,_,Y,.inr (Z.wq _),Y,Y,_,Y,?_⟩;show (if (inV (V.str "rest") [V.str "down",V.str "across"])=true then _ else _);rw [show inV (V.str "rest") [V.str "down",V.str "across"]=false by decide +kernel];have etn:tn t0.t t0.la t0.n=t0.n:=by rw [et]; rfl
   exact aF ⟨vs',ts',m1,_,_,_,_,rfl,by omega,hw2,pr2,by omega,by omega,s02⟩
  | piece i c x y =>
   rw [et] at tdu;obtain ⟨a,xs,eu,hx,dxs⟩:=go _ _ tdu;subst eu;refine ap (λ R=>R [some (.ref s),some (.int w1),some (.int h1),some v,some (.int (m1:Nat)),some (.ref wl),some (.ref a),some (laV t0.la),some (.int (t0.n:Nat)),some (.str "piece")] H2) (λ Dd hR=>?_) ?_
   ·refine ⟨_,Y,?_⟩;show rIx K (.ref a) (.int 0) H2 _;exact ixR s02 hx (aU (E6 _) rfl) (hR)
   skip
   refine ⟨_,Y,wa,_,Y,.inr (Z.wq _),Y,Y,_,Y,?_⟩;show (if (inV (V.str "piece") [V.str "down",V.str "across"])=true then _ else _);rw [show inV (V.str "piece") [V.str "down",V.str "across"]=false by decide +kernel];have etn:tn t0.t t0.la t0.n=t0.n:=by rw [et]; rfl
   exact aF ⟨vs',ts',m1,_,_,_,_,rfl,by omega,hw2,pr2,by omega,by omega,s02⟩
 rintro _ H1 ⟨v6,v7,v8,v9,rfl,s1⟩;exact ⟨_,Y,q H1 s1⟩
end
def vV (b:Int) (f:Int×Int->Int) (w h:Int) (c:Bool×Int):Int:=f (aD w h c) + f (aE b w h c)
def lD (b:Int) (ks:List Kd) (f:Int×Int->Int) (w h:Int):Int:=mxL (vV b f w h) (aJ b w h) (lfW ks w h)
theorem ya {b:Int} {ks:List Kd} (b0:0<=b) (p:Int×Int) (p1:1<=p.1) (p2:1<=p.2):lD b ks (bW b ks) p.1 p.2=bW b ks p:=(gA b0 p p1 p2).symm
def bN (f:Int×Int->Int) (ps:List (Int×Int)):List ((Int×Int)×V):=ps.map λ p=>(p,.int (f p))
theorem ut (f:Int×Int->Int) (ps:List (Int×Int)):(bN f ps).map (·.1)=ps:=by unfold bN;rw [List.map_map];exact List.map_id' ps
theorem fZ {f:Int×Int->Int} {ps:List (Int×Int)} {p:Int×Int} (h:p∈ps):bO (byP (bN f ps)) (pk p)=some (.int (f p)):=by obtain ⟨v,h1,h2⟩:=gO (ss:=bN f ps) (p:=p) (by rw [ut]; exact h);unfold bN at h2;obtain ⟨q,_,e⟩:=List.mem_map.mp h2;cases e;exact h1
theorem pO {f:Int×Int->Int} {ps:List (Int×Int)} {i:Nat} {k:List Key} {v:V} (h:(byP (bN f ps))[i]? = some (k,v)):∃p,ps[i]? = some p/\k=pk p/\v=.int (f p):=by unfold byP bN at h;rw [List.map_map,List.getElem?_map] at h;obtain ⟨p,hp,e⟩:=Option.map_eq_some_iff.mp h;cases e;exact ⟨p,hp,Y,Y⟩
theorem lE (f:Int×Int->Int) (ps:List (Int×Int)):(byP (bN f ps)).length=ps.length:=by unfold byP bN;rw [List.length_map,List.length_map]
def Jj (f:Int×Int->Int) (p:Int×Int) (x:Int):Int×Int->Int:=λ q=>if q=p then x else f q
theorem mxL_le {α:Type} {f:α->Int} {l:List α} {x y:Int}:mxL f l x<=y↔x<=y/\∀a∈l,f a<=y:=by
 obtain ⟨h1,h2⟩:=mxL_ge (f:=f) (l:=l) (x:=x);refine ⟨λ h=>⟨by omega,λ a ha=>by have:=h2 a ha; omega⟩,λ ⟨h3,h4⟩=>?_⟩;rcases dQ (f:=f) (l:=l) (x:=x) with e | ⟨a,ha,e⟩
 ·omega
 ·have:=h4 a ha; omega
def fC (b:Int) (ks:List Kd) (f:Int×Int->Int) (m n:Nat):Bool:=(ao m n).all λ p=>decide (lD b ks f p.1 p.2<=f p)
def lyB (ks:List Kd) (f:Int×Int->Int) (p:Int×Int) (l:List (Nat×Bool)):Bool:=l.all λ q=>decide (wq ks q<=f p)
def cuB (b:Int) (f:Int×Int->Int) (p:Int×Int) (l:List (Bool×Int)):Bool:=l.all λ c=>decide (vV b f p.1 p.2 c<=f p)
def bP (b:Int) (ks:List Kd) (f:Int×Int->Int) (p:Int×Int):Bool:=lyB ks f p ((lyK ks 0).filter (ck ks p.1 p.2)) && cuB b f p (aJ b p.1 p.2)
theorem mJ {b:Int} {ks:List Kd} {f:Int×Int->Int} {p:Int×Int} (h0:0<=f p):bP b ks f p=decide (lD b ks f p.1 p.2<=f p):=by
 have e:(lD b ks f p.1 p.2<=f p)↔bP b ks f p=true:=by
  unfold lD lfW bP lyB cuB;rw [mxL_le,mxL_le,Bool.and_eq_true_iff,List.all_eq_true,List.all_eq_true];constructor
  ·rintro ⟨⟨_,h1⟩,h2⟩;exact ⟨λ q hq=>B0 (h1 q hq),λ c hc=>B0 (h2 c hc)⟩
  ·rintro ⟨h1,h2⟩;exact ⟨⟨h0,λ q hq=>C0 (h1 q hq)⟩,λ c hc=>C0 (h2 c hc)⟩
 cases hb:bP b ks f p with
 | true=>exact (B0 (e.mpr hb)).symm
 | false=>exact (B1 (λ z=>by rw [e.mp z] at hb; cases hb)).symm
theorem uu {b:Int} {ks:List Kd} {f:Int×Int->Int} {m n:Nat} (h0:∀p∈ao m n,0<=f p):(ao m n).all (bP b ks f)=fC b ks f m n:=by
 unfold fC;have:∀l:List (Int×Int),(∀p∈l,0<=f p)->l.all (bP b ks f)=l.all λ p=>decide (lD b ks f p.1 p.2<=f p):=by
  intro l
  induction l with
  | nil=>intro _; rfl
  | cons p l ih =>
   intro h;rw [List.all_cons,List.all_cons,ih (λ q hq=>h q (List.mem_cons_of_mem _ hq)),mJ (h p List.mem_cons_self)]
 exact this _ h0
theorem lF {α:Type} {f:α->Bool} {l:List α} {i:Nat} {x:α} (h:l[i]? = some x):(l.take (i + 1)).all f=((l.take i).all f && f x):=by rw [List.take_add_one,h,List.all_append];simp
theorem jf {α:Type} {f:α->Bool} {l:List α} {x:α} (h:x∈l) (hf:f x=false):l.all f=false:=by
 cases e:l.all f with
 | false=>rfl
 | true=>rw [List.all_eq_true] at e; rw [e x h] at hf; cases hf
def okZ (b:Int) (ks:List Kd):Int->Int->Tr->Prop
 | _,_,.rest=>True
 | w,h,.piece i c x y=>x=0/\y=0/\∃k,ks[i]? = some k/\(c=false\/aW k=true)/\iA k c w h=true
 | w,h,.cut dn q l r=>(dn,q)∈aJ b w h/\okZ b ks (aD w h (dn,q)).1 (aD w h (dn,q)).2 l/\okZ b ks (aE b w h (dn,q)).1 (aE b w h (dn,q)).2 r
theorem vW (b:Int) (ks:List Kd) (w h:Int):okZ b ks w h (lfT ks w h)/\cJ ks (lfT ks w h)=lfW ks w h:=by
 obtain ⟨h1,h2⟩:=jP ks _ ((lyK ks 0).filter (ck ks w h)) (λ q hq=>hq) (0,.rest) ⟨rfl,.inl rfl⟩;have e:(lfP ks ((lyK ks 0).filter (ck ks w h))).1=lfW ks w h:=jL ks _;refine ⟨?_,h1.symm.trans e⟩;rcases h2 with h2 | ⟨q,hq,h2⟩
 ·rw [show lfT ks w h=.rest from h2]; exact True.intro
 ·rw [show lfT ks w h=.piece q.1 q.2 0 0 from h2];obtain ⟨hm,hf⟩:=List.mem_filter.mp hq;obtain ⟨_,k,hk,hc⟩:=fW hm;rw [Nat.sub_zero] at hk;refine ⟨Y,Y,k,hk,hc,?_⟩;unfold ck at hf;simp only [hk] at hf;exact hf
theorem pP (g:Bool×Int->Int):∀ (l:List (Bool×Int)) (m:Int×Option (Bool×Int)) (x:Int),(match m.2 with | none=>m.1=x | some c=>m.1=g c)->(match (l.foldl (stF g) m).2 with | none=>(l.foldl (stF g) m).1=x | some c=>(l.foldl (stF g) m).1=g c)
 | [],_,_,h=>h
 | c :: l,m,x,h=>by
  refine pP g l (stF g m c) x ?_;unfold stF
  by_cases hc:m.1 < g c
  ·rw [if_pos hc]
  ·rw [if_neg hc]; exact h
theorem mK {b:Int} {ks:List Kd} (b0:0<=b):∀ (n:Nat) (p:Int×Int),msr p < n->1<=p.1->1<=p.2->okZ b ks p.1 p.2 (bT b ks n p)/\cJ ks (bT b ks n p)=bW b ks p
 | 0,_,h,_,_=>absurd h (G0 _)
 | n + 1,p,h,p1,p2=>by
  have inv:=pP (λ c=>bW b ks (aD p.1 p.2 c) + bW b ks (aE b p.1 p.2 c)) (aJ b p.1 p.2) (lfW ks p.1 p.2,none) (lfW ks p.1 p.2) rfl;have e1:(stP (λ c=>bW b ks (aD p.1 p.2 c) + bW b ks (aE b p.1 p.2 c)) (aJ b p.1 p.2) (lfW ks p.1 p.2)).1=bW b ks p:=by rw [gA b0 p p1 p2];exact jM _ _ _
  have e1:((aJ b p.1 p.2).foldl (stF λ c=>bW b ks (aD p.1 p.2 c) + bW b ks (aE b p.1 p.2 c)) (lfW ks p.1 p.2,none)).1=bW b ks p:=e1;show okZ b ks p.1 p.2 (match bC b ks p with
   | none=>lfT ks p.1 p.2
   | some c=>.cut c.1 c.2 (bT b ks n (aD p.1 p.2 c)) (bT b ks n (aE b p.1 p.2 c)))/\cJ ks (match bC b ks p with
   | none=>lfT ks p.1 p.2
   | some c=>.cut c.1 c.2 (bT b ks n (aD p.1 p.2 c)) (bT b ks n (aE b p.1 p.2 c)))=bW b ks p
  cases hc:bC b ks p with
  | none =>
   have hc':((aJ b p.1 p.2).foldl (stF λ c=>bW b ks (aD p.1 p.2 c) + bW b ks (aE b p.1 p.2 c)) (lfW ks p.1 p.2,none)).2=none:=hc;rw [hc'] at inv;obtain ⟨a1,a2⟩:=vW b ks p.1 p.2;exact ⟨a1,a2.trans (inv.symm.trans e1)⟩
  | some c =>
   have hc':((aJ b p.1 p.2).foldl (stF λ c=>bW b ks (aD p.1 p.2 c) + bW b ks (aE b p.1 p.2 c)) (lfW ks p.1 p.2,none)).2=some c:=hc;rw [hc'] at inv;have cm:c∈aJ b p.1 p.2:=pq hc;obtain ⟨⟨g1,g2,g3,g4,g5,g6⟩,⟨k1,k2,k3,k4,k5,k6⟩⟩:=aY b0 p1 p2 cm;have em:msr (p.1,p.2)=msr p:=rfl;obtain ⟨a1,a2⟩:=mK b0 n (aD p.1 p.2 c) (by omega) g1 g2;obtain ⟨c1,c2⟩:=mK b0 n (aE b p.1 p.2 c) (by omega) k1 k2;refine ⟨⟨cm,a1,c1⟩,?_⟩;show cJ ks _ + cJ ks _=_;rw [a2,c2,<- e1];exact inv.symm
theorem jQ {b:Int} {ks:List Kd}:∀ (t:Tr) (w h:Int),okZ b ks w h t->okT b ks w h t
 | .rest,_,_,_=>trivial
 | .piece i c x y,w,h,⟨hx,hy,k,hk,hc,hf⟩=>by
  obtain ⟨f1,f2⟩:=C9.mp hf;have f1:=C0 f1;have f2:=C0 f2;refine ⟨k,hk,?_,by omega,by omega,by omega,by omega⟩;unfold oY;rcases hc with rfl | ht
  ·split <;> simp
  ·rw [if_pos ht]; cases c <;> simp
 | .cut dn q l r,w,h,⟨cm,h1,h2⟩=>by
  obtain ⟨q1,q2⟩:=eU cm;have a1:=jQ l _ _ h1;have a2:=jQ r _ _ h2;refine ⟨q1,?_⟩;cases dn with
  | true=>rw [if_pos rfl]; exact ⟨q2,a1,a2⟩
  | false=>rw [if_neg Bool.false_ne_true]; exact ⟨q2,a1,a2⟩
theorem iq {b:Int} {ks:List Kd} (b0:0<=b):∀ (t:Tr) (w h:Int),1<=w->1<=h->okT b ks w h t->(lvN t:Int)<=w * h
 | .rest,w,h,w1,h1,_=>by have:=Int.mul_le_mul w1 h1 (by decide) (by omega);exact this
 | .piece ..,w,h,w1,h1,_=>by have:=Int.mul_le_mul w1 h1 (by decide) (by omega);exact this
 | .cut dn p l r,w,h,w1,h1,⟨p1,ok⟩=>by
  show ((lvN l + lvN r:Nat):Int)<=w * h;cases dn with
  | true =>
   rw [if_pos rfl] at ok;obtain ⟨o1,o2,o3⟩:=ok;have a1:=iq b0 l p h p1 h1 o2;have a2:=iq b0 r (w - p - b) h (by omega) h1 o3;have e:p * h + (w - p - b) * h=(w - b) * h:=by rw [<- Int.add_mul]; congr 1; omega
   have e2:(w - b) * h<=w * h:=Int.mul_le_mul_of_nonneg_right (by omega) (by omega);omega
  | false =>
   rw [if_neg Bool.false_ne_true] at ok;obtain ⟨o1,o2,o3⟩:=ok;have a1:=iq b0 l w p w1 p1 o2;have a2:=iq b0 r w (h - p - b) w1 (by omega) o3;have e:w * p + w * (h - p - b)=w * (h - b):=by rw [<- Int.mul_add]; congr 1; omega
   have e2:w * (h - b)<=w * h:=Int.mul_le_mul_of_nonneg_left (by omega) (by omega);omega
theorem jR:∀t:Tr,szT t + 1=2 * lvN t
 | .rest=>rfl
 | .piece .. => rfl
 | .cut _ _ l r=>by have h1:=jR l;have h2:=jR r;show szT l + szT r + 1 + 1=2 * (lvN l + lvN r);omega
theorem pQ (f:Nat->Int) (a:Nat):∀n,a < n->((List.range n).map λ k=>if a == k then f k else 0).sum=f a
 | 0,h=>absurd h (G0 _)
 | n + 1,h=>by
  rw [List.range_succ,List.map_append,List.sum_append];have tl:([n].map λ k=>if a == k then f k else 0).sum=if a == n then f n else 0:=by simp
  rw [tl]
  by_cases e:a=n
  ·subst e;have z:((List.range a).map λ k=>if a == k then f k else 0)=(List.range a).map λ _=>(0:Int):=List.map_congr_left λ k hk=>by rw [if_neg (by have:=List.mem_range.mp hk; simp; omega)]
   rw [z,if_pos (by simp)];have:((List.range a).map λ _=>(0:Int)).sum=0:=by
    generalize List.range a=l
    induction l with
    | nil=>rfl
    | cons x l ih=>rw [List.map_cons,List.sum_cons,ih]; rfl
   rw [this]; omega
  ·rw [pQ f a n (by omega),if_neg (by simpa using e)]; omega
theorem lG {α:Type} (f g:α->Int):∀l:List α,(l.map λ k=>f k + g k).sum=(l.map f).sum + (l.map g).sum
 | []=>rfl
 | x :: l=>by rw [List.map_cons,List.map_cons,List.map_cons,List.sum_cons,List.sum_cons,List.sum_cons,lG f g l]; omega
theorem lH (n:Nat) (f:Nat->Int):∀ps:List Pce,(∀p∈ps,p.k < n)->((List.range n).map λ k=>((ps.filter λ p=>p.k == k).length:Int) * f k).sum=(ps.map λ p=>f p.k).sum
 | [],_=>by
  generalize List.range n=l
  induction l with
  | nil=>rfl
  | cons x l ih=>rw [List.map_cons,List.sum_cons,ih]; simp
 | p :: ps,h=>by
  have ih:=lH n f ps (λ q hq=>h q (B4 _ hq));rw [List.map_cons,List.sum_cons,<- ih,<- pQ f p.k n (h p List.mem_cons_self),<- lG];congr 1;refine List.map_congr_left λ k _=>?_;rw [List.filter_cons]
  split
  ·rw [List.length_cons,Int.natCast_add,Int.add_mul]; simp; omega
  ·omega
theorem vX (ks:List Kd) (ps:List Pce) (h:∀p∈ps,p.k < ks.length):(((cu ps ks.length).zip ks).map λ z=>z.1 * z.2.wo).sum=(ps.map λ p=>wq ks (p.k,p.c)).sum:=by
 have e:(((cu ps ks.length).zip ks).map λ z=>z.1 * z.2.wo)=(List.range ks.length).map λ k=>((ps.filter λ p=>p.k == k).length:Int) * wq ks (k,false):=by
  apply List.ext_getElem?;intro i;rw [List.getElem?_map,List.getElem?_map]
  by_cases hi:i < ks.length
  ·have hz:((cu ps ks.length).zip ks)[i]? = some (((ps.filter λ p=>p.k == i).length:Int),ks[i]):=List.getElem?_zip_eq_some.mpr ⟨fV hi,G2 hi⟩;rw [List.getElem?_range hi,hz];show some _=some _;congr 1;unfold wq;simp only [List.getElem?_eq_getElem hi]
  ·rw [List.getElem?_eq_none (by rw [List.length_zip]; omega),List.getElem?_eq_none (by rw [List.length_range]; omega)]; rfl
 rw [e,lH _ (λ k=>wq ks (k,false)) ps h]
 rfl
theorem eI (b:Int) (ks:List Kd):∀ (t:Tr) (x y w h:Int),(((lvs b t x y w h).filterMap lfQ).map λ p=>wq ks (p.k,p.c)).sum=cJ ks t
 | .rest,_,_,_,_=>rfl
 | .piece i c u v,x,y,w,h=>by show wq ks (i,c) + 0=wq ks (i,c);omega
 | .cut true p l r,x,y,w,h=>by rw [lvs,List.filterMap_append,List.map_append,List.sum_append,eI b ks r,eI b ks l];show _=cJ ks l + cJ ks r;omega
 | .cut false p l r,x,y,w,h=>by rw [lvs,List.filterMap_append,List.map_append,List.sum_append,eI b ks r,eI b ks l];show _=cJ ks l + cJ ks r;omega
theorem ir {b:Int} {ks:List Kd} {t:Tr} {w h:Int} (ok:okT b ks w h t):(((cu (pcs b t w h) ks.length).zip ks).map λ z=>z.1 * z.2.wo).sum=cJ ks t:=by rw [vX ks _ (λ p hp=>tQ ok hp)];exact eI b ks t 0 0 w h
theorem yb {K:C4}:PySem.W.kitOne K (.type "tuple") (.type "tuple")=some true:=by kernel_rfl
theorem mL:∀t:Tr,wt (toD t)<=11 * szT t
 | .rest=>by decide +kernel
 | .piece .. => by
  have:wt (.str "piece")=6:=by decide +kernel
  show wt (.str "piece") + (1 + (1 + (1 + (1 + 0)))) + 1<=11 * 1;omega
 | .cut dn p l r=>by
  have h1:=mL l;have h2:=mL r;have h3:wt (.str (if dn=true then "down" else "across"))<=7:=by cases dn <;> decide +kernel
  show wt (.str (if dn=true then "down" else "across")) + (1 + (wt (toD l) + (wt (toD r) + 0))) + 1<=11 * (szT l + szT r + 1);omega
theorem jS {b:Int} {ks:List Kd}:∀ (t:Tr) (w h:Int) (o:Option Bool) (left:Nat),okL b ks w h t o left->okZ b ks w h t
 | .rest,_,_,_,_,_=>trivial
 | .piece ..,_,_,_,_,h=>h
 | .cut dn q l r,w,h,o,left,⟨cm,_,h1,h2⟩=>⟨cm,jS l _ _ _ _ h1,jS r _ _ _ _ h2⟩
theorem qZ (o:Option Bool) (dn:Bool):fY o dn=dw o dn:=by
 cases o with
 | none=>rfl
 | some d=>cases d <;> cases dn <;> rfl
theorem mM {b:Int} {ks:List Kd}:∀ (t:Tr) (w h:Int) (o:Option Bool) (left n:Nat),okL b ks w h t o left->tn t o n<=n + left
 | .rest,_,_,_,left,n,_=>by show n<=n + left; omega
 | .piece ..,_,_,_,left,n,_=>by show n<=n + left; omega
 | .cut dn q l r,w,h,o,left,n,⟨cm,ho,h1,h2⟩=>by have a1:=mM l _ _ (some dn) (left - dw o dn) (n + fY o dn) h1;have a2:=mM r _ _ (some dn) (left - dw o dn) (n + fY o dn) h2;show max (tn l (some dn) (n + fY o dn)) (tn r (some dn) (n + fY o dn))<=n + left;rw [qZ] at *;omega
structure TW (b:Int) (ks:List Kd) (m n:Nat) (T:Tr) (x:Int):Prop where
 ok:okT b ks m n T
 isT:isT b ks m n (toD T)=true
 wt:wt (toD T)<=9000
 sz:szT T<=10000
 ln:lvN T<=1000
 tv:cJ ks T=x
theorem TW.of {b:Int} {ks:List Kd} {m n:Nat} {T:Tr} {x:Int} (b0:0<=b) (m1:1<=m) (m9:m<=10) (n1:1<=n) (n9:n<=10) (ok:okZ b ks m n T) (e:cJ ks T=x):TW b ks m n T x:=by have okt:=jQ T _ _ ok;have ll:=iq b0 T m n (by omega) (by omega) okt;have mn:(m:Int) * n<=10 * 10:=Int.mul_le_mul (by omega) (by omega) (by omega) (by decide);have sz:=jR T;have w:=mL T;exact ⟨okt,ij T m n okt,by omega,by omega,by omega,e⟩
theorem TW.tR {b:Int} {ks:List Kd} {m n k:Nat} (b0:0<=b) (m1:1<=m) (m9:m<=10) (n1:1<=n) (n9:n<=10):TW b ks m n (tR b ks ((m:Int),(n:Int)) k) (tB b ks ((m:Int),(n:Int)) k)/\tn (tR b ks ((m:Int),(n:Int)) k) none 0<=k:=by
 have hm:msr ((m:Int),(n:Int)) < 33:=by unfold msr; omega
 obtain ⟨o1,o2⟩:=Dp (ks:=ks) b0 ((m:Int),(n:Int)) k hm (by show (1:Int)<=m; omega) (by show (1:Int)<=n; omega);refine ⟨TW.of b0 m1 m9 n1 n9 (jS _ _ _ _ _ o1) o2,?_⟩;have:=mM _ _ _ _ _ 0 o1;omega
theorem yc {K:C4}:PySem.W.kitOne K (.type "dict") (.type "dict")=some true:=by kernel_rfl
theorem HD {t:Addr} {H H':Hp} {a:Addr} {u:HO} (s:∀c o,c≠t->H c=some o->H' c=some o) (n:a≠t) (h:Rd H a u):Rd H' a u:=h.imp (s _ _ n) λ ⟨o,e⟩=>⟨o,s _ _ n e⟩
theorem uv {H H':Hp} {a:Addr} {u:HO} (h:Rd H a u) (s:Same H H'):Rd H' a u:=h.imp (s _ _) λ ⟨o,e⟩=>⟨o,s _ _ e⟩
theorem fm {H:Hp} {a b:Addr} {kvs:List (List Key×V)} {xs:List V} (h:Rd H a (.dT kvs)) (e:H b=some (.tup xs)):b≠a:=λ z=>by subst z;rcases h with h | ⟨_,h⟩ <;> rw [e] at h <;> cases h
theorem xb {H:Hp} {a b:Addr} {kvs:List (List Key×V)} {xs:List V} (h:Rd H a (.dT kvs)) (e:H b=some (.lst xs)):b≠a:=λ z=>by subst z;rcases h with h | ⟨_,h⟩ <;> rw [e] at h <;> cases h
theorem Dr {H:Hp} {a b C d:Addr} {kvs:List (List Key×V)} {fs} (h:Rd H a (.dT kvs)) (e:H b=some (.ins C d fs)):b≠a:=λ z=>by subst z;rcases h with h | ⟨_,h⟩ <;> rw [e] at h <;> cases h
section
variable {P:KC} {w:KF} {K:C4} {mg:Str->Option KG} {base:Heap}
inductive spIsKey (vs:List V) (H:Hp) (Q:VK) (E_:XK):Prop
 | mk (t:Addr) (m n:Nat) (p:Int×Int) (e_1:vs=[.int (m:Int),.int (n:Int),.ref t]) (e_2:H t=some (.tup [.int p.1,.int p.2])) (e_3:p∈ao m n) (e_4:Q (.bl true) H):spIsKey vs H Q E_
inductive spIsTab (vs:List V) (H:Hp) (Q:VK) (E_:XK):Prop
 | mk (td:Addr) (m n:Nat) (f0:Int×Int->Int) (e_1:vs=[.int (m:Int),.int (n:Int),.ref td]) (e_2:m<=16) (e_3:n<=16) (e_4:H td=some (.dT (byP (bN f0 (ao m n))))) (e_5:(∀p∈ao m n,0<=f0 p)) (e_6:∀ (ob:Obj) (H':Hp),H' td=some (.frz ob (.dT (byP (bN f0 (ao m n)))))->But td H H'->Q (.bl true) H'):spIsTab vs H Q E_
inductive spBearsP (C:Addr) (vs:List V) (H:Hp) (Q:VK) (E_:XK):Prop
 | mk (s t td:Addr) (b:Int) (ks:List Kd) (m n:Nat) (p:Int×Int) (f0:Int×Int->Int) (e_1:vs=[.ref s,.ref t,.ref td]) (e_2:ShopAt C H s b ks) (e_3:ks.length<=8) (e_4:0<=b) (e_5:H t=some (.tup [.int p.1,.int p.2])) (e_6:p∈ao m n) (e_7:m<=16) (e_8:n<=16) (e_9:Rd H td (.dT (byP (bN f0 (ao m n))))) (e_10:∀H',Same H H'->Q (.bl (bP b ks f0 p)) H'):spBearsP C vs H Q E_
inductive spBearsT (C:Addr) (vs:List V) (H:Hp) (Q:VK) (E_:XK):Prop
 | mk (s td:Addr) (b:Int) (ks:List Kd) (m n:Nat) (f0:Int×Int->Int) (e_1:vs=[.ref s,.int (m:Int),.int (n:Int),.ref td]) (e_2:ShopAt C H s b ks) (e_3:ks.length<=8) (e_4:0<=b) (e_5:1<=m) (e_6:m<=16) (e_7:1<=n) (e_8:n<=16) (e_9:H td=some (.dT (byP (bN f0 (ao m n))))) (e_10:(∀p∈ao m n,0<=f0 p)) (e_11:∀ (ob:Obj) (H':Hp),H' td=some (.frz ob (.dT (byP (bN f0 (ao m n)))))->But td H H'->Q (.bl (fC b ks f0 m n)) H'):spBearsT C vs H Q E_
theorem sciskey:FnScope ["wide","high","thing","a","b"] ["wide","high","thing"] (defScope jH):=⟨Y,Y,Y,by decide +kernel,Y,by decide +kernel,by decide +kernel⟩
theorem uw {f:Addr} {fd:KD} (F:Fun K "is_key" "is_key" jH f fd) (B:Blt mg) (DW:Dn P w K mg base "is_whole" ["thing","least"] 1 (bU K)):FnOk P w K mg base CX0 2 f fd ["wide","high","thing"] (spIsKey):=by
 refine F.ok sciskey (λ vs H Q E h=>?_) (λ cdv A outer s H vs Q E hr h=>?_)
 ·obtain ⟨t,m,n,p,rfl,_⟩:=h
  rfl
 obtain ⟨t,m,n,p,rfl,ht,hp,q⟩:=h;have nd:=sciskey.nd;refine ⟨_,(ad (aI (PW.pt (bQ (aR (aK (aO bX rfl B.isi PyProof.Rows.boot_isinstance ((pv 2)^^^((cK (v:=.ty "tuple") rfl B.tuple PyProof.Rows.boot_tuple rfl)^^^ab)) (by decide) (by decide) rfl rfl) (by intro _; rfl))) (bK (az fg (aO bG rfl B.len PySem.boot_len ((pv 2)^^^ab) (by decide) (by decide) rfl rfl) af (aw _))))) (ag (au bD)) av) (ad (bm (pv 2) (aS rfl (ah (ai (i:=3) nd rfl (Or.inl rfl)) (ah (ai (i:=4) nd rfl (Or.inl rfl)) aG))) rfl rfl rfl) (ag (au (bL (aq DW hr rfl ((pv 3)^^^(af^^^ab)) (by decide) rfl rfl) (bL (aq DW hr rfl ((pv 4)^^^(af^^^ab)) (by decide) rfl rfl) (bL (be cM (pv 3) (pv 0) (aw _)) (bV (be cM (pv 4) (pv 1) (aw _)))))))))),?_⟩;obtain ⟨⟨p1,p2⟩,p3,p4⟩:=partsL_mem.mp hp;refine ap (λ R=>R [some (.int (m:Int)),some (.int (n:Int)),some (.ref t),none,none] H) (λ Dd hR=>?_) ?_
 ·exact ⟨_,Y,_,_,_,_,_,Y,.tup ht,Y,yb,_,Y,aF ⟨_,Y,t,_,Y,.inr (KI ht),Y,_,Y,aF (hR)⟩⟩
 skip
 refine ap (λ R=>R [some (.int (m:Int)),some (.int (n:Int)),some (.ref t),some (.int p.1),some (.int p.2)] H) (λ Dd hR=>?_) ?_
 ·exact ⟨_,Y,t,_,Y,KI ht,Y,_,_,Y,_,_,Y,Y,hR⟩
 skip
 refine ⟨_,Y,.int p.1,"int",1,Y,Ty.int,_,Y,?_⟩;rw [show aQ (.int p.1) 1=true from decide_eq_true p1];refine aV ⟨_,rfl,.int p.2,"int",1,rfl,Ty.int,_,rfl,?_⟩;rw [show aQ (.int p.2) 1=true from decide_eq_true p3];refine aV ⟨_,rfl,_,rfl,_,_,rfl,rfl,_,rfl,?_⟩;rw [show decide (p.1<=(m:Int))=true from decide_eq_true p2];refine aV ⟨_,rfl,_,rfl,_,_,rfl,rfl,?_⟩;show Q (.bl (decide (p.2<=(n:Int)))) H;rw [show decide (p.2<=(n:Int))=true from decide_eq_true p4];exact q
theorem scistab:FnScope ["wide","high","thing"] ["wide","high","thing"] (defScope eA):=⟨Y,Y,Y,by decide +kernel,Y,by decide +kernel,by decide +kernel⟩
theorem ux {f:Addr} {fd:KD} (F:Fun K "is_table" "is_table" eA f fd) (B:Blt mg) (hdc:mg "dict" = none) (DW:Dn P w K mg base "is_whole" ["thing","least"] 1 (bU K)) (DK:Dn P w K mg base "is_key" ["wide","high","thing"] 2 (spIsKey)):FnOk P w K mg base CX0 3 f fd ["wide","high","thing"] (spIsTab):=by
 refine F.ok scistab (λ vs H Q E h=>?_) (λ cdv A outer s H vs Q E hr h=>?_)
 ·obtain ⟨td,m,n,f0,rfl,_⟩:=h
  rfl
 obtain ⟨td,m,n,f0,rfl,m16,n16,htd,h0,q⟩:=h;have nd:=scistab.nd;have hu:=hr.units;have hu1:=C6 (Nat.add_le_add_left (show 1<=64 by decide) _) hu;refine ⟨_,(ad (aI (PW.pt (bQ (aR (aK (aO bX rfl B.isi PyProof.Rows.boot_isinstance ((pv 2)^^^((cK (v:=.ty "dict") rfl hdc PyProof.Rows.boot_dict rfl)^^^ab)) (by decide) (by decide) rfl rfl) (by intro _; rfl))) (bK (az fg (aO mv rfl B.len PySem.boot_len ((pv 2)^^^ab) (by decide) (by decide) rfl rfl) (aA dA (pv 0) (pv 1)) (aw _))))) (ag (au bD)) av) (ag (au (aO (iR rfl) rfl B.all PyProof.Rows.boot_all ((dB (own:=["key","number"]) (cs:=["wide","high"]) (cap:=[0,1]) rfl (sY (pv 2)) (bv (sc:=defScope eA) (N:=["wide","high","thing"]) rfl rfl (by decide +kernel)) (λ _ _ _ _ _=>jw K rfl rfl (by show List.Nodup (["key","number","wide","high"]:List Str) ; decide +kernel) rfl rfl rfl rfl) (λ _ _ _ _ _=>bR) (λ _ _ _ _ _=>(bL (aq DK hr rfl ((pv 2)^^^((pv 3)^^^((pv 0)^^^ab))) (by decide) rfl rfl) (bV (aq DW (hr.mono (by decide)) rfl ((pv 1)^^^(af^^^ab)) (by decide) rfl rfl)))))^^^ab) (by decide) (by decide) rfl rfl)))),?_⟩;have z4:4096<=sizeLine:=by decide
 have mn:m * n<=256:=Nat.mul_le_mul m16 n16;have tl:(byP (bN f0 (ao m n))).length=m * n:=by rw [lE,bI]
 refine ap (λ R=>R [some (.int (m:Int)),some (.int (n:Int)),some (.ref td)] H) (λ Dd hR=>?_) ?_
 ·refine ⟨_,Y,_,_,_,_,_,Y,.dT htd,Y,yc,_,Y,aF ?_⟩;refine ⟨_,Y,td,_,Y,htd,_,Y,_,Y,_,_,Y,Y,.inl ⟨by omega,by omega⟩,Y,_,Y,?_⟩;rw [tl,show (!decide (V.int ((m * n:Nat):Int)=V.int ((m:Int) * (n:Int))))=false by rw [decide_eq_true (by rw [Int.natCast_mul])]; rfl];exact aF (hR)
 skip
 refine ⟨_,Y,td,_,Y,htd,λ ob=>?_⟩;have hf:(upd H td (.frz ob (.dT (byP (bN f0 (ao m n)))))) td=some (.frz ob (.dT (byP (bN f0 (ao m n))))):=ae;have bt:But td H (upd H td (.frz ob (.dT (byP (bN f0 (ao m n)))))):=λ c o nn e=>by rw [aj nn]; exact e
 generalize upd H td (.frz ob (.dT (byP (bN f0 (ao m n)))))=H1 at hf bt ⊢;refine mz (a:=td) (ob:=ob) (kvs:=(byP (bN f0 (ao m n)))) (λ i us Hx=>us=(List.replicate i true).map V.bl/\Same H1 Hx) ⟨rfl,Same.refl _⟩ (λ i us Hx _ ⟨_,sx⟩=>sx _ _ hf) ?_ ?_ ?_
 ·rintro i kk v pa qa us Hx hkv hpa hqa ⟨rfl,sx⟩;obtain ⟨p,hp,rfl,rfl⟩:=pO hkv;have pm:=B5 hp;have il:=(A6.mp hkv).1;obtain ⟨Hy,e1,k1,s1⟩:∃H',upd Hx pa (.tup [.ref qa,.int (f0 p)])=H'/\H' pa=some (.tup [.ref qa,.int (f0 p)])/\Same Hx H':=⟨_,Y,ae,KH hpa⟩
  rw [show upd Hx pa _=Hy from e1];have hqa:Hx qa=some (.tup [.int p.1,.int p.2]):=hqa;refine ⟨pa,_,Y,KI k1,Y,_,_,Y,_,_,Y,Y,vJ (leS.set rfl) (leS.set rfl),bS ?_⟩;refine ⟨_,Y,_,Y,_,Y,qa,m,n,p,Y,s1 _ _ hqa,pm,_,Y,aV ⟨_,Y,.int (f0 p),"int",0,Y,Ty.int,?_⟩⟩;rw [show aQ (.int (f0 p)) 0=true from decide_eq_true (h0 p pm)];refine ⟨_,(by omega:(byP (bN f0 (ao m n))).length - (i + 1) < (byP (bN f0 (ao m n))).length - i),Y,il,?_,sx.trans s1⟩;rw [List.replicate_succ',List.map_append]
  rfl
 ·rintro i us Hx il ⟨rfl,sx⟩;rw [List.length_map,List.length_replicate]; omega
 ·rintro us Hx ⟨rfl,sx⟩;rw [List.length_map,List.length_replicate];refine ⟨by omega,λ l hl=>⟨l,List.replicate (byP (bN f0 (ao m n))).length true,Y,KJ ae,?_⟩⟩;rw [show (List.replicate (byP (bN f0 (ao m n))).length true).all id=true by rw [List.all_eq_true]; intro x hx; rw [(List.mem_replicate.mp hx).2]; rfl];exact q ob _ ((KH hl) _ _ (sx _ _ hf)) λ c o nn e=>(KH hl) _ _ (sx _ _ (bt _ _ nn e))
theorem scbearsp:FnScope ["shop","part","table","kinds","kind","turned","way","p","first","second"] ["shop","part","table"] (defScope dN):=⟨Y,Y,Y,by decide +kernel,Y,by decide +kernel,by decide +kernel⟩
theorem rc {f C:Addr} {fd:KD} (F:Fun K "bears_part" "bears_part" dN f fd) (B:Blt mg) (T:ShopTxt K C) (MB:Mn P w K mg base C "blade" ["self"] 1 (dD C)) (MKi:Mn P w K mg base C "kinds" ["self"] 1 (eK C)) (DLy:Dn P w K mg base "lyings_in" ["shop","part"] 5 (spLyIn C)) (DCu:Dn P w K mg base "cuts_of" ["blade","part"] 2 (spCuts)):FnOk P w K mg base CX0 6 f fd ["shop","part","table"] (spBearsP C):=by
 refine F.ok scbearsp (λ vs H Q E h=>?_) (λ cdv A outer s H vs Q E hr h=>?_)
 ·obtain ⟨s,t,td,b,ks,m,n,p,f0,rfl,_⟩:=h
  rfl
 obtain ⟨s,t,td,b,ks,m,n,p,f0,rfl,S0,k8,b0,ht,hp,m16,n16,rd,q⟩:=h;have nd:=scbearsp.nd;have hu:=hr.units;have hu1:=C6 (Nat.add_le_add_left (show 1<=64 by decide) _) hu;refine ⟨_,(ad (@ax _ _ 3 _ _ _ _ nd rfl (Or.inl rfl) (cW (pv 0) T.cl MKi (hr.mono (by decide))) rfl (Or.inl rfl)) (ad (bE E5 rfl (bq (aq DLy (hr.mono (by decide)) rfl ((pv 0)^^^((pv 1)^^^ab)) (by decide) rfl rfl)) (aS rfl (ah (ai (i:=4) nd rfl (Or.inl rfl)) (ah (ai (i:=5) nd rfl (Or.inl rfl)) aG))) (ag (aI (az cN (ay ix_tup (ay ix_list (pv 3) (pv 4) (λ _ _=>rfl)) af (λ _ _=>rfl)) (bZ hu1 (pv 2) (pv 1) (λ _ _=>rfl)) (aw _)) (ag (au bD)) av)) (by intro _; rfl)) (ad (bE E5 rfl (bq (aq DCu (hr.mono (by decide)) rfl ((cW (pv 0) T.cl MB (hr.mono (by decide)))^^^((pv 1)^^^ab)) (by decide) rfl rfl)) (aS rfl (ah (ai (i:=6) nd rfl (Or.inl rfl)) (ah (ai (i:=7) nd rfl (Or.inl rfl)) (ah (ai (i:=8) nd rfl (Or.inl rfl)) (ah (ai (i:=9) nd rfl (Or.inl rfl)) aG))))) (ag (aI (az cN (aA aM (bZ hu1 (pv 2) (pv 8) (λ _ _=>rfl)) (bZ hu1 (pv 2) (pv 9) (λ _ _=>rfl))) (bZ hu1 (pv 2) (pv 1) (λ _ _=>rfl)) (aw _)) (ag (au bD)) av)) (by intro _; rfl)) (ag (au bD))))),?_⟩;have z4:4096<=sizeLine:=by decide
 obtain ⟨⟨p1,p2⟩,p3,p4⟩:=partsL_mem.mp hp;have eT:=fZ (f:=f0) hp;obtain ⟨dx,r0,rs0,g1,g2,g3⟩:=id S0;refine ap (λ R=>∀ (kl:Addr) (rs:List V) (H':Hp),H' kl=some (.lst rs)->Tups H' rs ks->Same H H'->R [some (.ref s),some (.ref t),some (.ref td),some (.ref kl),none,none,none,none,none,none] H') (λ Dd hR=>?_) ?_
 ·refine ⟨_,Y,s,dx,_,Y,g1,bH _ _ (by decide +kernel) (by decide +kernel),s,b,ks,Y,S0,λ kl rs hkl tp=>?_⟩;obtain ⟨H1,e1,k1,s1⟩:∃H',upd H kl (.lst rs)=H'/\H' kl=some (.lst rs)/\Same H H':=⟨_,Y,ae,KH hkl⟩
  rw [show upd H kl _=H1 from e1];exact hR kl rs _ k1 (Tups.keep (λ c xs e=>s1 _ _ e) tp) s1
 rintro kl rs H1 hk1 tp1 s1;have S1:=S0.keep (λ c o e=>s1 _ _ e) (λ c C' d fs e=>s1 _ _ e);refine vB (λ R=>∀ (v4 v5:Option V) (H':Hp),lyB ks f0 p ((lyK ks 0).filter (ck ks p.1 p.2))=true->Same H H'->R [some (.ref s),some (.ref t),some (.ref td),some (.ref kl),v4,v5,none,none,none,none] H') (λ R hR=>?_) ?_
 ·refine ⟨_,Y,_,Y,s,t,b,ks,p.1,p.2,Y,S1,k8,s1 _ _ ht,λ l ys H2 hl hl2 ly s2=>?_⟩;have kk:=s2 _ _ hk1;have tp2:Tups H2 rs ks:=Tups.keep (λ c o e=>s2 _ _ e) tp1;have yl:=E4 ly;refine ⟨l,Y,⟨_,KJ hl2⟩,bJ (xs:=ys) (λ i σ' H'=>∃v4 v5:Option V,σ'=[some (.ref s),some (.ref t),some (.ref td),some (.ref kl),v4,v5,none,none,none,none]/\lyB ks f0 p (((lyK ks 0).filter (ck ks p.1 p.2)).take i)=true/\H2=H') ⟨none,none,Y,Y,Y⟩ (λ i σ Hx _ ⟨_,_,_,_,e⟩=>by subst e; exact KJ hl2) ?_ ?_⟩
  ·rintro i x σ Hx hi ⟨v4,v5,rfl,hb,rfl⟩;obtain ⟨⟨ki,c⟩,hq,qa,rfl,hqa⟩:=KL ly hi;obtain ⟨_,k,hk⟩:=jK (List.mem_filter.mp (B5 hq)).1;have hk:ks[ki]? = some k:=hk;obtain ⟨vv,hvv,hva⟩:=Paired.getL tp2 hk;obtain ⟨a,rfl,ha2⟩:=hva;have hat:atI rs (ki:Int)=some (.ref a):=aU (by omega) (by rw [Int.toNat_natCast]; exact hvv);have ewq:wq ks (ki,c)=k.wo:=by unfold wq; simp only [hk]
   refine ⟨qa,_,Y,KI hqa,Y,_,_,Y,_,_,Y,Y,?_⟩;have s02:=s1.trans s2;refine ⟨_,Y,_,Y,kl,_,_,_,Y,Y,KJ kk,hat,a,_,2,_,Y,Y,KI ha2,Y,_,Y,_,Y,td,.int (f0 p),Y,.inr ⟨_,pk p,t,uv rd s02,Y,s02 _ _ ht,eT.symm⟩,_,_,Y,Y,_,Y,?_⟩
   by_cases c1:f0 p < k.wo
   ·rw [show decide (f0 p < k.wo)=true from decide_eq_true c1];have e:bP b ks f0 p=false:=by unfold bP lyB;rw [jf (List.mem_of_getElem? hq) (decide_eq_false (by rw [ewq]; omega))]; rfl
    rw [e] at q;exact aV (q H2 s02)
   ·rw [show decide (f0 p < k.wo)=false from decide_eq_false c1];refine aF ⟨_,_,rfl,?_,rfl⟩;unfold lyB at hb ⊢;rw [lF hq,hb,decide_eq_true (by rw [ewq]; omega)]; rfl
  ·rintro σ Hx ⟨v4,v5,rfl,hb,rfl⟩;rw [yl,List.take_length] at hb;exact hR v4 v5 _ hb (s1.trans s2)
 rintro v4 v5 H2 hly s2;have S2:=S0.keep (λ c o e=>s2 _ _ e) (λ c C' d fs e=>s2 _ _ e);refine bo (λ σ' H'=>∃H2:Hp,cuB b f0 p (aJ b p.1 p.2)=true/\Same H H'/\(∃v6 v7 v8 v9:Option V,σ'=[some (.ref s),some (.ref t),some (.ref td),some (.ref kl),v4,v5,v6,v7,v8,v9])) (λ R hR=>?_) ?_
 ·refine ⟨_,Y,s,dx,_,Y,(s2 _ _ g1),bH _ _ (by decide +kernel) (by decide +kernel),s,b,ks,Y,S2,_,Y,b,p.1,p.2,t,Y,s2 _ _ ht,by omega,by omega,b0,λ l ys H3 hl pc s3=>?_⟩;have yl:=E4 pc;have s03:=s2.trans s3;refine ⟨l,Y,⟨_,KJ hl⟩,bJ (xs:=ys) (λ i σ' H'=>(∃v6 v7 v8 v9:Option V,σ'=[some (.ref s),some (.ref t),some (.ref td),some (.ref kl),v4,v5,v6,v7,v8,v9])/\cuB b f0 p ((aJ b p.1 p.2).take i)=true/\H3=H') ⟨⟨_,_,_,_,Y⟩,Y,Y⟩ (λ i σ Hx _ ⟨_,_,e⟩=>by subst e; exact KJ hl) ?_ ?_⟩
  ·rintro i x σ Hx hi ⟨⟨v6,v7,v8,v9,rfl⟩,hb,rfl⟩;obtain ⟨c,hc,q',t1,t2,rfl,h1',h2',h3'⟩:=KL pc hi;have cm:=B5 hc;obtain ⟨⟨a1,a2,a3,a4,_,_⟩,⟨c1,c2,c3,c4,_,_⟩⟩:=aY b0 p1 p3 cm;have e1:=fZ (f:=f0) (p:=aD p.1 p.2 c) (partsL_mem.mpr ⟨⟨a1,by omega⟩,a2,by omega⟩:_∈ao m n);have e2:=fZ (f:=f0) (p:=aE b p.1 p.2 c) (partsL_mem.mpr ⟨⟨c1,by omega⟩,c2,by omega⟩:_∈ao m n);refine ⟨q',_,Y,KI h1',Y,_,_,Y,_,_,Y,_,_,Y,_,_,Y,Y,?_⟩;have rd3:=uv rd s03;refine ⟨_,Y,_,Y,td,.int _,Y,.inr ⟨_,pk (aD p.1 p.2 c),t1,rd3,Y,h2',e1.symm⟩,_,Y,_,Y,td,.int _,Y,.inr ⟨_,pk (aE b p.1 p.2 c),t2,rd3,Y,h3',e2.symm⟩,_,_,Y,Y,_,Y,_,Y,td,.int (f0 p),Y,.inr ⟨_,pk p,t,rd3,Y,s03 _ _ ht,eT.symm⟩,_,_,Y,Y,_,Y,?_⟩
   by_cases c1:f0 p < f0 (aD p.1 p.2 c) + f0 (aE b p.1 p.2 c)
   ·rw [show decide (f0 p < f0 (aD p.1 p.2 c) + f0 (aE b p.1 p.2 c))=true from decide_eq_true c1];have e:bP b ks f0 p=false:=by unfold bP cuB;rw [jf cm (decide_eq_false (by unfold vV; omega)),Bool.and_false]
    rw [e] at q;exact aV (q H3 s03)
   ·rw [show decide (f0 p < f0 (aD p.1 p.2 c) + f0 (aE b p.1 p.2 c))=false from decide_eq_false c1];refine aF ⟨⟨_,_,_,_,rfl⟩,?_,rfl⟩;unfold cuB at hb ⊢;rw [lF hc,hb,decide_eq_true (by unfold vV; omega)]; rfl
  ·rintro σ Hx ⟨e,hb,rfl⟩;rw [yl,List.take_length] at hb;exact hR _ _ ⟨H3,hb,s03,e⟩
 rintro _ H3 ⟨_,hcu,s3,⟨v6,v7,v8,v9,rfl⟩⟩;have e:bP b ks f0 p=true:=by unfold bP;rw [hly,hcu]; rfl
 rw [e] at q;exact q H3 s3
theorem scbearst:FnScope ["shop","wide","high","table"] ["shop","wide","high","table"] (defScope ic):=⟨Y,Y,Y,by decide +kernel,Y,by decide +kernel,by decide +kernel⟩
theorem re {f wa C:Addr} {fd:KD} (F:Fun K "bears" "bears" ic f fd) (Z:BeC K mg wa) (B:Blt mg) (DCP:Dn P w K mg base "check_plate" ["wide","high"] 2 (spCP)) (DCS:Dn P w K mg base "check_sides" ["wide","high","most"] 1 (spCS)) (DIT:Dn P w K mg base "is_table" ["wide","high","thing"] 3 (spIsTab)) (DBP:Dn P w K mg base "bears_part" ["shop","part","table"] 6 (spBearsP C)) (DPU:Dn P w K mg base "parts_up_to" ["wide","high"] 1 (spParts)):FnOk P w K mg base CX0 7 f fd ["shop","wide","high","table"] (spBearsT C):=by
 refine F.ok scbearst (λ vs H Q E h=>?_) (λ cdv A outer s H vs Q E hr h=>?_)
 ·obtain ⟨s,td,b,ks,m,n,f0,rfl,_⟩:=h
  rfl
 obtain ⟨s,td,b,ks,m,n,f0,rfl,S0,k8,b0,m1,m16,n1,n16,htd,h0,q⟩:=h;have nd:=scbearst.nd;obtain ⟨tms,hms⟩:=Z.ms;refine ⟨_,(ad (bj (aq DCP (hr.mono (by decide)) rfl ((pv 1)^^^((pv 2)^^^ab)) (by decide) rfl rfl) rfl) (ad (bj (aq DCS (hr.mono (by decide)) rfl ((pv 1)^^^((pv 2)^^^((aL (v:=.int 16) rfl hms ⟨tms,Y⟩)^^^ab))) (by decide) rfl rfl) rfl) (ad (aI (aR (aK (aq DIT (hr.mono (by decide)) rfl ((pv 1)^^^((pv 2)^^^((pv 3)^^^ab))) (by decide) rfl rfl) (by intro _; rfl))) (ag cY) av) (ag (au (aO (iR rfl) rfl B.all PyProof.Rows.boot_all ((dB (own:=["part"]) (cs:=["shop","table"]) (cap:=[0,3]) rfl (bq (aq DPU (hr.mono (by decide)) rfl ((pv 1)^^^((pv 2)^^^ab)) (by decide) rfl rfl)) (bv (sc:=defScope ic) (N:=["shop","wide","high","table"]) rfl rfl (by decide +kernel)) (λ _ _ _ _ _=>ai (i:=0) (by show List.Nodup (["part","shop","table"]:List Str) ; decide +kernel) rfl (Or.inl rfl) (Or.inr rfl)) (λ _ _ _ _ _=>bR) (λ _ _ _ _ _=>(aq DBP hr rfl ((pv 1)^^^((pv 0)^^^((pv 2)^^^ab))) (by decide) rfl rfl)))^^^ab) (by decide) (by decide) rfl rfl)))))),?_⟩;have z4:4096<=sizeLine:=by decide
 have mn:m * n<=256:=Nat.mul_le_mul m16 n16;refine ap (λ R=>R [some (.ref s),some (.int (m:Int)),some (.int (n:Int)),some (.ref td)] H) (λ Dd hR=>?_) ?_
 ·exact ⟨_,Y,_,Y,m,n,Y,by omega,by omega,hR⟩
 skip
 refine ap (λ R=>R [some (.ref s),some (.int (m:Int)),some (.int (n:Int)),some (.ref td)] H) (λ Dd hR=>?_) ?_
 ·exact ⟨_,Y,_,Y,m,n,16,Y,by omega,by omega,hR⟩
 skip
 refine ap (λ R=>∀ (ob:Obj) (H':Hp),H' td=some (.frz ob (.dT (byP (bN f0 (ao m n)))))->But td H H'->R [some (.ref s),some (.int (m:Int)),some (.int (n:Int)),some (.ref td)] H') (λ Dd hR=>?_) ?_
 ·exact ⟨_,Y,_,Y,_,Y,td,m,n,f0,Y,m16,n16,htd,h0,λ ob H1 f1 b1=>⟨_,Y,aF (hR ob _ f1 b1)⟩⟩
 rintro ob H1 f1 b1;have rd0:Rd H td (.dT (byP (bN f0 (ao m n)))):=.inl htd;have S1:ShopAt C H1 s b ks:=S0.keep (λ c xs e=>b1 _ _ (fm rd0 e) e) (λ c C' d fs e=>b1 _ _ (Dr rd0 e) e);rw [<- uu h0] at q;refine ⟨_,Y,_,Y,m,n,Y,m16,n16,λ l ys H2 hl py s2=>?_⟩;have yl:=E4 py;have pl:(ao m n).length=m * n:=bI m n;refine ⟨l,Y,⟨_,KJ hl⟩,(ed (K:=K) (.inl hl) (λ i us Hx=>us=(((ao m n).take i).map (bP b ks f0)).map V.bl/\Same H2 Hx) (λ i us Hx _ ⟨_,sx⟩ o e=>sx _ _ e) ⟨Y,Same.refl _⟩ ?_ ?_).1 hl⟩
 ·rintro i y us Hx hi ⟨rfl,sx⟩;have hin:i < ys.length:=(A6.mp hi).1;obtain ⟨p,hp,qa,rfl,hqa⟩:=KL py hi;have s1x:=s2.trans sx;refine ⟨by rw [List.length_map,List.length_map,List.length_take]; omega,leS.set rfl,bS ?_⟩;refine ⟨_,Y,_,Y,_,Y,s,qa,td,b,ks,m,n,p,f0,Y,S1.keep (λ c xs e=>s1x _ _ e) (λ c C' d fs e=>s1x _ _ e),k8,b0,sx _ _ hqa,B5 hp,m16,n16,.inr ⟨ob,s1x _ _ f1⟩,λ Hy sy=>⟨_,(by omega:ys.length - (i + 1) < ys.length - i),Y,hin,?_,sx.trans sy⟩⟩;rw [List.take_add_one,hp,List.map_append,List.map_append]
  rfl
 ·rintro us Hx ⟨rfl,sx⟩;rw [yl,List.take_length,List.length_map,List.length_map];refine ⟨by omega,λ l2 hl2=>⟨l2,(ao m n).map (bP b ks f0),Y,KJ ae,?_⟩⟩;rw [List.all_map];have sz:=KH (o:=.lst (((ao m n).map (bP b ks f0)).map V.bl)) hl2;exact q ob _ (sz _ _ (sx _ _ (s2 _ _ f1))) λ c o nn e=>sz _ _ (sx _ _ (s2 _ _ (b1 _ _ nn e)))
end
section
variable {P:KC} {w:KF} {K:C4} {mg:Str->Option KG} {base:Heap}
theorem scPot:FnScope ["_law_script","_law_place","_law_cell"] ["_law_script","_law_place"] (defScope vA):=⟨Y,Y,Y,by decide +kernel,Y,by decide +kernel,by decide +kernel⟩
theorem yd {f:Addr} {fd:KD} (F:Fun K "_law_pot" "_law_pot" vA f fd) (ml:mg "len" = none) (mi:mg "int" = none):FnOk P w K mg base CX0 1 f fd ["_law_script","_law_place"] (sG K):=by
 refine F.ok scPot (λ vs H Q E h=>?_) (λ cdv A outer s H vs Q E hr h=>?_)
 ·obtain ⟨a,ns,n,rfl,_⟩:=h
  rfl
 obtain ⟨a,ns,n,rfl,hS,n0,n1,h63,q⟩:=h;refine ⟨_,ad (ax (i:=2) scPot.nd rfl (Or.inl rfl) af)
  (ad (aI (az iG (pv 1) (aO bG rfl ml PySem.boot_len (aa (pv 0) ab)) (aw _)) (ag (ax (i:=2) scPot.nd rfl (Or.inl rfl) (ay ix_list (pv 0) (pv 1) (λ _ _=>rfl)))) av)
  (ag (au (bY (aa (aA dA (pv 2) (eJ pW rfl mi PyProof.Rows.boot_int (aa (be oq (pv 2) (aA gl af af) (aw _)) ab)))
   (aa (aA gW (aA aM (aA aM (aA dA (pv 2) af) (aA dA af (pv 1))) af) af) ab)))))),?_⟩
 have hl:(ns.map V.int).length=ns.length:=List.length_map _;have fin:∀c:Int,Pot (c * (if decide ((10:Int) ^ (18:Int).toNat<=c)=true then 1 else 0)) ((c * 48271 + 7919 * n + 12345) % 2147483629):=λ c=>by
  refine ⟨?_,Int.emod_nonneg _ (by decide),Int.emod_lt_of_pos _ (by decide)⟩
  by_cases hc:(10:Int) ^ (18:Int).toNat<=c
  ·rw [decide_eq_true hc,if_pos rfl];have:(0:Int)<=(10:Int) ^ (18:Int).toNat:=by decide
   omega
  ·rw [decide_eq_false hc,if_neg Bool.false_ne_true]; omega
 refine ⟨_,Y,_,Y,a,_,Y,.inl hS,_,_,Y,Y,_,Y,?_⟩;refine cV (λ c=>?_) (λ c=>?_)
 ·have c':n < ((ns.map V.int).length:Int):=C0 c;rw [hl] at c';have hk:n.toNat < ns.length:=by omega
  have hv:atI (ns.map V.int) n=some (.int ns[n.toNat]):=by
   have e:n=((n.toNat:Nat):Int):=by omega
   have z:atI (ns.map V.int) ((n.toNat:Nat):Int)=some (.int ns[n.toNat]):=ow (by rw [List.getElem?_map,List.getElem?_eq_getElem hk]; rfl);rw [<- e] at z; exact z
  refine ⟨_,Y,_,Y,a,_,_,_,Y,Y,hS,hv,?_⟩;refine ⟨_,Y,_,Y,_,_,Y,Y,⟨by decide,by decide,by decide⟩,_,_,Y,Y,.inr ⟨_,Y,_,_,Y,Y,.inr ⟨by split <;> decide,by split <;> decide⟩,_,Y,_,_,Y,Y,.inr ⟨by decide,by decide⟩,_,Y,_,_,Y,Y,.inl ⟨by decide,by decide⟩,_,_,Y,Y,_,_,Y,Y,_,_,Y,Y,(by show (0:Int) < 2147483629; decide),zS2,λ p hp=>?_⟩⟩;exact q p _ hp ⟨_,_,fin _,ae⟩ (λ b o e=>by rw [aj (am e hp)]; exact e)
 ·refine ⟨_,Y,_,Y,_,_,Y,Y,⟨by decide,by decide,by decide⟩,_,_,Y,Y,.inr ⟨_,Y,_,_,Y,Y,.inr ⟨by split <;> decide,by split <;> decide⟩,_,Y,_,_,Y,Y,.inr ⟨by decide,by decide⟩,_,Y,_,_,Y,Y,.inl ⟨by decide,by decide⟩,_,_,Y,Y,_,_,Y,Y,_,_,Y,Y,(by show (0:Int) < 2147483629; decide),zS2,λ p hp=>?_⟩⟩;exact q p _ hp ⟨_,_,fin _,ae⟩ (λ b o e=>by rw [aj (am e hp)]; exact e)
theorem scDraw:FnScope ["_law_pot_here","_law_many","_law_found"] ["_law_pot_here","_law_many"] (defScope oU):=⟨Y,Y,Y,by decide +kernel,Y,by decide +kernel,by decide +kernel⟩
theorem vY {f:Addr} {fd:KD} (F:Fun K "_law_draw" "_law_draw" oU f fd):FnOk P w K mg base CX0 1 f fd ["_law_pot_here","_law_many"] gs:=by
 refine F.ok scDraw (λ vs H Q E h=>?_) (λ cdv A outer s H vs Q E hr h=>?_)
 ·obtain ⟨p,m,rfl,_⟩:=h
  rfl
 obtain ⟨p,m,rfl,⟨a,b,pt,hp⟩,m0,m1,q⟩:=h;refine ⟨_,ad (aI (az cN (ay ix_list (pv 0) af (λ _ _=>rfl)) af (aw _))
   (ad (ax (i:=2) scDraw.nd rfl (Or.inl rfl) (aA gW (ay ix_list (pv 0) af (λ _ _=>rfl)) (pv 1)))
   (ad (bm (aA sw (ay ix_list (pv 0) af (λ _ _=>rfl)) (pv 1)) (rN (pv 0) af gZ))
   (ag (au (pv 2))))) av)
  (ad (bm (aA gW (aA aM (aA dA (ay ix_list (pv 0) af (λ _ _=>rfl)) af) af) af) (rN (pv 0) af gZ))
  (ag (au (aA gW (aA uV (aA gW (aA dA (ay ix_list (pv 0) af (λ _ _=>rfl)) (ay ix_list (pv 0) af (λ _ _=>rfl))) af) af) (pv 1))))),?_⟩
 have at0:atI [V.int a,V.int b] 0=some (.int a):=rfl;have at1:atI [V.int a,V.int b] 1=some (.int b):=rfl;refine ⟨_,Y,p,_,_,_,Y,Y,KJ hp,at0,_,_,Y,Y,_,Y,?_⟩;refine cV (λ c=>?_) (λ c=>?_)
 ·have c':0 < a:=C0 c;refine ⟨_,Y,p,_,_,_,Y,Y,KJ hp,at0,_,Y,_,_,Y,Y,m0,?_⟩;refine ⟨_,Y,p,_,_,_,Y,Y,KJ hp,at0,_,Y,_,_,Y,Y,⟨m0,m1⟩,_,Y,p,_,_,_,Y,Y,hp,Y,?_⟩;refine ⟨_,Y,q _ _ (Int.emod_nonneg _ (by omega)) (Int.emod_lt_of_pos _ m0) ⟨a / m,b,⟨Int.ediv_nonneg pt.a0 (by omega),pt.b0,pt.b1⟩,ae⟩ But.upd⟩
 ·refine ⟨_,Y,p,_,_,_,Y,Y,KJ hp,at1,_,_,Y,Y,.inr ⟨by decide,by decide⟩,_,_,Y,Y,_,_,Y,Y,(by show (0:Int) < 2147483629; decide),_,Y,p,_,_,_,Y,Y,hp,Y,?_⟩;have n0:0<=(b * 39373 + 611953) % 2147483629:=Int.emod_nonneg _ (by decide);have n1:(b * 39373 + 611953) % 2147483629 < 2147483629:=Int.emod_lt_of_pos _ (by decide);refine ⟨_,Y,p,_,_,_,Y,Y,KJ ae,Y,_,Y,p,_,_,_,Y,Y,KJ ae,Y,_,_,Y,Y,.inl ⟨by omega,by omega⟩,_,_,Y,Y,(by show (0:Int) < 2147483563; decide),_,_,Y,Y,⟨by decide,by decide⟩,_,Y,_,_,Y,Y,m0,?_⟩;exact q _ _ (Int.emod_nonneg _ (by omega)) (Int.emod_lt_of_pos _ m0) ⟨a,_,⟨pt.a0,n0,n1⟩,ae⟩ But.upd
theorem scNumber:FnScope ["_law_pot_here","_law_least","_law_way"] ["_law_pot_here","_law_least"] (defScope gL):=⟨Y,Y,Y,by decide +kernel,Y,by decide +kernel,by decide +kernel⟩
theorem rf {f:Addr} {fd:KD} (F:Fun K "_law_number" "_law_number" gL f fd) (D:Dn P w K mg base "_law_draw" ["_law_pot_here","_law_many"] 1 gs):FnOk P w K mg base CX0 2 f fd ["_law_pot_here","_law_least"] fJ:=by
 refine F.ok scNumber (λ vs H Q E h=>?_) (λ cdv A outer s H vs Q E hr h=>?_)
 ·obtain ⟨p,l,rfl,_⟩:=h
  rfl
 obtain ⟨p,l,rfl,pt,l0,l1,q⟩:=h;refine ⟨_,ad (ax (i:=2) scNumber.nd rfl (Or.inl rfl) (aq D hr rfl (aa (pv 0) (aa af ab))))
  (ad (aI (az iG (pv 2) af (aw _)) (ag (au (aA aM (pv 1) (aq D hr rfl (aa (pv 0) (aa af ab)))))) av)
  (ad (aI (az fe (pv 2) af (aw _)) (ag (au (aA aM (pv 1) (aq D hr rfl (aa (pv 0) (aa (aA dX (aA gl af af) (pv 1)) ab)))))) av)
  (ag (au (aA aM (aA aM (aA gl af af) (aA dA (aq D hr rfl (aa (pv 0) (aa (aA gl af af) ab))) (aA gl af af)))
   (aq D hr rfl (aa (pv 0) (aa (aA gl af af) ab)))))))),?_⟩
 have pw:∀ {i j:Int},i=10->0<=j->j<=60->CS i j:=λ {i j} a b c=>⟨b,by omega,by subst a; decide⟩
 refine ⟨_,Y,p,4,Y,pt,by decide,by decide,λ y H1 y0 y1 pt1 b1=>?_⟩;refine ⟨_,Y,_,_,Y,Y,_,Y,?_⟩;refine cV (λ c=>?_) (λ c=>?_)
 ·refine ⟨_,Y,_,Y,p,12,Y,pt1,by decide,by decide,λ r H2 r0 r1 pt2 b2=>⟨_,_,Y,Y,?_⟩⟩;exact q _ _ (by omega) (by omega) pt2 (b1.trans b2)
 ·refine ⟨_,Y,Y,_,Y,?_⟩;refine cV (λ c2=>?_) (λ c2=>?_)
  ·refine ⟨_,Y,_,Y,_,_,Y,Y,pw rfl (by decide) (by decide),_,Y,_,_,Y,Y,p,_,Y,pt1,?_,?_,λ r H2 r0 r1 pt2 b2=>⟨_,_,Y,Y,?_⟩⟩
   ·show (0:Int) < 10 ^ 60 - l;omega
   ·show (10 ^ 60:Int) - l<=10 ^ 60;omega
   ·have r1':r < 10 ^ 60 - l:=r1;exact q _ _ (by omega) (by omega) pt2 (b1.trans b2)
  ·refine ⟨_,_,Y,Y,pw rfl (by decide) (by decide),_,Y,_,_,Y,Y,pw rfl (by decide) (by decide),p,_,Y,pt1,by decide,by decide,λ r H2 r0 r1 pt2 b2=>?_⟩;have r1':r < 10 ^ 9:=r1;refine ⟨_,_,Y,Y,pw rfl (by decide) (by decide),_,_,Y,Y,.inl ⟨by omega,by omega⟩,_,_,Y,Y,_,Y,_,_,Y,Y,pw rfl (by decide) (by decide),p,_,Y,pt2,by decide,by decide,λ r' H3 r0' r1'' pt3 b3=>⟨_,_,Y,Y,?_⟩⟩;have r2':r' < 10 ^ 9:=r1'';refine q _ _ ?_ ?_ pt3 (b1.trans (b2.trans b3))
   ·show l<=10 ^ 59 + r * 10 ^ 40 + r';omega
   ·show 10 ^ 59 + r * 10 ^ 40 + r' < 10 ^ 60;omega
end
theorem But.refl' {p:Addr} {H:Hp}:But p H H:=λ _ _ _ e=>e
theorem rg {p:Addr} {H H':Hp} (b:But p H H') (pt:PotAt H p) {c:Addr} {xs:List V} (e:H c=some (.tup xs)):H' c=some (.tup xs):=by obtain ⟨_,hp⟩:=mD pt;exact b _ _ (λ z=>by rw [z,hp] at e; cases e) e
theorem PotAt.put {p l:Addr} {H:Hp} {o:HO} (x:PotAt H p) (n:p≠l):PotAt (upd H l o) p:=by obtain ⟨a,b,h,e⟩:=x;exact ⟨a,b,h,by rw [aj n]; exact e⟩
def vZ (k:Kd) (f0:Int×Int->Int) (m n:Nat):Prop:=∃p∈ao m n,dS k p.1 p.2=true/\f0 p < k.wo
theorem Ds {c:Bool} {a b:Prop} (h:c=true) (x:a):if c=true then a else b:=by rw [if_pos h]; exact x
theorem iu {c:Bool} {a b:Prop} (h:c=false) (x:b):if c=true then a else b:=by rw [if_neg (by rw [h]; exact Bool.false_ne_true)]; exact x
section
variable {P:KC} {w:KF} {K:C4} {mg:Str->Option KG} {base:Heap}
inductive spSmallA (vs:List V) (H:Hp) (Q:VK) (E_:XK):Prop
 | mk (p:Addr) (mo:Int) (e_1:vs=[.ref p,.int mo]) (e_2:PotAt H p) (e_3:1<=mo) (e_4:mo<=100) (e_5:∀ (t kl:Addr) (b:Int) (rs:List V) (ks:List Kd) (H':Hp),H' t=some (.tup [.int b,.ref kl])->H' kl=some (.lst rs)->Tups H' rs ks->kl≠p->H kl=none->(∀k∈ks,Good k)->1<=rs.length->rs.length<=8->0<=b->PotAt H' p->But p H H'->Q (.ref t) H'):spSmallA vs H Q E_
inductive spFtA (vs:List V) (H:Hp) (Q:VK) (E_:XK):Prop
 | mk (a:Addr) (k:Kd) (w h:Int) (e_1:vs=[.ref a,.int w,.int h]) (e_2:H a=some (.tup (kdV k))) (e_3:Q (.bl (dS k w h)) H):spFtA vs H Q E_
inductive spBett (vs:List V) (H:Hp) (Q:VK) (E_:XK):Prop
 | mk (a td:Addr) (k:Kd) (m n:Nat) (f0:Int×Int->Int) (e_1:vs=[.ref a,.ref td]) (e_2:H a=some (.tup (kdV k))) (e_3:H td=some (.dT (byP (bN f0 (ao m n))))) (e_4:∀ (r:Bool) (ob:Obj) (H':Hp),(r=true↔vZ k f0 m n)->H' td=some (.frz ob (.dT (byP (bN f0 (ao m n)))))->But td H H'->Q (.bl r) H'):spBett vs H Q E_
theorem scsmalla:FnScope ["_law_pot_here","_law_most","_law_kinds","_law_k","_law_wide","_law_high"] ["_law_pot_here","_law_most"] (defScope jI):=⟨Y,Y,Y,by decide +kernel,Y,by decide +kernel,by decide +kernel⟩
theorem rh {f:Addr} {fd:KD} (F:Fun K "_law_small" "_law_small" jI f fd) (B:Blt mg) (DD:Dn P w K mg base "_law_draw" ["_law_pot_here","_law_many"] 1 (gs)) (DN:Dn P w K mg base "_law_number" ["_law_pot_here","_law_least"] 2 (fJ)):FnOk P w K mg base CX0 3 f fd ["_law_pot_here","_law_most"] (spSmallA):=by
 refine F.ok scsmalla (λ vs H Q E h=>?_) (λ cdv A outer s H vs Q E hr h=>?_)
 ·obtain ⟨p,mo,rfl,_⟩:=h
  rfl
 obtain ⟨p,mo,rfl,pt,mo1,mo2,q⟩:=h;have nd:=scsmalla.nd;refine ⟨_,(ad (@ax _ _ 2 _ _ _ _ nd rfl (Or.inl rfl) (bY ab) rfl (Or.inl rfl)) (ad (bE E5 rfl (iE rfl B.range ((aA aM af (aq DD (hr.mono (by decide)) rfl ((pv 0)^^^(af^^^ab)) (by decide) rfl rfl))^^^ab)) (ai (i:=3) nd rfl (Or.inl rfl)) (ad (@ax _ _ 4 _ _ _ _ nd rfl (Or.inl rfl) (aA aM af (aq DD (hr.mono (by decide)) rfl ((pv 0)^^^((pv 1)^^^ab)) (by decide) rfl rfl)) rfl (Or.inl rfl)) (ad (@ax _ _ 5 _ _ _ _ nd rfl (Or.inl rfl) (aA aM af (aq DD (hr.mono (by decide)) rfl ((pv 0)^^^((pv 1)^^^ab)) (by decide) rfl rfl)) rfl (Or.inl rfl)) (ag (bj (fH KA PySem.F.slot_list_append PySem.F.type_list_append cD (pv 2) ((aB ((pv 4)^^^((pv 5)^^^((aq DN hr rfl ((pv 0)^^^(af^^^ab)) (by decide) rfl rfl)^^^((aq DD (hr.mono (by decide)) rfl ((pv 0)^^^(af^^^ab)) (by decide) rfl rfl)^^^((be fe (aq DD (hr.mono (by decide)) rfl ((pv 0)^^^(af^^^ab)) (by decide) rfl rfl) af (aw _))^^^ab))))))^^^ab) rfl rfl rfl rfl rfl) rfl)))) (by intro _; rfl)) (ag (au (aB ((aq DD (hr.mono (by decide)) rfl ((pv 0)^^^(af^^^ab)) (by decide) rfl rfl)^^^((pv 2)^^^ab))))))),?_⟩;have e60:(1000:Int) < 10 ^ 60:=by decide
 have sz:(100:Nat) < sizeLine:=by decide
 refine ap (λ R=>∀ (l:Addr) (H':Hp),l≠p->H l=none->H' l=some (.lst [])->PotAt H' p->But p H H'->R [some (.ref p),some (.int mo),some (.ref l),none,none,none] H') (λ Dd hR=>?_) ?_
 ·refine ⟨by decide,λ l hl=>?_⟩;obtain ⟨H2,e2,k2,n2,s2,b2,pt2⟩:=xT (o:=.lst []) But.refl' pt hl;rw [show upd H l _=H2 from e2];exact hR l _ n2 hl k2 pt2 b2
 rintro l H2 nlp hl0 hl2 pt2 b2;refine bo (λ σ' H'=>∃ (v3 v4 v5:Option V) (rs:List V) (ks:List Kd),σ'=[some (.ref p),some (.int mo),some (.ref l),v3,v4,v5]/\H' l=some (.lst rs)/\Tups H' rs ks/\(∀k∈ks,Good k)/\(1<=rs.length/\rs.length<=8)/\PotAt H' p/\But p H H') (λ R hR=>?_) ?_
 ·refine ⟨_,Y,p,8,Y,pt2,by decide,by decide,λ m H3 m0 m1 pt3 b3=>⟨_,_,Y,Y,_,Y,by omega,by omega,?_⟩⟩;refine gj (n:=(1 + m).toNat) (λ i σ' H'=>∃ (v3 v4 v5:Option V) (rs:List V) (ks:List Kd),σ'=[some (.ref p),some (.int mo),some (.ref l),v3,v4,v5]/\H' l=some (.lst rs)/\Tups H' rs ks/\(∀k∈ks,Good k)/\rs.length=i/\PotAt H' p/\But p H H') ⟨_,_,_,[],[],rfl,b3 _ _ nlp hl2,.nil,λ k hk=>by simp at hk,rfl,pt3,b2.trans b3⟩ ?_ ?_
  ·rintro i _ H4 hi ⟨v3,v4,v5,rs,ks,rfl,hl4,tp4,gk4,rl4,pt4,bt4⟩;have hi8:i < 8:=by have:i < (1 + m).toNat:=hi; omega
   refine ap (λ R=>∀ (w1:Int) (H':Hp),1<=w1->w1<=mo->PotAt H' p->But p H4 H'->R [some (.ref p),some (.int mo),some (.ref l),some (.int (0 + (i:Int))),some (.int w1),v5] H') (λ Dd hR=>?_) ?_
   ·exact ⟨_,Y,_,Y,p,mo,Y,pt4,by omega,by omega,λ w1 H5 w0 w1' pt5 b5=>⟨_,_,Y,Y,hR (1 + w1) _ (by omega) (by omega) pt5 b5⟩⟩
   rintro w1 H5 w10 w11 pt5 b45;refine ap (λ R=>∀ (h1:Int) (H':Hp),1<=h1->h1<=mo->PotAt H' p->But p H4 H'->R [some (.ref p),some (.int mo),some (.ref l),some (.int (0 + (i:Int))),some (.int w1),some (.int h1)] H') (λ Dd hR=>?_) ?_
   ·exact ⟨_,Y,_,Y,p,mo,Y,pt5,by omega,by omega,λ h1 H6 h0 h1' pt6 b6=>⟨_,_,Y,Y,hR (1 + h1) _ (by omega) (by omega) pt6 (b45.trans b6)⟩⟩
   clear pt5 b45;clear H5;rintro h1 H5 h10 h11 pt5 b45;have hl5:=b45 _ _ nlp hl4;refine ⟨_,Y,.inl ⟨Y,_,KJ hl5⟩,_,Y,_,Y,_,Y,p,0,Y,pt5,by decide,by decide,λ wo H6 wo0 wo1 pt6 b6=>?_⟩;refine ⟨_,Y,p,3,Y,pt6,by decide,by decide,λ wa H7 wa0 wa1 pt7 b7=>?_⟩;refine ⟨_,Y,p,2,Y,pt7,by decide,by decide,λ tu Hb tu0 tu1 ptb bb=>⟨Y,zS5,λ t ht=>?_⟩⟩;have b4b:=b45.trans (b6.trans (b7.trans bb));obtain ⟨H12,e12,k12,n12,s12,b12,pt12⟩:=xT (o:=.tup [.int w1,.int h1,.int wo,.int wa,.bl (decide (V.int tu=V.int 1))]) (bt4.trans b4b) ptb ht;rw [show upd Hb t _=H12 from e12];have k12:H12 t=some (.tup (kdV ⟨w1,h1,wo,wa,decide (V.int tu=V.int 1)⟩)):=k12;have hlc:=s12 _ _ (b4b _ _ nlp hl4);refine ⟨l,_,_,Y,Y,hlc,by omega,?_⟩;have kt:∀ {c:Addr} {xs:List V},H12 c=some (.tup xs)->(upd H12 l (.lst (rs ++ [.ref t]))) c=some (.tup xs):=λ {c xs} e=>by rw [aj (λ z=>by rw [z,hlc] at e; cases e)]; exact e
   refine ⟨_,_,_,rs ++ [.ref t],ks ++ [⟨w1,h1,wo,wa,decide (V.int tu=V.int 1)⟩],Y,ae,?_,λ k hk=>?_,by rw [List.length_append,rl4]; rfl,pt12.put (Ne.symm nlp),λ c o n e=>?_⟩
   ·exact Paired.app (Tups.keep (λ c xs e=>kt (s12 _ _ (rg b4b pt4 e))) tp4) (.cons ⟨t,Y,kt k12⟩ .nil)
   ·rcases C2.mp hk with hk | hk
    ·exact gk4 k hk
    ·rw [List.mem_singleton.mp hk];exact ⟨w10,h10,wo0,wa0,by show w1 < _; omega,by show h1 < _; omega,wo1,by show wa < _; omega⟩
   ·rw [aj (λ z=>by rw [z,hl0] at e; cases e)];exact b12 _ _ n e
  ·rintro _ H4 ⟨v3,v4,v5,rs,ks,rfl,hl4,tp4,gk4,rl4,pt4,bt4⟩;exact hR _ _ ⟨_,_,_,rs,ks,rfl,hl4,tp4,gk4,⟨by omega,by omega⟩,pt4,bt4⟩
 rintro _ H3 ⟨v3,v4,v5,rs,ks,rfl,hl3,tp3,gk3,⟨r1,r8⟩,pt3,bt3⟩;refine ⟨_,Y,p,4,Y,pt3,by decide,by decide,λ b1 H4 b10 b11 pt4 b4=>⟨_,Y,zS2,λ t ht=>?_⟩⟩;obtain ⟨H6,e6,k6,n6,s6,b6,pt6⟩:=xT (o:=.tup [.int b1,.ref l]) (bt3.trans b4) pt4 ht;rw [show upd H4 t _=H6 from e6];exact q t l _ rs ks H6 k6 (s6 _ _ (b4 _ _ nlp hl3)) (Tups.keep (λ c xs e=>s6 _ _ (rg b4 pt3 e)) tp3) nlp hl0 gk3 r1 r8 b10 pt6 b6
theorem scfta:FnScope ["_law_kind","_law_wide","_law_high"] ["_law_kind","_law_wide","_law_high"] (defScope oV):=⟨Y,Y,Y,by decide +kernel,Y,by decide +kernel,by decide +kernel⟩
theorem ye {f:Addr} {fd:KD} (F:Fun K "_law_fits" "_law_fits" oV f fd) (B:Blt mg):FnOk P w K mg base CX0 1 f fd ["_law_kind","_law_wide","_law_high"] (spFtA):=by
 refine F.ok scfta (λ vs H Q E h=>?_) (λ cdv A outer s H vs Q E hr h=>?_)
 ·obtain ⟨a,k,W,h1,rfl,_⟩:=h
  rfl
 obtain ⟨a,k,W,h1,rfl,ha,q⟩:=h;have nd:=scfta.nd;refine ⟨_,(ag (au (rJ (bL (be cM (ay ix_tup (pv 0) af (λ _ _=>rfl)) (pv 1) (aw _)) (bV (be cM (ay ix_tup (pv 0) af (λ _ _=>rfl)) (pv 2) (aw _)))) (bV (bL (ay ix_tup (pv 0) af (λ _ _=>rfl)) (bL (be cM (ay ix_tup (pv 0) af (λ _ _=>rfl)) (pv 1) (aw _)) (bV (be cM (ay ix_tup (pv 0) af (λ _ _=>rfl)) (pv 2) (aw _))))))))),?_⟩;have ha:H a=some (.tup [.int k.w,.int k.h,.int k.wo,.int k.wa,.bl k.tu]):=ha;unfold dS at q;refine ⟨_,Y,a,_,0,_,Y,Y,KI ha,Y,_,Y,_,_,Y,Y,_,Y,?_⟩
 by_cases c1:k.w<=W
 ·rw [decide_eq_true c1] at q ⊢;refine aV ⟨_,rfl,a,_,1,_,rfl,rfl,KI ha,rfl,_,rfl,_,_,rfl,rfl,_,rfl,?_⟩
  by_cases c2:k.h<=h1
  ·rw [decide_eq_true c2] at q ⊢;exact aV q
  ·rw [decide_eq_false c2,Bool.and_false,Bool.false_or] at q;rw [decide_eq_false c2];refine aF ?_;refine ⟨_,Y,a,_,4,_,Y,Y,KI ha,Y,_,Y,?_⟩
   by_cases c4:k.tu=true
   ·rw [c4] at q ⊢;refine aV ⟨_,rfl,a,_,1,_,rfl,rfl,KI ha,rfl,_,rfl,_,_,rfl,rfl,_,rfl,?_⟩
    by_cases c5:k.h<=W
    ·rw [decide_eq_true c5] at q ⊢;exact aV ⟨_,rfl,a,_,0,_,rfl,rfl,KI ha,rfl,_,rfl,_,_,rfl,rfl,q⟩
    ·rw [decide_eq_false c5] at q ⊢;exact aF q
   ·have c4:k.tu=false:=by simpa using c4
    rw [c4] at q ⊢;exact aF q
 ·rw [decide_eq_false c1,Bool.false_and,Bool.false_or] at q;rw [decide_eq_false c1];refine aF ⟨_,rfl,aF ?_⟩;refine ⟨_,Y,a,_,4,_,Y,Y,KI ha,Y,_,Y,?_⟩
  by_cases c4:k.tu=true
  ·rw [c4] at q ⊢;refine aV ⟨_,rfl,a,_,1,_,rfl,rfl,KI ha,rfl,_,rfl,_,_,rfl,rfl,_,rfl,?_⟩
   by_cases c5:k.h<=W
   ·rw [decide_eq_true c5] at q ⊢;exact aV ⟨_,rfl,a,_,0,_,rfl,rfl,KI ha,rfl,_,rfl,_,_,rfl,rfl,q⟩
   ·rw [decide_eq_false c5] at q ⊢;exact aF q
  ·have c4:k.tu=false:=by simpa using c4
   rw [c4] at q ⊢;exact aF q
theorem scbett:FnScope ["_law_kind","_law_table","_law_part"] ["_law_kind","_law_table"] (defScope eS):=⟨Y,Y,Y,by decide +kernel,Y,by decide +kernel,by decide +kernel⟩
theorem wc {f:Addr} {fd:KD} (F:Fun K "_law_bettered" "_law_bettered" eS f fd) (B:Blt mg) (DFt:Dn P w K mg base "_law_fits" ["_law_kind","_law_wide","_law_high"] 1 (spFtA)):FnOk P w K mg base CX0 2 f fd ["_law_kind","_law_table"] (spBett):=by
 refine F.ok scbett (λ vs H Q E h=>?_) (λ cdv A outer s H vs Q E hr h=>?_)
 ·obtain ⟨a,td,k,m,n,f0,rfl,_⟩:=h
  rfl
 obtain ⟨a,td,k,m,n,f0,rfl,ha,htd,q⟩:=h;have nd:=scbett.nd;have hu:=hr.units;have hu1:=C6 (Nat.add_le_add_left (show 1<=64 by decide) _) hu;refine ⟨_,(ad (bE E5 rfl (kO (pv 1)) (ai (i:=2) nd rfl (Or.inl rfl)) (ag (aI (PW.pt (rH (aK (aq DFt (hr.mono (by decide)) rfl ((pv 0)^^^((ay ix_tup (pv 2) af (λ _ _=>rfl))^^^((ay ix_tup (pv 2) af (λ _ _=>rfl))^^^ab))) (by decide) rfl rfl) (by intro _; rfl)) (oh (az cN (ay ix_tup (pv 0) af (λ _ _=>rfl)) (bZ hu1 (pv 1) (pv 2) (λ _ _=>rfl)) (aw _))))) (ag (au bD)) av)) (by intro _; rfl)) (ag (au bD))),?_⟩;have hat:H a=some (.tup [.int k.w,.int k.h,.int k.wo,.int k.wa,.bl k.tu]):=ha;have nat:a≠td:=λ z=>by rw [z,htd] at hat; cases hat
 refine bo (λ σ' H'=>∃ob:Obj,H' td=some (.frz ob (.dT (byP (bN f0 (ao m n)))))/\But td H H'/\¬ vZ k f0 m n) (λ R hR=>?_) ?_
 ·refine ⟨_,Y,td,_,Y,htd,λ ob=>?_⟩;have hf:(upd H td (.frz ob (.dT (byP (bN f0 (ao m n)))))) td=some (.frz ob (.dT (byP (bN f0 (ao m n))))):=ae;have bt:But td H (upd H td (.frz ob (.dT (byP (bN f0 (ao m n)))))):=λ c o nn e=>by rw [aj nn]; exact e
  generalize upd H td (.frz ob (.dT (byP (bN f0 (ao m n)))))=H1 at hf bt ⊢;have ha1:=bt _ _ nat hat;refine sT (a:=td) (ob:=ob) (kvs:=(byP (bN f0 (ao m n)))) (λ i σ' H'=>(∃v2:Option V,σ'=[some (.ref a),some (.ref td),v2])/\H1=H'/\∀j < i,∀p,(ao m n)[j]? = some p->¬ (dS k p.1 p.2=true/\f0 p < k.wo)) ⟨⟨_,rfl⟩,rfl,λ j hj=>absurd hj (G0 _)⟩ (λ i σ Hx _ ⟨_,e,_⟩=>e ▸ hf) ?_ (λ σ Hx ⟨_,e,no⟩=>hR _ _ ⟨ob,e ▸ hf,e ▸ bt,λ ⟨p,hp,h⟩=>?_⟩)
  ·rintro i ky v qa σ _ hkv hqa ⟨⟨v2,rfl⟩,rfl,no⟩;obtain ⟨p,hp,rfl,rfl⟩:=pO hkv;have hqa:H1 qa=some (.tup [.int p.1,.int p.2]):=hqa;have pm:=B5 hp;have nxt:¬ (dS k p.1 p.2=true/\f0 p < k.wo)->∀j < i + 1,∀p',(ao m n)[j]? = some p'->¬ (dS k p'.1 p'.2=true/\f0 p' < k.wo):=λ h j hj p' hp'=>by
    by_cases e:j=i
    ·rw [e,hp] at hp';cases hp';exact h
    ·exact no j (by omega) p' hp'
   refine ⟨_,Y,_,Y,qa,_,0,_,Y,Y,KI hqa,Y,_,Y,qa,_,1,_,Y,Y,KI hqa,Y,a,k,p.1,p.2,Y,ha1,_,Y,?_⟩
   by_cases c1:dS k p.1 p.2=true
   ·refine Ds c1 ⟨_,rfl,a,_,2,_,rfl,rfl,KI ha1,rfl,_,rfl,_,rfl,td,.int (f0 p),rfl,.inr ⟨_,pk p,qa,.inr ⟨ob,hf⟩,rfl,hqa,(fZ pm).symm⟩,_,_,rfl,rfl,_,rfl,?_⟩;refine cV (λ c2=>?_) (λ c2=>⟨⟨_,Y⟩,Y,nxt λ h=>c2 (B0 h.2)⟩);exact q true ob _ ⟨λ _=>⟨p,pm,c1,C0 c2⟩,λ _=>rfl⟩ hf bt
   ·exact iu (by simpa using c1) ⟨⟨_,rfl⟩,rfl,nxt λ h=>c1 h.1⟩
  ·obtain ⟨j,hj⟩:=List.mem_iff_getElem?.mp hp;exact no j (by rw [lE]; exact (A6.mp hj).1) p hj h
 rintro _ H1 ⟨ob,hf,bt,no⟩;exact q false ob H1 ⟨λ h=>(by cases h),λ h=>absurd h no⟩ hf bt
end
section
variable {P:KC} {w:KF} {K:C4} {mg:Str->Option KG} {base:Heap}
inductive spTrnd (C:Addr) (vs:List V) (H:Hp) (Q:VK) (E_:XK):Prop
 | mk (s:Addr) (b:Int) (ks:List Kd) (m n k:Nat) (e_1:vs=[.ref s,.int (m:Int),.int (n:Int),.int (k:Int),.int (bW b ks ((m:Int),(n:Int)))]) (e_2:ShopAt C H s b ks) (e_3:ks.length<=8) (e_4:(∀k∈ks,Good k)) (e_5:0<=b) (e_6:1<=m) (e_7:m<=10) (e_8:1<=n) (e_9:n<=10) (e_10:k<=20) (e_11:∀H',Same H H'->Q (.bl true) H'):spTrnd C vs H Q E_
theorem sctrnd:FnScope ["_law_shop","_law_wide","_law_high","_law_k","_law_most","_law_fewer","_law_more","_law_worth","_law_tree"] ["_law_shop","_law_wide","_law_high","_law_k","_law_most"] (defScope fT):=⟨Y,Y,Y,by decide +kernel,Y,by decide +kernel,by decide +kernel⟩
theorem we {f C:Addr} {fd:KD} (F:Fun K "_law_turned" "_law_turned" fT f fd) (B:Blt mg) (DIs:Dn P w K mg base "is_tree" ["shop","wide","high","thing"] 6 (spIsTree C)) (DOf:Dn P w K mg base "worth_of" ["shop","wide","high","tree"] 10 (spWorthO C)) (DTn:Dn P w K mg base "turns_of" ["shop","wide","high","tree"] 8 (spTurns C)) (DBy:Dn P w K mg base "best_by_turns" ["shop","wide","high","k"] 35 (spByT C)):FnOk P w K mg base CX0 36 f fd ["_law_shop","_law_wide","_law_high","_law_k","_law_most"] (spTrnd C):=by
 refine F.ok sctrnd (λ vs H Q E h=>?_) (λ cdv A outer s H vs Q E hr h=>?_)
 ·obtain ⟨s,b,ks,m,n,k,rfl,_⟩:=h
  rfl
 obtain ⟨s,b,ks,m,n,k,rfl,S0,k8,gk,b0,m1,m10,n1,n10,k20,q⟩:=h;have nd:=sctrnd.nd;refine ⟨_,(ad (@ax _ _ 5 _ _ _ _ nd rfl (Or.inl rfl) (aq DBy hr rfl ((pv 0)^^^((pv 1)^^^((pv 2)^^^((pv 3)^^^ab)))) (by decide) rfl rfl) rfl (Or.inl rfl)) (ad (@ax _ _ 6 _ _ _ _ nd rfl (Or.inl rfl) (aq DBy hr rfl ((pv 0)^^^((pv 1)^^^((pv 2)^^^((aA aM (pv 3) af)^^^ab)))) (by decide) rfl rfl) rfl (Or.inl rfl)) (ad (bE E5 rfl (bq (bY ((pv 5)^^^((pv 6)^^^ab)))) (aS rfl (ah (ai (i:=7) nd rfl (Or.inl rfl)) (ah (ai (i:=8) nd rfl (Or.inl rfl)) aG))) (ag (aI (PW.pt (bQ (aR (aK (aq DIs (hr.mono (by decide)) rfl ((pv 0)^^^((pv 1)^^^((pv 2)^^^((pv 8)^^^ab)))) (by decide) rfl rfl) (by intro _; rfl))) (bK (az fg (aq DOf (hr.mono (by decide)) rfl ((pv 0)^^^((pv 1)^^^((pv 2)^^^((pv 8)^^^ab)))) (by decide) rfl rfl) (pv 7) (aw _))))) (ag (au bD)) av)) (by intro _; rfl)) (ad (aI (PW.pt (bQ (az cN (aq DTn (hr.mono (by decide)) rfl ((pv 0)^^^((pv 1)^^^((pv 2)^^^((ay ix_tup (pv 5) af (λ _ _=>rfl))^^^ab)))) (by decide) rfl rfl) (pv 3) (aw _)) (bK (az cN (aq DTn (hr.mono (by decide)) rfl ((pv 0)^^^((pv 1)^^^((pv 2)^^^((ay ix_tup (pv 6) af (λ _ _=>rfl))^^^ab)))) (by decide) rfl rfl) (aA aM (pv 3) af) (aw _))))) (ag (au bD)) av) (ag (au (bL (rR cM cM (ay ix_tup (pv 5) af (λ _ _=>rfl)) (ay ix_tup (pv 6) af (λ _ _=>rfl)) (pv 4)) (bV (be fe (ay ix_tup (aq DBy hr rfl ((pv 0)^^^((pv 1)^^^((pv 2)^^^(af^^^ab)))) (by decide) rfl rfl) af (λ _ _=>rfl)) (pv 4) (aw _)))))))))),?_⟩;have sz:(100:Nat) < sizeLine:=by decide
 have m1':(1:Int)<=m:=by omega
 have n1':(1:Int)<=n:=by omega
 have shk:∀ {Ha Hb:Hp},Same Ha Hb->ShopAt C Ha s b ks->ShopAt C Hb s b ks:=λ sx h=>h.keep (λ c o e=>sx _ _ e) (λ c C' d fs e=>sx _ _ e);obtain ⟨w1,t1⟩:=TW.tR (ks:=ks) (k:=k) b0 m1 m10 n1 n10;obtain ⟨w2,t2⟩:=TW.tR (ks:=ks) (k:=k + 1) b0 m1 m10 n1 n10;refine ap (λ R=>∀ (r1:Addr) (v1:V) (H':Hp),H' r1=some (.tup [.int (tB b ks ((m:Int),(n:Int)) k),v1])->TrV H' (tR b ks ((m:Int),(n:Int)) k) v1->Same H H'->R [some (.ref s),some (.int (m:Int)),some (.int (n:Int)),some (.int (k:Int)),some (.int (bW b ks ((m:Int),(n:Int)))),some (.ref r1),none,none,none] H') (λ Dd hR=>?_) ?_
 ·exact ⟨_,Y,_,Y,_,Y,_,Y,s,b,ks,m,n,k,Y,S0,k8,b0,m1,by omega,n1,by omega,by omega,λ r v H1 hr tv s1=>hR r v _ hr tv s1⟩
 rintro r1 v1 H1 hr1 tv1 s1;refine ap (λ R=>∀ (r2:Addr) (v2:V) (H':Hp),H' r2=some (.tup [.int (tB b ks ((m:Int),(n:Int)) (k + 1)),v2])->TrV H' (tR b ks ((m:Int),(n:Int)) (k + 1)) v2->Same H1 H'->R [some (.ref s),some (.int (m:Int)),some (.int (n:Int)),some (.int (k:Int)),some (.int (bW b ks ((m:Int),(n:Int)))),some (.ref r1),some (.ref r2),none,none] H') (λ Dd hR=>?_) ?_
 ·exact ⟨_,Y,_,Y,_,Y,_,Y,_,_,Y,Y,s,b,ks,m,n,k + 1,Y,shk s1 S0,k8,b0,m1,by omega,n1,by omega,by omega,λ r v H2 hr tv s2=>hR r v _ hr tv s2⟩
 rintro r2 v2 H2 hr2 tv2 s12;have s02:=s1.trans s12;have hr1':=s12 _ _ hr1;have tv1':=TrV.keep (λ a xs e=>s12 _ _ e) _ tv1;refine bo (λ σ' H'=>(∃v7 v8,σ'=[some (.ref s),some (.int (m:Int)),some (.int (n:Int)),some (.int (k:Int)),some (.int (bW b ks ((m:Int),(n:Int)))),some (.ref r1),some (.ref r2),v7,v8])/\Same H2 H') (λ R hR=>?_) ?_
 ·refine ⟨_,Y,_,Y,zS2,λ ll hll=>?_⟩;obtain ⟨H3,e3,k3,s3⟩:∃H',upd H2 ll (.lst [.ref r1,.ref r2])=H'/\H' ll=some (.lst [.ref r1,.ref r2])/\Same H2 H':=⟨_,Y,ae,KH hll⟩
  rw [show upd H2 ll _=H3 from e3];refine ⟨ll,Y,⟨_,KJ k3⟩,bJ (xs:=[.ref r1,.ref r2]) (λ i σ' H'=>(∃v7 v8,σ'=[some (.ref s),some (.int (m:Int)),some (.int (n:Int)),some (.int (k:Int)),some (.int (bW b ks ((m:Int),(n:Int)))),some (.ref r1),some (.ref r2),v7,v8])/\Same H3 H') ⟨⟨_,_,Y⟩,Same.refl _⟩ (λ i σ H' _ h=>KJ (h.2 _ _ k3)) ?_ (λ σ H' h=>hR _ _ ⟨h.1,s3.trans h.2⟩)⟩;rintro i x _ H4 hi ⟨⟨v7,v8,rfl⟩,s34⟩;have s24:=s3.trans s34;obtain ⟨a,xw,v,T,rfl,ha,tv,tw⟩:∃ (a:Addr) (xw:Int) (v:V) (T:Tr),x=.ref a/\H4 a=some (.tup [.int xw,v])/\TrV H4 T v/\TW b ks m n T xw:=by
   match i,hi with
   | 0,hi=>cases hi; exact ⟨r1,_,v1,_,Y,s24 _ _ hr1',TrV.keep (λ a xs e=>s24 _ _ e) _ tv1',w1⟩
   | 1,hi=>cases hi; exact ⟨r2,_,v2,_,Y,s24 _ _ hr2,TrV.keep (λ a xs e=>s24 _ _ e) _ tv2,w2⟩
  refine ⟨a,_,Y,KI ha,Y,_,_,Y,_,_,Y,Y,?_⟩;have s04:=s02.trans s24;refine ⟨_,Y,_,Y,_,Y,_,Y,s,s,b,m,n,ks,v,toD T,Y,shk s04 S0,m1',n1',TrV.dt T tv,by have:=tw.wt; omega,λ H5 s5=>⟨_,Y,?_⟩⟩;rw [tw.isT];have s05:=s04.trans s5;refine aF ⟨_,rfl,_,rfl,_,rfl,_,rfl,s,s,b,m,n,ks,v,toD T,T,rfl,⟨shk s05 S0,m1',n1',TrV.dt T (TrV.keep (λ a xs e=>s5 _ _ e) T tv),TrD.to T,tw.ok,tw.wt,tw.ln⟩,k8,gk,λ H6 s6=>⟨_,rfl,rfl,_,rfl,?_⟩⟩;rw [ir tw.ok,tw.tv,show (!decide (V.int xw=V.int xw))=false by rw [decide_eq_true rfl]; rfl];exact aF ⟨⟨_,_,rfl⟩,s34.trans (s5.trans s6)⟩
 rintro _ H3 ⟨⟨v7,v8,rfl⟩,s23⟩;have s03:=s02.trans s23;have hr13:=s23 _ _ hr1';have hr23:=s23 _ _ hr2;have tv13:=TrV.keep (λ a xs e=>s23 _ _ e) _ tv1';have tv23:=TrV.keep (λ a xs e=>s23 _ _ e) _ tv2;refine ap (λ R=>∀ (H':Hp),Same H3 H'->R [some (.ref s),some (.int (m:Int)),some (.int (n:Int)),some (.int (k:Int)),some (.int (bW b ks ((m:Int),(n:Int)))),some (.ref r1),some (.ref r2),v7,v8] H') (λ Dd hR=>?_) ?_
 ·refine ⟨_,Y,_,Y,_,Y,_,Y,r1,_,1,_,Y,Y,KI hr13,Y,s,s,b,m,n,ks,v1,toD _,_,Y,shk s03 S0,m1',n1',TrV.dt _ tv13,by have:=w1.wt; omega,TrD.to _,w1.ok,w1.sz,λ H4 s4=>⟨_,Y,_,_,Y,Y,_,Y,?_⟩⟩;refine iu (B1 (by omega)) ⟨_,rfl,_,rfl,_,rfl,_,rfl,r2,_,1,_,rfl,rfl,KI (s4 _ _ hr23),rfl,s,s,b,m,n,ks,v2,toD _,_,rfl,shk (s03.trans s4) S0,m1',n1',TrV.dt _ (TrV.keep (λ a xs e=>s4 _ _ e) _ tv23),by have:=w2.wt; omega,TrD.to _,w2.ok,w2.sz,λ H5 s5=>⟨_,rfl,_,_,rfl,rfl,_,_,rfl,rfl,_,rfl,?_⟩⟩;exact iu (B1 (by omega)) (hR _ (s4.trans s5))
 rintro H4 s34;have hr14:=s34 _ _ hr13;have hr24:=s34 _ _ hr23;have s04:=s03.trans s34;have le1:=vT (ks:=ks) b0 (p:=((m:Int),(n:Int))) m1' n1' (Nat.le_succ k);have le2:=lC (ks:=ks) b0 (p:=((m:Int),(n:Int))) (k + 1) m1' n1';have eq30:tB b ks ((m:Int),(n:Int)) 30=bW b ks ((m:Int),(n:Int)):=Dq b0 m1' n1' (by show (m:Int) + n<=_; omega);refine ⟨_,Y,r1,_,0,_,Y,Y,KI hr14,Y,_,Y,r2,_,0,_,Y,Y,KI hr24,Y,_,_,Y,Y,_,Y,?_⟩;rw [decide_eq_true le1];refine aV ⟨_,rfl,_,_,rfl,rfl,_,rfl,?_⟩;rw [decide_eq_true le2];refine aV ⟨_,rfl,_,rfl,_,rfl,s,b,ks,m,n,30,rfl,shk s04 S0,k8,b0,m1,by omega,n1,by omega,by omega,λ r v H5 hr tv s5=>⟨r,_,0,_,rfl,rfl,KI hr,rfl,_,rfl,rfl,?_⟩⟩;have:=q H5 (s04.trans s5);rw [eq30,decide_eq_true rfl];exact this
end
theorem xc {α β:Type} {R:α->β->Prop}:∀ (n:Nat) {xs:List α} {ys:List β},Paired R xs ys->Paired R (xs.take n) (ys.take n)
 | 0,_,_,_=>.nil
 | _ + 1,_,_,.nil=>.nil
 | n + 1,_,_,.cons a r=>.cons a (xc n r)
theorem mN {b:Int} {ks:List Kd} {m n:Nat} (b0:0<=b):fC b ks (bW b ks) m n=true:=by unfold fC;rw [List.all_eq_true];intro p hp;obtain ⟨⟨p1,_⟩,p3,_⟩:=partsL_mem.mp hp;rw [ya b0 p p1 p3];exact B0 (E6 _)
theorem mO {b:Int} {ks:List Kd} {km:Kd} {m n:Nat} (b0:0<=b):fC b (ks ++ [km]) (bW b ks) m n=true↔¬ vZ km (bW b ks) m n:=by
 unfold fC;rw [List.all_eq_true];constructor
 ·rintro h ⟨p,hp,hf,hw⟩;have:=C0 (h p hp);unfold lD at this;have:=(mxL_le.mp this).1;have:=mG (ks:=ks ++ [km]) (k:=km) (by simp) hf;omega
 ·intro h p hp;obtain ⟨⟨p1,_⟩,p3,_⟩:=partsL_mem.mp hp;refine B0 ?_;unfold lD;refine mxL_le.mpr ⟨?_,λ c hc=>mI b0 p1 p3 hc⟩;have l0:=gP (ks:=ks) b0 p1 p3;rcases pH (ks:=ks ++ [km]) (w:=p.1) (h:=p.2) with e | ⟨k,hk,hf,e⟩
  ·have:=mH (ks:=ks) (w:=p.1) (h:=p.2);omega
  ·rw [e];rcases C2.mp hk with hk | hk
   ·have:=mG hk hf;omega
   ·rw [List.mem_singleton.mp hk] at hf ⊢
    by_cases c:bW b ks p < km.wo
    ·exact absurd ⟨p,hp,hf,c⟩ h
    ·omega
structure HB (C p t kl sh:Addr) (b:Int) (rs:List V) (ks:List Kd) (H0 H:Hp):Prop where
 ht:H t=some (.tup [.int b,.ref kl])
 hk:H kl=some (.lst rs)
 tp:Tups H rs ks
 sh:ShopAt C H sh b ks
 po:PotAt H p
 bt:But p H0 H
theorem HB.same {C p t kl sh:Addr} {b:Int} {rs:List V} {ks:List Kd} {H0 H H':Hp} (a:HB C p t kl sh b rs ks H0 H) (s:Same H H'):HB C p t kl sh b rs ks H0 H' :=
 ⟨s _ _ a.ht,s _ _ a.hk,Tups.keep (λ c xs e=>s _ _ e) a.tp,a.sh.keep (λ c o e=>s _ _ e) (λ c C' d fs e=>s _ _ e),a.po.same s,λ c o n e=>s _ _ (a.bt _ _ n e)⟩
theorem HB.but {C p t kl sh:Addr} {b:Int} {rs:List V} {ks:List Kd} {H0 H H':Hp} (a:HB C p t kl sh b rs ks H0 H) (nk:kl≠p) (po:PotAt H' p) (s:But p H H'):HB C p t kl sh b rs ks H0 H' :=
 ⟨rg s a.po a.ht,s _ _ nk a.hk,Tups.keep (λ c xs e=>rg s a.po e) a.tp,tM s a.po a.sh,po,a.bt.trans s⟩
theorem HB.chg {C p t kl sh td:Addr} {b:Int} {rs:List V} {ks:List Kd} {kvs:List (List Key×V)} {H0 H H':Hp} (a:HB C p t kl sh b rs ks H0 H) (h0:H0 td=none) (rd:Rd H td (.dT kvs)) (k:But td H H'):HB C p t kl sh b rs ks H0 H':=by
 have ni:∀c C' d fs,H c=some (.ins C' d fs)->c≠td:=λ c C' d fs e z=>by rw [z] at e;rcases rd with h | ⟨o,h⟩ <;> rw [h] at e <;> cases e
 refine ⟨k _ _ (fm rd a.ht) a.ht,k _ _ (xb rd a.hk) a.hk,Tups.keep (λ c xs e=>k _ _ (fm rd e) e) a.tp,a.sh.keep (λ c o e=>k _ _ (fm rd e) e) (λ c C' d fs e=>k _ _ (ni _ _ _ _ e) e),?_,λ c o n e=>k _ _ (am e h0) (a.bt _ _ n e)⟩;obtain ⟨x,y,hxy,e⟩:=a.po;exact ⟨x,y,hxy,k _ _ (xb rd e) e⟩
section
variable {P:KC} {w:KF} {K:C4} {mg:Str->Option KG} {base:Heap}
inductive spHoldsN (C:Addr) (vs:List V) (H:Hp) (Q:VK) (E_:XK):Prop
 | mk (p t kl:Addr) (b:Int) (rs:List V) (ks:List Kd) (m n:Nat) (e_1:vs=[.ref p,.ref t,.int (m:Int),.int (n:Int)]) (e_2:PotAt H p) (e_3:H t=some (.tup [.int b,.ref kl])) (e_4:H kl=some (.lst rs)) (e_5:Tups H rs ks) (e_6:kl≠p) (e_7:(∀k∈ks,Good k)) (e_8:1<=rs.length) (e_9:rs.length<=7) (e_10:0<=b) (e_11:1<=m) (e_12:m<=8) (e_13:1<=n) (e_14:n<=8) (e_15:∀ (H':Hp),PotAt H' p->But p H H'->Q (.bl true) H'):spHoldsN C vs H Q E_
inductive spLaw (K:C4) (vs:List V) (H:Hp) (Q:VK) (E_:XK):Prop
 | mk (a:Addr) (ns:List Int) (e_1:vs=[.ref a]) (e_2:SqL K H a (ns.map V.int)) (e_3:ns.length<=63) (e_4:∀H',Q (.bl true) H'):spLaw K vs H Q E_
theorem scholdsn:FnScope ["_law_pot_here","_law_told","_law_wide","_law_high","_law_shop","_law_worth","_law_tree","_law_table","_law_wider","_law_higher","_law_kind","_law_richer"] ["_law_pot_here","_law_told","_law_wide","_law_high"] (defScope ig):=⟨Y,Y,Y,by decide +kernel,Y,by decide +kernel,by decide +kernel⟩
theorem rj {f C:Addr} {fd:KD} (F:Fun K "_law_holds" "_law_holds" ig f fd) (B:Blt mg) (DD:Dn P w K mg base "_law_draw" ["_law_pot_here","_law_many"] 1 (gs)) (DN:Dn P w K mg base "_law_number" ["_law_pot_here","_law_least"] 2 (fJ)) (DIs:Dn P w K mg base "is_tree" ["shop","wide","high","thing"] 6 (spIsTree C)) (DOf:Dn P w K mg base "worth_of" ["shop","wide","high","tree"] 10 (spWorthO C)) (DBo:Dn P w K mg base "best_of" ["shop","wide","high"] 35 (spBestOf C)) (DBe:Dn P w K mg base "bears" ["shop","wide","high","table"] 7 (spBearsT C)) (DBt:Dn P w K mg base "_law_bettered" ["_law_kind","_law_table"] 2 (spBett)) (DTd:Dn P w K mg base "_law_turned" ["_law_shop","_law_wide","_law_high","_law_k","_law_most"] 36 (spTrnd C)) (DSh:Kn P w K mg base "Shop" C ["self","blade","kinds"] 3 (mf C)):FnOk P w K mg base CX0 37 f fd ["_law_pot_here","_law_told","_law_wide","_law_high"] (spHoldsN C):=by
 refine F.ok scholdsn (λ vs H Q E h=>?_) (λ cdv A outer s H vs Q E hr h=>?_)
 ·obtain ⟨p,t,kl,b,rs,ks,m,n,rfl,_⟩:=h
  rfl
 obtain ⟨p,t,kl,b,rs,ks,m,n,rfl,pt,ht,hkl,tp,nk,gk,r1,r7,b0,m1,m8,n1,n8,q⟩:=h;have nd:=scholdsn.nd;have hu:=hr.units;have hu1:=C6 (Nat.add_le_add_left (show 1<=64 by decide) _) hu;refine ⟨_,(ad (@ax _ _ 4 _ _ _ _ nd rfl (Or.inl rfl) (wW DSh (hr.mono (by decide)) rfl ((ay ix_tup (pv 1) af (λ _ _=>rfl))^^^((ay ix_tup (pv 1) af (λ _ _=>rfl))^^^ab))) rfl (Or.inl rfl)) (ad (bm (aq DBo (hr.mono (by decide)) rfl ((pv 4)^^^((pv 2)^^^((pv 3)^^^ab))) (by decide) rfl rfl) (aS rfl (ah (ai (i:=5) nd rfl (Or.inl rfl)) (ah (ai (i:=6) nd rfl (Or.inl rfl)) (ah (ai (i:=7) nd rfl (Or.inr rfl)) aG)))) rfl rfl rfl) (ad (aI (PW.pt (bQ (aR (aK (aq DIs (hr.mono (by decide)) rfl ((pv 4)^^^((pv 2)^^^((pv 3)^^^((pv 6)^^^ab)))) (by decide) rfl rfl) (by intro _; rfl))) (bK (az fg (aq DOf (hr.mono (by decide)) rfl ((pv 4)^^^((pv 2)^^^((pv 3)^^^((pv 6)^^^ab)))) (by decide) rfl rfl) (pv 5) (aw _))))) (ag (au bD)) av) (ad (@ax _ _ 8 _ _ _ _ nd rfl (Or.inr rfl) (aq DBo (hr.mono (by decide)) rfl ((pv 4)^^^((aA aM (pv 2) af)^^^((pv 3)^^^ab))) (by decide) rfl rfl) rfl (Or.inl rfl)) (ad (@ax _ _ 9 _ _ _ _ nd rfl (Or.inl rfl) (aq DBo (hr.mono (by decide)) rfl ((pv 4)^^^((pv 2)^^^((aA aM (pv 3) af)^^^ab))) (by decide) rfl rfl) rfl (Or.inl rfl)) (ad (aI (PW.pt (bQ (az iG (ay ix_tup (pv 8) af (λ _ _=>rfl)) (pv 5) (aw _)) (bQ (az iG (ay ix_tup (pv 9) af (λ _ _=>rfl)) (pv 5) (aw _)) (bK (az (xz hu) (dB (own:=["_law_part"]) (cs:=["_law_table","_law_wider"]) (cap:=[7,8]) rfl (kO (pv 7)) (bv (sc:=defScope ig) (N:=["_law_pot_here","_law_told","_law_wide","_law_high","_law_shop","_law_worth","_law_tree","_law_table","_law_wider","_law_higher","_law_kind","_law_richer"]) rfl rfl (by decide +kernel)) (λ _ _ _ _ _=>ai (i:=0) (by show List.Nodup (["_law_part","_law_table","_law_wider"]:List Str) ; decide +kernel) rfl (Or.inl rfl) (Or.inr rfl)) (λ _ _ _ _ _=>(kn (az fg (bZ hu1 (ay (r:=rIxT K) ix_tup (pv 2) af (λ _ _=>rfl)) (pv 0) (λ _ _=>rfl)) (bZ hu1 (pv 1) (pv 0) (λ _ _=>rfl)) (aw _)))) (λ _ _ _ _ _=>(pv 0))) (bY ab) (aw _)))))) (ag (au bD)) av) (ad (oM (@ax _ _ 10 _ _ _ _ nd rfl (Or.inl rfl) (aB ((aA aM af (aq DD (hr.mono (by decide)) rfl ((pv 0)^^^(af^^^ab)) (by decide) rfl rfl))^^^((aA aM af (aq DD (hr.mono (by decide)) rfl ((pv 0)^^^(af^^^ab)) (by decide) rfl rfl))^^^((aq DN (hr.mono (by decide)) rfl ((pv 0)^^^(af^^^ab)) (by decide) rfl rfl)^^^(af^^^((be fe (aq DD (hr.mono (by decide)) rfl ((pv 0)^^^(af^^^ab)) (by decide) rfl rfl) af (aw _))^^^ab)))))) rfl (Or.inl rfl))) (ad (@ax _ _ 11 _ _ _ _ nd rfl (Or.inl rfl) (wW DSh (hr.mono (by decide)) rfl ((ay ix_tup (pv 1) af (λ _ _=>rfl))^^^((aA sk (ay ix_tup (pv 1) af (λ _ _=>rfl)) (bY ((pv 10)^^^ab)))^^^ab))) rfl (Or.inl rfl)) (ad (aI (PW.pt (bQ (az iG (ay ix_tup (aq DBo (hr.mono (by decide)) rfl ((pv 11)^^^((pv 2)^^^((pv 3)^^^ab))) (by decide) rfl rfl) af (λ _ _=>rfl)) (pv 5) (aw _)) (bK (aR (aK (aq DBe (hr.mono (by decide)) rfl ((pv 4)^^^((pv 2)^^^((pv 3)^^^((pv 7)^^^ab)))) (by decide) rfl rfl) (by intro _; rfl)))))) (ag (au bD)) av) (ad (oM (aI (az fe (vt (aq DBe (hr.mono (by decide)) rfl ((pv 11)^^^((pv 2)^^^((pv 3)^^^((pv 7)^^^ab)))) (by decide) rfl rfl)) (aq DBt (hr.mono (by decide)) rfl ((pv 10)^^^((pv 7)^^^ab)) (by decide) rfl rfl) (aw _)) (ag (au bD)) av)) (ag (au (rJ (be cN (aA dA (pv 2) (pv 3)) af (aw _)) (bV (aq DTd hr rfl ((pv 4)^^^((pv 2)^^^((pv 3)^^^((aq DD (hr.mono (by decide)) rfl ((pv 0)^^^(af^^^ab)) (by decide) rfl rfl)^^^((pv 5)^^^ab))))) (by decide) rfl rfl))))))))))))))),?_⟩;have sz:(2000:Nat) < sizeLine:=by decide
 have e60:(1000:Int) < 10 ^ 60:=by decide
 have m1':(1:Int)<=m:=by omega
 have n1':(1:Int)<=n:=by omega
 have rl:=E4 tp;have k8:ks.length<=8:=by omega
 refine ap (λ R=>∀ (sh:Addr) (H':Hp),HB C p t kl sh b rs ks H H'->Same H H'->R [some (.ref p),some (.ref t),some (.int (m:Int)),some (.int (n:Int)),some (.ref sh),none,none,none,none,none,none,none] H') (λ Dd hR=>?_) ?_
 ·refine ⟨_,Y,t,_,0,_,Y,Y,KI ht,Y,_,Y,t,_,1,_,Y,Y,KI ht,Y,λ x dx hx hdx ne0=>?_⟩;have sm:Same H (upd (upd H dx (.own x)) x (.ins C dx [])):=ja hx hdx;refine ⟨x,dx,kl,b,rs,ks,Y,ae,b0,.inl (sm _ _ hkl),KK (Tups.keep (λ c xs e=>sm _ _ e) tp) (λ v k h=>.inl h),gk,by omega,by omega,λ Hb Sb kb=>⟨Y,?_⟩⟩;have sb:Same H Hb:=λ c o e=>kb c o (am e hx) (sm _ _ e);exact hR x _ ⟨sb _ _ ht,sb _ _ hkl,Tups.keep (λ c xs e=>sb _ _ e) tp,Sb,pt.same sb,λ c o n e=>sb _ _ e⟩ sb
 rintro sh H1 hb1 s1;refine ap (λ R=>∀ (td:Addr) (v:V) (H':Hp),H1 td=none->H' td=some (.dT (byP (bp b ks (ao m n))))->TrV H' (bT b ks 33 ((m:Int),(n:Int))) v->Same H1 H'->R [some (.ref p),some (.ref t),some (.int (m:Int)),some (.int (n:Int)),some (.ref sh),some (.int (bW b ks ((m:Int),(n:Int)))),some v,some (.ref td),none,none,none,none] H') (λ Dd hR=>?_) ?_
 ·exact ⟨_,Y,_,Y,_,Y,sh,b,ks,m,n,Y,hb1.sh,by omega,b0,by omega,by omega,by omega,by omega,λ r tb v H2 htb hr ht tv s2=>⟨r,_,Y,KI hr,Y,_,_,Y,_,_,Y,_,_,Y,Y,hR tb v _ htb ht tv s2⟩⟩
 rintro td v H2 htd1 htd2 tv2 s12;have hb2:=hb1.same s12;have htd0:H td=none:=by
  cases e:H td with
  | none=>rfl
  | some o=>rw [s1 _ _ e] at htd1; cases htd1
 have ntp:td≠p:=λ z=>by obtain ⟨_,e⟩:=mD pt; rw [z,e] at htd0; cases htd0
 have hm:msr ((m:Int),(n:Int)) < 33:=by unfold msr; omega
 obtain ⟨z1,z2⟩:=mK (ks:=ks) b0 33 ((m:Int),(n:Int)) hm m1' n1';have tw:=TW.of b0 m1 (by omega) n1 (by omega) z1 z2;refine ap (λ R=>∀ (H':Hp),Same H2 H'->R [some (.ref p),some (.ref t),some (.int (m:Int)),some (.int (n:Int)),some (.ref sh),some (.int (bW b ks ((m:Int),(n:Int)))),some v,some (.ref td),none,none,none,none] H') (λ Dd hR=>?_) ?_
 ·refine ⟨_,Y,_,Y,_,Y,_,Y,sh,sh,b,m,n,ks,v,toD _,Y,hb2.sh,m1',n1',TrV.dt _ tv2,by have:=tw.wt; omega,λ H3 s3=>⟨_,Y,?_⟩⟩;rw [tw.isT];refine aF ⟨_,rfl,_,rfl,_,rfl,_,rfl,sh,sh,b,m,n,ks,v,toD _,_,rfl,⟨(hb2.same s3).sh,m1',n1',TrV.dt _ (TrV.keep (λ a xs e=>s3 _ _ e) _ tv2),TrD.to _,tw.ok,tw.wt,tw.ln⟩,k8,gk,λ H4 s4=>⟨_,rfl,rfl,_,rfl,?_⟩⟩;rw [ir tw.ok,tw.tv,show (!decide (V.int (bW b ks ((m:Int),(n:Int)))=V.int (bW b ks ((m:Int),(n:Int)))))=false by rw [decide_eq_true rfl]; rfl];exact aF (hR _ (s3.trans s4))
 rintro H3 s23;have hb3:=hb2.same s23;have htd3:=s23 _ _ htd2;refine ap (λ R=>∀ (wi td2:Addr) (u:V) (H':Hp),H' wi=some (.tup [.int (bW b ks (((m + 1:Nat):Int),(n:Int))),u,.ref td2])->H' td2=some (.dT (byP (bp b ks (ao (m + 1) n))))->H3 td2=none->Same H3 H'->R [some (.ref p),some (.ref t),some (.int (m:Int)),some (.int (n:Int)),some (.ref sh),some (.int (bW b ks ((m:Int),(n:Int)))),some v,some (.ref td),some (.ref wi),none,none,none] H') (λ Dd hR=>?_) ?_
 ·exact ⟨_,Y,_,Y,_,_,Y,Y,_,Y,sh,b,ks,m + 1,n,Y,hb3.sh,by omega,b0,by omega,by omega,by omega,by omega,λ r tb v H4 htb hr ht tv s4=>hR r tb v _ hr ht htb s4⟩
 rintro wi td2 u H4 hwi4 htd24 htd23 s34;refine ap (λ R=>∀ (hi td3:Addr) (u3:V) (H':Hp),H' hi=some (.tup [.int (bW b ks ((m:Int),((n + 1:Nat):Int))),u3,.ref td3])->Same H4 H'->R [some (.ref p),some (.ref t),some (.int (m:Int)),some (.int (n:Int)),some (.ref sh),some (.int (bW b ks ((m:Int),(n:Int)))),some v,some (.ref td),some (.ref wi),some (.ref hi),none,none] H') (λ Dd hR=>?_) ?_
 ·exact ⟨_,Y,_,Y,_,Y,_,_,Y,Y,sh,b,ks,m,n + 1,Y,(hb3.same s34).sh,by omega,b0,by omega,by omega,by omega,by omega,λ r tb v H5 htb hr ht tv s5=>hR r tb v _ hr s5⟩
 rintro hi td3 u3 H5 hhi5 s45;have s35:=s34.trans s45;have hb5:=hb3.same s35;have htd5:=s35 _ _ htd3;have hwi5:=s45 _ _ hwi4;have htd25:=s45 _ _ htd24;have ntt:td2≠td:=λ z=>by rw [z,htd3] at htd23; cases htd23
 have self:∀k∈ks,∃k'∈ks,(∀w h,dS k w h=true->dS k' w h=true)/\k.wo<=k'.wo:=λ k hk=>⟨k,hk,λ _ _ h=>h,E6 _⟩
 have mo1:bW b ks ((m:Int),(n:Int))<=bW b ks (((m + 1:Nat):Int),(n:Int)):=jO b0 self m1' n1' (by show (m:Int)<=((m + 1:Nat):Int); omega) (E6 _);have mo2:bW b ks ((m:Int),(n:Int))<=bW b ks ((m:Int),((n + 1:Nat):Int)):=jO b0 self m1' n1' (E6 _) (by show (n:Int)<=((n + 1:Nat):Int); omega);refine ap (λ R=>∀ (ob:Obj) (H':Hp),H' td=some (.frz ob (.dT (byP (bp b ks (ao m n)))))->But td H5 H'->R [some (.ref p),some (.ref t),some (.int (m:Int)),some (.int (n:Int)),some (.ref sh),some (.int (bW b ks ((m:Int),(n:Int)))),some v,some (.ref td),some (.ref wi),some (.ref hi),none,none] H') (λ Dd hR=>?_) ?_
 ·refine ⟨_,Y,wi,_,0,_,Y,Y,KI hwi5,Y,_,Y,_,_,Y,Y,_,Y,iu (B1 (by omega)) ?_⟩;refine ⟨_,Y,hi,_,0,_,Y,Y,KI hhi5,Y,_,Y,_,_,Y,Y,_,Y,iu (B1 (by omega)) ?_⟩;refine ⟨_,Y,td,_,Y,htd5,λ ob=>?_⟩;have hf:(upd H5 td (.frz ob (.dT (byP (bp b ks (ao m n)))))) td=some (.frz ob (.dT (byP (bp b ks (ao m n))))):=ae;have bt:But td H5 (upd H5 td (.frz ob (.dT (byP (bp b ks (ao m n)))))):=λ c o nn e=>by rw [aj nn]; exact e
  generalize upd H5 td (.frz ob (.dT (byP (bp b ks (ao m n)))))=H6 at hf bt ⊢;have hwi6:=bt _ _ (fm (.inl htd5) hwi5) hwi5;have htd26:=bt _ _ ntt htd25;refine qw (a:=td) (ob:=ob) (kvs:=(byP (bp b ks (ao m n)))) (λ i us Hx=>us=[]/\H6=Hx) ⟨rfl,rfl⟩ (λ i us Hx _ e=>e.2 ▸ hf) ?_ ?_ ?_
  ·rintro i kk vv qa us _ hkv hqa ⟨rfl,rfl⟩;obtain ⟨pp,pm,rfl,rfl⟩:=vS hkv;obtain ⟨⟨p1,p2⟩,p3,p4⟩:=partsL_mem.mp pm;have il:=(A6.mp hkv).1;have hqa:H6 qa=some (.tup [.int pp.1,.int pp.2]):=hqa;have pm2:pp∈ao (m + 1) n:=partsL_mem.mpr ⟨⟨p1,by omega⟩,p3,p4⟩;refine ⟨leS.set rfl,?_⟩;refine ⟨_,Y,wi,_,2,_,Y,Y,KI hwi6,Y,_,Y,td2,.int (bW b ks pp),Y,.inr ⟨_,pk pp,qa,.inl htd26,Y,hqa,(eG pm2).symm⟩,_,Y,_,Y,td,.int (bW b ks pp),Y,.inr ⟨_,pk pp,qa,.inr ⟨ob,hf⟩,Y,hqa,(eG pm).symm⟩,Y,_,Y,?_⟩;rw [show (!decide (V.int (bW b ks pp)=V.int (bW b ks pp)))=false by rw [decide_eq_true rfl]; rfl];exact aF (Nx.of il ⟨rfl,rfl⟩)
  ·rintro i us Hx il ⟨rfl,_⟩;exact C1 (by decide:0 < 2000) (C7 sz)
  ·rintro us _ ⟨rfl,rfl⟩;refine ⟨E9 _,λ lo hlo=>?_⟩;obtain ⟨H7,e7,k7,s7⟩:∃H',upd H6 lo (.lst [])=H'/\H' lo=some (.lst [])/\Same H6 H':=⟨_,Y,ae,KH hlo⟩
   rw [show upd H6 lo _=H7 from e7];refine ⟨by decide,λ e he=>?_⟩;obtain ⟨H8,e8,k8,s8⟩:∃H',upd H7 e (.lst [])=H'/\H' e=some (.lst [])/\Same H7 H':=⟨_,Y,ae,KH he⟩
   rw [show upd H7 e _=H8 from e8];refine ⟨.list [],.list [],.lst (KJ (s8 _ _ k7)) .nil,.lst (KJ k8) .nil,by decide +kernel,by decide +kernel,_,Y,?_⟩;rw [show PyData.eqv (.list []) (.list [])=true by decide +kernel];have s68:=s7.trans s8;exact aF (hR ob _ (s68 _ _ hf) (λ c o nn e=>s68 _ _ (bt _ _ nn e)))
 rintro ob H6 htd6 b56;have nf:∀o u',H td≠some (.frz o u'):=λ o u' e=>by rw [htd0] at e; cases e
 have hb6:=hb5.chg htd0 (.inl htd5) b56;have thaw:∀ {Ha:Hp} {ob:Obj},HB C p t kl sh b rs ks H Ha->Ha td=some (.frz ob (.dT (byP (bp b ks (ao m n)))))->HB C p t kl sh b rs ks H (upd Ha td (.dT (byP (bp b ks (ao m n))))):=λ hb hf=>hb.chg htd0 (.inr ⟨_,hf⟩) (λ c o nn e=>by rw [aj nn]; exact e);refine ap (λ R=>∀ (ki:Addr) (km:Kd) (H':Hp),H' ki=some (.tup (kdV km))->Good km->H' td=some (.dT (byP (bp b ks (ao m n))))->HB C p t kl sh b rs ks H H'->R [some (.ref p),some (.ref t),some (.int (m:Int)),some (.int (n:Int)),some (.ref sh),some (.int (bW b ks ((m:Int),(n:Int)))),some v,some (.ref td),some (.ref wi),some (.ref hi),some (.ref ki),none] H') (λ Dd hR=>?_) ?_
 ·refine ⟨td,ob,_,htd6,nf,?_⟩;have hb7:=thaw hb6 htd6;have k7:(upd H6 td (.dT (byP (bp b ks (ao m n))))) td=some (.dT (byP (bp b ks (ao m n)))):=ae;generalize upd H6 td (.dT (byP (bp b ks (ao m n))))=H7 at hb7 k7 ⊢;refine ⟨_,Y,p,6,Y,hb7.po,by decide,by decide,λ w1 H8 w10 w11 pt8 b8=>⟨_,_,Y,Y,_,Y,p,6,Y,pt8,by decide,by decide,λ h1 H9 h10 h11 pt9 b9=>⟨_,_,Y,Y,_,Y,p,0,Y,pt9,by decide,by decide,λ wo Ha wo0 wo1 pta ba=>⟨_,Y,p,2,Y,pta,by decide,by decide,λ tu Hb tu0 tu1 ptb bb=>⟨Y,zS5,λ ki hki=>?_⟩⟩⟩⟩⟩;have b7b:=b8.trans (b9.trans (ba.trans bb));have hbb:=hb7.but nk ptb b7b;obtain ⟨Hc,e10,k10,s10⟩:∃H',upd Hb ki (.tup [.int (1 + w1),.int (1 + h1),.int wo,.int 0,.bl (decide (V.int tu=V.int 1))])=H'/\H' ki=some (.tup [.int (1 + w1),.int (1 + h1),.int wo,.int 0,.bl (decide (V.int tu=V.int 1))])/\Same Hb H':=⟨_,Y,ae,KH hki⟩
  rw [show upd Hb ki _=Hc from e10];exact hR ki ⟨1 + w1,1 + h1,wo,0,decide (V.int tu=V.int 1)⟩ _ k10 ⟨by show (1:Int)<=1 + w1; omega,by show (1:Int)<=1 + h1; omega,wo0,E6 _,by show 1 + w1 < _; omega,by show 1 + h1 < _; omega,wo1,by show (0:Int) < _; omega⟩ (s10 _ _ (b7b _ _ ntp k7)) (hbb.same s10)
 clear hb1 hb2 hb3 hb5 hb6 htd1 htd2 htd3 htd5 htd6 b56 hwi4 hwi5 htd24 htd25 htd23 hhi5 s1 s12 s23 s34 s45 s35 tv2;rintro ki km H7 hki7 gm htd7 hb7;have gk2:∀k∈ks ++ [km],Good k:=λ k hk=>by
  rcases C2.mp hk with hk | hk
  ·exact gk k hk
  ·rw [List.mem_singleton.mp hk]; exact gm
 have kl2:(ks ++ [km]).length=ks.length + 1:=by rw [List.length_append]; rfl
 refine ap (λ R=>∀ (ri:Addr) (H':Hp),ShopAt C H' ri b (ks ++ [km])->Same H7 H'->R [some (.ref p),some (.ref t),some (.int (m:Int)),some (.int (n:Int)),some (.ref sh),some (.int (bW b ks ((m:Int),(n:Int)))),some v,some (.ref td),some (.ref wi),some (.ref hi),some (.ref ki),some (.ref ri)] H') (λ Dd hR=>?_) ?_
 ·refine ⟨_,Y,t,_,0,_,Y,Y,KI hb7.ht,Y,_,Y,t,_,1,_,Y,Y,KI hb7.ht,Y,_,Y,zS1,λ l1 hl1=>?_⟩;obtain ⟨H8,e8,k8,s8⟩:∃H',upd H7 l1 (.lst [.ref ki])=H'/\H' l1=some (.lst [.ref ki])/\Same H7 H':=⟨_,Y,ae,KH hl1⟩
  rw [show upd H7 l1 _=H8 from e8];refine ⟨kl,l1,rs,[.ref ki],Y,Y,s8 _ _ hb7.hk,k8,by show rs.length + 1<=_; omega,λ lo hlo=>?_⟩;obtain ⟨H9,e9,k9,s9⟩:∃H',upd H8 lo (.lst (rs ++ [.ref ki]))=H'/\H' lo=some (.lst (rs ++ [.ref ki]))/\Same H8 H':=⟨_,Y,ae,KH hlo⟩
  rw [show upd H8 lo _=H9 from e9];intro x dx hx hdx ne0;have s79:=s8.trans s9;have sm:Same H9 (upd (upd H9 dx (.own x)) x (.ins C dx [])):=ja hx hdx;have tp9:Tups H9 (rs ++ [.ref ki]) (ks ++ [km]):=Paired.app (Tups.keep (λ c xs e=>s79 _ _ e) hb7.tp) (.cons ⟨ki,Y,s79 _ _ hki7⟩ .nil);have rl9:(rs ++ [V.ref ki]).length=rs.length + 1:=by rw [List.length_append]; rfl
  refine ⟨x,dx,lo,b,_,ks ++ [km],Y,ae,b0,.inl (sm _ _ k9),KK (Tups.keep (λ c xs e=>sm _ _ e) tp9) (λ v k h=>.inl h),gk2,by omega,by omega,λ Hb Sb kb=>⟨Y,?_⟩⟩;exact hR x _ Sb (λ c o e=>kb c o (am (s79 _ _ e) hx) (sm _ _ (s79 _ _ e)))
 rintro ri H8 sr8 s78;have hb8:=hb7.same s78;have htd8:=s78 _ _ htd7;have hki8:=s78 _ _ hki7;have nonneg:∀q∈ao m n,0<=bW b ks q:=λ q hq=>by obtain ⟨⟨q1,_⟩,q3,_⟩:=partsL_mem.mp hq;have:=gP (ks:=ks) b0 q1 q3;have:=mH (ks:=ks) (w:=q.1) (h:=q.2);omega
 have shopT:∀ {Ha Hb:Hp} {s:Addr} {ls:List Kd},Rd Ha td (.dT (byP (bp b ks (ao m n))))->But td Ha Hb->ShopAt C Ha s b ls->ShopAt C Hb s b ls:=λ {Ha Hb s ls} rd k S=>S.keep (λ c o e=>k _ _ (fm rd e) e) (λ c C' d fs e=>k _ _ (λ z=>by rw [z] at e; rcases rd with h | ⟨o,h⟩ <;> rw [h] at e <;> cases e) e);refine ap (λ R=>∀ (ob:Obj) (H':Hp),H' td=some (.frz ob (.dT (byP (bp b ks (ao m n)))))->H' ki=some (.tup (kdV km))->ShopAt C H' ri b (ks ++ [km])->HB C p t kl sh b rs ks H H'->R [some (.ref p),some (.ref t),some (.int (m:Int)),some (.int (n:Int)),some (.ref sh),some (.int (bW b ks ((m:Int),(n:Int)))),some v,some (.ref td),some (.ref wi),some (.ref hi),some (.ref ki),some (.ref ri)] H') (λ Dd hR=>?_) ?_
 ·refine ⟨_,Y,_,Y,_,Y,ri,b,ks ++ [km],m,n,Y,sr8,by omega,b0,m1,by omega,n1,by omega,λ r tb v9 H9 htb hr ht9 tv9 s9=>⟨r,_,0,_,Y,Y,KI hr,Y,_,Y,_,_,Y,Y,_,Y,iu (B1 ?_) ?_⟩⟩
  ·have:bW b ks ((m:Int),(n:Int))<=bW b (ks ++ [km]) ((m:Int),(n:Int)):=jO b0 (λ k hk=>⟨k,C2.mpr (.inl hk),λ _ _ h=>h,E6 _⟩) m1' n1' (E6 _) (E6 _);omega
  ·refine ⟨_,Y,_,Y,_,Y,_,Y,sh,td,b,ks,m,n,bW b ks,Y,(hb8.same s9).sh,k8,b0,m1,by omega,n1,by omega,s9 _ _ htd8,nonneg,λ ob Ha hfa bta=>⟨_,Y,?_⟩⟩;rw [mN b0];have rd9:Rd H9 td (.dT (byP (bp b ks (ao m n)))):=.inl (s9 _ _ htd8);exact aF (hR ob _ hfa (bta _ _ (fm rd9 (s9 _ _ hki8)) (s9 _ _ hki8)) (shopT rd9 bta (sr8.keep (λ c o e=>s9 _ _ e) (λ c C' d fs e=>s9 _ _ e))) ((hb8.same s9).chg htd0 rd9 bta))
 clear hb7 htd7 hki7 hb8 htd8 hki8 sr8 s78;rintro ob9 H9 htd9 hki9 sr9 hb9;refine ap (λ R=>∀ (H':Hp),HB C p t kl sh b rs ks H H'->R [some (.ref p),some (.ref t),some (.int (m:Int)),some (.int (n:Int)),some (.ref sh),some (.int (bW b ks ((m:Int),(n:Int)))),some v,some (.ref td),some (.ref wi),some (.ref hi),some (.ref ki),some (.ref ri)] H') (λ Dd hR=>?_) ?_
 ·refine ⟨td,ob9,_,htd9,nf,?_⟩;have rd9:Rd H9 td (.dT (byP (bp b ks (ao m n)))):=.inr ⟨ob9,htd9⟩;have bu:But td H9 (upd H9 td (.dT (byP (bp b ks (ao m n))))):=λ c o nn e=>by rw [aj nn]; exact e
  have hba:=thaw hb9 htd9;have hkia:=bu _ _ (fm rd9 hki9) hki9;have sra:=shopT rd9 bu sr9;have ka:(upd H9 td (.dT (byP (bp b ks (ao m n))))) td=some (.dT (byP (bp b ks (ao m n)))):=ae;clear bu;generalize upd H9 td (.dT (byP (bp b ks (ao m n))))=Ha at hba hkia sra ka ⊢;have rda:Rd Ha td (.dT (byP (bp b ks (ao m n)))):=.inl ka;refine ⟨_,Y,_,Y,_,Y,_,Y,ri,td,b,ks ++ [km],m,n,bW b ks,Y,sra,by omega,b0,m1,by omega,n1,by omega,ka,nonneg,λ ob Hb hfb btb=>?_⟩;refine ⟨td,ob,_,hfb,nf,?_⟩;have hbb:=hba.chg htd0 rda btb;have rdb:Rd Hb td (.dT (byP (bp b ks (ao m n)))):=.inr ⟨ob,hfb⟩;have hkib:=btb _ _ (fm rda hkia) hkia;have bu:But td Hb (upd Hb td (.dT (byP (bp b ks (ao m n))))):=λ c o nn e=>by rw [aj nn]; exact e
  have hbc:=thaw hbb hfb;have hkic:=bu _ _ (fm rdb hkib) hkib;have kc:(upd Hb td (.dT (byP (bp b ks (ao m n))))) td=some (.dT (byP (bp b ks (ao m n)))):=ae;clear bu;generalize hHc:upd Hb td (.dT (byP (bp b ks (ao m n))))=Hc at hbc hkic kc;rw [show upd Hb td (.dT (byP (bN (bW b ks) (ao m n))))=Hc from hHc];refine ⟨_,Y,_,Y,ki,td,km,m,n,bW b ks,Y,hkic,kc,λ r ob2 Hd hrr hfd btd=>⟨Y,_,Y,iu (B1 λ e=>?_) (hR _ (hbc.chg htd0 (.inl kc) btd))⟩⟩;have e:=V.bl.inj e;have br:=mO (ks:=ks) (km:=km) (m:=m) (n:=n) b0
  by_cases c:vZ km (bW b ks) m n
  ·have:r=true:=hrr.mpr c;rw [this] at e;exact (br.mp e) c
  ·have h1:=br.mpr c;rw [h1] at e;exact c (hrr.mp e.symm)
 rintro Ha hba;refine ⟨_,Y,_,Y,_,_,Y,Y,.inl ⟨by omega,by omega⟩,_,_,Y,Y,_,Y,?_⟩;refine cV (λ cc=>q _ hba.po hba.bt) (λ cc=>?_);refine ⟨_,Y,_,Y,_,Y,_,Y,p,9,Y,hba.po,by decide,by decide,λ k Hb k0 k9 ptb bb=>?_⟩;have hbb:=hba.but nk ptb bb;exact ⟨_,Y,sh,b,ks,m,n,k.toNat,(by rw [show ((k.toNat:Nat):Int)=k by omega]; rfl),hbb.sh,k8,gk,b0,m1,by omega,n1,by omega,by omega,λ Hc sc=>q _ (hbb.same sc).po (hbb.same sc).bt⟩
theorem sclaw:FnScope ["_law_script","_law_told","_law_place","_law_pot_here"] ["_law_script"] (defScope kY):=⟨Y,Y,Y,by decide +kernel,Y,by decide +kernel,by decide +kernel⟩
theorem yf {f C:Addr} {fd:KD} (F:Fun K "law" "law" kY f fd) (B:Blt mg) (DP:Dn P w K mg base "_law_pot" ["_law_script","_law_place"] 1 (sG K)) (DD:Dn P w K mg base "_law_draw" ["_law_pot_here","_law_many"] 1 (gs)) (DSm:Dn P w K mg base "_law_small" ["_law_pot_here","_law_most"] 3 (spSmallA)) (DHo:Dn P w K mg base "_law_holds" ["_law_pot_here","_law_told","_law_wide","_law_high"] 37 (spHoldsN C)):FnOk P w K mg base CX0 38 f fd ["_law_script"] (spLaw K):=by
 refine F.ok sclaw (λ vs H Q E h=>?_) (λ cdv A outer s H vs Q E hr h=>?_)
 ·obtain ⟨a,ns,rfl,_⟩:=h
  rfl
 obtain ⟨a,ns,rfl,hS,n63,q⟩:=h;have nd:=sclaw.nd;refine ⟨_,(ad (@ax _ _ 1 _ _ _ _ nd rfl (Or.inl rfl) (aq DSm (hr.mono (by decide)) rfl ((aq DP (hr.mono (by decide)) rfl ((pv 0)^^^(af^^^ab)) (by decide) rfl rfl)^^^(af^^^ab)) (by decide) rfl rfl) rfl (Or.inl rfl)) (ad (@ax _ _ 1 _ _ _ _ nd rfl (Or.inl rfl) (aB ((ay ix_tup (pv 1) af (λ _ _=>rfl))^^^((rY vj (ay ix_tup (pv 1) af (λ _ _=>rfl)) vf (vg af))^^^ab))) rfl (Or.inl rfl)) (ad (bE E5 rfl (gi rfl B.range (af^^^((aO (iH rfl) rfl B.max PyProof.Rows.boot_max (af^^^((aO (pV rfl) rfl B.min PyProof.Rows.boot_min (af^^^((aO bG rfl B.len PySem.boot_len ((pv 0)^^^ab) (by decide) (by decide) rfl rfl)^^^ab)) (by decide) (by decide) rfl rfl)^^^ab)) (by decide) (by decide) rfl rfl)^^^ab))) (ai (i:=2) nd rfl (Or.inl rfl)) (ad (@ax _ _ 3 _ _ _ _ nd rfl (Or.inl rfl) (aq DP (hr.mono (by decide)) rfl ((pv 0)^^^((pv 2)^^^ab)) (by decide) rfl rfl) rfl (Or.inl rfl)) (ag (aI (aR (aK (aq DHo hr rfl ((pv 3)^^^((pv 1)^^^((aA aM af (aq DD (hr.mono (by decide)) rfl ((pv 3)^^^(af^^^ab)) (by decide) rfl rfl))^^^((aA aM af (aq DD (hr.mono (by decide)) rfl ((pv 3)^^^(af^^^ab)) (by decide) rfl rfl))^^^ab)))) (by decide) rfl rfl) (by intro _; rfl))) (ag (au bD)) av))) (by intro _; rfl)) (ag (au bD))))),?_⟩;have sz:(2000:Nat) < sizeLine:=by decide
 have e60:(1000:Int) < 10 ^ 60:=by decide
 have ln:(ns.map V.int).length=ns.length:=List.length_map _;refine ap (λ R=>∀ (t kl:Addr) (b:Int) (rs:List V) (ks:List Kd) (H':Hp),H' t=some (.tup [.int b,.ref kl])->H' kl=some (.lst rs)->Tups H' rs ks->(∀k∈ks,Good k)->1<=rs.length->0<=b->Same H H'->R [some (.ref a),some (.ref t),none,none] H') (λ Dd hR=>?_) ?_
 ·refine ⟨_,Y,a,ns,0,Y,hS,by decide,by decide,n63,λ p H1 hp ptp sp=>?_⟩;refine ⟨p,6,Y,ptp,by decide,by decide,λ t kl b rs ks H2 ht hk tp nk _ gk r1 r8 b0 pt2 b2=>hR t kl b rs ks _ ht hk tp gk r1 b0 ?_⟩;exact λ c o e=>b2 _ _ (am e hp) (sp _ _ e)
 rintro t kl b rs ks H1 ht1 hk1 tp1 gk r1 b0 s1;refine ap (λ R=>∀ (t kl:Addr) (rs:List V) (ks:List Kd) (H':Hp),H' t=some (.tup [.int b,.ref kl])->H' kl=some (.lst rs)->Tups H' rs ks->(∀k∈ks,Good k)->1<=rs.length->rs.length<=7->Same H H'->R [some (.ref a),some (.ref t),none,none] H') (λ Dd hR=>?_) ?_
 ·refine ⟨_,Y,t,_,0,_,Y,Y,KI ht1,Y,_,Y,t,_,1,_,Y,Y,KI ht1,Y,_,Y,kl,_,Y,KJ hk1,λ l hl=>?_⟩;obtain ⟨H2,e2,k2,s2⟩:∃H',upd H1 l (.lst (jl rs none (some 7)))=H'/\H' l=some (.lst (jl rs none (some 7)))/\Same H1 H':=⟨_,Y,ae,KH hl⟩
  rw [show upd H1 l _=H2 from e2];rw [show jl rs none (some 7)=rs.take 7 from ql rs 7] at k2;refine ⟨zS2,λ t2 ht2=>?_⟩;obtain ⟨H3,e3,k3,s3⟩:∃H',upd H2 t2 (.tup [.int b,.ref l])=H'/\H' t2=some (.tup [.int b,.ref l])/\Same H2 H':=⟨_,Y,ae,KH ht2⟩
  rw [show upd H2 t2 _=H3 from e3];exact hR t2 l (rs.take 7) (ks.take 7) _ k3 (s3 _ _ k2) (xc 7 (Tups.keep (λ c xs e=>s3 _ _ (s2 _ _ e)) tp1)) (λ k hk=>gk k (List.mem_of_mem_take hk)) (by rw [List.length_take]; omega) (by rw [List.length_take]; omega) (s1.trans (s2.trans s3))
 clear ht1 hk1 tp1 gk r1 s1;clear H1 t kl rs ks;rintro t kl rs ks H1 ht1 hk1 tp1 gk r1 r7 s1;refine bo (λ σ' H'=>True) (λ R hR=>?_) ?_
 ·refine ⟨_,Y,a,_,Y,.inl (s1.seq hS),_,_,Y,_,_,Y,1,_,Y,⟨by decide,by decide,?_,?_⟩,?_⟩
  ·rw [ln]; split <;> (try split) <;> omega
  ·rw [ln]; split <;> (try split) <;> omega
  generalize hn:(Int.toNat _)=nn;have n8:nn<=8:=by
   rw [<- hn,ln]
   split <;> (try split) <;> omega
  refine gj (lo:=1) (n:=nn) (λ i σ H'=>(∃v2 v3:Option V,σ=[some (.ref a),some (.ref t),v2,v3])/\Same H1 H') ⟨⟨_,_,rfl⟩,Same.refl _⟩ ?_ (λ σ Hx _=>hR _ _ trivial);rintro i _ Hx hi ⟨⟨v2,v3,rfl⟩,sx⟩;refine ap (λ R=>∀p (H':Hp),Hx p=none->PotAt H' p->Same Hx H'->R [some (.ref a),some (.ref t),some (.int (1 + (i:Int))),some (.ref p)] H') (λ Dd hR=>?_) ?_
  ·exact ⟨_,Y,_,Y,a,ns,_,Y,(s1.trans sx).seq hS,by omega,by omega,n63,λ p Hb hp ptb sb=>hR p _ hp ptb sb⟩
  rintro p H2 hp pt2 s2;have sx2:=sx.trans s2;have nkp:kl≠p:=am (sx _ _ hk1) hp;refine ⟨_,Y,_,Y,_,Y,p,8,Y,pt2,by decide,by decide,λ m H3 m0 m1 pt3 b3=>⟨_,_,Y,Y,_,Y,p,8,Y,pt3,by decide,by decide,λ n H4 n0 n1 pt4 b4=>⟨_,_,Y,Y,?_⟩⟩⟩;have b24:=b3.trans b4;refine ⟨p,t,kl,b,rs,ks,(1 + m).toNat,(1 + n).toNat,(by rw [show (((1 + m).toNat:Nat):Int)=1 + m by omega,show (((1 + n).toNat:Nat):Int)=1 + n by omega]; rfl),pt4,rg b24 pt2 (sx2 _ _ ht1),b24 _ _ nkp (sx2 _ _ hk1),Tups.keep (λ c xs e=>rg b24 pt2 (sx2 _ _ e)) tp1,nkp,gk,r1,r7,b0,by omega,by omega,by omega,by omega,λ H5 pt5 b5=>⟨_,Y,aF ⟨⟨_,_,Y⟩,λ c o e=>(b24.trans b5) _ _ (am (sx _ _ e) hp) (sx2 _ _ e)⟩⟩⟩
 rintro _ H2 _;exact q H2
end
theorem HE {α:Type} {us:List α} (h:us.length=1):∃a,us=[a]:=by
 match us,h with
 | [a],_=>exact ⟨a,Y⟩
theorem yg {α:Type} {us:List α} (h:us.length=2):∃a b,us=[a,b]:=by
 match us,h with
 | [a,b],_=>exact ⟨a,b,Y⟩
theorem uy {α:Type} {us:List α} (h:us.length=3):∃a b c,us=[a,b,c]:=by
 match us,h with
 | [a,b,c],_=>exact ⟨a,b,c,Y⟩
theorem HF {α:Type} {us:List α} (h:us.length=4):∃a b c d,us=[a,b,c,d]:=by
 match us,h with
 | [a,b,c,d],_=>exact ⟨a,b,c,d,Y⟩
theorem HG {α:Type} {us:List α} (h:us.length=5):∃a b c d e,us=[a,b,c,d,e]:=by
 match us,h with
 | [a,b,c,d,e],_=>exact ⟨a,b,c,d,e,Y⟩
abbrev DI (K:C4) (n:Str) (st:Stmt) (f:Addr):Prop:=∃ (od an:Option Addr) (sl:Array (Option KG)) (oc kV dc pm cd ct:KG),PySem.W.nsIn K mainGlobals n=some (some (.ref f))/\K.lookup f=some ⟨oc,od,.func (E7 n n (defArgs st) (defBody st) (defScope st) .none kV dc pm an cd ct),sl⟩/\PySem.W.codeIn K cd n=true/\PySem.W.keepIn K (.ref f)=true
abbrev MI (K:C4) (C:Addr) (n q:Str) (st:Stmt) (f:Addr):Prop:=∃ (od an:Option Addr) (sl:Array (Option KG)) (oc kV dc pm cd ct:KG),PySem.W.findIn K (.ref C) n=some (some (.ref f))/\PySem.W.isFn K (.ref f)=true/\K.lookup f=some ⟨oc,od,.func (E7 n q (defArgs st) (defBody st) (defScope st) .none kV dc pm an cd ct),sl⟩/\PySem.W.codeIn K cd q=true/\PySem.W.keepIn K (.ref f)=true
theorem diM {K:C4} {n:Str} {st:Stmt} {f:Addr} {od an:Option Addr} {sl:Array (Option KG)} {oc kV dc pm cd ct:KG} (a:PySem.W.nsIn K mainGlobals n=some (some (.ref f))) (l:K.lookup f=some ⟨oc,od,.func (E7 n n (defArgs st) (defBody st) (defScope st) .none kV dc pm an cd ct),sl⟩) (c:PySem.W.codeIn K cd n=true) (k:PySem.W.keepIn K (.ref f)=true):DI K n st f:=⟨_,_,_,_,_,_,_,_,_,a,l,c,k⟩
theorem miM {K:C4} {C:Addr} {n q:Str} {st:Stmt} {f:Addr} {od an:Option Addr} {sl:Array (Option KG)} {oc kV dc pm cd ct:KG} (a:PySem.W.findIn K (.ref C) n=some (some (.ref f))) (i:PySem.W.isFn K (.ref f)=true) (l:K.lookup f=some ⟨oc,od,.func (E7 n q (defArgs st) (defBody st) (defScope st) .none kV dc pm an cd ct),sl⟩) (c:PySem.W.codeIn K cd q=true) (k:PySem.W.keepIn K (.ref f)=true):MI K C n q st f:=⟨_,_,_,_,_,_,_,_,_,a,i,l,c,k⟩
inductive DE (K:C4) (mg:Str->Option Value) (n:Str) (st:Stmt) (f:Addr) (ps:List Str):Prop
 | mk (fd:KD) (F:Fun K n n st f fd) (b:Binds K fd ps []) (k:PySem.W.keepIn K (.ref f)=true) (q:mg n=some (.ref f)):DE K mg n st f ps
theorem diE {K:C4} {h:Heap} {mg:Str->Option KG} {n:Str} {st:Stmt} {f:Addr} (X:K.In h) (G:h.Ns mainGlobals mg) (d:DI K n st f) (ps:List Str) (hb:∀ (kV dc pm:KG) (an:Option Addr) (cd ct:KG) (us:List KG),us.length=ps.length->bindArgs (E7 n n (defArgs st) (defBody st) (defScope st) .none kV dc pm an cd ct) ⟨us,[]⟩=pure (ps.zip us)):DE K mg n st f ps:=by obtain ⟨_,_,_,_,_,_,_,_,_,a,l,c,k⟩:=d;have F:=lY (st:=st) l c k;exact ⟨_,F,F.binds hb,k,PySem.W.mg_of X G a⟩
inductive ME (K:C4) (C:Addr) (n q:Str) (st:Stmt) (f:Addr) (ps:List Str):Prop
 | mk (fd:KD) (F:Fun K n q st f fd) (b:Binds K fd ps []) (k:PySem.W.keepIn K (.ref f)=true) (a:PySem.W.findIn K (.ref C) n=some (some (.ref f))) (i:PySem.W.isFn K (.ref f)=true):ME K C n q st f ps
theorem miE {K:C4} {C:Addr} {n q:Str} {st:Stmt} {f:Addr} (d:MI K C n q st f) (ps:List Str) (hb:∀ (kV dc pm:KG) (an:Option Addr) (cd ct:KG) (us:List KG),us.length=ps.length->bindArgs (E7 n q (defArgs st) (defBody st) (defScope st) .none kV dc pm an cd ct) ⟨us,[]⟩=pure (ps.zip us)):ME K C n q st f ps:=by obtain ⟨_,_,_,_,_,_,_,_,_,a,i,l,c,k⟩:=d;have F:=lY (st:=st) l c k;exact ⟨_,F,F.binds hb,k,a,i⟩
theorem bd1 {n q:Str} {st:Stmt} {a:Str} (h:∀ (kV dc pm:KG) (an:Option Addr) (cd ct ua:KG),bindArgs (E7 n q (defArgs st) (defBody st) (defScope st) .none kV dc pm an cd ct) ⟨[ua],[]⟩=pure [(a,ua)]):∀ (kV dc pm:KG) (an:Option Addr) (cd ct:KG) (us:List KG),us.length=[a].length->bindArgs (E7 n q (defArgs st) (defBody st) (defScope st) .none kV dc pm an cd ct) ⟨us,[]⟩=pure ([a].zip us):=by intro _ _ _ _ _ _ us hl;obtain ⟨_,rfl⟩:=HE hl;exact h _ _ _ _ _ _ _
theorem bd2 {n q:Str} {st:Stmt} {a b:Str} (h:∀ (kV dc pm:KG) (an:Option Addr) (cd ct ua ub:KG),bindArgs (E7 n q (defArgs st) (defBody st) (defScope st) .none kV dc pm an cd ct) ⟨[ua,ub],[]⟩=pure [(a,ua),(b,ub)]):∀ (kV dc pm:KG) (an:Option Addr) (cd ct:KG) (us:List KG),us.length=[a,b].length->bindArgs (E7 n q (defArgs st) (defBody st) (defScope st) .none kV dc pm an cd ct) ⟨us,[]⟩=pure ([a,b].zip us):=by intro _ _ _ _ _ _ us hl;obtain ⟨_,_,rfl⟩:=yg hl;exact h _ _ _ _ _ _ _ _
theorem bd3 {n q:Str} {st:Stmt} {a b c:Str} (h:∀ (kV dc pm:KG) (an:Option Addr) (cd ct ua ub uc:KG),bindArgs (E7 n q (defArgs st) (defBody st) (defScope st) .none kV dc pm an cd ct) ⟨[ua,ub,uc],[]⟩=pure [(a,ua),(b,ub),(c,uc)]):∀ (kV dc pm:KG) (an:Option Addr) (cd ct:KG) (us:List KG),us.length=[a,b,c].length->bindArgs (E7 n q (defArgs st) (defBody st) (defScope st) .none kV dc pm an cd ct) ⟨us,[]⟩=pure ([a,b,c].zip us):=by intro _ _ _ _ _ _ us hl;obtain ⟨_,_,_,rfl⟩:=uy hl;exact h _ _ _ _ _ _ _ _ _
theorem bd4 {n q:Str} {st:Stmt} {a b c d:Str} (h:∀ (kV dc pm:KG) (an:Option Addr) (cd ct ua ub uc ud:KG),bindArgs (E7 n q (defArgs st) (defBody st) (defScope st) .none kV dc pm an cd ct) ⟨[ua,ub,uc,ud],[]⟩=pure [(a,ua),(b,ub),(c,uc),(d,ud)]):∀ (kV dc pm:KG) (an:Option Addr) (cd ct:KG) (us:List KG),us.length=[a,b,c,d].length->bindArgs (E7 n q (defArgs st) (defBody st) (defScope st) .none kV dc pm an cd ct) ⟨us,[]⟩=pure ([a,b,c,d].zip us):=by intro _ _ _ _ _ _ us hl;obtain ⟨_,_,_,_,rfl⟩:=HF hl;exact h _ _ _ _ _ _ _ _ _ _
theorem bd5 {n q:Str} {st:Stmt} {a b c d e:Str} (h:∀ (kV dc pm:KG) (an:Option Addr) (cd ct ua ub uc ud ue:KG),bindArgs (E7 n q (defArgs st) (defBody st) (defScope st) .none kV dc pm an cd ct) ⟨[ua,ub,uc,ud,ue],[]⟩=pure [(a,ua),(b,ub),(c,uc),(d,ud),(e,ue)]):∀ (kV dc pm:KG) (an:Option Addr) (cd ct:KG) (us:List KG),us.length=[a,b,c,d,e].length->bindArgs (E7 n q (defArgs st) (defBody st) (defScope st) .none kV dc pm an cd ct) ⟨us,[]⟩=pure ([a,b,c,d,e].zip us):=by intro _ _ _ _ _ _ us hl;obtain ⟨_,_,_,_,_,rfl⟩:=HG hl;exact h _ _ _ _ _ _ _ _ _ _ _
theorem lx7 {α:Type} {us:List α} (h:us.length=7):∃a b c d e f g,us=[a,b,c,d,e,f,g]:=by
 match us,h with
 | [a,b,c,d,e,f,g],_=>exact ⟨a,b,c,d,e,f,g,Y⟩
theorem bd7 {n q:Str} {st:Stmt} {a b c d e f g:Str} (h:∀ (kV dc pm:KG) (an:Option Addr) (cd ct ua ub uc ud ue uf ug:KG),bindArgs (E7 n q (defArgs st) (defBody st) (defScope st) .none kV dc pm an cd ct) ⟨[ua,ub,uc,ud,ue,uf,ug],[]⟩=pure [(a,ua),(b,ub),(c,uc),(d,ud),(e,ue),(f,uf),(g,ug)]):∀ (kV dc pm:KG) (an:Option Addr) (cd ct:KG) (us:List KG),us.length=[a,b,c,d,e,f,g].length->bindArgs (E7 n q (defArgs st) (defBody st) (defScope st) .none kV dc pm an cd ct) ⟨us,[]⟩=pure ([a,b,c,d,e,f,g].zip us):=by intro _ _ _ _ _ _ us hl;obtain ⟨_,_,_,_,_,_,_,rfl⟩:=lx7 hl;exact h _ _ _ _ _ _ _ _ _ _ _ _ _
theorem Jk {α:Type} {us:List α} (h:us.length=6):∃a b c d e f,us=[a,b,c,d,e,f]:=by
 match us,h with
 | [a,b,c,d,e,f],_=>exact ⟨a,b,c,d,e,f,Y⟩
theorem Jl {α:Type} {us:List α} (h:us.length=7):∃a b c d e f g,us=[a,b,c,d,e,f,g]:=by
 match us,h with
 | [a,b,c,d,e,f,g],_=>exact ⟨a,b,c,d,e,f,g,Y⟩
open PySem.W in
theorem all_mk {l:OpenLaw} {w:KF} {K:Frag} {h:Heap} {mg:Str->Option KG} {fa f0 f1 f2 f3 f4 f5 f6 f7 f8 f9 f10 f11 f12 f13 f14 f15 f16 f17 f18 f19 f20 f21 f22 f23 f24 f25 f26 f27 f28 f29 f30 f31 f32 f33 f34 f35 f36 f37 f38 f39 f40 f41 C fm0 fm1 fm2 fm3 fm4 fm5 xWAYS:Addr} (X:K.In h) (G:h.Ns mainGlobals mg) (hfa:mg "law" = some (.ref fa))
  {tc0:Tok} {tc1:Tok} {tc2:Tok} {tc3:Tok} {tc4:Tok} {tc5:Tok} {tc6:Tok} {tc7:Tok} {tc8:Tok} {tc9:Tok} {tc10:Tok}
  (d0:DI K "is_whole" jE f0)
  (d1:DI K "is_truth" jF f1)
  (d2:DI K "is_row" vz f2)
  (d3:DI K "is_kind" gJ f3)
  (d4:DI K "can_lie_turned" gK f4)
  (d5:DI K "check_plate" cP f5)
  (d6:DI K "check_sides" cQ f6)
  (d7:DI K "lies_in" eM f7)
  (d8:DI K "lyings_in" di f8)
  (d9:DI K "parts_up_to" cG f9)
  (d10:DI K "cut_parts" eN f10)
  (d11:DI K "cuts_of" dH f11)
  (d12:DI K "best_leaf" eP f12)
  (d13:DI K "best_step" cF f13)
  (d14:DI K "tree_by_steps" aX f14)
  (d15:DI K "best_of" gI f15)
  (d16:DI K "is_key" jH f16)
  (d17:DI K "is_table" eA f17)
  (d18:DI K "bears_part" dN f18)
  (d19:DI K "bears" ic f19)
  (d20:DI K "cuts_by_turns" cA f20)
  (d21:DI K "best_by_turns" cB f21)
  (d22:DI K "begins_with" cR f22)
  (d23:DI K "is_cut" jG f23)
  (d24:DI K "is_leaf" gG f24)
  (d25:DI K "spots_behind" cx f25)
  (d26:DI K "is_tree" gH f26)
  (d27:DI K "check_tree" dI f27)
  (d28:DI K "leaves_of" eO f28)
  (d29:DI K "pieces_of" eQ f29)
  (d30:DI K "counts_of" dj f30)
  (d31:DI K "worth_of" ez f31)
  (d32:DI K "turns_of" fS f32)
  (d33:DI K "_law_pot" vA f33)
  (d34:DI K "_law_draw" oU f34)
  (d35:DI K "_law_number" gL f35)
  (d36:DI K "_law_small" jI f36)
  (d37:DI K "_law_fits" oV f37)
  (d38:DI K "_law_bettered" eS f38)
  (d39:DI K "_law_turned" fT f39)
  (d40:DI K "_law_holds" ig f40)
  (d41:DI K "law" kY f41)
  (aC:nsIn K mainGlobals "Shop" = some (some (.ref C)))
  (dm0:MI K C "__init__" "Shop.__init__" dk fm0)
  (dm1:MI K C "blade" "Shop.blade" dJ fm1)
  (dm2:MI K C "kinds" "Shop.kinds" dL fm2)
  (dm3:MI K C "lyings" "Shop.lyings" cS fm3)
  (dm4:MI K C "is_lying" "Shop.is_lying" cz fm4)
  (dm5:MI K C "sides" "Shop.sides" dM fm5)
  (pg:plainGet K C Str.empty=true)
  (hd:hasDictIn K C=true)
  (po:plainOver K C=true)
  (sa:findIn K (.ref C) "__setattr__" = some (some (.builtin "object.__setattr__")))
  (mk:makesIn K C=true)
  (kc:keepIn K (.ref C)=true)
  (n0:findIn K (.ref C) "blade_width" = some none)
  (n1:findIn K (.ref C) "kind_rows" = some none)
  (eWAYS:nsIn K mainGlobals "WAYS" = some (some (.ref xWAYS)))
  (lWAYS:∃ (o:Obj) (its:Array KG) (n:Nat),K.lookup xWAYS=some o/\o.cls=.type "tuple" /\ o.data=.seq its n/\its.size<=sizeLine/\Vals [.str "down",.str "across"] its.toList)
  (z0:nsIn K mainGlobals "isinstance" = some none)
  (z1:nsIn K mainGlobals "int" = some none)
  (z2:nsIn K mainGlobals "bool" = some none)
  (z3:nsIn K mainGlobals "list" = some none)
  (z4:nsIn K mainGlobals "tuple" = some none)
  (z5:nsIn K mainGlobals "len" = some none)
  (z6:nsIn K mainGlobals "range" = some none)
  (z7:nsIn K mainGlobals "max" = some none)
  (z8:nsIn K mainGlobals "min" = some none)
  (z9:nsIn K mainGlobals "abs" = some none)
  (z10:nsIn K mainGlobals "divmod" = some none)
  (z11:nsIn K mainGlobals "sum" = some none)
  (z12:nsIn K mainGlobals "sorted" = some none)
  (z13:nsIn K mainGlobals "all" = some none)
  (z14:nsIn K mainGlobals "repr" = some none)
  (z15:nsIn K mainGlobals "zip" = some none)
  (z16:nsIn K mainGlobals "enumerate" = some none)
  (z17:nsIn K mainGlobals "str" = some none)
  (z18:nsIn K mainGlobals "dict" = some none)
  (uc0:nsIn K mainGlobals "MOST_KINDS" = some (some (.int 8 tc0)))
  (uc1:nsIn K mainGlobals "THINGS_OF_A_KIND" = some (some (.int 5 tc1)))
  (uc2:nsIn K mainGlobals "DOWN" = some (some (.str "down" tc2)))
  (uc3:nsIn K mainGlobals "REST" = some (some (.str "rest" tc3)))
  (uc4:nsIn K mainGlobals "PIECE" = some (some (.str "piece" tc4)))
  (uc5:nsIn K mainGlobals "ACROSS" = some (some (.str "across" tc5)))
  (uc6:nsIn K mainGlobals "MOST_SIDE" = some (some (.int 16 tc6)))
  (uc7:nsIn K mainGlobals "THINGS_OF_A_REST" = some (some (.int 1 tc7)))
  (uc8:nsIn K mainGlobals "THINGS_OF_A_PIECE" = some (some (.int 5 tc8)))
  (uc9:nsIn K mainGlobals "THINGS_OF_A_CUT" = some (some (.int 4 tc9)))
  (uc10:nsIn K mainGlobals "MOST_TURNS" = some (some (.int 32 tc10))) :
  ∃fd:KD,(∀ (s:KB) (v:KG),BindsTo s fd ⟨[v],[]⟩ [("_law_script",v)])/\∀base:Heap,K.In base->base.Ns mainGlobals mg->FnOk l.prog w K mg base CX0 38 fa fd ["_law_script"] (spLaw K):=by
 obtain ⟨_,F0,b0,k0,q0⟩:=diE X G d0 ["thing","least"] (bd2 λ _ _ _ _ _ _ _ _=>rfl);obtain ⟨_,F1,b1,k1,q1⟩:=diE X G d1 ["thing"] (bd1 λ _ _ _ _ _ _ _=>rfl);obtain ⟨_,F2,b2,k2,q2⟩:=diE X G d2 ["thing"] (bd1 λ _ _ _ _ _ _ _=>rfl);obtain ⟨_,F3,b3,k3,q3⟩:=diE X G d3 ["thing"] (bd1 λ _ _ _ _ _ _ _=>rfl);obtain ⟨_,F4,b4,k4,q4⟩:=diE X G d4 ["kind"] (bd1 λ _ _ _ _ _ _ _=>rfl);obtain ⟨_,F5,b5,k5,q5⟩:=diE X G d5 ["wide","high"] (bd2 λ _ _ _ _ _ _ _ _=>rfl);obtain ⟨_,F6,b6,k6,q6⟩:=diE X G d6 ["wide","high","most"] (bd3 λ _ _ _ _ _ _ _ _ _=>rfl);obtain ⟨_,F7,b7,k7,q7⟩:=diE X G d7 ["shop","wide","high","kind","turned","x","y"] (bd7 λ _ _ _ _ _ _ _ _ _ _ _ _ _=>rfl);obtain ⟨_,F8,b8,k8,q8⟩:=diE X G d8 ["shop","part"] (bd2 λ _ _ _ _ _ _ _ _=>rfl);obtain ⟨_,F9,b9,k9,q9⟩:=diE X G d9 ["wide","high"] (bd2 λ _ _ _ _ _ _ _ _=>rfl);obtain ⟨_,F10,b10,k10,q10⟩:=diE X G d10 ["blade","part","way","p"] (bd4 λ _ _ _ _ _ _ _ _ _ _=>rfl);obtain ⟨_,F11,b11,k11,q11⟩:=diE X G d11 ["blade","part"] (bd2 λ _ _ _ _ _ _ _ _=>rfl);obtain ⟨_,F12,b12,k12,q12⟩:=diE X G d12 ["shop","part"] (bd2 λ _ _ _ _ _ _ _ _=>rfl);obtain ⟨_,F13,b13,k13,q13⟩:=diE X G d13 ["leaf_found","cuts","worths"] (bd3 λ _ _ _ _ _ _ _ _ _=>rfl);obtain ⟨_,F14,b14,k14,q14⟩:=diE X G d14 ["steps","key"] (bd2 λ _ _ _ _ _ _ _ _=>rfl);obtain ⟨_,F15,b15,k15,q15⟩:=diE X G d15 ["shop","wide","high"] (bd3 λ _ _ _ _ _ _ _ _ _=>rfl);obtain ⟨_,F16,b16,k16,q16⟩:=diE X G d16 ["wide","high","thing"] (bd3 λ _ _ _ _ _ _ _ _ _=>rfl);obtain ⟨_,F17,b17,k17,q17⟩:=diE X G d17 ["wide","high","thing"] (bd3 λ _ _ _ _ _ _ _ _ _=>rfl);obtain ⟨_,F18,b18,k18,q18⟩:=diE X G d18 ["shop","part","table"] (bd3 λ _ _ _ _ _ _ _ _ _=>rfl);obtain ⟨_,F19,b19,k19,q19⟩:=diE X G d19 ["shop","wide","high","table"] (bd4 λ _ _ _ _ _ _ _ _ _ _=>rfl);obtain ⟨_,F20,b20,k20,q20⟩:=diE X G d20 ["cuts","way_ahead","left"] (bd3 λ _ _ _ _ _ _ _ _ _=>rfl);obtain ⟨_,F21,b21,k21,q21⟩:=diE X G d21 ["shop","wide","high","k"] (bd4 λ _ _ _ _ _ _ _ _ _ _=>rfl);obtain ⟨_,F22,b22,k22,q22⟩:=diE X G d22 ["thing","word","many"] (bd3 λ _ _ _ _ _ _ _ _ _=>rfl);obtain ⟨_,F23,b23,k23,q23⟩:=diE X G d23 ["blade","spot"] (bd2 λ _ _ _ _ _ _ _ _=>rfl);obtain ⟨_,F24,b24,k24,q24⟩:=diE X G d24 ["shop","spot"] (bd2 λ _ _ _ _ _ _ _ _=>rfl);obtain ⟨_,F25,b25,k25,q25⟩:=diE X G d25 ["blade","spot"] (bd2 λ _ _ _ _ _ _ _ _=>rfl);obtain ⟨_,F26,b26,k26,q26⟩:=diE X G d26 ["shop","wide","high","thing"] (bd4 λ _ _ _ _ _ _ _ _ _ _=>rfl);obtain ⟨_,F27,b27,k27,q27⟩:=diE X G d27 ["shop","wide","high","thing"] (bd4 λ _ _ _ _ _ _ _ _ _ _=>rfl);obtain ⟨_,F28,b28,k28,q28⟩:=diE X G d28 ["shop","wide","high","tree"] (bd4 λ _ _ _ _ _ _ _ _ _ _=>rfl);obtain ⟨_,F29,b29,k29,q29⟩:=diE X G d29 ["shop","wide","high","tree"] (bd4 λ _ _ _ _ _ _ _ _ _ _=>rfl);obtain ⟨_,F30,b30,k30,q30⟩:=diE X G d30 ["shop","wide","high","tree"] (bd4 λ _ _ _ _ _ _ _ _ _ _=>rfl);obtain ⟨_,F31,b31,k31,q31⟩:=diE X G d31 ["shop","wide","high","tree"] (bd4 λ _ _ _ _ _ _ _ _ _ _=>rfl);obtain ⟨_,F32,b32,k32,q32⟩:=diE X G d32 ["shop","wide","high","tree"] (bd4 λ _ _ _ _ _ _ _ _ _ _=>rfl);obtain ⟨_,F33,b33,k33,q33⟩:=diE X G d33 ["_law_script","_law_place"] (bd2 λ _ _ _ _ _ _ _ _=>rfl);obtain ⟨_,F34,b34,k34,q34⟩:=diE X G d34 ["_law_pot_here","_law_many"] (bd2 λ _ _ _ _ _ _ _ _=>rfl);obtain ⟨_,F35,b35,k35,q35⟩:=diE X G d35 ["_law_pot_here","_law_least"] (bd2 λ _ _ _ _ _ _ _ _=>rfl);obtain ⟨_,F36,b36,k36,q36⟩:=diE X G d36 ["_law_pot_here","_law_most"] (bd2 λ _ _ _ _ _ _ _ _=>rfl);obtain ⟨_,F37,b37,k37,q37⟩:=diE X G d37 ["_law_kind","_law_wide","_law_high"] (bd3 λ _ _ _ _ _ _ _ _ _=>rfl);obtain ⟨_,F38,b38,k38,q38⟩:=diE X G d38 ["_law_kind","_law_table"] (bd2 λ _ _ _ _ _ _ _ _=>rfl);obtain ⟨_,F39,b39,k39,q39⟩:=diE X G d39 ["_law_shop","_law_wide","_law_high","_law_k","_law_most"] (bd5 λ _ _ _ _ _ _ _ _ _ _ _=>rfl);obtain ⟨_,F40,b40,k40,q40⟩:=diE X G d40 ["_law_pot_here","_law_told","_law_wide","_law_high"] (bd4 λ _ _ _ _ _ _ _ _ _ _=>rfl);obtain ⟨_,an,_,_,kV,dc,pm,cd,ct,a41,l41,c41,k41⟩:=d41;have F41:=lY (st:=kY) l41 c41 k41;obtain ⟨_,Fm0,bm0,km0,am0,im0⟩:=miE dm0 ["self","blade","kinds"] (bd3 λ _ _ _ _ _ _ _ _ _=>rfl)
 obtain ⟨_,Fm1,bm1,km1,am1,im1⟩:=miE dm1 ["self"] (bd1 λ _ _ _ _ _ _ _=>rfl);obtain ⟨_,Fm2,bm2,km2,am2,im2⟩:=miE dm2 ["self"] (bd1 λ _ _ _ _ _ _ _=>rfl);obtain ⟨_,Fm3,bm3,km3,am3,im3⟩:=miE dm3 ["self"] (bd1 λ _ _ _ _ _ _ _=>rfl);obtain ⟨_,Fm4,bm4,km4,am4,im4⟩:=miE dm4 ["self","kind","turned"] (bd3 λ _ _ _ _ _ _ _ _ _=>rfl);obtain ⟨_,Fm5,bm5,km5,am5,im5⟩:=miE dm5 ["self","kind","turned"] (bd3 λ _ _ _ _ _ _ _ _ _=>rfl);have e:=hfa.symm.trans (mg_of X G a41);cases e;have y0:=mg_none_of X G z0;have y1:=mg_none_of X G z1;have y2:=mg_none_of X G z2;have y3:=mg_none_of X G z3;have y4:=mg_none_of X G z4;have y5:=mg_none_of X G z5;have y6:=mg_none_of X G z6;have y7:=mg_none_of X G z7;have y8:=mg_none_of X G z8;have y9:=mg_none_of X G z9;have y10:=mg_none_of X G z10;have y11:=mg_none_of X G z11;have y12:=mg_none_of X G z12;have y13:=mg_none_of X G z13;have y14:=mg_none_of X G z14;have y15:=mg_none_of X G z15;have y16:=mg_none_of X G z16;have y17:=mg_none_of X G z17;have y18:=mg_none_of X G z18;have gWAYS:=mg_of X G eWAYS;have u0:=mg_of X G uc0;have u1:=mg_of X G uc1;have u2:=mg_of X G uc2;have u3:=mg_of X G uc3;have u4:=mg_of X G uc4;have u5:=mg_of X G uc5;have u6:=mg_of X G uc6;have u7:=mg_of X G uc7;have u8:=mg_of X G uc8;have u9:=mg_of X G uc9;have u10:=mg_of X G uc10;have qC:=mg_of X G aC;refine ⟨fnOf "law" "law" (defArgs kY) (defBody kY) (defScope kY) .none kV dc pm an cd ct,λ s v=>.of_eq rfl,λ base _ _=>?_⟩;have B:Blt mg:=⟨y0,y1,y2,y3,y4,y5,y6,y7,y8,y9,y10,y11,y12,y13,y14,y15,y16,⟨_,u0⟩,⟨_,u1⟩⟩
 have T:ShopTxt K C:=⟨⟨pg,hd,po,sa⟩,n0,n1⟩
 have ZB:BeC K mg xWAYS:=⟨⟨_,u2⟩,⟨_,u3⟩,⟨_,u4⟩,⟨_,u5⟩,⟨_,u6⟩,gWAYS,λ H=>.inr lWAYS⟩
 have Z:TrC K mg xWAYS:=⟨⟨_,u2⟩,⟨_,u3⟩,⟨_,u4⟩,⟨_,u7⟩,⟨_,u8⟩,⟨_,u9⟩,gWAYS,λ H=>.inr lWAYS⟩
 have D0:Dn l.prog w K mg base "is_whole" ["thing","least"] 1 (bU K):=⟨_,_,tq F0 B,b0,k0,q0⟩
 have D1:Dn l.prog w K mg base "is_truth" ["thing"] 1 (gF K):=⟨_,_,tD F1 B,b1,k1,q1⟩
 have D2:Dn l.prog w K mg base "is_row" ["thing"] 1 (kr K):=⟨_,_,xQ F2 B,b2,k2,q2⟩
 have D3:Dn l.prog w K mg base "is_kind" ["thing"] 2 (fK K):=⟨_,_,qA F3 B D0 D1 D2,b3,k3,q3⟩
 have D4:Dn l.prog w K mg base "can_lie_turned" ["kind"] 1 (fL K):=⟨_,_,qB F4,b4,k4,q4⟩
 have MB:Mn l.prog w K mg base C "blade" ["self"] 1 (dD C):=⟨_,_,tE Fm1 T,bm1,⟨am1,im1,km1⟩⟩
 have MK:Mn l.prog w K mg base C "kinds" ["self"] 1 (eK C):=⟨_,_,tG Fm2 T y3,bm2,⟨am2,im2,km2⟩⟩
 have ML:Mn l.prog w K mg base C "lyings" ["self"] 2 (hV C):=⟨_,_,qD Fm3 T y16 D4,bm3,⟨am3,im3,km3⟩⟩
 have MI:Mn l.prog w K mg base C "is_lying" ["self","kind","turned"] 2 (de K C):=⟨_,_,mC Fm4 B T D0 D1 D4,bm4,⟨am4,im4,km4⟩⟩
 have MS:Mn l.prog w K mg base C "sides" ["self","kind","turned"] 3 (spSides K C):=⟨_,_,tJ Fm5 T MI,bm5,⟨am5,im5,km5⟩⟩
 have DS:Kn l.prog w K mg base "Shop" C ["self","blade","kinds"] 3 (mf C):=⟨_,_,⟨mk,am0,im0,kc⟩,vE Fm0 B T D0 D2 D3,bm0,qC⟩
 have D5:Dn l.prog w K mg base "check_plate" ["wide","high"] 2 (spCP):=⟨_,_,qJ F5 D0,b5,k5,q5⟩
 have D6:Dn l.prog w K mg base "check_sides" ["wide","high","most"] 1 (spCS):=⟨_,_,qS F6,b6,k6,q6⟩
 have D7:Dn l.prog w K mg base "lies_in" ["shop","wide","high","kind","turned","x","y"] 4 (spLies C):=⟨_,_,vK F7 T D0 MI MS,b7,k7,q7⟩
 have D8:Dn l.prog w K mg base "lyings_in" ["shop","part"] 5 (spLyIn C):=⟨_,_,vM F8 T ML D7,b8,k8,q8⟩
 have D9:Dn l.prog w K mg base "parts_up_to" ["wide","high"] 1 (spParts):=⟨_,_,tS F9 B,b9,k9,q9⟩
 have D10:Dn l.prog w K mg base "cut_parts" ["blade","part","way","p"] 1 (spParts2):=⟨_,_,qG F10 Z,b10,k10,q10⟩
 have D11:Dn l.prog w K mg base "cuts_of" ["blade","part"] 2 (spCuts):=⟨_,_,vN F11 B ZB D10,b11,k11,q11⟩
 have D12:Dn l.prog w K mg base "best_leaf" ["shop","part"] 6 (spBLeaf C):=⟨_,_,tX F12 ZB T MK D8,b12,k12,q12⟩
 have D13:Dn l.prog w K mg base "best_step" ["leaf_found","cuts","worths"] 1 (spStep):=⟨_,_,tY F13,b13,k13,q13⟩
 have D14:Dn l.prog w K mg base "tree_by_steps" ["steps","key"] 34 (spTBS 33):=⟨_,_,pF F14 ZB (λ n h=>⟨_,_,h,b14,k14,q14⟩) 33,b14,k14,q14⟩
 have D15:Dn l.prog w K mg base "best_of" ["shop","wide","high"] 35 (spBestOf C):=⟨_,_,qU F15 ZB T MB D5 D6 D9 D11 D12 D13 D14,b15,k15,q15⟩
 have D16:Dn l.prog w K mg base "is_key" ["wide","high","thing"] 2 (spIsKey):=⟨_,_,uw F16 B D0,b16,k16,q16⟩
 have D17:Dn l.prog w K mg base "is_table" ["wide","high","thing"] 3 (spIsTab):=⟨_,_,ux F17 B y18 D0 D16,b17,k17,q17⟩
 have D18:Dn l.prog w K mg base "bears_part" ["shop","part","table"] 6 (spBearsP C):=⟨_,_,rc F18 B T MB MK D8 D11,b18,k18,q18⟩
 have D19:Dn l.prog w K mg base "bears" ["shop","wide","high","table"] 7 (spBearsT C):=⟨_,_,re F19 ZB B D5 D6 D17 D18 D9,b19,k19,q19⟩
 have D20:Dn l.prog w K mg base "cuts_by_turns" ["cuts","way_ahead","left"] 1 (spCbt):=⟨_,_,xV F20,b20,k20,q20⟩
 have D13:Dn l.prog w K mg base "best_step" ["leaf_found","cuts","worths"] 1 (spStepN l.prog w):=⟨_,_,qY F13,b13,k13,q13⟩
 have D14:Dn l.prog w K mg base "tree_by_steps" ["steps","key"] 34 (spTBSN l.prog w 33):=⟨_,_,lA F14 ZB (λ n h=>⟨_,_,h,b14,k14,q14⟩) 33,b14,k14,q14⟩
 have D21:Dn l.prog w K mg base "best_by_turns" ["shop","wide","high","k"] 35 (spByT C):=⟨_,_,xX F21 ZB B ⟨_,u10⟩ T MB D0 D5 D6 D9 D11 D12 D20 D13 D14,b21,k21,q21⟩
 have D7:Dn l.prog w K mg base "lies_in" ["shop","wide","high","kind","turned","x","y"] 4 (spLiesG K C):=⟨_,_,tL F7 T D0 MI MS,b7,k7,q7⟩
 have D22:Dn l.prog w K mg base "begins_with" ["thing","word","many"] 2 (spBegins):=⟨_,_,qF F22 B y17 D2,b22,k22,q22⟩
 have D23:Dn l.prog w K mg base "is_cut" ["blade","spot"] 3 (spCut):=⟨_,_,xS F23 Z D22 D0,b23,k23,q23⟩
 have D24:Dn l.prog w K mg base "is_leaf" ["shop","spot"] 5 (spLeaf C):=⟨_,_,vI F24 Z D22 D7,b24,k24,q24⟩
 have D25:Dn l.prog w K mg base "spots_behind" ["blade","spot"] 2 (spBehind):=⟨_,_,qH F25 Z D10,b25,k25,q25⟩
 have D26:Dn l.prog w K mg base "is_tree" ["shop","wide","high","thing"] 6 (spIsTree C):=⟨_,_,qK F26 T MB D5 D23 D24 D25,b26,k26,q26⟩
 have D27:Dn l.prog w K mg base "check_tree" ["shop","wide","high","thing"] 7 (spCheckT C):=⟨_,_,qN F27 D26,b27,k27,q27⟩
 have D28:Dn l.prog w K mg base "leaves_of" ["shop","wide","high","tree"] 3 (spLeaves C):=⟨_,_,qM F28 T Z MB D25,b28,k28,q28⟩
 have D29:Dn l.prog w K mg base "pieces_of" ["shop","wide","high","tree"] 8 (spPieces C):=⟨_,_,qO F29 B Z D27 D28,b29,k29,q29⟩
 have D30:Dn l.prog w K mg base "counts_of" ["shop","wide","high","tree"] 9 (spCountsO C):=⟨_,_,mE F30 B T MK D29,b30,k30,q30⟩
 have D31:Dn l.prog w K mg base "worth_of" ["shop","wide","high","tree"] 10 (spWorthO C):=⟨_,_,qR F31 B T MK D30,b31,k31,q31⟩
 have D32:Dn l.prog w K mg base "turns_of" ["shop","wide","high","tree"] 8 (spTurns C):=⟨_,_,ur F32 B Z D27,b32,k32,q32⟩
 have D33:Dn l.prog w K mg base "_law_pot" ["_law_script","_law_place"] 1 (sG K):=⟨_,_,yd F33 y5 y1,b33,k33,q33⟩
 have D34:Dn l.prog w K mg base "_law_draw" ["_law_pot_here","_law_many"] 1 (gs):=⟨_,_,vY F34,b34,k34,q34⟩
 have D35:Dn l.prog w K mg base "_law_number" ["_law_pot_here","_law_least"] 2 (fJ):=⟨_,_,rf F35 D34,b35,k35,q35⟩
 have D36:Dn l.prog w K mg base "_law_small" ["_law_pot_here","_law_most"] 3 (spSmallA):=⟨_,_,rh F36 B D34 D35,b36,k36,q36⟩
 have D37:Dn l.prog w K mg base "_law_fits" ["_law_kind","_law_wide","_law_high"] 1 (spFtA):=⟨_,_,ye F37 B,b37,k37,q37⟩
 have D38:Dn l.prog w K mg base "_law_bettered" ["_law_kind","_law_table"] 2 (spBett):=⟨_,_,wc F38 B D37,b38,k38,q38⟩
 have D39:Dn l.prog w K mg base "_law_turned" ["_law_shop","_law_wide","_law_high","_law_k","_law_most"] 36 (spTrnd C):=⟨_,_,we F39 B D26 D31 D32 D21,b39,k39,q39⟩
 have D40:Dn l.prog w K mg base "_law_holds" ["_law_pot_here","_law_told","_law_wide","_law_high"] 37 (spHoldsN C):=⟨_,_,rj F40 B D34 D35 D26 D31 D15 D19 D38 D39 DS,b40,k40,q40⟩
 exact yf F41 B D33 D34 D36 D40
theorem walk {l:PySem.W.OpenLaw} {q:KC} {loose:List Str} {XP:(Str->Option KG)->Heap->Prop} {YP:KF->Heap->Prop} {d:DefRec} {K:Params->C4} (hn:l.most=some 63) (hdf:d.params.defaults=[])
  (hY:∀ (w:KF) (h:Heap),YP w h->(K w.params).In h)
  (F:∀ (w:KF) (mg:Str->Option KG) (fa:Addr) (h:Heap),(K w.params).In h->h.Ns mainGlobals mg->mg d.name=some (.ref fa) ->
   ∃fd:KD,(∀ (s:KB) (u:KG),BindsTo s fd ⟨[u],[]⟩ [("_law_script",u)])/\∀base:Heap,(K w.params).In base->base.Ns mainGlobals mg->FnOk l.prog w (K w.params) mg base CX0 38 fa fd ["_law_script"] (spLaw (K w.params))) :
  PySem.W.WalkO q loose XP YP l.row.toRowW d [] (λ f vs=>PySem.call f vs) :=
 L2.walk_of (n:=63) (k:=38) (x := "_law_script") (CX:=λ _=>CX0) (sp:=λ w=>spLaw (K w.params)) hn (by decide) hdf ⟨rfl,by decide,by decide,rfl⟩ hY F (λ _ _ a ns hl _ hS=>⟨a,ns,Y,hS,hl,λ _=>rfl⟩) λ _ _ _ _ _ z=>z
end Pc
namespace Pc
open PySem L2
section
open PySem.W
def kE (P:Params) (n:Str) (t:Nat) (v:KG):DictEntry:=⟨PyData.keyHash P n,.str n t,v⟩
def kO3 (P:Params):Obj:=⟨(.type "dict"),none,(.dict #[kE P "__name__" 165 (.str "law_platecuts_k95_whole_no_less_with_more" 842),kE P "__doc__" 166 .none,kE P "__package__" 167 .none,kE P "__loader__" 168 (.builtin "__main__.__loader__#opaque"),kE P "__spec__" 169 .none,kE P "__annotations__" 170 (.ref 6),kE P "__builtins__" 171 (.ref 4),kE P "__file__" 173 (.str "/claim/cut.py" 172),kE P "__cached__" 174 .none,kE P "PlateError" 206 (.ref 24),kE P "NoBlade" 222 (.ref 37),kE P "NoKinds" 238 (.ref 49),kE P "NoKind" 254 (.ref 61),kE P "NoLying" 270 (.ref 73),kE P "NoPlate" 286 (.ref 85),kE P "NoTree" 302 (.ref 97),kE P "TooLarge" 318 (.ref 109),kE P "NoTable" 334 (.ref 121),kE P "NoNumber" 350 (.ref 133),kE P "is_whole" 360 (.ref 142),kE P "is_truth" 367 (.ref 149),kE P "is_row" 374 (.ref 156),kE P "check_plate" 382 (.ref 163),kE P "check_sides" 391 (.ref 170),kE P "DOWN" 395 (.str "down" 394),kE P "ACROSS" 397 (.str "across" 396),kE P "WAYS" 398 (.ref 171),kE P "lies_in" 413 (.ref 178),kE P "lyings_in" 419 (.ref 183),kE P "cut_parts" 431 (.ref 190),kE P "cuts_of" 437 (.ref 195),kE P "parts_up_to" 443 (.ref 200),kE P "REST" 447 (.str "rest" 446),kE P "PIECE" 449 (.str "piece" 448),kE P "THINGS_OF_A_REST" 451 (.int 1 450),kE P "THINGS_OF_A_PIECE" 453 (.int 5 452),kE P "THINGS_OF_A_CUT" 455 (.int 4 454),kE P "begins_with" 464 (.ref 207),kE P "is_cut" 475 (.ref 214),kE P "is_leaf" 488 (.ref 221),kE P "spots_behind" 512 (.ref 228),kE P "is_tree" 525 (.ref 235),kE P "check_tree" 535 (.ref 242),kE P "leaves_of" 548 (.ref 249),kE P "MOST_SIDE" 552 (.int 16 551),kE P "best_leaf" 565 (.ref 256),kE P "best_step" 578 (.ref 263),kE P "tree_by_steps" 591 (.ref 270),kE P "best_of" 607 (.ref 277),kE P "pieces_of" 630 (.ref 284),kE P "counts_of" 636 (.ref 289),kE P "worth_of" 642 (.ref 294),kE P "MOST_KINDS" 646 (.int 8 645),kE P "THINGS_OF_A_KIND" 648 (.int 5 647),kE P "is_kind" 660 (.ref 301),kE P "can_lie_turned" 667 (.ref 308),kE P "Shop" 744 (.ref 363),kE P "is_key" 757 (.ref 374),kE P "is_table" 763 (.ref 379),kE P "bears_part" 779 (.ref 386),kE P "bears" 785 (.ref 391),kE P "MOST_TURNS" 789 (.int 32 788),kE P "turns_of" 805 (.ref 398),kE P "cuts_by_turns" 820 (.ref 405),kE P "best_by_turns" 841 (.ref 412),kE P "_law_pot" 852 (.ref 419),kE P "_law_draw" 861 (.ref 426),kE P "_law_number" 870 (.ref 433),kE P "_law_small" 882 (.ref 440),kE P "_law_fits" 891 (.ref 447),kE P "_law_bettered" 900 (.ref 454),kE P "_law_turned" 915 (.ref 461),kE P "_law_holds" 921 (.ref 466),kE P "law" 931 (.ref 473)] 74),#[]⟩
def HI (P:Params):Obj:=⟨(.type "dict"),none,(.dict #[kE P "__module__" 196 (.str "platecuts.errors" 187),kE P "__firstlineno__" 200 (.int 2 199),kE P "__static_attributes__" 201 (.ref 22),kE P "__weakref__" 203 (.ref 25),kE P "__doc__" 204 .none] 3),#[]⟩
def HJ (P:Params):Obj:=⟨(.type "type"),none,(.cls ⟨"PlateError",[.type "ValueError"],[.ref 24,.type "ValueError",.type "Exception",.type "BaseException",.type "object"],23,"PlateError",true,[],[.ref 37,.ref 49,.ref 61,.ref 73,.ref 85,.ref 97,.ref 109,.ref 121,.ref 133],false,none,false⟩),#[some (.ref 15),none,some (.str "PlateError" 189),some (.str "PlateError" 197),some (.builtin "ValueError.__new__"),some (.bool true)]⟩
def gk0 (x0 x1 x2 x3 x4 x5 x6:Nat)(P:Params):Obj:=⟨(.type "dict"),none,(.dict #[kE P "__module__" x0 (.str "platecuts.errors" 187),kE P "__firstlineno__" x1 (.int x2 x3),kE P "__static_attributes__" x4 (.ref x5),kE P "__doc__" x6 .none] 2),#[]⟩
def HL:=gk0 214 218 4 217 219 35 220
def gk1 (x0:Str)(x1 x2 x3 x4 x5:Nat)(P:Params):Obj:=⟨(.type "type"),none,(.cls ⟨x0,[.ref 24],[.ref x1,.ref 24,.type "ValueError",.type "Exception",.type "BaseException",.type "object"],x2,x0,true,[],[],false,none,false⟩),#[some (.ref x3),none,some (.str x0 x4),some (.str x0 x5),some (.builtin "ValueError.__new__"),some (.bool true)]⟩
def HM:=gk1 "NoBlade" 37 36 28 207 215
def HN:=gk0 230 234 6 233 235 47 236
def HP:=gk1 "NoKinds" 49 48 40 223 231
def HQ:=gk0 246 250 8 249 251 59 252
def HR:=gk1 "NoKind" 61 60 52 239 247
def HS:=gk0 262 266 10 265 267 71 268
def HU:=gk1 "NoLying" 73 72 64 255 263
def HV:=gk0 278 282 12 281 283 83 284
def HW:=gk1 "NoPlate" 85 84 76 271 279
def HX:=gk0 294 298 14 297 299 95 300
def HY:=gk1 "NoTree" 97 96 88 287 295
def Du:=gk0 310 314 16 313 315 107 316
def Dv:=gk1 "TooLarge" 109 108 100 303 311
def Dw:=gk0 326 330 18 329 331 119 332
def Dx:=gk1 "NoTable" 121 120 112 319 327
def Dy:=gk0 342 346 20 345 347 131 348
def Dz:=gk1 "NoNumber" 133 132 124 335 343
def gk2 (x0:Str)(x1:Nat)(x2:Str)(x3 x4 x5 x6 x7 x8 x9 x10 x11 x12 x13:Nat)(P:Params):Obj:=⟨(.type "code"),none,(.fields #[.str x0 x1,.str x2 x3,.str "/claim/cut.py" x4,.int x5 0,.int x6 0,.int 0 0,.int 0 0,.int 3 0,.ref x7,.bool true,.int 181 0,.ref x8,.none,.ref x9,.ref x10,.ref x11,.int x12 0,.int x5 0,.str "/claim/cut.py" x13]),#[]⟩
def DA:=gk2 "is_whole" 353 "is_whole" 354 355 23 2 136 137 138 139 140 358 359
def gk3 (x0 x1:Str)(x2:Stmt)(x3:Str)(x4 x5:Nat)(P:Params):Obj:=⟨(.type "function"),none,(.func (fnOf x0 x1 (defArgs x2) (defBody x2) (defScope x2) .none .none .none (.str x3 x4) none (.ref x5) .none)),#[]⟩
def DG:=gk3 "is_whole" "is_whole" jE "platecuts.checks" 351 141
def DH:=gk2 "is_truth" 361 "is_truth" 362 363 25 1 143 144 145 146 147 365 366
def DJ:=gk3 "is_truth" "is_truth" jF "platecuts.checks" 351 148
def DM:=gk2 "is_row" 368 "is_row" 369 370 27 1 150 151 152 153 154 372 373
def DO:=gk3 "is_row" "is_row" vz "platecuts.checks" 351 155
def DQ:=gk2 "check_plate" 375 "check_plate" 376 377 29 2 157 158 159 160 161 380 381
def DV:=gk3 "check_plate" "check_plate" cP "platecuts.checks" 351 162
def DX:=gk2 "check_sides" 383 "check_sides" 384 385 32 3 164 165 166 167 168 389 390
def DY:=gk3 "check_sides" "check_sides" cQ "platecuts.checks" 351 169
def DZ (P:Params):Obj:=⟨(.type "tuple"),none,(.seq #[.str "down" 394,.str "across" 396] 0),#[]⟩
def Ea:=gk2 "lies_in" 399 "lies_in" 400 401 39 7 172 173 174 175 176 411 412
def Eb:=gk3 "lies_in" "lies_in" eM "platecuts.parts" 392 177
def gk4 (x0:Str)(x1:Nat)(x2:Str)(x3 x4 x5 x6 x7 x8 x9 x10 x11:Nat)(P:Params):Obj:=⟨(.type "code"),none,(.fields #[.str x0 x1,.str x2 x3,.str "/claim/cut.py" x4,.int x5 0,.int x6 0,.int 0 0,.int 0 0,.int 3 0,.ref x7,.bool true,.int 181 0,.ref x8,.none,.none,.none,.ref x9,.int x10 0,.int x5 0,.str "/claim/cut.py" x11]),#[]⟩
def Ec:=gk4 "lyings_in" 414 "lyings_in" 415 416 44 2 179 180 181 417 418
def Ed:=gk3 "lyings_in" "lyings_in" di "platecuts.parts" 392 182
def Ee:=gk2 "cut_parts" 420 "cut_parts" 421 422 47 4 184 185 186 187 188 429 430
def Ef:=gk3 "cut_parts" "cut_parts" eN "platecuts.parts" 392 189
def Eg:=gk4 "cuts_of" 432 "cuts_of" 433 434 52 2 191 192 193 435 436
def Eh:=gk3 "cuts_of" "cuts_of" dH "platecuts.parts" 392 194
def Ei:=gk4 "parts_up_to" 438 "parts_up_to" 439 440 56 2 196 197 198 441 442
def Ej:=gk3 "parts_up_to" "parts_up_to" cG "platecuts.parts" 392 199
def Ek:=gk2 "begins_with" 456 "begins_with" 457 458 64 3 201 202 203 204 205 462 463
def El:=gk3 "begins_with" "begins_with" cR "platecuts.trees" 444 206
def Em:=gk2 "is_cut" 465 "is_cut" 466 467 68 2 208 209 210 211 212 473 474
def En:=gk3 "is_cut" "is_cut" jG "platecuts.trees" 444 213
def Eo:=gk2 "is_leaf" 476 "is_leaf" 477 478 75 2 215 216 217 218 219 486 487
def Ep:=gk3 "is_leaf" "is_leaf" gG "platecuts.trees" 444 220
def Er:=gk2 "spots_behind" 489 "spots_behind" 490 491 80 2 222 223 224 225 226 510 511
def Es:=gk3 "spots_behind" "spots_behind" cx "platecuts.trees" 444 227
def Et:=gk2 "is_tree" 513 "is_tree" 514 515 87 4 229 230 231 232 233 523 524
def Eu:=gk3 "is_tree" "is_tree" gH "platecuts.trees" 444 234
def Ev:=gk2 "check_tree" 526 "check_tree" 527 528 98 4 236 237 238 239 240 533 534
def Ew:=gk3 "check_tree" "check_tree" dI "platecuts.trees" 444 241
def Ex:=gk2 "leaves_of" 536 "leaves_of" 537 538 101 4 243 244 245 246 247 546 547
def Ey:=gk3 "leaves_of" "leaves_of" eO "platecuts.trees" 444 248
def Ez:=gk2 "best_leaf" 553 "best_leaf" 554 555 113 2 250 251 252 253 254 563 564
def EA:=gk3 "best_leaf" "best_leaf" eP "platecuts.best" 549 255
def EB:=gk2 "best_step" 566 "best_step" 567 568 120 3 257 258 259 260 261 576 577
def EC:=gk3 "best_step" "best_step" cF "platecuts.best" 549 262
def ED:=gk2 "tree_by_steps" 579 "tree_by_steps" 580 581 127 2 264 265 266 267 268 589 590
def EE:=gk3 "tree_by_steps" "tree_by_steps" aX "platecuts.best" 549 269
def EF:=gk2 "best_of" 592 "best_of" 593 594 133 3 271 272 273 274 275 605 606
def EG:=gk3 "best_of" "best_of" gI "platecuts.best" 549 276
def EH:=gk2 "pieces_of" 610 "pieces_of" 611 612 146 4 278 279 280 281 282 628 629
def EI:=gk3 "pieces_of" "pieces_of" eQ "platecuts.measures" 608 283
def EJ:=gk4 "counts_of" 631 "counts_of" 632 633 154 4 285 286 287 634 635
def EK:=gk3 "counts_of" "counts_of" dj "platecuts.measures" 608 288
def EL:=gk4 "worth_of" 637 "worth_of" 638 639 160 4 290 291 292 640 641
def EM:=gk3 "worth_of" "worth_of" ez "platecuts.measures" 608 293
def EN:=gk2 "is_kind" 649 "is_kind" 650 651 166 1 295 296 297 298 299 658 659
def EO:=gk3 "is_kind" "is_kind" gJ "platecuts.shops" 643 300
def EQ:=gk2 "can_lie_turned" 661 "can_lie_turned" 662 663 173 1 302 303 304 305 306 665 666
def ER:=gk3 "can_lie_turned" "can_lie_turned" gK "platecuts.shops" 643 307
def ES:=gk4 "__init__" 680 "Shop.__init__" 681 682 177 3 316 317 318 683 684
def ET:=gk3 "__init__" "Shop.__init__" dk "platecuts.shops" 643 319
def EU:=gk2 "blade" 686 "Shop.blade" 687 688 188 1 321 322 323 324 325 690 691
def EV:=gk3 "blade" "Shop.blade" dJ "platecuts.shops" 643 326
def EW:=gk2 "kinds" 693 "Shop.kinds" 694 695 191 1 328 329 330 331 332 697 698
def EX:=gk3 "kinds" "Shop.kinds" dL "platecuts.shops" 643 333
def EY:=gk4 "wanted" 700 "Shop.wanted" 701 702 194 1 335 336 337 703 704
def EZ:=gk3 "wanted" "Shop.wanted" kX "platecuts.shops" 643 338
def Fa:=gk2 "lyings" 706 "Shop.lyings" 707 708 197 1 340 341 342 343 344 713 714
def Fb:=gk3 "lyings" "Shop.lyings" cS "platecuts.shops" 643 345
def Fc:=gk2 "is_lying" 716 "Shop.is_lying" 717 718 205 3 347 348 349 350 351 722 723
def Fd:=gk3 "is_lying" "Shop.is_lying" cz "platecuts.shops" 643 352
def Fe:=gk2 "sides" 725 "Shop.sides" 726 727 210 3 354 355 356 357 358 732 733
def Ff:=gk3 "sides" "Shop.sides" dM "platecuts.shops" 643 359
def Fg (P:Params):Obj:=⟨(.type "dict"),none,(.dict #[kE P "__module__" 675 (.str "platecuts.shops" 643),kE P "__firstlineno__" 679 (.int 175 678),kE P "__init__" 685 (.ref 320),kE P "blade" 692 (.ref 327),kE P "kinds" 699 (.ref 334),kE P "wanted" 705 (.ref 339),kE P "lyings" 715 (.ref 346),kE P "is_lying" 724 (.ref 353),kE P "sides" 734 (.ref 360),kE P "__static_attributes__" 737 (.ref 361),kE P "__dict__" 739 (.ref 364),kE P "__weakref__" 741 (.ref 365),kE P "__doc__" 742 .none] 4),#[]⟩
def Fh (P:Params):Obj:=⟨(.type "type"),none,(.cls ⟨"Shop",[.type "object"],[.ref 363,.type "object"],362,"Shop",true,[],[],false,none,false⟩),#[none,none,some (.str "Shop" 668),some (.str "Shop" 676),some (.builtin "object.__new__"),some (.bool true)]⟩
def Fi:=gk2 "is_key" 747 "is_key" 748 749 218 3 368 369 370 371 372 755 756
def Fj:=gk3 "is_key" "is_key" jH "platecuts.tables" 745 373
def Fk:=gk4 "is_table" 758 "is_table" 759 760 223 3 375 376 377 761 762
def Fl:=gk3 "is_table" "is_table" eA "platecuts.tables" 745 378
def Fm:=gk2 "bears_part" 764 "bears_part" 765 766 227 3 380 381 382 383 384 777 778
def Fn:=gk3 "bears_part" "bears_part" dN "platecuts.tables" 745 385
def Fo:=gk4 "bears" 780 "bears" 781 782 236 4 387 388 389 783 784
def Fp:=gk3 "bears" "bears" ic "platecuts.tables" 745 390
def Fq:=gk2 "turns_of" 790 "turns_of" 791 792 244 4 392 393 394 395 396 803 804
def Fs:=gk3 "turns_of" "turns_of" fS "platecuts.turning" 786 397
def Ft:=gk2 "cuts_by_turns" 806 "cuts_by_turns" 807 808 257 3 399 400 401 402 403 818 819
def Fu:=gk3 "cuts_by_turns" "cuts_by_turns" cA "platecuts.turning" 786 404
def Fv:=gk2 "best_by_turns" 821 "best_by_turns" 822 823 264 4 406 407 408 409 410 839 840
def Fw:=gk3 "best_by_turns" "best_by_turns" cB "platecuts.turning" 786 411
def Fx:=gk2 "_law_pot" 844 "_law_pot" 845 846 285 2 413 414 415 416 417 850 851
def Fy:=gk3 "_law_pot" "_law_pot" vA "law_platecuts_k95_whole_no_less_with_more" 842 418
def Fz:=gk2 "_law_draw" 853 "_law_draw" 854 855 290 2 420 421 422 423 424 859 860
def FA:=gk3 "_law_draw" "_law_draw" oU "law_platecuts_k95_whole_no_less_with_more" 842 425
def FB:=gk2 "_law_number" 862 "_law_number" 863 864 297 2 427 428 429 430 431 868 869
def FC:=gk3 "_law_number" "_law_number" gL "law_platecuts_k95_whole_no_less_with_more" 842 432
def FD:=gk2 "_law_small" 871 "_law_small" 872 873 304 2 434 435 436 437 438 880 881
def FE:=gk3 "_law_small" "_law_small" jI "law_platecuts_k95_whole_no_less_with_more" 842 439
def FF:=gk2 "_law_fits" 883 "_law_fits" 884 885 311 3 441 442 443 444 445 889 890
def FG:=gk3 "_law_fits" "_law_fits" oV "law_platecuts_k95_whole_no_less_with_more" 842 446
def FH:=gk2 "_law_bettered" 892 "_law_bettered" 893 894 313 2 448 449 450 451 452 898 899
def FI:=gk3 "_law_bettered" "_law_bettered" eS "law_platecuts_k95_whole_no_less_with_more" 842 453
def FJ:=gk2 "_law_turned" 901 "_law_turned" 902 903 318 5 455 456 457 458 459 913 914
def FK:=gk3 "_law_turned" "_law_turned" fT "law_platecuts_k95_whole_no_less_with_more" 842 460
def FL:=gk4 "_law_holds" 916 "_law_holds" 917 918 327 4 462 463 464 919 920
def FM:=gk3 "_law_holds" "_law_holds" ig "law_platecuts_k95_whole_no_less_with_more" 842 465
def FN:=gk2 "law" 922 "law" 923 924 343 1 467 468 469 470 471 929 930
def FO:=gk3 "law" "law" kY "law_platecuts_k95_whole_no_less_with_more" 842 472
def kK:Params->Frag:=λ P=>(nat_lit 3,kO3 P) :: (nat_lit 23,HI P) :: (nat_lit 24,HJ P) :: (nat_lit 36,HL P) :: (nat_lit 37,HM P) :: (nat_lit 48,HN P) :: (nat_lit 49,HP P) :: (nat_lit 60,HQ P) :: (nat_lit 61,HR P) :: (nat_lit 72,HS P) :: (nat_lit 73,HU P) :: (nat_lit 84,HV P) :: (nat_lit 85,HW P) :: (nat_lit 96,HX P) :: (nat_lit 97,HY P) :: (nat_lit 108,Du P) :: (nat_lit 109,Dv P) :: (nat_lit 120,Dw P) :: (nat_lit 121,Dx P) :: (nat_lit 132,Dy P) :: (nat_lit 133,Dz P) :: (nat_lit 141,DA P) :: (nat_lit 142,DG P) :: (nat_lit 148,DH P) :: (nat_lit 149,DJ P) :: (nat_lit 155,DM P) :: (nat_lit 156,DO P) :: (nat_lit 162,DQ P) :: (nat_lit 163,DV P) :: (nat_lit 169,DX P) :: (nat_lit 170,DY P) :: (nat_lit 171,DZ P) :: (nat_lit 177,Ea P) :: (nat_lit 178,Eb P) :: (nat_lit 182,Ec P) :: (nat_lit 183,Ed P) :: (nat_lit 189,Ee P) :: (nat_lit 190,Ef P) :: (nat_lit 194,Eg P) :: (nat_lit 195,Eh P) :: (nat_lit 199,Ei P) :: (nat_lit 200,Ej P) :: (nat_lit 206,Ek P) :: (nat_lit 207,El P) :: (nat_lit 213,Em P) :: (nat_lit 214,En P) :: (nat_lit 220,Eo P) :: (nat_lit 221,Ep P) :: (nat_lit 227,Er P) :: (nat_lit 228,Es P) :: (nat_lit 234,Et P) :: (nat_lit 235,Eu P) :: (nat_lit 241,Ev P) :: (nat_lit 242,Ew P) :: (nat_lit 248,Ex P) :: (nat_lit 249,Ey P) :: (nat_lit 255,Ez P) :: (nat_lit 256,EA P) :: (nat_lit 262,EB P) :: (nat_lit 263,EC P) :: (nat_lit 269,ED P) :: (nat_lit 270,EE P) :: (nat_lit 276,EF P) :: (nat_lit 277,EG P) :: (nat_lit 283,EH P) :: (nat_lit 284,EI P) :: (nat_lit 288,EJ P) :: (nat_lit 289,EK P) :: (nat_lit 293,EL P) :: (nat_lit 294,EM P) :: (nat_lit 300,EN P) :: (nat_lit 301,EO P) :: (nat_lit 307,EQ P) :: (nat_lit 308,ER P) :: (nat_lit 319,ES P) :: (nat_lit 320,ET P) :: (nat_lit 326,EU P) :: (nat_lit 327,EV P) :: (nat_lit 333,EW P) :: (nat_lit 334,EX P) :: (nat_lit 338,EY P) :: (nat_lit 339,EZ P) :: (nat_lit 345,Fa P) :: (nat_lit 346,Fb P) :: (nat_lit 352,Fc P) :: (nat_lit 353,Fd P) :: (nat_lit 359,Fe P) :: (nat_lit 360,Ff P) :: (nat_lit 362,Fg P) :: (nat_lit 363,Fh P) :: (nat_lit 373,Fi P) :: (nat_lit 374,Fj P) :: (nat_lit 378,Fk P) :: (nat_lit 379,Fl P) :: (nat_lit 385,Fm P) :: (nat_lit 386,Fn P) :: (nat_lit 390,Fo P) :: (nat_lit 391,Fp P) :: (nat_lit 397,Fq P) :: (nat_lit 398,Fs P) :: (nat_lit 404,Ft P) :: (nat_lit 405,Fu P) :: (nat_lit 411,Fv P) :: (nat_lit 412,Fw P) :: (nat_lit 418,Fx P) :: (nat_lit 419,Fy P) :: (nat_lit 425,Fz P) :: (nat_lit 426,FA P) :: (nat_lit 432,FB P) :: (nat_lit 433,FC P) :: (nat_lit 439,FD P) :: (nat_lit 440,FE P) :: (nat_lit 446,FF P) :: (nat_lit 447,FG P) :: (nat_lit 453,FH P) :: (nat_lit 454,FI P) :: (nat_lit 460,FJ P) :: (nat_lit 461,FK P) :: (nat_lit 465,FL P) :: (nat_lit 466,FM P) :: (nat_lit 472,FN P) :: (nat_lit 473,FO P) :: []
end
end Pc
abbrev PySem.W.Fast.tw1617659119306574964:PySem.Program:=PySem.Challenge.pw_platecuts_k95_whole_no_less_with_more
theorem PySem.W.Fast.te1617659119306574964:PySem.Challenge.pw_platecuts_k95_whole_no_less_with_more=PySem.W.Fast.tw1617659119306574964:=rfl
namespace Hd
open PySem PySem.W
def S0:Str:="__name__"
def S2:Str:="__doc__"
def S3:Str:="__package__"
def S4:Str:="__loader__"
def S5:Str:="__spec__"
def HZ:Str:="__main__"
def yh:Str:="__annotations__"
def yi:Str:="__builtins__"
def yj:Str:="__file__"
def jT:Str:=⟨⟨[47,99,108,97,105,109,47,99,117,116,46,112,121]⟩⟩
def yk:Str:="__cached__"
def Ia:Str:="<module>"
def gb:Str:="platecuts.errors"
def gc:Str:="PlateError"
def mP:Str:="NoBlade"
def mQ:Str:="NoKinds"
def mR:Str:="NoKind"
def mS:Str:="NoLying"
def mT:Str:="NoPlate"
def mU:Str:="NoTree"
def mV:Str:="TooLarge"
def mW:Str:="NoTable"
def uz:Str:="__module__"
def FP:Str:="__qualname__"
def uA:Str:="__firstlineno__"
def uB:Str:="__static_attributes__"
def ym:Str:="__weakref__"
def iw:Str:="law_platecuts_k95_whole_no_less_with_more"
def rm:Str:="NoNumber"
def mX:Str:="is_whole"
def mY:Str:="is_truth"
def mZ:Str:="is_row"
def ng:Str:="check_plate"
def nh:Str:="check_sides"
def yn:Str:="DOWN"
def yo:Str:="down"
def yp:Str:="ACROSS"
def yq:Str:="across"
def yr:Str:="WAYS"
def nj:Str:="lies_in"
def nr:Str:="lyings_in"
def nu:Str:="cut_parts"
def nv:Str:="cuts_of"
def nw:Str:="parts_up_to"
def yt:Str:="REST"
def FQ:Str:="rest"
def yu:Str:="PIECE"
def FR:Str:="piece"
def yw:Str:="THINGS_OF_A_REST"
def yx:Str:="THINGS_OF_A_PIECE"
def yy:Str:="THINGS_OF_A_CUT"
def ny:Str:="begins_with"
def nz:Str:="is_cut"
def nA:Str:="is_leaf"
def nC:Str:="spots_behind"
def nD:Str:="is_tree"
def nE:Str:="check_tree"
def nF:Str:="leaves_of"
def yz:Str:="MOST_SIDE"
def nG:Str:="best_leaf"
def nH:Str:="best_step"
def nI:Str:="tree_by_steps"
def nJ:Str:="best_of"
def nL:Str:="pieces_of"
def nM:Str:="counts_of"
def nN:Str:="worth_of"
def yA:Str:="MOST_KINDS"
def yB:Str:="THINGS_OF_A_KIND"
def nO:Str:="is_kind"
def nP:Str:="can_lie_turned"
def jU:Str:="Shop"
def nQ:Str:="is_key"
def nR:Str:="is_table"
def nS:Str:="bears_part"
def nT:Str:="bears"
def yC:Str:="MOST_TURNS"
def nU:Str:="turns_of"
def nV:Str:="cuts_by_turns"
def nW:Str:="best_by_turns"
def nX:Str:="_law_pot"
def nY:Str:="_law_draw"
def nZ:Str:="_law_number"
def lI:Str:="thing"
def Ib:Str:="least"
def uC:Str:="platecuts.checks"
def ge:Str:="wide"
def gf:Str:="high"
def FS:Str:="most"
def lJ:Str:="shop"
def lK:Str:="kind"
def rn:Str:="turned"
def wf:Str:="x"
def wg:Str:="y"
def Ic:Str:="piece_wide"
def Id:Str:="piece_high"
def uD:Str:="platecuts.parts"
def iB:Str:="blade"
def uE:Str:="part"
def lL:Str:="way"
def uF:Str:="p"
def FT:Str:="word"
def Ie:Str:="many"
def oe:Str:="platecuts.trees"
def uG:Str:="spot"
def rp:Str:="tree"
def Ig:Str:="side"
def wj:Str:="first"
def wk:Str:="second"
def Ih:Str:="wide_ahead"
def Ii:Str:="high_ahead"
def Ij:Str:="wide_behind"
def Ik:Str:="high_behind"
def uH:Str:="step"
def Il:Str:="far_x"
def Im:Str:="far_y"
def yD:Str:="waiting"
def Io:Str:="leaves"
def uI:Str:="worth"
def FU:Str:="leaf"
def og:Str:="kinds"
def wm:Str:="platecuts.best"
def FV:Str:="leaf_found"
def yE:Str:="cuts"
def FW:Str:="worths"
def Ip:Str:="cut"
def Iq:Str:="together"
def yF:Str:="steps"
def FX:Str:="key"
def FY:Str:="table"
def Ir:Str:="plate"
def Is:Str:="pieces"
def Iu:Str:="part_wide"
def Iv:Str:="part_high"
def Iw:Str:="piece_x"
def Ix:Str:="piece_y"
def yG:Str:="platecuts.measures"
def rq:Str:="wanted"
def FZ:Str:="turns"
def rz:Str:="platecuts.shops"
def uJ:Str:="__init__"
def uK:Str:="lyings"
def uL:Str:="is_lying"
def uM:Str:="sides"
def yH:Str:="Shop.__init__"
def uN:Str:="self"
def yI:Str:="Shop.blade"
def yJ:Str:="Shop.kinds"
def yK:Str:="Shop.wanted"
def Iy:Str:="told"
def Iz:Str:="number"
def yL:Str:="Shop.lyings"
def yM:Str:="Shop.is_lying"
def IA:Str:="row"
def yN:Str:="Shop.sides"
def IB:Str:="blade_width"
def IC:Str:="kind_rows"
def Ga:Str:="__dict__"
def ID:Str:="a"
def IE:Str:="b"
def wr:Str:="platecuts.tables"
def IF:Str:="part_tree"
def Gb:Str:="way_ahead"
def yO:Str:="platecuts.turning"
def Gc:Str:="left"
def IG:Str:="allowed"
def IH:Str:="still_left"
def II:Str:="k"
def IJ:Str:="other"
def Gd:Str:="_law_script"
def Ge:Str:="_law_place"
def IK:Str:="_law_cell"
def wu:Str:="_law_pot_here"
def IL:Str:="_law_many"
def IM:Str:="_law_found"
def IN:Str:="_law_least"
def IO:Str:="_law_way"
def rA:Str:="_law_small"
def rB:Str:="_law_fits"
def rC:Str:="_law_bettered"
def rD:Str:="_law_turned"
def rE:Str:="_law_holds"
def uO:Str:="law"
def Gf:Str:="_law_most"
def IP:Str:="_law_kinds"
def Gg:Str:="_law_k"
def yP:Str:="_law_wide"
def yQ:Str:="_law_high"
def Gh:Str:="_law_kind"
def IQ:Str:="_law_table"
def IR:Str:="_law_part"
def IS:Str:="_law_shop"
def IT:Str:="_law_fewer"
def IU:Str:="_law_more"
def IV:Str:="_law_worth"
def IW:Str:="_law_tree"
def IX:Str:="_law_told"
abbrev HK:Hook:=kHook Pc.kK [nat_lit 3,nat_lit 23,nat_lit 24,nat_lit 36,nat_lit 37,nat_lit 48,nat_lit 49,nat_lit 60,nat_lit 61,nat_lit 72,nat_lit 73,nat_lit 84,nat_lit 85,nat_lit 96,nat_lit 97,nat_lit 108,nat_lit 109,nat_lit 120,nat_lit 121,nat_lit 132,nat_lit 133,nat_lit 141,nat_lit 142,nat_lit 148,nat_lit 149,nat_lit 155,nat_lit 156,nat_lit 162,nat_lit 163,nat_lit 169,nat_lit 170,nat_lit 171,nat_lit 177,nat_lit 178,nat_lit 182,nat_lit 183,nat_lit 189,nat_lit 190,nat_lit 194,nat_lit 195,nat_lit 199,nat_lit 200,nat_lit 206,nat_lit 207,nat_lit 213,nat_lit 214,nat_lit 220,nat_lit 221,nat_lit 227,nat_lit 228,nat_lit 234,nat_lit 235,nat_lit 241,nat_lit 242,nat_lit 248,nat_lit 249,nat_lit 255,nat_lit 256,nat_lit 262,nat_lit 263,nat_lit 269,nat_lit 270,nat_lit 276,nat_lit 277,nat_lit 283,nat_lit 284,nat_lit 288,nat_lit 289,nat_lit 293,nat_lit 294,nat_lit 300,nat_lit 301,nat_lit 307,nat_lit 308,nat_lit 319,nat_lit 320,nat_lit 326,nat_lit 327,nat_lit 333,nat_lit 334,nat_lit 338,nat_lit 339,nat_lit 345,nat_lit 346,nat_lit 352,nat_lit 353,nat_lit 359,nat_lit 360,nat_lit 362,nat_lit 363,nat_lit 373,nat_lit 374,nat_lit 378,nat_lit 379,nat_lit 385,nat_lit 386,nat_lit 390,nat_lit 391,nat_lit 397,nat_lit 398,nat_lit 404,nat_lit 405,nat_lit 411,nat_lit 412,nat_lit 418,nat_lit 419,nat_lit 425,nat_lit 426,nat_lit 432,nat_lit 433,nat_lit 439,nat_lit 440,nat_lit 446,nat_lit 447,nat_lit 453,nat_lit 454,nat_lit 460,nat_lit 461,nat_lit 465,nat_lit 466,nat_lit 472,nat_lit 473] (λ _=>by kernel_rfl)
abbrev pt:KC:=PySem.W.Fast.tw1617659119306574964
theorem pt_eq:PySem.Challenge.pw_platecuts_k95_whole_no_less_with_more=pt:=PySem.W.Fast.te1617659119306574964
def tp (i:Nat):Stmt:=pt.main.body.getD i (.Pass ⟨0,0,0,0⟩)
abbrev f (o:Params->Obj) (l r:Params->BT):Params->BT:=λ P=>.node (o P) (l P) (r P)
abbrev z:Params->BT:=λ _=>.nil
abbrev e (P:Params) (n:Str) (t:Nat) (v:KG):DictEntry:=⟨PyData.keyHash P n,.str n t,v⟩
abbrev m0:Nat:=nat_lit 11
abbrev an:Option KG:=(some (.ref 6))
abbrev en:Env:={ scope:=pt.main.scope,locals:=mainNs,globals:=mainNs,cells:=[],code:=(.ref 13),frame:=some 14 }
abbrev cE:Code:=.body (behindTheImports pt) en
abbrev qP:Pos:=⟨0,0,0,0⟩
abbrev B:List Frame:=[topFrame qP]
abbrev L0:=SL.s14018661285674007319x4
abbrev L1:=SL.s11665532747177232413x24
abbrev L2:=SL.s15183661809925369436x15
abbrev L3:=SL.s13915890719876406383x10
abbrev L4:=SL.s13459172003223722735x3
abbrev L5:=SL.s10557405761357834076x3
abbrev L6:=SL.s4233737765568776869x3
abbrev L7:=SL.s2508922471967985374x5
abbrev L8:=SL.s15574269061696679450x3
abbrev L9:=SL.s6016482663378992977x10
abbrev L10:=SL.s5596568736180474577x8
abbrev L11:=SL.s2839554839881490554x3
abbrev L12:=SL.s725004073602090463x7
abbrev L13:=SL.s9436932552931045734x7
abbrev L14:=SL.s2754603736356183583x3
abbrev L15:=SL.s15185746759980889043x6
abbrev L16:=SL.s8192189862530294059x4
abbrev L17:=SL.s7038307821325472102x4
abbrev L18:=SL.s5662562618415449548x6
abbrev L19:=SL.s15281542589158584767x7
abbrev L20:=SL.s17651547275483570877x7
abbrev L21:=SL.s4036449017235975746x7
abbrev L22:=SL.s8879979712987360175x4
abbrev L23:=SL.s1801250619170735830x3
abbrev L24:=SL.s17659931425627118568x2
abbrev L25:=SL.s6063217899685152688x5
abbrev L26:=SL.s8008927332132565319x10
abbrev L27:=SL.s3544116645089599534x10
abbrev L28:=SL.s13761710972054866084x4
abbrev L29:=SL.s12896375587409280029x5
abbrev L30:=SL.s13014049009108672802x3
abbrev L31:=SL.s13935586738268321596x6
abbrev L32:=SL.s8200498257699607233x3
abbrev L33:=SL.s14114244577727609259x3
abbrev L34:=SL.s1499430450269397089x4
abbrev L35:=SL.s8755793994789770505x5
abbrev L36:=SL.s15725212667919936108x3
abbrev L37:=SL.s15791221867095933363x3
abbrev L38:=SL.s81309575031448614x3
abbrev L39:=SL.s8069831620301644142x5
abbrev L40:=SL.s10061844253413749634x4
abbrev L41:=SL.s9496514870978017513x5
abbrev L42:=SL.s8899691144933366716x7
abbrev L43:=SL.s15201008993051130160x6
abbrev L44:=SL.s741896355592496720x3
abbrev L45:=SL.s17925004256654032244x4
abbrev L46:=SL.s11695548795398191787x4
abbrev L47:=SL.s4156966113859768872x10
abbrev L48:=SL.s9501651726347032510x9
abbrev L49:=SL.s15722918466584999320x5
abbrev L50:=SL.s591115383303110208x11
abbrev L51:=SL.s15721156781594690315x7
abbrev L52:=SL.s14340494229221121180x9
abbrev L53:=SL.s13429844117177748173x6
abbrev L54:=SL.s16463266125957815391x5
abbrev L55:=SL.s4922535414793169389x9
abbrev L56:=SL.s8101838861749082086x8
abbrev L57:=SL.s7066276694103001551x3
abbrev L58:=SL.s9222952809800978799x4
abbrev L59:=SL.s462964344163437139x3
abbrev L60:=SL.s2742458400755230247x6
abbrev L61:=SL.s1438033511350832697x5
abbrev L62:=SL.s14365286008749172514x8
abbrev L63:=SL.s3642769012341782148x3
abbrev L64:=SL.s4674234679698826739x5
abbrev L65:=SL.s16656946322747308186x12
abbrev L66:=SL.s10796804682411823810x3
abbrev L67:=SL.s4290257624100764138x5
abbrev L68:=SL.s2766695959194262286x5
abbrev L69:=SL.s17162191345867700912x4
abbrev L70:=SL.s14339709457334898076x3
abbrev L71:=SL.s4278001404047624695x13
abbrev L72:=SL.s6585700554429387442x18
abbrev L73:=SL.s5946037652744460706x9
abbrev L74:=SL.s7410770068591931388x13
abbrev L75:=SL.s11817881795495490833x17
abbrev L76:=SL.s15679963881808890155x10
abbrev L77:=SL.s3871700062485845797x15
abbrev L78:=SL.s7689518266570723881x14
abbrev L79:=SL.s9001593270443806431x14
abbrev L80:=SL.s6882542574934516792x11
abbrev L81:=SL.s14403400214490484960x8
abbrev L82:=SL.s14457978657717015782x11
abbrev L83:=SL.s1753610191782819921x11
abbrev L84:=SL.s14119380538032626715x11
abbrev L85:=SL.s11437920000406562045x9
abbrev L86:=SL.s10852414792293593619x7
abbrev L87:=SL.s14816307405966870543x14
abbrev L88:=SL.s8682627914449686677x12
abbrev L89:=SL.s4428170145600203450x18
abbrev L90:=SL.s5991306692159431302x13
abbrev L91:=SL.s16067994140765818257x11
abbrev L92:=SL.s2327743974964600596x11
abbrev L93:=SL.s2804747833354056582x9
abbrev L94:=SL.s6070975301684473832x10
abbrev L95:=SL.s14270485950484850486x7
abbrev L96:=SL.s12041534306414923332x18
abbrev L97:=SL.s2531307568338490285x13
abbrev L98:=SL.s631175304937289666x17
abbrev L99:=SL.s5144983644357021410x12
abbrev Jm:=SL.s18039099521571816885x18
abbrev Jn:=SL.s6011586214260557989x15
abbrev Jo:=SL.s5430567037509283100x13
abbrev Jp:=SL.s8117915138073963741x13
abbrev Jq:=SL.s3423317712779056401x25
abbrev Jr:=SL.s2007317383269046180x15
abbrev Js:=SL.s17481586968713580700x14
abbrev Jt:=SL.s2450899226349176912x13
abbrev Ju:=SL.s16626165730633575011x14
abbrev Jv:=SL.s14288496050688921416x11
abbrev Jw:=SL.s5735081916595925998x15
abbrev Jx:=SL.s3865607918536308442x17
abbrev Jy:=SL.s13337502604062700212x15
abbrev Jz:=SL.s13114017843053701147x15
abbrev JA:=SL.s17467278006356818441x17
abbrev JB:=SL.s17722149559621369488x16
abbrev JC:=SL.s7855274175708717672x17
abbrev JD:=SL.s13351283678309829046x18
abbrev JE:=SL.s6668348653404991179x15
abbrev JF:=SL.s12913350958174193794x18
abbrev JG:=SL.s16115879512475548326x12
abbrev JH:=SL.s15920661018069861047x16
abbrev JI:=SL.s10779130036587390575x21
abbrev JJ:=SL.s7801419657504700863x10
abbrev JK:=SL.s1688129525768580628x8
abbrev JL:=SL.s1031832959479892071x19
abbrev JM:=SL.s8991790508128307865x19
abbrev JN:=SL.s14539662485746970245x23
abbrev JO:=SL.s11643622729373238714x14
abbrev JP:=SL.s3386828779285465597x17
abbrev JQ:=SL.s13042696260734638735x12
abbrev JR:=SL.s18239426817015966623x15
abbrev JS:=SL.s1270395311379034370x22
abbrev JT:=SL.s10696252587037064777x22
abbrev JU:=SL.s7852717498200857586x20
abbrev JV:=SL.s6377248116197321094x8
abbrev JW:=SL.s3834378056692298002x18
abbrev JX:=SL.s17586630440231065808x18
abbrev JY:=SL.s15234114252648025395x21
abbrev JZ:=SL.s8496462677383758984x14
abbrev Ka:=SL.s16789243406116112673x4
abbrev Kb:=SL.s14400166428656793546x20
abbrev Kc:=SL.s5857708277339239366x20
abbrev Ke:=SL.s7804999707787243718x20
abbrev yR:=SL.s7097527257260152453x26
abbrev Kf:=SL.s6658869562736209489x6
abbrev yS:=SL.s5856160107412720595x4
abbrev IY:=SL.s658472552662922059x5
abbrev sZ (w:KF) (os:OsState):KB:=⟨boot_heap w.params,Array.mk [],boot_drawn,boot_toks,os⟩
def o11 (P:Params):Obj:=⟨(.type L68),none,(.seq #[] 0),#[]⟩
def o12 (P:Params):Obj:=⟨.none,none,(.fields #[]),#[]⟩
def g0 (x0:Str)(x1 x2 x3:Nat)(P:Params):Obj:=⟨(.type yS),none,(.fields #[.str x0 x1,.str x0 (x1+1),.str jT (x1+2),.int x2 0,.int 0 0,.int 0 0,.int 0 0,.int 0 0,.ref x3,.bool false,.int 181 0,.ref (x3+1),.none,.none,.none,.none,.int (x1+3) 0,.int x2 0,.str jT (x1+4)]),#[]⟩
def o13:=g0 Ia 182 1 11
def g1 (x0 x1:Nat)(x2:Str)(x3:Nat)(P:Params):Obj:=⟨(.type IY),none,.plain,#[some (.ref x0),some (.ref 3),some (.ref x1),none,some (.str x2 x3),none,some (.ref 0)]⟩
def o14:=g1 13 3 HZ 164
def hA (P:Params):Heap:=⟨⟨[boot_o_0 P,boot_o_1 P,boot_o_2 P,boot_o_3 P,boot_o_4 P,boot_o_5 P,boot_o_6 P,boot_o_7 P,boot_o_8 P,boot_o_9 P,boot_o_10 P,o11 P,o12 P,o13 P,o14 P]⟩,{ }⟩
abbrev sA (w:KF) (os:OsState):KB:=⟨hA w.params,(Array.mk []),⟨0,0,0,0⟩,187,os⟩
abbrev pA:Pos:=⟨0,0,0,0⟩
theorem pre (w:KF):(λ os=>topGo treeTable pt w m0 an 12 (sZ w os) (topStub pt))=λ os=>some (sA w os,(⟨denote treeTable cE,cE,pA,B⟩:Thread)):=by rw [PySem.W.Fast.te15667345088766844465,PySem.W.Fast.te14364793385576792824,PySem.W.Fast.te11892475500146522536]; kernel_rfl
def tB:Params->BT:=(f boot_o_0 (f boot_o_1 (f boot_o_3 (f boot_o_7 z z) (f o11 z z)) (f boot_o_5 (f boot_o_9 z z) (f o13 z z))) (f boot_o_2 (f boot_o_4 (f boot_o_8 z z) (f o12 z z)) (f boot_o_6 (f boot_o_10 z z) (f o14 z z))))
abbrev sB (w:KF) (os:OsState):SharedT:=⟨tB w.params,15,{ },(Array.mk []),⟨0,0,0,0⟩,187,os⟩
abbrev pB:Pos:=⟨0,0,0,0⟩
theorem blk (w:KF):(λ os=>segRun treeTable pt w m0 an 1 1 (sA w os) ⟨(blockStart (behindTheImports pt) en).wrap (λ _=>doneF .next) deadEnd id id,cE,pA,B⟩)=λ os=>some (.next,(sB w os).abs,cE,pB):=by rw [PySem.W.Fast.te14374325043358763698,PySem.W.Fast.te14364793385576792824,PySem.W.Fast.te1066825118222455980]; kernel_rfl
def IZ (P:Params):Obj:=⟨(.type L0),none,(.dict #[e P S0 165 (.str gb 187),e P S2 166 .none,e P S3 167 .none,e P S4 168 (.builtin yR),e P S5 169 .none,e P yh 170 (.ref 6),e P yi 171 (.ref 4),e P yj 173 (.str jT 172),e P yk 174 .none,e P gc 206 (.ref 24),e P mP 222 (.ref 37),e P mQ 238 (.ref 49),e P mR 254 (.ref 61),e P mS 270 (.ref 73),e P mT 286 (.ref 85),e P mU 302 (.ref 97),e P mV 318 (.ref 109),e P mW 334 (.ref 121)] 18),#[]⟩
def Gi (P:Params):Obj:=⟨.none,none,(.fields #[.int 2 0,.int 0 0,.ref 20,.int 4 0,.int 0 0,.ref 33,.int 6 0,.int 0 0,.ref 45,.int 8 0,.int 0 0,.ref 57,.int 10 0,.int 0 0,.ref 69,.int 12 0,.int 0 0,.ref 81,.int 14 0,.int 0 0,.ref 93,.int 16 0,.int 0 0,.ref 105,.int 18 0,.int 0 0,.ref 117]),#[]⟩
def o15 (P:Params):Obj:=⟨(.type L68),none,(.seq #[.type L94] 0),#[]⟩
abbrev Gj:=SL.s11030030927630378310x26
abbrev Ja:=SL.s10062305145149207511x16
def o16 (P:Params):Obj:=⟨(.type Gj),none,(.fields #[.builtin Ja,.type L69]),#[]⟩
def g2 (x0:Nat)(x1:Str)(x2 x3:Nat)(P:Params):Obj:=⟨(.type L0),none,(.dict #[e P uz x0 (.str gb 187),e P FP (x0+2) (.str x1 (x0+1)),e P uA (x0+4) (.int x2 (x0+3)),e P uB (x0+5) (.ref x3)] 4),#[]⟩
def o17:=g2 196 gc 2 22
def o20:=g0 gc 191 2 18
def o21:=g1 20 17 gb 187
def o23 (P:Params):Obj:=⟨(.type L0),none,(.dict #[e P uz 196 (.str gb 187),e P uA 200 (.int 2 199),e P uB 201 (.ref 22),e P ym 203 (.ref 25),e P S2 204 .none] 3),#[]⟩
abbrev yT:=SL.s4209523147560561109x18
def o24 (P:Params):Obj:=⟨(.type L69),none,(.cls ⟨gc,[.type L94],[.ref 24,.type L94,.type L73,.type L71,.type L60],23,gc,true,[],[.ref 37,.ref 49,.ref 61,.ref 73,.ref 85,.ref 97,.ref 109,.ref 121],false,none,false⟩),#[some (.ref 15),none,some (.str gc 189),some (.str gc 197),some (.builtin yT),some (.bool true)]⟩
abbrev Gk:=SL.s14755015743595814543x17
abbrev Jb:=SL.s10220274742760427390x26
def g3 (x0 x1:Nat)(P:Params):Obj:=⟨(.type Gk),none,(.fields #[.str ym x0,.ref x1,.builtin Jb,.none]),#[]⟩
def o25:=g3 202 24
def g4 (x0:Nat)(P:Params):Obj:=⟨(.type L67),none,(.fields #[.ref x0,.ref x0,.ref x0]),#[]⟩
def o26:=g4 24
abbrev Jc:=SL.s4860613602091757760x24
def g5 (x0:Nat)(P:Params):Obj:=⟨(.type Gj),none,(.fields #[.builtin Jc,.ref x0]),#[]⟩
def o27:=g5 24
def o28 (P:Params):Obj:=⟨(.type L68),none,(.seq #[.ref 24] 0),#[]⟩
def o30:=g2 214 mP 4 35
def o33:=g0 mP 209 4 31
def o34:=g1 33 30 gb 187
def g6 (x0 x1 x2:Nat)(P:Params):Obj:=⟨(.type L0),none,(.dict #[e P uz x0 (.str gb 187),e P uA (x0+4) (.int x1 (x0+3)),e P uB (x0+5) (.ref x2),e P S2 (x0+6) .none] 2),#[]⟩
def o36:=g6 214 4 35
def g7 (x0:Str)(x1 x2 x3 x4:Nat)(P:Params):Obj:=⟨(.type L69),none,(.cls ⟨x0,[.ref 24],[.ref x1,.ref 24,.type L94,.type L73,.type L71,.type L60],x2,x0,true,[],[],false,none,false⟩),#[some (.ref x3),none,some (.str x0 x4),some (.str x0 (x4+8)),some (.builtin yT),some (.bool true)]⟩
def o37:=g7 mP 37 36 28 207
def o38:=g4 37
def o39:=g5 37
def o42:=g2 230 mQ 6 47
def o45:=g0 mQ 225 6 43
def o46:=g1 45 42 gb 187
def o48:=g6 230 6 47
def o49:=g7 mQ 49 48 40 223
def o50:=g4 49
def o51:=g5 49
def o54:=g2 246 mR 8 59
def o57:=g0 mR 241 8 55
def o58:=g1 57 54 gb 187
def o60:=g6 246 8 59
def o61:=g7 mR 61 60 52 239
def o62:=g4 61
def o63:=g5 61
def o66:=g2 262 mS 10 71
def o69:=g0 mS 257 10 67
def o70:=g1 69 66 gb 187
def o72:=g6 262 10 71
def o73:=g7 mS 73 72 64 255
def o74:=g4 73
def o75:=g5 73
def o78:=g2 278 mT 12 83
def o81:=g0 mT 273 12 79
def o82:=g1 81 78 gb 187
def o84:=g6 278 12 83
def o85:=g7 mT 85 84 76 271
def o86:=g4 85
def o87:=g5 85
def o90:=g2 294 mU 14 95
def o93:=g0 mU 289 14 91
def o94:=g1 93 90 gb 187
def o96:=g6 294 14 95
def o97:=g7 mU 97 96 88 287
def o98:=g4 97
def o99:=g5 97
def ww:=g2 310 mV 16 107
def wx:=g0 mV 305 16 103
def wz:=g1 105 102 gb 187
def wA:=g6 310 16 107
def wB:=g7 mV 109 108 100 303
def wC:=g4 109
def wD:=g5 109
def wE:=g2 326 mW 18 119
def wF:=g0 mW 321 18 115
def wG:=g1 117 114 gb 187
def wH:=g6 326 18 119
def wI:=g7 mW 121 120 112 319
def wJ:=g4 121
def wK:=g5 121
def t0:Params->BT:=(f boot_o_0 (f boot_o_1 (f IZ (f boot_o_7 (f o15 (f o11 (f o63 z z) (f o11 z z)) (f o11 (f o11 z z) (f wD z z))) (f o23 (f o39 (f o11 z z) (f o11 z z)) (f o11 (f o87 z z) (f o11 z z)))) (f o11 (f o12 (f o11 (f o11 z z) (f o99 z z)) (f o51 (f o11 z z) (f o11 z z))) (f o27 (f o11 (f o75 z z) (f o11 z z)) (f o11 (f o11 z z) (f wK z z))))) (f boot_o_5 (f boot_o_9 (f o17 (f o33 (f o16 z z) (f o97 z z)) (f o49 (f o81 z z) (f o16 z z))) (f o25 (f o16 (f o73 z z) (f wx z z)) (f o57 (f o16 z z) (f wI z z)))) (f o13 (f o21 (f o37 (f o69 z z) (f o16 z z)) (f o16 (f o85 z z) (f wF z z))) (f o16 (f o45 (f o16 z z) (f wB z z)) (f o61 (f o93 z z) z))))) (f boot_o_2 (f boot_o_4 (f boot_o_8 (f o16 (f o12 (f o28 z z) (f o96 z z)) (f o48 (f o12 z z) (f o28 z z))) (f o24 (f o28 (f o72 z z) (f o12 z z)) (f o12 (f o28 z z) (f wH z z)))) (f Gi (f o20 (f o36 (f o12 z z) (f o28 z z)) (f o28 (f o84 z z) (f o12 z z))) (f o28 (f o12 (f o28 z z) (f wA z z)) (f o60 (f o12 z z) z)))) (f boot_o_6 (f boot_o_10 (f o11 (f o34 (f o66 z z) (f o98 z z)) (f o50 (f o82 z z) (f wE z z))) (f o26 (f o42 (f o74 z z) (f wz z z)) (f o58 (f o90 z z) (f wJ z z)))) (f o14 (f o11 (f o38 (f o70 z z) (f ww z z)) (f o54 (f o86 z z) (f wG z z))) (f o30 (f o46 (f o78 z z) (f wC z z)) (f o62 (f o94 z z) z))))))
abbrev s0 (w:KF) (os:OsState):SharedT:=⟨t0 w.params,124,{ },(Array.mk []),⟨0,0,0,0⟩,335,os⟩
abbrev p0:Pos:=⟨18,0,19,8⟩
abbrev st0:List Stmt:=(pt.main.body.drop 0).take 10
theorem q0 (w:KF):(λ os=>segRunT treeTable pt w m0 an 1 1900 (sB w os) ⟨(execs st0 en).wrap doneF deadEnd id id,cE,pB,B⟩)=λ os=>some (.next,s0 w os,cE,p0):=by rw [PySem.W.Fast.te10110043849684766642,PySem.W.Fast.te14364793385576792824,PySem.W.Fast.te12563942051412417395]; kernel_rfl
def Jd (P:Params):Obj:=⟨(.type L0),none,(.dict #[e P S0 165 (.str iw 842),e P S2 166 .none,e P S3 167 .none,e P S4 168 (.builtin yR),e P S5 169 .none,e P yh 170 (.ref 6),e P yi 171 (.ref 4),e P yj 173 (.str jT 172),e P yk 174 .none,e P gc 206 (.ref 24),e P mP 222 (.ref 37),e P mQ 238 (.ref 49),e P mR 254 (.ref 61),e P mS 270 (.ref 73),e P mT 286 (.ref 85),e P mU 302 (.ref 97),e P mV 318 (.ref 109),e P mW 334 (.ref 121),e P rm 350 (.ref 133),e P mX 360 (.ref 142),e P mY 367 (.ref 149),e P mZ 374 (.ref 156),e P ng 382 (.ref 163),e P nh 391 (.ref 170),e P yn 395 (.str yo 394),e P yp 397 (.str yq 396),e P yr 398 (.ref 171),e P nj 413 (.ref 178),e P nr 419 (.ref 183),e P nu 431 (.ref 190),e P nv 437 (.ref 195),e P nw 443 (.ref 200),e P yt 447 (.str FQ 446),e P yu 449 (.str FR 448),e P yw 451 (.int 1 450),e P yx 453 (.int 5 452),e P yy 455 (.int 4 454),e P ny 464 (.ref 207),e P nz 475 (.ref 214),e P nA 488 (.ref 221),e P nC 512 (.ref 228),e P nD 525 (.ref 235),e P nE 535 (.ref 242),e P nF 548 (.ref 249),e P yz 552 (.int 16 551),e P nG 565 (.ref 256),e P nH 578 (.ref 263),e P nI 591 (.ref 270),e P nJ 607 (.ref 277),e P nL 630 (.ref 284),e P nM 636 (.ref 289),e P nN 642 (.ref 294),e P yA 646 (.int 8 645),e P yB 648 (.int 5 647),e P nO 660 (.ref 301),e P nP 667 (.ref 308),e P jU 744 (.ref 363),e P nQ 757 (.ref 374),e P nR 763 (.ref 379),e P nS 779 (.ref 386),e P nT 785 (.ref 391),e P yC 789 (.int 32 788),e P nU 805 (.ref 398),e P nV 820 (.ref 405),e P nW 841 (.ref 412),e P nX 852 (.ref 419),e P nY 861 (.ref 426),e P nZ 870 (.ref 433)] 68),#[]⟩
def Gm (P:Params):Obj:=⟨.none,none,(.fields #[.int 2 0,.int 0 0,.ref 20,.int 4 0,.int 0 0,.ref 33,.int 6 0,.int 0 0,.ref 45,.int 8 0,.int 0 0,.ref 57,.int 10 0,.int 0 0,.ref 69,.int 12 0,.int 0 0,.ref 81,.int 14 0,.int 0 0,.ref 93,.int 16 0,.int 0 0,.ref 105,.int 18 0,.int 0 0,.ref 117,.int 20 0,.int 0 0,.ref 129,.int 23 0,.int 0 0,.ref 141,.int 25 0,.int 0 0,.ref 148,.int 27 0,.int 0 0,.ref 155,.int 29 0,.int 0 0,.ref 162,.int 32 0,.int 0 0,.ref 169,.int 39 0,.int 0 0,.ref 177,.int 44 0,.int 0 0,.ref 182,.int 47 0,.int 0 0,.ref 189,.int 52 0,.int 0 0,.ref 194,.int 56 0,.int 0 0,.ref 199,.int 64 0,.int 0 0,.ref 206,.int 68 0,.int 0 0,.ref 213,.int 75 0,.int 0 0,.ref 220,.int 80 0,.int 0 0,.ref 227,.int 87 0,.int 0 0,.ref 234,.int 98 0,.int 0 0,.ref 241,.int 101 0,.int 0 0,.ref 248,.int 113 0,.int 0 0,.ref 255,.int 120 0,.int 0 0,.ref 262,.int 127 0,.int 0 0,.ref 269,.int 133 0,.int 0 0,.ref 276,.int 146 0,.int 0 0,.ref 283,.int 154 0,.int 0 0,.ref 288,.int 160 0,.int 0 0,.ref 293,.int 166 0,.int 0 0,.ref 300,.int 173 0,.int 0 0,.ref 307,.int 175 0,.int 0 0,.ref 314,.int 218 0,.int 0 0,.ref 373,.int 223 0,.int 0 0,.ref 378,.int 227 0,.int 0 0,.ref 385,.int 236 0,.int 0 0,.ref 390,.int 244 0,.int 0 0,.ref 397,.int 257 0,.int 0 0,.ref 404,.int 264 0,.int 0 0,.ref 411,.int 285 0,.int 0 0,.ref 418,.int 290 0,.int 0 0,.ref 425,.int 297 0,.int 0 0,.ref 432]),#[]⟩
def uP (P:Params):Obj:=⟨(.type L69),none,(.cls ⟨gc,[.type L94],[.ref 24,.type L94,.type L73,.type L71,.type L60],23,gc,true,[],[.ref 37,.ref 49,.ref 61,.ref 73,.ref 85,.ref 97,.ref 109,.ref 121,.ref 133],false,none,false⟩),#[some (.ref 15),none,some (.str gc 189),some (.str gc 197),some (.builtin yT),some (.bool true)]⟩
def yU:=g2 342 rm 20 131
def yV:=g0 rm 337 20 127
def yW:=g1 129 126 gb 187
def yX:=g6 342 20 131
def yY:=g7 rm 133 132 124 335
def yZ:=g4 133
def za:=g5 133
def g8 (x0:Str)(x1:Nat)(x2:Str)(x3:Nat)(P:Params):Obj:=⟨(.type L68),none,(.seq #[.str x0 x1,.str x2 x3] 0),#[]⟩
def zb:=g8 lI 356 Ib 357
def g9 (x0:Str)(x1:Nat)(P:Params):Obj:=⟨.none,none,(.func ⟨x0,x0,L2.defArgs (tp x1),(.stmts (L2.defBody (tp x1))),L2.defScope (tp x1),0,[],.none,.none,.none,.none,none,.none,.none,0⟩),#[]⟩
def zc:=g9 mX 12
def g10 (x0:Str)(x1:Nat)(x2:Str)(x3 x4 x5 x6:Nat)(P:Params):Obj:=⟨(.type yS),none,(.fields #[.str x0 x1,.str x2 (x1+1),.str jT (x1+2),.int x3 0,.int x4 0,.int 0 0,.int 0 0,.int 3 0,.ref x5,.bool true,.int 181 0,.ref (x5+1),.none,.ref (x5+2),.ref (x5+3),.ref (x5+4),.int x6 0,.int x3 0,.str jT (x6+1)]),#[]⟩
def zd:=g10 mX 353 mX 23 2 136 358
abbrev Gn:=SL.s7174869446012820540x8
def g11 (x0:Str)(x1:Nat)(x2:Str)(x3 x4:Nat)(P:Params):Obj:=⟨(.type Gn),none,(.func ⟨x0,x0,L2.defArgs (tp x1),(.stmts (L2.defBody (tp x1))),L2.defScope (tp x1),3,[],.none,.none,.none,.str x2 x3,none,.ref x4,.none,0⟩),#[]⟩
def ze:=g11 mX 12 uC 351 141
def g12 (x0:Str)(x1:Nat)(P:Params):Obj:=⟨(.type L68),none,(.seq #[.str x0 x1] 0),#[]⟩
def zf:=g12 lI 364
def zg:=g9 mY 13
def zh:=g10 mY 361 mY 25 1 143 365
def zi:=g11 mY 13 uC 351 148
def zj:=g12 lI 371
def zk:=g9 mZ 14
def zm:=g10 mZ 368 mZ 27 1 150 372
def zn:=g11 mZ 14 uC 351 155
def zo:=g8 ge 378 gf 379
def zp:=g9 ng 15
def zq:=g10 ng 375 ng 29 2 157 380
def zr:=g11 ng 15 uC 351 162
def g13 (x0:Str)(x1:Nat)(x2 x3:Str)(P:Params):Obj:=⟨(.type L68),none,(.seq #[.str x0 x1,.str x2 (x1+1),.str x3 (x1+2)] 0),#[]⟩
def zt:=g13 ge 386 gf FS
def zu:=g9 nh 16
def zw:=g10 nh 383 nh 32 3 164 389
def zx:=g11 nh 16 uC 351 169
def zy:=g8 yo 394 yq 396
def g14 (x0:Str)(x1:Nat)(x2 x3 x4 x5 x6 x7 x8 x9:Str)(P:Params):Obj:=⟨(.type L68),none,(.seq #[.str x0 x1,.str x2 (x1+1),.str x3 (x1+2),.str x4 (x1+3),.str x5 (x1+4),.str x6 (x1+5),.str x7 (x1+6),.str x8 (x1+7),.str x9 (x1+8)] 0),#[]⟩
def zA:=g14 lJ 402 ge gf lK rn wf wg Ic Id
def zB:=g9 nj 21
def zC:=g10 nj 399 nj 39 7 172 411
def zD:=g11 nj 21 uD 392 177
def zE:=g9 nr 22
def g15 (x0:Str)(x1:Nat)(x2:Str)(x3 x4 x5:Nat)(P:Params):Obj:=⟨(.type yS),none,(.fields #[.str x0 x1,.str x2 (x1+1),.str jT (x1+2),.int x3 0,.int x4 0,.int 0 0,.int 0 0,.int 3 0,.ref x5,.bool true,.int 181 0,.ref (x5+1),.none,.none,.none,.ref (x5+2),.int (x1+3) 0,.int x3 0,.str jT (x1+4)]),#[]⟩
def zF:=g15 nr 414 nr 44 2 179
def zG:=g11 nr 22 uD 392 182
def g16 (x0:Str)(x1:Nat)(x2 x3 x4 x5 x6:Str)(P:Params):Obj:=⟨(.type L68),none,(.seq #[.str x0 x1,.str x2 (x1+1),.str x3 (x1+2),.str x4 (x1+3),.str x5 (x1+4),.str x6 (x1+5)] 0),#[]⟩
def zH:=g16 iB 423 uE lL uF ge gf
def zI:=g9 nu 23
def zJ:=g10 nu 420 nu 47 4 184 429
def zK:=g11 nu 23 uD 392 189
def zL:=g9 nv 24
def zM:=g15 nv 432 nv 52 2 191
def zN:=g11 nv 24 uD 392 194
def zO:=g9 nw 25
def zP:=g15 nw 438 nw 56 2 196
def zQ:=g11 nw 25 uD 392 199
def zR:=g13 lI 459 FT Ie
def zS:=g9 ny 32
def zT:=g10 ny 456 ny 64 3 201 462
def zU:=g11 ny 32 oe 444 206
def g17 (x0:Str)(x1:Nat)(x2 x3 x4 x5:Str)(P:Params):Obj:=⟨(.type L68),none,(.seq #[.str x0 x1,.str x2 (x1+1),.str x3 (x1+2),.str x4 (x1+3),.str x5 (x1+4)] 0),#[]⟩
def zV:=g17 iB 468 uG rp lL Ig
def zW:=g9 nz 33
def zX:=g10 nz 465 nz 68 2 208 473
def zY:=g11 nz 33 oe 444 213
def g18 (x0:Str)(x1:Nat)(x2 x3 x4 x5 x6 x7:Str)(P:Params):Obj:=⟨(.type L68),none,(.seq #[.str x0 x1,.str x2 (x1+1),.str x3 (x1+2),.str x4 (x1+3),.str x5 (x1+4),.str x6 (x1+5),.str x7 (x1+6)] 0),#[]⟩
def zZ:=g18 lJ 479 uG wf wg ge gf rp
def Aa:=g9 nA 34
def Ab:=g10 nA 476 nA 75 2 215 486
def Ac:=g11 nA 34 oe 444 220
def Ad (P:Params):Obj:=⟨(.type L68),none,(.seq #[.str iB 492,.str uG 493,.str wf 494,.str wg 495,.str ge 496,.str gf 497,.str rp 498,.str lL 499,.str uF 500,.str wj 501,.str wk 502,.str Ih 503,.str Ii 504,.str Ij 505,.str Ik 506,.str uH 507,.str Il 508,.str Im 509] 0),#[]⟩
def Ae:=g9 nC 35
def Af:=g10 nC 489 nC 80 2 222 510
def Ag:=g11 nC 35 oe 444 227
def Ah:=g18 lJ 516 ge gf lI iB yD uG
def Ai:=g9 nD 36
def Aj:=g10 nD 513 nD 87 4 229 523
def Ak:=g11 nD 36 oe 444 234
def g19 (x0:Str)(x1:Nat)(x2 x3 x4:Str)(P:Params):Obj:=⟨(.type L68),none,(.seq #[.str x0 x1,.str x2 (x1+1),.str x3 (x1+2),.str x4 (x1+3)] 0),#[]⟩
def Al:=g19 lJ 529 ge gf lI
def Am:=g9 nE 37
def An:=g10 nE 526 nE 98 4 236 533
def Ao:=g11 nE 37 oe 444 241
def Ap:=g18 lJ 539 ge gf rp Io yD uG
def Aq:=g9 nF 38
def Ar:=g10 nF 536 nF 101 4 243 546
def As:=g11 nF 38 oe 444 248
def At:=g18 lJ 556 uE uI FU og lK rn
def Au:=g9 nG 41
def Av:=g10 nG 553 nG 113 2 250 563
def Aw:=g11 nG 41 wm 549 255
def Ax:=g18 FV 569 yE FW uI uH Ip Iq
def Ay:=g9 nH 42
def Az:=g10 nH 566 nH 120 3 257 576
def AA:=g11 nH 42 wm 549 262
def AB:=g18 yF 582 FX uH lL uF wj wk
def AC:=g9 nI 43
def AD:=g10 nI 579 nI 127 2 264 589
def AE:=g11 nI 43 wm 549 269
def g20 (x0:Nat)(x1 x2 x3 x4 x5 x6 x7 x8 x9:Str)(P:Params):Obj:=⟨(.type L68),none,(.seq #[.str lJ x0,.str x1 (x0+1),.str x2 (x0+2),.str x3 (x0+3),.str x4 (x0+4),.str x5 (x0+5),.str x6 (x0+6),.str x7 (x0+7),.str x8 (x0+8),.str x9 (x0+9)] 0),#[]⟩
def AF:=g20 595 ge gf iB FY yF uE uI uH Ir
def AG:=g9 nJ 44
def AH:=g10 nJ 592 nJ 133 3 271 605
def AI:=g11 nJ 44 wm 549 276
def g21 (x0:Nat)(x1 x2 x3 x4 x5 x6 x7 x8 x9 x10 x11 x12:Str)(P:Params):Obj:=⟨(.type L68),none,(.seq #[.str lJ x0,.str ge (x0+1),.str gf (x0+2),.str x1 (x0+3),.str x2 (x0+4),.str x3 (x0+5),.str x4 (x0+6),.str x5 (x0+7),.str x6 (x0+8),.str x7 (x0+9),.str x8 (x0+10),.str x9 (x0+11),.str x10 (x0+12),.str x11 (x0+13),.str x12 (x0+14)] 0),#[]⟩
def AJ:=g21 613 rp Is wf wg Iu Iv FU FT lK rn Iw Ix
def AK:=g9 nL 46
def AL:=g10 nL 610 nL 146 4 278 628
def AM:=g11 nL 46 yG 608 283
def AN:=g9 nM 47
def AO:=g15 nM 631 nM 154 4 285
def AQ:=g11 nM 47 yG 608 288
def AR:=g9 nN 48
def AS:=g15 nN 637 nN 160 4 290
def AT:=g11 nN 48 yG 608 293
def AU:=g16 lI 652 ge gf uI rq FZ
def AV:=g9 nO 52
def AW:=g10 nO 649 nO 166 1 295 658
def AX:=g11 nO 52 rz 643 300
def AY:=g12 lK 664
def AZ:=g9 nP 53
def Ba:=g10 nP 661 nP 173 1 302 665
def Bb:=g11 nP 53 rz 643 307
def Bc (P:Params):Obj:=⟨(.type L0),none,(.dict #[e P uz 675 (.str rz 643),e P FP 677 (.str jU 676),e P uA 679 (.int 175 678),e P uJ 685 (.ref 320),e P iB 692 (.ref 327),e P og 699 (.ref 334),e P rq 705 (.ref 339),e P uK 715 (.ref 346),e P uL 724 (.ref 353),e P uM 734 (.ref 360),e P uB 737 (.ref 361)] 11),#[]⟩
def Bd (P:Params):Obj:=⟨.none,none,(.fields #[.int 177 0,.int 4 0,.ref 319,.int 188 0,.int 4 0,.ref 326,.int 191 0,.int 4 0,.ref 333,.int 194 0,.int 4 0,.ref 338,.int 197 0,.int 4 0,.ref 345,.int 205 0,.int 4 0,.ref 352,.int 210 0,.int 4 0,.ref 359]),#[]⟩
def Be:=g0 jU 670 175 312
def Bf:=g1 314 311 rz 643
def g22 (x0 x1:Str)(x2:Nat)(P:Params):Obj:=⟨.none,none,(.func ⟨x0,x1,L2.defArgs (L2.inClass (tp 54) x2),(.stmts (L2.defBody (L2.inClass (tp 54) x2))),L2.defScope (L2.inClass (tp 54) x2),0,[],.none,.none,.none,.none,none,.none,.none,0⟩),#[]⟩
def Bg:=g22 uJ yH 0
def Bh:=g15 uJ 680 yH 177 3 316
def g23 (x0 x1:Str)(x2 x3:Nat)(P:Params):Obj:=⟨(.type Gn),none,(.func ⟨x0,x1,L2.defArgs (L2.inClass (tp 54) x2),(.stmts (L2.defBody (L2.inClass (tp 54) x2))),L2.defScope (L2.inClass (tp 54) x2),3,[],.none,.none,.none,.str rz 643,none,.ref x3,.none,0⟩),#[]⟩
def Bi:=g23 uJ yH 0 319
def Bj:=g12 uN 689
def Bk:=g22 iB yI 1
def Bl:=g10 iB 686 yI 188 1 321 690
def Bm:=g23 iB yI 1 326
def Bn:=g12 uN 696
def Bo:=g22 og yJ 2
def Bp:=g10 og 693 yJ 191 1 328 697
def Bq:=g23 og yJ 2 333
def Br:=g22 rq yK 3
def Bs:=g15 rq 700 yK 194 1 335
def Bt:=g23 rq yK 3 338
def Bu:=g19 uN 709 Iy Iz lK
def Bv:=g22 uK yL 4
def Bw:=g10 uK 706 yL 197 1 340 713
def Bx:=g23 uK yL 4 345
def By:=g13 uN 719 lK rn
def Bz:=g22 uL yM 5
def BA:=g10 uL 716 yM 205 3 347 722
def BB:=g23 uL yM 5 352
def BC:=g19 uN 728 lK rn IA
def BD:=g22 uM yN 6
def BE:=g10 uM 725 yN 210 3 354 732
def BF:=g23 uM yN 6 359
def BG:=g8 IB 735 IC 736
def BH (P:Params):Obj:=⟨(.type L0),none,(.dict #[e P uz 675 (.str rz 643),e P uA 679 (.int 175 678),e P uJ 685 (.ref 320),e P iB 692 (.ref 327),e P og 699 (.ref 334),e P rq 705 (.ref 339),e P uK 715 (.ref 346),e P uL 724 (.ref 353),e P uM 734 (.ref 360),e P uB 737 (.ref 361),e P Ga 739 (.ref 364),e P ym 741 (.ref 365),e P S2 742 .none] 4),#[]⟩
abbrev Je:=SL.s11443829558043349243x14
def BI (P:Params):Obj:=⟨(.type L69),none,(.cls ⟨jU,[.type L60],[.ref 363,.type L60],362,jU,true,[],[],false,none,false⟩),#[none,none,some (.str jU 668),some (.str jU 676),some (.builtin Je),some (.bool true)]⟩
abbrev Jf:=SL.s6511155373996960695x17
abbrev Jg:=SL.s12411053484034534018x21
def BJ (P:Params):Obj:=⟨(.type Gk),none,(.fields #[.str Ga 738,.ref 363,.builtin Jf,.builtin Jg]),#[]⟩
def BK:=g3 740 363
def BL:=g4 363
def BM:=g5 363
def BN:=g17 ge 750 gf lI ID IE
def BO:=g9 nQ 56
def BP:=g10 nQ 747 nQ 218 3 368 755
def BQ:=g11 nQ 56 wr 745 373
def BR:=g9 nR 57
def BS:=g15 nR 758 nR 223 3 375
def BU:=g11 nR 57 wr 745 378
def BV:=g20 767 uE FY og lK rn lL uF wj wk
def BW:=g9 nS 58
def BX:=g10 nS 764 nS 227 3 380 777
def BY:=g11 nS 58 wr 745 385
def BZ:=g9 nT 59
def Ca:=g15 nT 780 nT 236 4 387
def Cb:=g11 nT 59 wr 745 390
def Cc:=g20 793 ge gf rp FS yD IF Gb FZ lL
def Cd:=g9 nU 62
def Ce:=g10 nU 790 nU 244 4 392 803
def Cf:=g11 nU 62 yO 786 397
def Cg:=g14 yE 809 Gb Gc IG lL uF wj wk IH
def Ch:=g9 nV 63
def Ci:=g10 nV 806 nV 257 3 399 818
def Cj:=g11 nV 63 yO 786 404
def Ck:=g21 824 II FW yF uE FV yE Gc lL uI uH FX IJ
def Cl:=g9 nW 64
def Cm:=g10 nW 821 nW 264 4 406 839
def Cn:=g11 nW 64 yO 786 411
def Co:=g13 Gd 847 Ge IK
def Cp:=g9 nX 66
def Cq:=g10 nX 844 nX 285 2 413 850
def Cr:=g11 nX 66 iw 842 418
def Cs:=g13 wu 856 IL IM
def Ct:=g9 nY 67
def Cu:=g10 nY 853 nY 290 2 420 859
def Cv:=g11 nY 67 iw 842 425
def Cw:=g13 wu 865 IN IO
def Cy:=g9 nZ 68
def Cz:=g10 nZ 862 nZ 297 2 427 868
def CA:=g11 nZ 68 iw 842 432
def t1:Params->BT:=(f boot_o_0 (f boot_o_1 (f Jd (f boot_o_7 (f o15 (f o11 (f o63 (f o11 (f Av z z) (f o11 z z)) (f o11 (f Bh z z) z)) (f o11 (f zo (f AN z z) (f Co z z)) (f o12 (f Bz z z) z))) (f o11 (f o11 (f o11 (f o11 z z) (f o11 z z)) (f zU (f o11 z z) z)) (f wD (f o11 (f o12 z z) (f Cy z z)) (f o11 (f BM z z) z)))) (f o23 (f o39 (f o11 (f za (f AA z z) (f Cb z z)) (f zP (f Bm z z) z)) (f o11 (f o11 (f o11 z z) (f o11 z z)) (f Ah (f BE z z) z))) (f o11 (f o87 (f o12 (f o12 z z) (f o12 z z)) (f o11 (f o11 z z) z)) (f o11 (f zG (f Bc z z) z) (f Aq (f o11 z z) z))))) (f o11 (f o12 (f o11 (f o11 (f o11 (f Ax z z) (f o11 z z)) (f zN (f Bj z z) z)) (f o99 (f zr (f o12 z z) (f Cr z z)) (f Af (f o12 z z) z))) (f o51 (f o11 (f zg (f AG z z) (f Ch z z)) (f o11 (f Bt z z) z)) (f o11 (f o11 (f Ba z z) z) (f o11 (f o11 z z) z)))) (f o27 (f o11 (f o75 (f o11 (f o11 z z) (f o11 z z)) (f zR (f o11 z z) z)) (f o11 (f zy (f AV z z) (f o11 z z)) (f Ak (f BI z z) z))) (f o11 (f o11 (f zm (f AL z z) (f Cm z z)) (f Aa (f o11 z z) z)) (f wK (f o11 (f Bf z z) z) (f o12 (f BU z z) z)))))) (f boot_o_5 (f boot_o_9 (f o17 (f o33 (f o16 (f yV (f o11 z z) (f BX z z)) (f zL (f o11 z z) z)) (f o97 (f zp (f AQ z z) (f Cp z z)) (f o11 (f BB z z) z))) (f o49 (f o81 (f zf (f AF z z) (f Cg z z)) (f o12 (f Br z z) z)) (f o16 (f zC (f o11 z z) (f CA z z)) (f An (f o12 z z) z)))) (f o25 (f o16 (f o73 (f o12 (f o12 z z) (f o12 z z)) (f o11 (f o12 z z) z)) (f wx (f zw (f AU z z) (f Cu z z)) (f Ai (f BG z z) z))) (f o57 (f o16 (f o11 (f o11 z z) (f o11 z z)) (f zZ (f Bw z z) z)) (f wI (f o12 (f Bd z z) z) (f As (f BR z z) z))))) (f o13 (f o21 (f o37 (f o69 (f yY (f Ay z z) (f BZ z z)) (f o12 (f Bk z z) z)) (f o16 (f o12 (f AS z z) (f o12 z z)) (f o11 (f o11 z z) z))) (f o16 (f o85 (f zi (f AI z z) (f Cj z z)) (f zX (f o12 z z) z)) (f wF (f zE (f o11 z z) z) (f Ap (f BP z z) z)))) (f o16 (f o45 (f o16 (f zd (f AD z z) (f Ce z z)) (f zS (f Bp z z) z)) (f wB (f o12 (f AX z z) (f Cw z z)) (f o12 (f BK z z) z))) (f o61 (f o93 (f o11 (f o11 z z) (f o11 z z)) (f Ac (f By z z) z)) (f o16 (f zJ (f o12 z z) z) (f o11 (f o12 z z) z))))))) (f boot_o_2 (f boot_o_4 (f boot_o_8 (f o16 (f o12 (f o28 (f o12 (f Aw z z) (f BW z z)) (f o12 (f Bi z z) z)) (f o96 (f o11 (f AO z z) (f o11 z z)) (f Ad (f BA z z) z))) (f o48 (f o12 (f o12 (f o12 z z) (f o12 z z)) (f o11 (f o12 z z) z)) (f o28 (f zB (f AY z z) (f Cz z z)) (f Am (f o11 z z) z)))) (f uP (f o28 (f o72 (f o11 (f o11 z z) (f o11 z z)) (f zQ (f o11 z z) z)) (f o12 (f zu (f o12 z z) (f Ct z z)) (f o11 (f BF z z) z))) (f o12 (f o28 (f zj (f AJ z z) (f Ck z z)) (f o12 (f Bv z z) z)) (f wH (f o11 (f o11 z z) z) (f Ar (f o12 z z) z))))) (f Gm (f o20 (f o36 (f o12 (f yX (f o11 z z) (f o12 z z)) (f o11 (f o11 z z) z)) (f o28 (f o11 (f AR z z) (f o11 z z)) (f Ag (f BC z z) z))) (f o28 (f o84 (f zh (f AH z z) (f Ci z z)) (f zW (f o11 z z) z)) (f o12 (f o12 (f Bb z z) z) (f o12 (f BO z z) z)))) (f o28 (f o12 (f o28 (f zc (f AC z z) (f Cd z z)) (f o11 (f Bo z z) z)) (f wA (f o11 (f AW z z) (f o12 z z)) (f o11 (f BJ z z) z))) (f o60 (f o12 (f zn (f AM z z) (f Cn z z)) (f Ab (f o12 z z) z)) (f o28 (f zI (f o11 z z) z) (f At (f o11 z z) z)))))) (f boot_o_6 (f boot_o_10 (f o11 (f o34 (f o66 (f yW (f o12 z z) (f BY z z)) (f zM (f o12 z z) z)) (f o98 (f zq (f o11 z z) (f Cq z z)) (f Ae (f o11 z z) z))) (f o50 (f o82 (f o11 (f o11 z z) (f o11 z z)) (f zV (f Bs z z) z)) (f wE (f zD (f AZ z z) z) (f Ao (f BN z z) z)))) (f o26 (f o42 (f o74 (f zb (f AB z z) (f Cc z z)) (f o12 (f Bn z z) z)) (f wz (f zx (f o11 z z) (f Cv z z)) (f Aj (f BH z z) z))) (f o58 (f o90 (f zk (f AK z z) (f Cl z z)) (f o11 (f Bx z z) z)) (f wJ (f zH (f Be z z) z) (f o11 (f BS z z) z))))) (f o14 (f o11 (f o38 (f o70 (f yZ (f Az z z) (f Ca z z)) (f zO (f Bl z z) z)) (f ww (f zt (f AT z z) (f Cs z z)) (f o12 (f BD z z) z))) (f o54 (f o86 (f o11 (f o11 z z) (f o11 z z)) (f zY (f Bu z z) z)) (f wG (f zF (f o16 z z) z) (f o11 (f BQ z z) z)))) (f o30 (f o46 (f o78 (f ze (f AE z z) (f Cf z z)) (f zT (f Bq z z) z)) (f wC (f zA (f o11 z z) (f o11 z z)) (f Al (f BL z z) z))) (f o62 (f o94 (f o12 (f o12 z z) (f o12 z z)) (f o11 (f o11 z z) z)) (f yU (f zK (f Bg z z) z) (f Au (f BV z z) z))))))))
abbrev s1 (w:KF) (os:OsState):SharedT:=⟨t1 w.params,434,{ },(Array.mk []),⟨0,0,0,0⟩,871,os⟩
abbrev p1:Pos:=⟨297,0,303,102⟩
abbrev st1:List Stmt:=(pt.main.body.drop 10).take 59
theorem q1 (w:KF):(λ os=>segRunT treeTable pt w m0 an 1 1998 (s0 w os) ⟨(execs st1 en).wrap doneF deadEnd id id,cE,p0,B⟩)=λ os=>some (.next,s1 w os,cE,p1):=by rw [PySem.W.Fast.te10110043849684766642,PySem.W.Fast.te14364793385576792824,PySem.W.Fast.te12563942051412417395]; kernel_rfl
def Go (P:Params):Obj:=⟨(.type L0),none,(.dict #[e P S0 165 (.str iw 842),e P S2 166 .none,e P S3 167 .none,e P S4 168 (.builtin yR),e P S5 169 .none,e P yh 170 (.ref 6),e P yi 171 (.ref 4),e P yj 173 (.str jT 172),e P yk 174 .none,e P gc 206 (.ref 24),e P mP 222 (.ref 37),e P mQ 238 (.ref 49),e P mR 254 (.ref 61),e P mS 270 (.ref 73),e P mT 286 (.ref 85),e P mU 302 (.ref 97),e P mV 318 (.ref 109),e P mW 334 (.ref 121),e P rm 350 (.ref 133),e P mX 360 (.ref 142),e P mY 367 (.ref 149),e P mZ 374 (.ref 156),e P ng 382 (.ref 163),e P nh 391 (.ref 170),e P yn 395 (.str yo 394),e P yp 397 (.str yq 396),e P yr 398 (.ref 171),e P nj 413 (.ref 178),e P nr 419 (.ref 183),e P nu 431 (.ref 190),e P nv 437 (.ref 195),e P nw 443 (.ref 200),e P yt 447 (.str FQ 446),e P yu 449 (.str FR 448),e P yw 451 (.int 1 450),e P yx 453 (.int 5 452),e P yy 455 (.int 4 454),e P ny 464 (.ref 207),e P nz 475 (.ref 214),e P nA 488 (.ref 221),e P nC 512 (.ref 228),e P nD 525 (.ref 235),e P nE 535 (.ref 242),e P nF 548 (.ref 249),e P yz 552 (.int 16 551),e P nG 565 (.ref 256),e P nH 578 (.ref 263),e P nI 591 (.ref 270),e P nJ 607 (.ref 277),e P nL 630 (.ref 284),e P nM 636 (.ref 289),e P nN 642 (.ref 294),e P yA 646 (.int 8 645),e P yB 648 (.int 5 647),e P nO 660 (.ref 301),e P nP 667 (.ref 308),e P jU 744 (.ref 363),e P nQ 757 (.ref 374),e P nR 763 (.ref 379),e P nS 779 (.ref 386),e P nT 785 (.ref 391),e P yC 789 (.int 32 788),e P nU 805 (.ref 398),e P nV 820 (.ref 405),e P nW 841 (.ref 412),e P nX 852 (.ref 419),e P nY 861 (.ref 426),e P nZ 870 (.ref 433),e P rA 882 (.ref 440),e P rB 891 (.ref 447),e P rC 900 (.ref 454),e P rD 915 (.ref 461),e P rE 921 (.ref 466),e P uO 931 (.ref 473)] 74),#[]⟩
def xf (P:Params):Obj:=⟨.none,none,(.fields #[.int 2 0,.int 0 0,.ref 20,.int 4 0,.int 0 0,.ref 33,.int 6 0,.int 0 0,.ref 45,.int 8 0,.int 0 0,.ref 57,.int 10 0,.int 0 0,.ref 69,.int 12 0,.int 0 0,.ref 81,.int 14 0,.int 0 0,.ref 93,.int 16 0,.int 0 0,.ref 105,.int 18 0,.int 0 0,.ref 117,.int 20 0,.int 0 0,.ref 129,.int 23 0,.int 0 0,.ref 141,.int 25 0,.int 0 0,.ref 148,.int 27 0,.int 0 0,.ref 155,.int 29 0,.int 0 0,.ref 162,.int 32 0,.int 0 0,.ref 169,.int 39 0,.int 0 0,.ref 177,.int 44 0,.int 0 0,.ref 182,.int 47 0,.int 0 0,.ref 189,.int 52 0,.int 0 0,.ref 194,.int 56 0,.int 0 0,.ref 199,.int 64 0,.int 0 0,.ref 206,.int 68 0,.int 0 0,.ref 213,.int 75 0,.int 0 0,.ref 220,.int 80 0,.int 0 0,.ref 227,.int 87 0,.int 0 0,.ref 234,.int 98 0,.int 0 0,.ref 241,.int 101 0,.int 0 0,.ref 248,.int 113 0,.int 0 0,.ref 255,.int 120 0,.int 0 0,.ref 262,.int 127 0,.int 0 0,.ref 269,.int 133 0,.int 0 0,.ref 276,.int 146 0,.int 0 0,.ref 283,.int 154 0,.int 0 0,.ref 288,.int 160 0,.int 0 0,.ref 293,.int 166 0,.int 0 0,.ref 300,.int 173 0,.int 0 0,.ref 307,.int 175 0,.int 0 0,.ref 314,.int 218 0,.int 0 0,.ref 373,.int 223 0,.int 0 0,.ref 378,.int 227 0,.int 0 0,.ref 385,.int 236 0,.int 0 0,.ref 390,.int 244 0,.int 0 0,.ref 397,.int 257 0,.int 0 0,.ref 404,.int 264 0,.int 0 0,.ref 411,.int 285 0,.int 0 0,.ref 418,.int 290 0,.int 0 0,.ref 425,.int 297 0,.int 0 0,.ref 432,.int 304 0,.int 0 0,.ref 439,.int 311 0,.int 0 0,.ref 446,.int 313 0,.int 0 0,.ref 453,.int 318 0,.int 0 0,.ref 460,.int 327 0,.int 0 0,.ref 465,.int 343 0,.int 0 0,.ref 472]),#[]⟩
def Gp:=g16 wu 874 Gf IP Gg yP yQ
def Gq:=g9 rA 69
def Gr:=g10 rA 871 rA 304 2 434 880
def Gs:=g11 rA 69 iw 842 439
def Gu:=g13 Gh 886 yP yQ
def Gv:=g9 rB 70
def Gw:=g10 rB 883 rB 311 3 441 889
def Gx:=g11 rB 70 iw 842 446
def Gy:=g13 Gh 895 IQ IR
def Gz:=g9 rC 71
def GA:=g10 rC 892 rC 313 2 448 898
def GB:=g11 rC 71 iw 842 453
def GC:=g14 IS 904 yP yQ Gg Gf IT IU IV IW
def GD:=g9 rD 72
def GE:=g10 rD 901 rD 318 5 455 913
def GF:=g11 rD 72 iw 842 460
def GG:=g9 rE 73
def GH:=g15 rE 916 rE 327 4 462
def GI:=g11 rE 73 iw 842 465
def GJ:=g19 Gd 925 IX Ge wu
def GK:=g9 uO 74
def GL:=g10 uO 922 uO 343 1 467 929
def GM:=g11 uO 74 iw 842 472
def t2:Params->BT:=(f boot_o_0 (f boot_o_1 (f Go (f boot_o_7 (f o15 (f o11 (f o63 (f o11 (f Av z z) (f o11 z z)) (f o11 (f Bh z z) (f Gx z z))) (f o11 (f zo (f AN z z) (f Co z z)) (f o12 (f Bz z z) z))) (f o11 (f o11 (f o11 (f o11 z z) (f o11 z z)) (f zU (f o11 z z) (f o12 z z))) (f wD (f o11 (f o12 z z) (f Cy z z)) (f o11 (f BM z z) z)))) (f o23 (f o39 (f o11 (f za (f AA z z) (f Cb z z)) (f zP (f Bm z z) (f o11 z z))) (f o11 (f o11 (f o11 z z) (f o11 z z)) (f Ah (f BE z z) z))) (f o11 (f o87 (f o12 (f o12 z z) (f o12 z z)) (f o11 (f o11 z z) (f GK z z))) (f o11 (f zG (f Bc z z) (f Gr z z)) (f Aq (f o11 z z) z))))) (f o11 (f o12 (f o11 (f o11 (f o11 (f Ax z z) (f o11 z z)) (f zN (f Bj z z) (f o11 z z))) (f o99 (f zr (f o12 z z) (f Cr z z)) (f Af (f o12 z z) z))) (f o51 (f o11 (f zg (f AG z z) (f Ch z z)) (f o11 (f Bt z z) (f o11 z z))) (f o11 (f o11 (f Ba z z) (f o12 z z)) (f o11 (f o11 z z) z)))) (f o27 (f o11 (f o75 (f o11 (f o11 z z) (f o11 z z)) (f zR (f o11 z z) (f GD z z))) (f o11 (f zy (f AV z z) (f o11 z z)) (f Ak (f BI z z) z))) (f o11 (f o11 (f zm (f AL z z) (f Cm z z)) (f Aa (f o11 z z) z)) (f wK (f o11 (f Bf z z) (f Gu z z)) (f o12 (f BU z z) z)))))) (f boot_o_5 (f boot_o_9 (f o17 (f o33 (f o16 (f yV (f o11 z z) (f BX z z)) (f zL (f o11 z z) (f o12 z z))) (f o97 (f zp (f AQ z z) (f Cp z z)) (f o11 (f BB z z) z))) (f o49 (f o81 (f zf (f AF z z) (f Cg z z)) (f o12 (f Br z z) (f GH z z))) (f o16 (f zC (f o11 z z) (f CA z z)) (f An (f o12 z z) z)))) (f o25 (f o16 (f o73 (f o12 (f o12 z z) (f o12 z z)) (f o11 (f o12 z z) (f GC z z))) (f wx (f zw (f AU z z) (f Cu z z)) (f Ai (f BG z z) z))) (f o57 (f o16 (f o11 (f o11 z z) (f o11 z z)) (f zZ (f Bw z z) (f GM z z))) (f wI (f o12 (f Bd z z) (f o11 z z)) (f As (f BR z z) z))))) (f o13 (f o21 (f o37 (f o69 (f yY (f Ay z z) (f BZ z z)) (f o12 (f Bk z z) (f GA z z))) (f o16 (f o12 (f AS z z) (f o12 z z)) (f o11 (f o11 z z) z))) (f o16 (f o85 (f zi (f AI z z) (f Cj z z)) (f zX (f o12 z z) (f GJ z z))) (f wF (f zE (f o11 z z) (f o11 z z)) (f Ap (f BP z z) z)))) (f o16 (f o45 (f o16 (f zd (f AD z z) (f Ce z z)) (f zS (f Bp z z) (f GF z z))) (f wB (f o12 (f AX z z) (f Cw z z)) (f o12 (f BK z z) z))) (f o61 (f o93 (f o11 (f o11 z z) (f o11 z z)) (f Ac (f By z z) z)) (f o16 (f zJ (f o12 z z) (f Gv z z)) (f o11 (f o12 z z) z))))))) (f boot_o_2 (f boot_o_4 (f boot_o_8 (f o16 (f o12 (f o28 (f o12 (f Aw z z) (f BW z z)) (f o12 (f Bi z z) (f o11 z z))) (f o96 (f o11 (f AO z z) (f o11 z z)) (f Ad (f BA z z) z))) (f o48 (f o12 (f o12 (f o12 z z) (f o12 z z)) (f o11 (f o12 z z) (f GG z z))) (f o28 (f zB (f AY z z) (f Cz z z)) (f Am (f o11 z z) z)))) (f uP (f o28 (f o72 (f o11 (f o11 z z) (f o11 z z)) (f zQ (f o11 z z) (f o12 z z))) (f o12 (f zu (f o12 z z) (f Ct z z)) (f o11 (f BF z z) z))) (f o12 (f o28 (f zj (f AJ z z) (f Ck z z)) (f o12 (f Bv z z) (f GL z z))) (f wH (f o11 (f o11 z z) (f Gs z z)) (f Ar (f o12 z z) z))))) (f xf (f o20 (f o36 (f o12 (f yX (f o11 z z) (f o12 z z)) (f o11 (f o11 z z) (f Gz z z))) (f o28 (f o11 (f AR z z) (f o11 z z)) (f Ag (f BC z z) z))) (f o28 (f o84 (f zh (f AH z z) (f Ci z z)) (f zW (f o11 z z) (f o12 z z))) (f o12 (f o12 (f Bb z z) (f Gp z z)) (f o12 (f BO z z) z)))) (f o28 (f o12 (f o28 (f zc (f AC z z) (f Cd z z)) (f o11 (f Bo z z) (f GE z z))) (f wA (f o11 (f AW z z) (f o12 z z)) (f o11 (f BJ z z) z))) (f o60 (f o12 (f zn (f AM z z) (f Cn z z)) (f Ab (f o12 z z) z)) (f o28 (f zI (f o11 z z) (f o11 z z)) (f At (f o11 z z) z)))))) (f boot_o_6 (f boot_o_10 (f o11 (f o34 (f o66 (f yW (f o12 z z) (f BY z z)) (f zM (f o12 z z) (f Gy z z))) (f o98 (f zq (f o11 z z) (f Cq z z)) (f Ae (f o11 z z) z))) (f o50 (f o82 (f o11 (f o11 z z) (f o11 z z)) (f zV (f Bs z z) (f GI z z))) (f wE (f zD (f AZ z z) (f o11 z z)) (f Ao (f BN z z) z)))) (f o26 (f o42 (f o74 (f zb (f AB z z) (f Cc z z)) (f o12 (f Bn z z) (f o11 z z))) (f wz (f zx (f o11 z z) (f Cv z z)) (f Aj (f BH z z) z))) (f o58 (f o90 (f zk (f AK z z) (f Cl z z)) (f o11 (f Bx z z) z)) (f wJ (f zH (f Be z z) (f o12 z z)) (f o11 (f BS z z) z))))) (f o14 (f o11 (f o38 (f o70 (f yZ (f Az z z) (f Ca z z)) (f zO (f Bl z z) (f GB z z))) (f ww (f zt (f AT z z) (f Cs z z)) (f o12 (f BD z z) z))) (f o54 (f o86 (f o11 (f o11 z z) (f o11 z z)) (f zY (f Bu z z) (f o11 z z))) (f wG (f zF (f o16 z z) (f Gq z z)) (f o11 (f BQ z z) z)))) (f o30 (f o46 (f o78 (f ze (f AE z z) (f Cf z z)) (f zT (f Bq z z) (f o11 z z))) (f wC (f zA (f o11 z z) (f o11 z z)) (f Al (f BL z z) z))) (f o62 (f o94 (f o12 (f o12 z z) (f o12 z z)) (f o11 (f o11 z z) z)) (f yU (f zK (f Bg z z) (f Gw z z)) (f Au (f BV z z) z))))))))
abbrev s2 (w:KF) (os:OsState):SharedT:=⟨t2 w.params,474,{ },(Array.mk []),⟨0,0,0,0⟩,932,os⟩
abbrev p2:Pos:=⟨343,0,350,15⟩
abbrev st2:List Stmt:=(pt.main.body.drop 69).take 6
theorem q2 (w:KF):(λ os=>segRunT treeTable pt w m0 an 1 192 (s1 w os) ⟨(execs st2 en).wrap doneF deadEnd id id,cE,p1,B⟩)=λ os=>some (.next,s2 w os,cE,p2):=by rw [PySem.W.Fast.te10110043849684766642,PySem.W.Fast.te14364793385576792824,PySem.W.Fast.te12563942051412417395]; kernel_rfl
def hF (P:Params):Heap:=⟨⟨[boot_o_0 P,boot_o_1 P,boot_o_2 P,Go P,boot_o_4 P,boot_o_5 P,boot_o_6 P,boot_o_7 P,boot_o_8 P,boot_o_9 P,boot_o_10 P,o11 P,xf P,o13 P,o14 P,o15 P,o16 P,o17 P,o11 P,o12 P,o20 P,o21 P,o11 P,o23 P,uP P,o25 P,o26 P,o27 P,o28 P,o16 P,o30 P,o11 P,o12 P,o33 P,o34 P,o11 P,o36 P,o37 P,o38 P,o39 P,o28 P,o16 P,o42 P,o11 P,o12 P,o45 P,o46 P,o11 P,o48 P,o49 P,o50 P,o51 P,o28 P,o16 P,o54 P,o11 P,o12 P,o57 P,o58 P,o11 P,o60 P,o61 P,o62 P,o63 P,o28 P,o16 P,o66 P,o11 P,o12 P,o69 P,o70 P,o11 P,o72 P,o73 P,o74 P,o75 P,o28 P,o16 P,o78 P,o11 P,o12 P,o81 P,o82 P,o11 P,o84 P,o85 P,o86 P,o87 P,o28 P,o16 P,o90 P,o11 P,o12 P,o93 P,o94 P,o11 P,o96 P,o97 P,o98 P,o99 P,o28 P,o16 P,ww P,o11 P,o12 P,wx P,wz P,o11 P,wA P,wB P,wC P,wD P,o28 P,o16 P,wE P,o11 P,o12 P,wF P,wG P,o11 P,wH P,wI P,wJ P,wK P,o28 P,o16 P,yU P,o11 P,o12 P,yV P,yW P,o11 P,yX P,yY P,yZ P,za P,o11 P,o12 P,zb P,o11 P,zc P,zd P,ze P,o11 P,o12 P,zf P,o11 P,zg P,zh P,zi P,o11 P,o12 P,zj P,o11 P,zk P,zm P,zn P,o11 P,o12 P,zo P,o11 P,zp P,zq P,zr P,o11 P,o12 P,zt P,o11 P,zu P,zw P,zx P,zy P,o11 P,o12 P,zA P,o11 P,zB P,zC P,zD P,o11 P,o12 P,zE P,zF P,zG P,o11 P,o12 P,zH P,o11 P,zI P,zJ P,zK P,o11 P,o12 P,zL P,zM P,zN P,o11 P,o12 P,zO P,zP P,zQ P,o11 P,o12 P,zR P,o11 P,zS P,zT P,zU P,o11 P,o12 P,zV P,o11 P,zW P,zX P,zY P,o11 P,o12 P,zZ P,o11 P,Aa P,Ab P,Ac P,o11 P,o12 P,Ad P,o11 P,Ae P,Af P,Ag P,o11 P,o12 P,Ah P,o11 P,Ai P,Aj P,Ak P,o11 P,o12 P,Al P,o11 P,Am P,An P,Ao P,o11 P,o12 P,Ap P,o11 P,Aq P,Ar P,As P,o11 P,o12 P,At P,o11 P,Au P,Av P,Aw P,o11 P,o12 P,Ax P,o11 P,Ay P,Az P,AA P,o11 P,o12 P,AB P,o11 P,AC P,AD P,AE P,o11 P,o12 P,AF P,o11 P,AG P,AH P,AI P,o11 P,o12 P,AJ P,o11 P,AK P,AL P,AM P,o11 P,o12 P,AN P,AO P,AQ P,o11 P,o12 P,AR P,AS P,AT P,o11 P,o12 P,AU P,o11 P,AV P,AW P,AX P,o11 P,o12 P,AY P,o11 P,AZ P,Ba P,Bb P,o11 P,o16 P,Bc P,o11 P,Bd P,Be P,Bf P,o11 P,o12 P,Bg P,Bh P,Bi P,o11 P,o12 P,Bj P,o11 P,Bk P,Bl P,Bm P,o11 P,o12 P,Bn P,o11 P,Bo P,Bp P,Bq P,o11 P,o12 P,Br P,Bs P,Bt P,o11 P,o12 P,Bu P,o11 P,Bv P,Bw P,Bx P,o11 P,o12 P,By P,o11 P,Bz P,BA P,BB P,o11 P,o12 P,BC P,o11 P,BD P,BE P,BF P,BG P,BH P,BI P,BJ P,BK P,BL P,BM P,o11 P,o12 P,BN P,o11 P,BO P,BP P,BQ P,o11 P,o12 P,BR P,BS P,BU P,o11 P,o12 P,BV P,o11 P,BW P,BX P,BY P,o11 P,o12 P,BZ P,Ca P,Cb P,o11 P,o12 P,Cc P,o11 P,Cd P,Ce P,Cf P,o11 P,o12 P,Cg P,o11 P,Ch P,Ci P,Cj P,o11 P,o12 P,Ck P,o11 P,Cl P,Cm P,Cn P,o11 P,o12 P,Co P,o11 P,Cp P,Cq P,Cr P,o11 P,o12 P,Cs P,o11 P,Ct P,Cu P,Cv P,o11 P,o12 P,Cw P,o11 P,Cy P,Cz P,CA P,o11 P,o12 P,Gp P,o11 P,Gq P,Gr P,Gs P,o11 P,o12 P,Gu P,o11 P,Gv P,Gw P,Gx P,o11 P,o12 P,Gy P,o11 P,Gz P,GA P,GB P,o11 P,o12 P,GC P,o11 P,GD P,GE P,GF P,o11 P,o12 P,GG P,GH P,GI P,o11 P,o12 P,GJ P,o11 P,GK P,GL P,GM P]⟩,{ }⟩
abbrev sF (w:KF) (os:OsState):KB:=⟨hF w.params,(Array.mk []),⟨0,0,0,0⟩,932,os⟩
theorem fin (w:KF):(λ os=>topRun treeTable pt w m0 an 2 (s2 w os).abs ⟨doneF .next,cE,p2,B⟩)=λ os=>some (sF w os):=by rw [PySem.W.Fast.te14082659384304107361,PySem.W.Fast.te14364793385576792824]; kernel_rfl
theorem wL:behindTheImports pt=st0 ++ (st1 ++ (st2 ++ ([]))):=by kernel_rfl
abbrev MM:Nat:=12 + (1 + (1900 + (1998 + (192 + 2))))
theorem CB (w:KF) (os:OsState):topRun treeTable pt w m0 an MM (sZ w os) (topStub pt)=some (sF w os) :=
 go_top (congrFun (pre w) os) (piece_block (congrFun (blk w) os) (wL ▸ (piece_app (l:=st0) (segRun_of (congrFun (q0 w) os)) (piece_app (l:=st1) (segRun_of (congrFun (q1 w) os)) (piece_app (l:=st2) (segRun_of (congrFun (q2 w) os)) (piece_nil (congrFun (fin w) os)))))))
def loose:List Str:=[gc,mP,mQ,mR,mS,mT,mU,mV,mW,rm,mX,mY,mZ,ng,nh,yn,yp,yr,nj,nr,nu,nv,nw,yt,yu,yw,yx,yy,ny,nz,nA,nC,nD,nE,nF,yz,nG,nH,nI,nJ,nL,nM,nN,yA,yB,nO,nP,jU,nQ,nR,nS,nT,yC,nU,nV,nW,nX,nY,nZ,rA,rB,rC,rD,rE]
abbrev NN:Nat:=8300
abbrev q:KC:=view pt [74]
abbrev Xt:KB->Bool:=λ s=>xlAt q [] s && recOk [] s
theorem size (w:KF):((boot_heap w.params).isNs mainGlobals && (Array.mk []:Array GenState).size == 0,(boot_heap w.params).objs.size,(boot_heap w.params).nsMap mainGlobals "__annotations__")=(true,m0,an):=by rw [PySem.W.Fast.te8920871248978507458]; kernel_rfl
theorem GN (w:KF):(λ os=>((staticsOk (importedModules pt.main.body) (boot_heap w.params) (hF w.params) && namesBound pt (hF w.params) && gensDone (sF w os) && laidKept (boot_heap w.params) (hF w.params)),openSeen q loose (importedModules pt.main.body) Xt true (sF w os),HK.obs (sF w os)))=λ _=>(true,openGood q loose,HK.val w):=by rw [PySem.W.Fast.te4187177175401517315,PySem.W.Fast.te5923862056798008813]; kernel_rfl
theorem left:LeftO pt q loose Xt HK.obs HK.val NN true:=LeftO.of_pieces (boot_open (by kernel_rfl) (by decide) (λ s=>rfl)) size CB (by decide) GN
end Hd
open PySem PySem.W PyProof.Rows
set_option maxRecDepth 100000 in
set_option maxHeartbeats 0 in
theorem PySem.Challenge.cw_platecuts_k95_whole_no_less_with_more_holds : PySem.Challenge.rw_platecuts_k95_whole_no_less_with_more.Holds := by
 w_on; o_law
 refine holds_open (q:=view PySem.Challenge.pw_platecuts_k95_whole_no_less_with_more [74]) (loose:=Hd.loose) (Xt:=λ s=>xlAt (view PySem.Challenge.pw_platecuts_k95_whole_no_less_with_more [74]) [] s && recOk [] s) (XP:=XL (view PySem.Challenge.pw_platecuts_k95_whole_no_less_with_more [74]) []) (Yf:=Hook.obs Hd.HK) (Ya:=Hook.val Hd.HK) (YP:=InK Pc.kK) (N:=Hd.NN) ?hl (Hook.of Hd.HK) (Hook.keeps Hd.HK) (λ s e=>xl_of s (C9.mp e).1) XL.keeps (by rfl) (by rfl) (by rfl) (λ s e=>recFacts_of (C9.mp e).2) (by rfl) (by first | assumption | decide +kernel) (by decide +kernel) ⟨rfl,rfl,rfl,rfl,rfl,by decide +kernel⟩ ?hw ?hc
 case hl=>exact Hd.pt_eq ▸ Hd.left
 case hw=>w_witness2
 k_fill
 refine Pc.walk (l:=PySem.Challenge.rw_platecuts_k95_whole_no_less_with_more) rfl rfl (λ w h YY0=>YY0) ?F
 case F =>
  intro w mg fa h KX G hmg;refine' Pc.all_mk KX G hmg ?d0 ?d1 ?d2 ?d3 ?d4 ?d5 ?d6 ?d7 ?d8 ?d9 ?d10 ?d11 ?d12 ?d13 ?d14 ?d15 ?d16 ?d17 ?d18 ?d19 ?d20 ?d21 ?d22 ?d23 ?d24 ?d25 ?d26 ?d27 ?d28 ?d29 ?d30 ?d31 ?d32 ?d33 ?d34 ?d35 ?d36 ?d37 ?d38 ?d39 ?d40 ?d41 ?aC ?dm0 ?dm1 ?dm2 ?dm3 ?dm4 ?dm5 ?pg ?hd ?po ?sa ?mk ?kc ?n0 ?n1 ?eWAYS ?lWAYS ?z0 ?z1 ?z2 ?z3 ?z4 ?z5 ?z6 ?z7 ?z8 ?z9 ?z10 ?z11 ?z12 ?z13 ?z14 ?z15 ?z16 ?z17 ?z18 ?uc0 ?uc1 ?uc2 ?uc3 ?uc4 ?uc5 ?uc6 ?uc7 ?uc8 ?uc9 ?uc10
  (case d0 | d1 | d2 | d3 | d4 | d5 | d6 | d7 | d8 | d9 | d10 | d11 | d12 | d13 | d14 | d15 | d16 | d17 | d18 | d19 | d20 | d21 | d22 | d23 | d24 | d25 | d26 | d27 | d28 | d29 | d30 | d31 | d32 | d33 | d34 | d35 | d36 | d37 | d38 | d39 | d40 | d41=>refine' Pc.diM ?a ?l ?c ?k; (case a=>k_is); (case l=>k_is); (case c=>k_is); (case k=>k_is))
  (case aC=>k_is)
  (case dm0 | dm1 | dm2 | dm3 | dm4 | dm5=>refine' Pc.miM ?a ?i ?l ?c ?k; (case a=>k_is); (case i=>k_is); (case l=>k_is); (case c=>k_is); (case k=>k_is))
  (case pg | hd | po | sa | mk | kc | n0 | n1 | eWAYS=>k_is)
  (case lWAYS=>exact ⟨_,_,_,Y,Y,Y,by decide,.cons ⟨_,Y⟩ (.cons ⟨_,Y⟩ .nil)⟩)
  (case z0 | z1 | z2 | z3 | z4 | z5 | z6 | z7 | z8 | z9 | z10 | z11 | z12 | z13 | z14 | z15 | z16 | z17 | z18 | uc0 | uc1 | uc2 | uc3 | uc4 | uc5 | uc6 | uc7 | uc8 | uc9 | uc10=>k_is)