import PyProof.Rows.All
import Wide.All
import OpenK.AllK
import Wide.FinOn
import Lean
import PyProof.EqAt
import PyProof.EqKinds
import PyProof.TupleCall
import PyProof.Draws
import PyProof.WalksMore
import PyProof.EnumMake
import PyProof.ReprRoads
import PyProof.Rows.SortWalk
import PyProof.Rows.SumAny
import PyProof.FitsBits
import PyProof.ListRange
import PyProof.Rows.SeqMore
import PyProof.LongRange
import KE.KEqDict
import KE.KDictOf
import PyProof.DictItems
import PyProof.AttrMissHeap
import PySem.Challenge.RW_platecuts_k44_tables_that_bear
set_option Elab.async false
set_option linter.all false
set_option maxRecDepth 100000
namespace L2
open PySem PySem.Spec PyProof.Rows
abbrev Key := Sum Int Str
def keyIs : Key → Value → Bool
  | .inl k,v => Value.isInt k v
  | .inr x,v => Value.isStrOf x v
def keyH (w : World) : Key → Int
  | .inl k => hashInt k
  | .inr x => hashStr w x
theorem keyIs_shape : ∀ {k : Key} {v : Value},keyIs k v = true → (∃ i t,k = Sum.inl i ∧ v = Value.int i t) ∨ (∃ x t,k = Sum.inr x ∧ v = Value.str x t)
  | .inl i,v,h => by
    obtain ⟨t,e⟩ := Value.isInt_shape (k := i) (v := v) h
    exact .inl ⟨i,t,rfl,e⟩
  | .inr x,v,h => by
    obtain ⟨t,e⟩ := Value.isStrOf_shape (x := x) (v := v) h
    exact .inr ⟨x,t,rfl,e⟩
theorem keyIs_int (i : Int) (t : Tok) : keyIs (.inl i) (.int i t) = true := by simp [keyIs,Value.isInt]
theorem keyIs_str (x : Str) (t : Tok) : keyIs (.inr x) (.str x t) = true := by simp [keyIs,Value.isStrOf]
theorem key_ll (a b : Int) : decide ((Sum.inl a : Key) = Sum.inl b) = (a == b) := by
  by_cases e : a = b
  · subst e; simp
  · have h : ¬ (Sum.inl a : Key) = Sum.inl b := fun q => e (Sum.inl.inj q)
    rw [decide_eq_false h]
    exact (beq_eq_false_iff_ne.mpr e).symm
theorem key_rr (a b : Str) : decide ((Sum.inr a : Key) = Sum.inr b) = decide (a = b) := by
  by_cases e : a = b
  · subst e; simp
  · have h : ¬ (Sum.inr a : Key) = Sum.inr b := fun q => e (Sum.inr.inj q)
    rw [decide_eq_false h,decide_eq_false e]
theorem key_lr (a : Int) (b : Str) : decide ((Sum.inl a : Key) = Sum.inr b) = false := decide_eq_false (fun q => nomatch q)
theorem key_rl (a : Str) (b : Int) : decide ((Sum.inr a : Key) = Sum.inl b) = false := decide_eq_false (fun q => nomatch q)
def mixKind (prog : Program) (w : World) : PySem.KeyKind prog w Key where
  is := keyIs
  hash := keyH w
  inj := fun v a b ha hb => by
    rcases keyIs_shape ha with ⟨i,t,rfl,rfl⟩ | ⟨x,t,rfl,rfl⟩
    · rcases keyIs_shape hb with ⟨j,u,rfl,e⟩ | ⟨y,u,rfl,e⟩
      · injection e with e1 _; rw [e1]
      · exact nomatch e
    · rcases keyIs_shape hb with ⟨j,u,rfl,e⟩ | ⟨y,u,rfl,e⟩
      · exact nomatch e
      · injection e with e1 _; rw [e1]
  byValue := fun k v h => by
    rcases keyIs_shape h with ⟨i,t,rfl,rfl⟩ | ⟨x,t,rfl,rfl⟩ <;> rfl
  pyHash := fun hv h => by
    rcases keyIs_shape hv with ⟨i,t,rfl,rfl⟩ | ⟨x,t,rfl,rfl⟩
    · exact wpAny_pyHash_int h
    · exact wpAny_pyHash_str h
  eqBool := fun hu hv h => by
    rcases keyIs_shape hu with ⟨i,t,rfl,rfl⟩ | ⟨x,t,rfl,rfl⟩
    · rcases keyIs_shape hv with ⟨j,u,rfl,rfl⟩ | ⟨y,u,rfl,rfl⟩
      · rw [key_ll] at h; exact wpAny_eqBool_int h
      · rw [key_lr] at h; exact SeqAt.EqAt.int_str i t y u _ _ _ _ h
    · rcases keyIs_shape hv with ⟨j,u,rfl,rfl⟩ | ⟨y,u,rfl,rfl⟩
      · rw [key_rl] at h; exact SeqAt.EqAt.str_int x t j u _ _ _ _ h
      · rw [key_rr] at h; exact wpAny_eqBool_str h
  «strs» := fun k x t v h => by
    rcases keyIs_shape h with ⟨i,u,rfl,e⟩ | ⟨y,u,rfl,e⟩
    · exact nomatch e
    · injection e with e1 _
      subst e1
      cases v <;> rfl
theorem mixKind_int (prog : Program) (w : World) (i : Int) (t : Tok) : (mixKind prog w).is (.inl i) (.int i t) = true := keyIs_int i t
theorem mixKind_str (prog : Program) (w : World) (x : Str) (t : Tok) : (mixKind prog w).is (.inr x) (.str x t) = true := keyIs_str x t
end L2
namespace L2
open PySem PySem.Spec PyProof.Rows
inductive V where
  | non | bl (b : Bool) | int (i : Int) | str (x : Str) | byt (b : Array UInt8) | flt (b : UInt64) | ref (a : Addr) | ty (n : String)
  deriving DecidableEq
def RelV : V → Value → Prop
  | .non,u => u = Value.none
  | .bl b,u => u = Value.bool b
  | .int i,u => ∃ t,u = Value.int i t
  | .str x,u => ∃ t,u = Value.str x t
  | .byt b,u => ∃ t,u = Value.bytes b t
  | .flt b,u => ∃ t,u = Value.float b t
  | .ref a,u => u = Value.ref a
  | .ty n,u => u = Value.type n
abbrev Vals : List V → List Value → Prop := Paired RelV
theorem Vals.length {xs : List V} {us : List Value} (r : Vals xs us) : xs.length = us.length := Paired.length r
theorem Vals.get : ∀ {xs : List V} {us : List Value} {i : Nat} {x : V},Vals xs us → xs[i]? = some x → ∃ u,us[i]? = some u ∧ RelV x u
  | _,_,_,_,.nil,e => by simp at e
  | _,_,0,_,.cons r _,e => by simp at e; subst e; exact ⟨_,rfl,r⟩
  | _,_,i + 1,x,.cons _ t,e => by
    obtain ⟨u,h1,h2⟩ := Vals.get (i := i) (x := x) t (by simpa using e)
    exact ⟨u,by simpa using h1,h2⟩
theorem Vals.set {x : V} {u : Value} (r : RelV x u) : ∀ {xs : List V} {us : List Value} (i : Nat),Vals xs us → Vals (xs.set i x) (us.set i u)
  | _,_,_,.nil => .nil
  | _,_,0,.cons _ t => .cons r t
  | _,_,i + 1,.cons q t => .cons q (Vals.set r i t)
theorem Vals.append : ∀ {xs ys : List V} {us ws : List Value},Vals xs us → Vals ys ws → Vals (xs ++ ys) (us ++ ws)
  | _,_,_,_,.nil,s => s
  | _,_,_,_,.cons r t,s => .cons r (Vals.append t s)
theorem Vals.take : ∀ {xs : List V} {us : List Value} (n : Nat),Vals xs us → Vals (xs.take n) (us.take n)
  | _,_,0,_ => .nil
  | _,_,_ + 1,.nil => .nil
  | _,_,n + 1,.cons r t => .cons r (Vals.take n t)
theorem Vals.drop : ∀ {xs : List V} {us : List Value} (n : Nat),Vals xs us → Vals (xs.drop n) (us.drop n)
  | _,_,0,r => r
  | _,_,_ + 1,.nil => .nil
  | _,_,n + 1,.cons _ t => Vals.drop n t
def RelO : Option V → Option Value → Prop
  | some v,some u => RelV v u
  | none,none => True
  | _,_ => False
def KV {κ : Type} : List (κ × V) → List (κ × Value) → Prop := Paired fun (p : κ × V) (q : κ × Value) => p.1 = q.1 ∧ RelV p.2 q.2
def kV : Key → V
  | .inl i => .int i
  | .inr x => .str x
inductive HO where
  | lst (xs : List V)
  | tup (xs : List V)
  | dK (kvs : List (Key × V)) | dT (kvs : List (List Key × V))
  | set (S : Int → Bool) (n : Nat)
  | ins (C dx : Addr) (fs : List (Str × V))
  | own (x : Addr)
  | xd (fs : List (Str × V))
  | met (f x : Addr)
  | rng (lo hi : Int)
  | frz (o : Obj) (u : HO)
  | tbl (ps : Array Value)
  | ext (φ : Heap → Prop)
abbrev Hp := Addr → Option HO
def upd (H : Hp) (a : Addr) (o : HO) : Hp := fun b => if b = a then some o else H b
theorem upd_same {H : Hp} {a : Addr} {o : HO} : upd H a o a = some o := by unfold upd; rw [if_pos rfl]
theorem upd_ne {H : Hp} {a b : Addr} {o : HO} (h : b ≠ a) : upd H a o b = H b := by unfold upd; rw [if_neg h]
theorem upd_upd {H : Hp} {a : Addr} {o u : HO} : upd (upd H a o) a u = upd H a u := by
  funext b; unfold upd; split <;> rfl
theorem ne_of {H : Hp} {a b : Addr} {o u : HO} (h : H a = some o) (h' : H b = some u) (d : o ≠ u) : a ≠ b := by
  intro e; subst e; rw [h] at h'; exact d (Option.some.inj h')
theorem ne_of_none {H : Hp} {a b : Addr} {o : HO} (h : H a = some o) (h' : H b = none) : a ≠ b := by
  intro e; subst e; rw [h] at h'; cases h'
section
variable (P : Program) (w : World)
def ObjOk (H : Hp) (h : Heap) (a : Addr) : HO → Prop
  | .lst xs => xs.length ≤ sizeLine ∧ ∃ (its : List Value) (n : Nat),Vals xs its ∧ h.get? a = some { cls := .type "list",data := .seq its.toArray n }
  | .tup xs => xs.length ≤ sizeLine ∧ ∃ its : List Value,Vals xs its ∧ IsTup h a its.toArray
  | .dK kvs => kvs.length ≤ sizeLine ∧ (a == sysModules) = false ∧ ∃ vs,KV kvs vs ∧ h.DictOf (mixKind P w) a vs
  | .dT kvs => kvs.length ≤ sizeLine ∧ (a == sysModules) = false ∧ ∃ xs : List (List Key × Addr × Value),
      Paired (fun (p : List Key × V) (q : List Key × Addr × Value) => p.1 = q.1 ∧ H q.2.1 = some (.tup (p.1.map kV)) ∧ RelV p.2 q.2.2) kvs xs ∧
      ∃ o es ep,h.get? a = some o ∧ o.ExactDict ∧ o.data = .dict es ep ∧ es.toList = xs.map (entryOfKey (tupleKind (mixKind P w))) ∧ (xs.map (·.1)).Nodup
  | .set S n => h.SetOf (intKind P w) a S n
  | .ins C dx fs => H dx = some (.own a) ∧ fs.length ≤ 1000 ∧ dx ≠ a ∧ h.get? a = some (PySem.W.instObj C dx) ∧
      ∃ mA,h.Ns1 dx mA ∧ (∀ f,RelO (fs.lookup f) (mA f)) ∧ PySem.Within mA (fs.map (·.1))
  | .own _ => ∃ o,h.get? a = some o
  | .xd fs => ∃ mA,h.Ns1 a mA ∧ ∀ f,RelO (fs.lookup f) (mA f)
  | .rng lo hi => ∃ t u v,h.get? a = some { cls := .type "range",data := .fields #[.int lo t,.int hi u,.int 1 v] }
  | .frz o u => h.get? a = some o ∧ ObjOk H h a u
  | .tbl ps => h.get? a = some { cls := .none,data := .fields ps }
  | .met f x => h.get? a = some (PySem.W.methodObj (.ref f) (.ref x))
  | .ext φ => φ h ∧ (∃ o,h.get? a = some o) ∧ ∀ h1 h2 : Heap,φ h1 → (∀ o,h1.get? a = some o → h2.get? a = some o) → φ h2
def HOk (H : Hp) (h : Heap) : Prop := ∀ a o,H a = some o → ObjOk P w H h a o
end
section
variable {P : Program} {w : World} {H H' : Hp} {h h' : Heap} {a : Addr} {o : HO}
theorem ObjOk.lt (x : ObjOk P w H h a o) : a < h.objs.size := by
  cases o with
  | lst xs => obtain ⟨_,_,_,_,e⟩ := x; exact Heap.lt_size e
  | tup xs => obtain ⟨_,_,_,p⟩ := x; exact p.lt
  | dK kvs => obtain ⟨_,_,_,_,o,_,_,e,_⟩ := x; exact Heap.lt_size e
  | dT kvs => obtain ⟨_,_,_,_,o,_,_,e,_⟩ := x; exact Heap.lt_size e
  | set S n => obtain ⟨o,_,_,_,e,_⟩ := x; exact Heap.lt_size e
  | ins C dx fs => obtain ⟨_,_,_,e,_⟩ := x; exact Heap.lt_size e
  | own y => obtain ⟨_,e⟩ := x; exact Heap.lt_size e
  | xd fs => obtain ⟨_,⟨_,_,_,e,_⟩,_⟩ := x; exact Heap.lt_size e
  | rng lo hi => obtain ⟨_,_,_,e⟩ := x; exact Heap.lt_size e
  | frz ob u => obtain ⟨e,_⟩ := x; exact Heap.lt_size e
  | tbl ps => exact Heap.lt_size (show h.get? a = some _ from x)
  | met f y => exact Heap.lt_size (show h.get? a = some _ from x)
  | ext φ => obtain ⟨_,⟨_,e⟩,_⟩ := x; exact Heap.lt_size e
theorem Paired.mapP {α β : Type} {F G : α → β → Prop} : ∀ {l₁ : List α} {l₂ : List β},Paired F l₁ l₂ → (∀ a b,F a b → G a b) → Paired G l₁ l₂
  | _,_,.nil,_ => .nil
  | _,_,.cons r t,f => .cons (f _ _ r) (Paired.mapP t f)
theorem ObjOk.stay (x : ObjOk P w H h a o) (k : ∀ b u,(b = a ∨ H b = some (.own a)) → h.get? b = some u → h'.get? b = some u)
    (ho : ∀ b,H b = some (.own a) → H' b = some (.own a)) (ht : ∀ b xs,H b = some (.tup xs) → H' b = some (.tup xs)) : ObjOk P w H' h' a o := by
  induction o with
  | lst xs => obtain ⟨z,its,n,r,e⟩ := x; exact ⟨z,its,n,r,k _ _ (.inl rfl) e⟩
  | tup xs => obtain ⟨z,its,r,ob,e,c⟩ := x; exact ⟨z,its,r,ob,k _ _ (.inl rfl) e,c⟩
  | dK kvs => obtain ⟨z,y,vs,r,ob,es,ep,e,c⟩ := x; exact ⟨z,y,vs,r,ob,es,ep,k _ _ (.inl rfl) e,c⟩
  | dT kvs =>
    obtain ⟨z,y,xs,r,ob,es,ep,e,c⟩ := x
    exact ⟨z,y,xs,Paired.mapP r fun p q z => ⟨z.1,ht _ _ z.2.1,z.2.2⟩,ob,es,ep,k _ _ (.inl rfl) e,c⟩
  | set S n => obtain ⟨ob,es,ep,t,e,c⟩ := x; exact ⟨ob,es,ep,t,k _ _ (.inl rfl) e,c⟩
  | ins C dx fs =>
    obtain ⟨d,z,ne,e,mA,⟨od,es,ep,e2,c⟩,r⟩ := x
    exact ⟨ho _ d,z,ne,k _ _ (.inl rfl) e,mA,⟨od,es,ep,k _ _ (.inr d) e2,c⟩,r⟩
  | own y => obtain ⟨ob,e⟩ := x; exact ⟨ob,k _ _ (.inl rfl) e⟩
  | xd fs => obtain ⟨mA,⟨od,es,ep,e,c⟩,r⟩ := x; exact ⟨mA,⟨od,es,ep,k _ _ (.inl rfl) e,c⟩,r⟩
  | rng lo hi => obtain ⟨t,u,v,e⟩ := x; exact ⟨t,u,v,k _ _ (.inl rfl) e⟩
  | frz ob u ih => obtain ⟨e,q⟩ := x; exact ⟨k _ _ (.inl rfl) e,ih q⟩
  | tbl ps =>
    have e : h.get? a = some { cls := .none,data := .fields ps } := x
    show h'.get? a = some { cls := .none,data := .fields ps }
    exact k a _ (.inl rfl) e
  | met f y =>
    have e : h.get? a = some (PySem.W.methodObj (.ref f) (.ref y)) := x
    show h'.get? a = some (PySem.W.methodObj (.ref f) (.ref y))
    exact k a _ (.inl rfl) e
  | ext φ => obtain ⟨p,⟨o,e⟩,st⟩ := x; exact ⟨st _ _ p fun o q => k _ _ (.inl rfl) q,⟨o,k _ _ (.inl rfl) e⟩,st⟩
theorem HOk.lt (x : HOk P w H h) (e : H a = some o) : a < h.objs.size := (x a o e).lt
theorem HOk.fresh (x : HOk P w H h) (e : h.objs.size ≤ a) : H a = none := by
  cases q : H a with
  | none => rfl
  | some u => exact absurd (Nat.lt_of_lt_of_le (x.lt q) e) (Nat.lt_irrefl _)
theorem HOk.kept (x : HOk P w H h) (k : ∀ b u,h.get? b = some u → h'.get? b = some u) : HOk P w H h' := fun a o e =>
  (x a o e).stay (fun b u _ q => k b u q) (fun _ q => q) fun _ _ q => q
theorem HOk.laid (x : HOk P w H h) (k : ∀ b u,h.get? b = some u → h'.get? b = some u) (hp : h.objs.size ≤ a) (new : ObjOk P w (upd H a o) h' a o) : HOk P w (upd H a o) h' := fun b u e => by
  have hn := x.fresh hp
  by_cases hb : b = a
  · subst hb; rw [upd_same] at e; cases e; exact new
  · rw [upd_ne hb] at e
    exact (x b u e).stay (fun c v _ q => k c v q) (fun c q => by rw [upd_ne (ne_of_none q hn)]; exact q) fun c xs q => by rw [upd_ne (ne_of_none q hn)]; exact q
end
def Rd (H : Hp) (a : Addr) (u : HO) : Prop := H a = some u ∨ ∃ o,H a = some (.frz o u)
theorem Rd.ok {P : Program} {w : World} {H : Hp} {h : Heap} {a : Addr} {u : HO} (r : Rd H a u) (x : HOk P w H h) : ObjOk P w H h a u := by
  rcases r with r | ⟨o,r⟩
  · exact x a u r
  · obtain ⟨_,q⟩ := x a _ r
    exact q
def Mut : Option HO → Prop
  | some (.lst _) => True
  | some (.dK _) => True
  | some (.dT _) => True
  | some (.set _ _) => True
  | some (.ins _ _ _) => True
  | some (.ext _) => True
  | _ => False
section
variable {P : Program} {w : World} {H : Hp} {h h' : Heap} {x e : Addr} {o' : HO}
theorem HOk.write (ok : HOk P w H h) (mu : Mut (H x)) (he : e = x ∨ H e = some (.own x)) (k : ∀ b u,b ≠ e → h.get? b = some u → h'.get? b = some u) (heo : ∃ u,h'.get? e = some u)
    (new : ObjOk P w (upd H x o') h' x o') : HOk P w (upd H x o') h' := fun b u q => by
  have nown : ∀ c y,H c = some (.own y) → c ≠ x := fun c y r z => by subst z; rw [r] at mu; exact mu
  have ntup : ∀ c xs,H c = some (.tup xs) → c ≠ x := fun c xs r z => by subst z; rw [r] at mu; exact mu
  by_cases hb : b = x
  · subst hb; rw [upd_same] at q; cases q; exact new
  · rw [upd_ne hb] at q
    by_cases hbe : b = e
    · have q' : H b = some (.own x) := by
        rcases he with z | z
        · exact absurd (hbe.trans z) hb
        · rw [hbe]; exact z
      rw [q] at q'; cases q'
      obtain ⟨v,hv⟩ := heo
      exact ⟨v,by rw [hbe]; exact hv⟩
    · refine (ok b u q).stay (fun c v hc r => k c v ?_ r) (fun c r => by rw [upd_ne (nown c b r)]; exact r) fun c xs r => by rw [upd_ne (ntup c xs r)]; exact r
      rcases hc with rfl | hc
      · exact hbe
      · rintro rfl
        rcases he with z | z
        · exact nown c b hc z
        · rw [hc] at z; cases z; exact hb rfl
end
structure Un (fs ex : List Addr) (H H' : Hp) (h h' : Heap) : Prop where
  keep : ∀ b o,h.get? b = some o → H b = none → b ∉ fs → b ∉ ex → h'.get? b = some o
  slot : ∀ b o,h.get? b = some o → H b = none → b ∈ fs → b ∉ ex → ∃ sl,h'.get? b = some { o with slots := sl }
  free : ∀ b o,h.get? b = some o → H b = none → b ∉ ex → H' b = none
  there : ∀ b o,h.get? b = some o → b ∉ ex → ∃ o',h'.get? b = some o'
  tups : ∀ b xs,H b = some (.tup xs) → H' b = some (.tup xs)
  frzs : ∀ b o u,H b = some (.frz o u) → H' b = some (.frz o u)
  tbls : ∀ b ps,H b = some (.tbl ps) → ∃ more,H' b = some (.tbl (ps ++ more))
section
variable {fs fs' ex ex' : List Addr} {H H1 H2 : Hp} {h h1 h2 h' : Heap} {a x e : Addr} {o : HO}
theorem Un.any (u : Un fs ex H H1 h h1) {b : Addr} {ob : Obj} (q : h.get? b = some ob) (n : H b = none) (hx : b ∉ ex) : ∃ sl,h1.get? b = some { ob with slots := sl } := by
  by_cases hb : b ∈ fs
  · exact u.slot b ob q n hb hx
  · exact ⟨ob.slots,u.keep b ob q n hb hx⟩
theorem Un.kept (k : ∀ b u,h.get? b = some u → h'.get? b = some u) : Un fs ex H H h h' :=
  ⟨fun b ob q _ _ _ => k b ob q,fun b ob q _ _ _ => ⟨ob.slots,k b ob q⟩,fun _ _ _ n _ => n,fun b ob q _ => ⟨ob,k b ob q⟩,fun _ _ q => q,fun _ _ _ q => q,fun _ ps q => ⟨#[],by rw [q]; simp⟩⟩
theorem Un.refl : Un fs ex H H h h := Un.kept fun _ _ q => q
theorem Un.laid (k : ∀ b u,h.get? b = some u → h'.get? b = some u) (hp : h.objs.size ≤ a) (hn : H a = none) : Un fs ex H (upd H a o) h h' where
  keep := fun b u q _ _ _ => k b u q
  slot := fun b u q _ _ _ => ⟨u.slots,k b u q⟩
  free := fun b u q n _ => by rw [upd_ne (Nat.ne_of_lt (Nat.lt_of_lt_of_le (Heap.lt_size q) hp))]; exact n
  there := fun b u q _ => ⟨u,k b u q⟩
  tups := fun b xs q => by rw [upd_ne (ne_of_none q hn)]; exact q
  frzs := fun b u xs q => by rw [upd_ne (ne_of_none q hn)]; exact q
  tbls := fun b ps q => ⟨#[],by rw [upd_ne (ne_of_none q hn),q]; simp⟩
theorem Un.write (mu : Mut (H x)) (he : e = x ∨ H e = some (.own x)) (k : ∀ b u,b ≠ e → h.get? b = some u → h'.get? b = some u) (heo : ∃ u,h'.get? e = some u) : Un fs ex H (upd H x o) h h' := by
  have hx : ∀ b,H b = none → b ≠ x := fun b n z => by subst z; rw [n] at mu; exact mu
  have hb : ∀ b,H b = none → b ≠ e := fun b n z => by
    subst z
    rcases he with r | r
    · exact hx b n r
    · rw [n] at r; cases r
  have hm : ∀ b u,H b = some u → ¬ Mut (some u) → b ≠ x := fun b u q nm z => by subst z; rw [q] at mu; exact nm mu
  refine ⟨fun b u q n _ _ => k b u (hb b n) q,fun b u q n _ _ => ⟨u.slots,k b u (hb b n) q⟩,fun b u q n _ => by rw [upd_ne (hx b n)]; exact n,fun b u q _ => ?_,
    fun b xs q => by rw [upd_ne (hm b _ q fun z => z)]; exact q,fun b u xs q => by rw [upd_ne (hm b _ q fun z => z)]; exact q,fun b ps q => ⟨#[],by rw [upd_ne (hm b _ q fun z => z),q]; simp⟩⟩
  by_cases hbe : b = e
  · subst hbe; exact heo
  · exact ⟨u,k b u hbe q⟩
end
def trk (h : Heap) (H : Hp) : List Addr := (List.range h.objs.size).filter fun a => (H a).isSome
def hidT (h : Heap) (H : Hp) : Heap := PySem.W.hideAll h (trk h H)
theorem hidT_size (h : Heap) (H : Hp) : (hidT h H).objs.size = h.objs.size := PySem.W.hideAll_size _ _
theorem hidT_get {h : Heap} {H : Hp} {b : Addr} {o : Obj} (e : h.get? b = some o) (n : H b = none) : (hidT h H).get? b = some o :=
  PySem.W.hideAll_get _ e fun hm => by
    have q : (H b).isSome = true := (List.mem_filter.mp hm).2
    rw [n] at q; simp at q
theorem of_hidT {h : Heap} {H : Hp} {b : Addr} {o : Obj} (e : (hidT h H).get? b = some o) : h.get? b = some o ∧ H b = none := by
  have e' : h.get? b = some o := PySem.W.of_hideAll (trk h H) e
  refine ⟨e',?_⟩
  cases q : H b with
  | none => rfl
  | some x =>
    have hm : b ∈ trk h H := List.mem_filter.mpr ⟨List.mem_range.mpr (Heap.lt_size e'),by simp [q]⟩
    have z : (hidT h H).get? b = none := PySem.W.hideAll_none (trk h H) hm
    rw [z] at e; cases e
def allNews (g h : Heap) (L : Addr) : List (Addr × Obj) := (List.range h.objs.size).filterMap fun a => if a = L ∨ (g.get? a).isSome = true then none else (h.get? a).map fun o => (a,o)
def rest (g h : Heap) (L d : Addr) : List (Addr × Obj) := (allNews g h L).filter fun p => decide (p.1 ≠ d)
end L2
namespace L2
open PySem PySem.Spec PyProof.Rows
structure Mod (K : PySem.W.Frag) (mg : Str → Option Value) (base : Heap) : Prop where
  kin : K.In base
  glob : base.Ns mainGlobals mg
  blt : ∃ mb,base.Ns builtinsNs mb ∧ ∀ x : Str,x ≠ "__name__" → mb x = bootBuiltins x
  nolimit : base.NoLimit
/-- the context: a def's body (or a comprehension's block) running. base: fixed through the whole law; s₀,H₀: the entry; outer: the frames whose slots others may change (a def's callers); stack: all frames that run;
   ex: iterators that were made ahead of the entry and are walked here (a comprehension's); fn: the names whose cells were made at the entry (a def: all; a comprehension's block: its own); calm: not within an except suite; pn: pins that every state bears; xe: what is wanted of an exception that leaves the code -/
structure Cx where
  prog : Program
  w : World
  K : PySem.W.Frag
  mg : Str → Option Value
  base : Heap
  A : Around
  N : List Str
  s₀ : Shared
  H₀ : Hp
  env : Env
  outer : List Env
  stack : List Env
  ex : List Addr
  fn : Str → Bool
  calm : Bool
  pn : List (Addr × Obj)
  xe : Value → Shared → Prop
def frs (l : List Env) : List Addr := l.filterMap (·.frame)
abbrev Cx.fs (X : Cx) : List Addr := frs X.outer
def Vis (sc : Scope) (x : Str) : Prop := sc.names.lookup x = some .local ∨ sc.names.lookup x = some .cell ∨ sc.names.lookup x = some .free
def Loc (sc : Scope) (x : Str) : Prop := sc.names.lookup x = some .local ∨ sc.names.lookup x = some .cell
def Look (env : Env) (h : Heap) (m : Str → Option Value) (x : Str) (u : Value) : Prop :=
  (env.kindOf x = some .local ∧ m x = some u) ∨ ((env.kindOf x = some .cell ∨ env.kindOf x = some .free) ∧ ∃ c,env.cells.lookup x = some c ∧ h.IsCell c (some u))
structure Cx.Ok (X : Cx) : Prop where
  mod : Mod X.K X.mg X.base
  kind : X.env.scope.kind = .function
  glob : X.env.globals = mainGlobals
  blt : X.env.builtins = builtinsNs
  above : X.s₀.heap.objs.size ≤ X.env.locals
  inj : ∀ x y c,X.env.cells.lookup x = some c → X.env.cells.lookup y = some c → x = y
  has : ∀ x,(X.env.kindOf x = some .cell ∨ X.env.kindOf x = some .free) → ∃ c,X.env.cells.lookup x = some c
  cab : ∀ x c,X.fn x = true → X.env.cells.lookup x = some c → X.s₀.heap.objs.size ≤ c
  hd : X.calm = true → X.A.handled = none
  frames : X.A.frames = some X.stack
  stk : X.stack = X.outer ∨ (X.stack = X.env :: X.outer ∧ X.env.frame = some X.env.locals)
  exf : ∀ b ∈ X.ex,b ≠ X.env.locals ∧ ∀ x c,X.env.cells.lookup x = some c → c ≠ b
  bs : ∀ b o,X.base.get? b = some o → X.s₀.heap.get? b = some o ∧ X.H₀ b = none
  bsz : X.base.objs.size ≤ X.s₀.heap.objs.size
  noex : ∀ b o,X.base.get? b = some o → b ∉ X.ex
  exfs : ∀ b ∈ X.ex,b ∉ X.fs
  funs : X.s₀.heap.FunFrames X.base X.outer
  frf : ∀ b ∈ X.fs,X.H₀ b = none
structure Inv (X : Cx) (pins : List (Addr × Obj)) (σ : List (Option V)) (H : Hp) (s : Shared) : Prop where
  ok : X.Ok
  os : s.os = X.s₀.os
  bare : AllBare s.gens
  base : Un X.fs X.ex X.H₀ H X.s₀.heap s.heap
  loc : ∃ m,s.heap.Ns X.env.locals m ∧ ∀ (i : Nat) (x : Str) (v : V),X.N[i]? = some x → σ[i]? = some (some v) → Vis X.env.scope x → ∃ u,RelV v u ∧ Look X.env s.heap m x u
  cell : ∀ x c,X.env.cells.lookup x = some c → ∃ v,s.heap.IsCell c v
  free : H X.env.locals = none
  freeC : ∀ x c,X.env.cells.lookup x = some c → H c = none
  pin : ∀ p ∈ X.pn ++ pins,s.heap.get? p.1 = some p.2 ∧ H p.1 = none ∧ p.1 ≠ X.env.locals ∧ p.1 ∉ X.fs ∧ ∀ v,p.2.data ≠ .cell v
  hok : HOk X.prog X.w H s.heap
  len : σ.length = X.N.length
section
variable {X : Cx} {pins : List (Addr × Obj)} {σ : List (Option V)} {H H' : Hp} {s : Shared} {h' : Heap}
theorem Cx.Ok.nofr (ok : X.Ok) {b : Addr} {o : Obj} (e : X.base.get? b = some o) : b ∉ X.fs := fun hb => by
  have := (ok.funs.mem hb).1
  rw [e] at this; cases this
theorem Inv.bs (I : Inv X pins σ H s) : ∀ b o,X.base.get? b = some o → s.heap.get? b = some o ∧ H b = none := fun b o e =>
  ⟨I.base.keep b o (I.ok.bs b o e).1 (I.ok.bs b o e).2 (I.ok.nofr e) (I.ok.noex b o e),I.base.free b o (I.ok.bs b o e).1 (I.ok.bs b o e).2 (I.ok.noex b o e)⟩
theorem Inv.bk (I : Inv X pins σ H s) : ∀ b o,X.base.get? b = some o → s.heap.get? b = some o := fun b o e => (I.bs b o e).1
theorem Inv.mod (I : Inv X pins σ H s) : Mod X.K X.mg X.base := I.ok.mod
theorem Inv.kIn (I : Inv X pins σ H s) : X.K.In s.heap := I.ok.mod.kin.keeps I.bk
theorem Inv.fr (I : Inv X pins σ H s) : ∃ m,Fr X.base X.env.locals s.heap m :=
  let ⟨m,hn,_⟩ := I.loc
  ⟨m,hn,I.bk,Nat.le_trans I.ok.bsz I.ok.above⟩
theorem Inv.lt (I : Inv X pins σ H s) : X.env.locals < s.heap.objs.size := let ⟨_,hn,_⟩ := I.loc; hn.lt
theorem Inv.sz (I : Inv X pins σ H s) : X.s₀.heap.objs.size ≤ s.heap.objs.size := Nat.le_trans I.ok.above (Nat.le_of_lt I.lt)
theorem Inv.nofs (I : Inv X pins σ H s) {a : Addr} (h : s.heap.objs.size ≤ a) : a ∉ X.fs := fun hb => by
  obtain ⟨_,o,ho,_⟩ := I.ok.funs.mem hb
  exact absurd (Nat.lt_of_lt_of_le (Heap.lt_size ho) (Nat.le_trans I.sz h)) (Nat.lt_irrefl _)
theorem Inv.cne (I : Inv X pins σ H s) : ∀ x c,X.env.cells.lookup x = some c → c ≠ X.env.locals := fun x c e z => by
  obtain ⟨v,o,ho,hd⟩ := I.cell x c e
  obtain ⟨m,⟨o',es,ep,ho',hd',_⟩,_⟩ := I.loc
  rw [z,ho'] at ho; cases ho; rw [hd'] at hd; cases hd
theorem Inv.funs (I : Inv X pins σ H s) : s.heap.FunFrames X.base X.outer := by
  have all : ∀ (l : List Env),(∀ b ∈ frs l,b ∈ X.fs) → X.s₀.heap.FunFrames X.base l → s.heap.FunFrames X.base l := by
    intro l
    induction l with
    | nil => intro _ _; trivial
    | cons env r ih =>
      intro hs hl
      obtain ⟨hk,⟨L,o,hf,hn,ho,hd⟩,hr⟩ := hl
      have hL : L ∈ X.fs := hs L (by unfold frs; rw [List.filterMap_cons,hf]; exact List.mem_cons_self)
      obtain ⟨sl,e⟩ := I.base.slot L o ho (I.ok.frf L hL) hL fun z => I.ok.exfs L z hL
      exact ⟨hk,⟨L,_,hf,hn,e,hd⟩,ih (fun b hb => hs b (by unfold frs; rw [List.filterMap_cons,hf]; exact List.mem_cons_of_mem _ hb)) hr⟩
  exact all X.outer (fun _ hb => hb) I.ok.funs
theorem Inv.stack (I : Inv X pins σ H s) : s.heap.FunFrames X.base X.stack := by
  rcases I.ok.stk with e | ⟨e,hf⟩
  · rw [e]; exact I.funs
  · rw [e]
    obtain ⟨m,hn,_⟩ := I.loc
    refine .cons (by rw [I.ok.kind]; decide) hf hn ?_ I.funs
    exact Heap.get?_none_of_le (Nat.le_trans I.ok.bsz I.ok.above)
theorem Inv.stkSub (I : Inv X pins σ H s) : ∀ b ∈ frs X.stack,b ∈ X.env.locals :: X.fs := fun b hb => by
  rcases I.ok.stk with e | ⟨e,hf⟩
  · rw [e] at hb; exact List.mem_cons_of_mem _ hb
  · rw [e] at hb
    unfold frs at hb
    rw [List.filterMap_cons,hf] at hb
    exact hb
theorem Inv.stkFree (I : Inv X pins σ H s) : ∀ b ∈ frs X.stack,H b = none := fun b hb => by
  rcases List.mem_cons.mp (I.stkSub b hb) with e | hb
  · rw [e]; exact I.free
  · obtain ⟨_,o,ho,_⟩ := I.ok.funs.mem hb
    exact I.base.free b o ho (I.ok.frf b hb) fun z => I.ok.exfs b z hb
theorem Inv.step {g' : Array GenState} {t' : Nat} {d' : Drawn} {ch : List Addr} (I : Inv X pins σ H s)
    (hch : ∀ b ∈ ch,(b ∈ X.ex ∨ X.s₀.heap.objs.size ≤ b) ∧ b ≠ X.env.locals ∧ (∀ x c,X.env.cells.lookup x = some c → c ≠ b) ∧ ∀ p ∈ X.pn ++ pins,p.1 ≠ b)
    (keep : ∀ b o,b ≠ X.env.locals → b ∉ X.fs → b ∉ ch → s.heap.get? b = some o → H b = none → h'.get? b = some o)
    (slot : ∀ b o,b ≠ X.env.locals → b ∈ X.fs → b ∉ ch → s.heap.get? b = some o → H b = none → ∃ sl,h'.get? b = some { o with slots := sl }) (free : ∀ b o,b ∉ ch → s.heap.get? b = some o → H b = none → H' b = none)
    (there : ∀ b o,b ∉ ch → s.heap.get? b = some o → ∃ o',h'.get? b = some o')
    (tups : ∀ b xs,H b = some (.tup xs) → H' b = some (.tup xs)) (frzs : ∀ b o u,H b = some (.frz o u) → H' b = some (.frz o u)) (tbls : ∀ b ps,H b = some (.tbl ps) → ∃ more,H' b = some (.tbl (ps ++ more)))
    (ns : ∀ m,s.heap.Ns X.env.locals m → h'.Ns X.env.locals m) (hok : HOk X.prog X.w H' h') (hg : AllBare g') :
    Inv X pins σ H' { s with heap := h',gens := g',drawn := d',toks := t' } := by
  have neL : ∀ b o,X.s₀.heap.get? b = some o → b ≠ X.env.locals := fun b o e => Nat.ne_of_lt (Nat.lt_of_lt_of_le (Heap.lt_size e) I.ok.above)
  have neC : ∀ b o,X.s₀.heap.get? b = some o → b ∉ X.ex → b ∉ ch := fun b o e hx hb => by
    rcases (hch b hb).1 with z | z
    · exact hx z
    · exact absurd (Nat.lt_of_lt_of_le (Heap.lt_size e) z) (Nat.lt_irrefl _)
  have cellK : ∀ x c,X.env.cells.lookup x = some c → ∀ v,s.heap.IsCell c v → h'.IsCell c v := fun x c e v ⟨o,ho,hd⟩ => by
    have nch : c ∉ ch := fun z => (hch c z).2.2.1 x c e rfl
    by_cases hc : c ∈ X.fs
    · obtain ⟨sl,q⟩ := slot c o (I.cne x c e) hc nch ho (I.freeC x c e)
      exact ⟨_,q,hd⟩
    · exact ⟨o,keep c o (I.cne x c e) hc nch ho (I.freeC x c e),hd⟩
  refine ⟨I.ok,I.os,hg,⟨fun b o e n hb hx => ?_,fun b o e n hb hx => ?_,fun b o e n hx => ?_,fun b o e hx => ?_,fun b xs e => tups b xs (I.base.tups b xs e),fun b o xs e => frzs b o xs (I.base.frzs b o xs e),fun b ps e => ?_⟩,?_,fun x c e => ?_,?_,fun x c e => ?_,fun p hp => ?_,hok,I.len⟩
  · exact keep b o (neL b o e) hb (neC b o e hx) (I.base.keep b o e n hb hx) (I.base.free b o e n hx)
  · obtain ⟨sl,e1⟩ := I.base.slot b o e n hb hx
    obtain ⟨sl',e2⟩ := slot b _ (neL b o e) hb (neC b o e hx) e1 (I.base.free b o e n hx)
    exact ⟨sl',e2⟩
  · obtain ⟨o',e1⟩ := I.base.there b o e hx
    exact free b o' (neC b o e hx) e1 (I.base.free b o e n hx)
  · obtain ⟨o',e1⟩ := I.base.there b o e hx
    exact there b o' (neC b o e hx) e1
  · obtain ⟨m1,e1⟩ := I.base.tbls b ps e
    obtain ⟨m2,e2⟩ := tbls b _ e1
    exact ⟨m1 ++ m2,by rw [e2,Array.append_assoc]⟩
  · obtain ⟨m,hn,hl⟩ := I.loc
    refine ⟨m,ns m hn,fun i x v e1 e2 e3 => ?_⟩
    obtain ⟨u,r,l⟩ := hl i x v e1 e2 e3
    refine ⟨u,r,?_⟩
    rcases l with l | ⟨k,c,e,z⟩
    · exact .inl l
    · exact .inr ⟨k,c,e,cellK x c e _ z⟩
  · obtain ⟨v,z⟩ := I.cell x c e
    exact ⟨v,cellK x c e v z⟩
  · obtain ⟨m,⟨o,_,_,ho,_⟩,_⟩ := I.loc
    exact free _ o (fun z => (hch _ z).2.1 rfl) ho I.free
  · obtain ⟨v,o,ho,hd⟩ := I.cell x c e
    exact free c o (fun z => (hch c z).2.2.1 x c e rfl) ho (I.freeC x c e)
  · obtain ⟨e,n,ne,nf,d⟩ := I.pin p hp
    have nch : p.1 ∉ ch := fun z => (hch p.1 z).2.2.2 p hp rfl
    exact ⟨keep p.1 p.2 ne nf nch e n,free p.1 p.2 nch e n,ne,nf,d⟩
theorem Inv.un {t' : Nat} (I : Inv X pins σ H s) (u : Un X.fs [] H H' s.heap h') (hok : HOk X.prog X.w H' h') : Inv X pins σ H' { s with heap := h',toks := t' } := by
  obtain ⟨m,⟨o,es,ep,ho,r⟩,_⟩ := id I.loc
  obtain ⟨sl,hL⟩ := u.any ho I.free (by simp)
  exact I.step (g' := s.gens) (d' := s.drawn) (ch := []) (fun _ z => nomatch z) (fun b o _ hb _ e n => u.keep b o e n hb (by simp)) (fun b o _ hb _ e n => u.slot b o e n hb (by simp)) (fun b o _ e n => u.free b o e n (by simp)) (fun b o _ e => u.there b o e (by simp)) u.tups u.frzs u.tbls (fun m' hm => by
    obtain ⟨o',es',ep',ho',r'⟩ := hm
    rw [ho] at ho'; cases ho'
    exact ⟨_,es',ep',hL,r'⟩) hok I.bare
theorem Inv.call {g' : Array GenState} {t' : Nat} {d' : Drawn} {ch : List Addr} (I : Inv X pins σ H s) (u : Un (frs X.stack) ch H H' s.heap h') (hok : HOk X.prog X.w H' h') (hg : AllBare g')
    (hch : ∀ b ∈ ch,(b ∈ X.ex ∨ X.s₀.heap.objs.size ≤ b) ∧ b ≠ X.env.locals ∧ (∀ x c,X.env.cells.lookup x = some c → c ≠ b) ∧ ∀ p ∈ X.pn ++ pins,p.1 ≠ b) :
    Inv X pins σ H' { s with heap := h',gens := g',drawn := d',toks := t' } := by
  obtain ⟨m,⟨o,es,ep,ho,r⟩,_⟩ := id I.loc
  obtain ⟨sl,hL⟩ := u.any ho I.free fun z => (hch _ z).2.1 rfl
  exact I.step (ch := ch) hch (fun b o hL hb hc e n => u.keep b o e n (fun z => (List.mem_cons.mp (I.stkSub b z)).elim hL hb) hc) (fun b o _ _ hc e n => u.any e n hc) (fun b o hc e n => u.free b o e n hc) (fun b o hc e => u.there b o e hc) u.tups u.frzs u.tbls (fun m' hm => by
    obtain ⟨o',es',ep',ho',r'⟩ := hm
    rw [ho] at ho'; cases ho'
    exact ⟨_,es',ep',hL,r'⟩) hok hg
theorem Inv.turned {t' : Nat} {it : Addr} (I : Inv X pins σ H s) (k : ∀ b o,b ≠ it → s.heap.get? b = some o → h'.get? b = some o) (hn : H it = none) (hL : it ≠ X.env.locals)
    (h1 : it ∈ X.ex ∨ X.s₀.heap.objs.size ≤ it) (h2 : ∀ x c,X.env.cells.lookup x = some c → c ≠ it) (h3 : ∀ p ∈ X.pn ++ pins,p.1 ≠ it) : Inv X pins σ H { s with heap := h',toks := t' } := by
  have nit : ∀ b u,H b = some u → b ≠ it := fun b u e z => by rw [z,hn] at e; cases e
  refine I.step (g' := s.gens) (d' := s.drawn) (ch := [it]) (fun b hb => ?_) (fun b o _ _ hc e _ => k b o (fun z => hc (by simp [z])) e) (fun b o _ _ hc e _ => ⟨o.slots,k b o (fun z => hc (by simp [z])) e⟩) (fun _ _ _ _ n => n)
    (fun b o hc e => ⟨o,k b o (fun z => hc (by simp [z])) e⟩) (fun _ _ e => e) (fun _ _ _ e => e) (fun b ps e => ⟨#[],by rw [e]; simp⟩) (fun m hm => ?_) (fun b u e => ?_) I.bare
  · have e : b = it := by simpa using hb
    subst e
    exact ⟨h1,hL,h2,h3⟩
  · obtain ⟨o,es,ep,ho,r⟩ := hm
    exact ⟨o,es,ep,k _ o (Ne.symm hL) ho,r⟩
  · refine (I.hok b u e).stay (fun c v hc q => k c v ?_ q) (fun _ q => q) fun _ _ q => q
    rcases hc with z | z
    · rw [z]; exact nit b u e
    · exact nit c _ z
theorem Inv.tok (I : Inv X pins σ H s) (t : Nat) : Inv X pins σ H { s with toks := t } := I.un (h' := s.heap) (t' := t) Un.refl I.hok
theorem Inv.kept {t' : Nat} (I : Inv X pins σ H s) (k : ∀ b u,s.heap.get? b = some u → h'.get? b = some u) : Inv X pins σ H { s with heap := h',toks := t' } := I.un (Un.kept k) (I.hok.kept k)
theorem Inv.laid {a : Addr} {o : HO} {t' : Nat} (I : Inv X pins σ H s) (k : ∀ b u,s.heap.get? b = some u → h'.get? b = some u) (hp : s.heap.objs.size ≤ a) (new : ObjOk X.prog X.w (upd H a o) h' a o) :
    Inv X pins σ (upd H a o) { s with heap := h',toks := t' } := I.un (Un.laid k hp (I.hok.fresh hp)) (I.hok.laid k hp new)
theorem Inv.write {x e : Addr} {o : HO} {t' : Nat} (I : Inv X pins σ H s) (mu : Mut (H x)) (he : e = x ∨ H e = some (.own x)) (k : ∀ b u,b ≠ e → s.heap.get? b = some u → h'.get? b = some u) (heo : ∃ u,h'.get? e = some u)
    (new : ObjOk X.prog X.w (upd H x o) h' x o) : Inv X pins σ (upd H x o) { s with heap := h',toks := t' } := I.un (Un.write mu he k heo) (I.hok.write mu he k heo new)
theorem Inv.weak {σ' : List (Option V)} (I : Inv X pins σ H s) (hl : σ'.length = σ.length) (w : ∀ (i : Nat) v,σ'[i]? = some (some v) → σ[i]? = some (some v)) : Inv X pins σ' H s :=
  ⟨I.ok,I.os,I.bare,I.base,let ⟨m,hn,hl'⟩ := I.loc; ⟨m,hn,fun i x v e1 e2 e3 => hl' i x v e1 (w i v e2) e3⟩,I.cell,I.free,I.freeC,I.pin,I.hok,hl.trans I.len⟩
theorem Inv.pins_of {pins' : List (Addr × Obj)} (I : Inv X pins σ H s) (h : ∀ p ∈ pins',s.heap.get? p.1 = some p.2 ∧ H p.1 = none ∧ p.1 ≠ X.env.locals ∧ p.1 ∉ X.fs ∧ ∀ v,p.2.data ≠ .cell v) : Inv X pins' σ H s :=
  ⟨I.ok,I.os,I.bare,I.base,I.loc,I.cell,I.free,I.freeC,fun p hp => (List.mem_append.mp hp).elim (fun z => I.pin p (List.mem_append_left _ z)) (h p),I.hok,I.len⟩
theorem nodup_ix {N : List Str} (hN : N.Nodup) {i j : Nat} {x : Str} (a : N[i]? = some x) (b : N[j]? = some x) : i = j := by
  obtain ⟨h1,e1⟩ := List.getElem?_eq_some_iff.mp a
  obtain ⟨h2,e2⟩ := List.getElem?_eq_some_iff.mp b
  exact (List.getElem_inj hN).mp (e1.trans e2.symm)
theorem store_ok2 {M : Model} {A : Around} {E : Value → Shared → Prop} {i : Nat} {x : Str} {v : V} {u : Value} {Q : Unit → Shared → Prop} (I : Inv X pins σ H s) (hN : X.N.Nodup) (hi : X.N[i]? = some x) (hx : Loc X.env.scope x) (r : RelV v u)
    (h : ∀ s',Inv X pins (σ.set i (some v)) H s' → (∃ a,Heap.SameBut a s.heap s'.heap ∧ (a = X.env.locals ∨ X.env.cells.lookup x = some a)) → Q () s') (hf : X.fn x = true ∨ X.env.scope.names.lookup x = some .local := by first | exact .inl rfl | exact .inr rfl | assumption) : wpAny M A (storeName X.env x u) Q E s := by
  obtain ⟨m,hn,hl⟩ := id I.loc
  have hcls : (X.env.scope.kind == .class || (X.env.scope.kind == .module && X.env.locals != X.env.globals)) = false := by rw [I.ok.kind]; rfl
  have hiσ : i < σ.length := by rw [I.len]; exact (List.getElem?_eq_some_iff.mp hi).1
  have cne := I.cne
  have tracked : ∀ {a : Addr} {h' : Heap},(∃ o,s.heap.get? a = some o ∧ H a = none) → Heap.SameBut a s.heap h' → HOk X.prog X.w H h' := fun {a h'} ha hs b ob e => by
    obtain ⟨_,_,hfree⟩ := ha
    refine (I.hok b ob e).stay (fun c w' hc q => (hs.2 c ?_).trans q) (fun _ q => q) fun _ _ q => q
    rintro rfl
    rcases hc with rfl | hc
    · rw [hfree] at e; cases e
    · rw [hfree] at hc; cases hc
  rcases hx with hk | hk
  · refine wpAny_storeName_local hk hn (fun h' hn' hs => ?_) hcls
    obtain ⟨oL,_,_,hoL,_⟩ := id hn
    refine h _ ⟨I.ok,I.os,I.bare,⟨fun b o e n hb hx => ?_,fun b o e n hb hx => ?_,I.base.free,fun b o e hx => ?_,I.base.tups,I.base.frzs,I.base.tbls⟩,⟨_,hn',fun j y v' e1 e2 e3 => ?_⟩,fun y c e => ?_,I.free,I.freeC,fun p hp => ?_,tracked ⟨oL,hoL,I.free⟩ hs,by simpa using I.len⟩ ⟨_,hs,.inl rfl⟩
    · exact (hs.2 b (Nat.ne_of_lt (Nat.lt_of_lt_of_le (Heap.lt_size e) I.ok.above))).trans (I.base.keep b o e n hb hx)
    · obtain ⟨sl,e1⟩ := I.base.slot b o e n hb hx
      exact ⟨sl,(hs.2 b (Nat.ne_of_lt (Nat.lt_of_lt_of_le (Heap.lt_size e) I.ok.above))).trans e1⟩
    · obtain ⟨o',e1⟩ := I.base.there b o e hx
      exact ⟨o',(hs.2 b (Nat.ne_of_lt (Nat.lt_of_lt_of_le (Heap.lt_size e) I.ok.above))).trans e1⟩
    · by_cases hj : j = i
      · subst hj
        rw [hi] at e1; cases e1
        rw [List.getElem?_set_self hiσ] at e2
        cases e2
        exact ⟨u,r,.inl ⟨hk,by simp⟩⟩
      · rw [List.getElem?_set_ne (Ne.symm hj)] at e2
        obtain ⟨u',r',q⟩ := hl j y v' e1 e2 e3
        refine ⟨u',r',?_⟩
        rcases q with ⟨k,e⟩ | ⟨k,c,e,z⟩
        · refine .inl ⟨k,?_⟩
          have : y ≠ x := fun e => hj (nodup_ix hN e1 (e ▸ hi))
          simp [this,e]
        · exact .inr ⟨k,c,e,z.sameBut hs (cne y c e)⟩
    · obtain ⟨w',z⟩ := I.cell y c e
      exact ⟨w',z.sameBut hs (cne y c e)⟩
    · obtain ⟨e,n,ne,nf,d⟩ := I.pin p hp
      exact ⟨(hs.2 p.1 ne).trans e,n,ne,nf,d⟩
  · have hfn : X.fn x = true := by
      rcases hf with z | z
      · exact z
      · rw [z] at hk; cases hk
    obtain ⟨c,hc⟩ := I.ok.has x (.inl hk)
    obtain ⟨w',z⟩ := I.cell x c hc
    refine wpAny_storeName_cell I.ok.kind hk hc z (fun h' hc' hs => ?_)
    obtain ⟨oc,hoc,hocd⟩ := id z
    refine h { s with heap := h' } ⟨I.ok,I.os,I.bare,⟨fun b o e n hb hx => ?_,fun b o e n hb hx => ?_,I.base.free,fun b o e hx => ?_,I.base.tups,I.base.frzs,I.base.tbls⟩,⟨m,hn.sameBut hs (Ne.symm (cne x c hc)),fun j y v' e1 e2 e3 => ?_⟩,fun y c' e => ?_,I.free,I.freeC,fun p hp => ?_,tracked ⟨oc,hoc,I.freeC x c hc⟩ hs,by simpa using I.len⟩ ⟨c,hs,.inr hc⟩
    · exact (hs.2 b (Nat.ne_of_lt (Nat.lt_of_lt_of_le (Heap.lt_size e) (I.ok.cab x c hfn hc)))).trans (I.base.keep b o e n hb hx)
    · obtain ⟨sl,e1⟩ := I.base.slot b o e n hb hx
      exact ⟨sl,(hs.2 b (Nat.ne_of_lt (Nat.lt_of_lt_of_le (Heap.lt_size e) (I.ok.cab x c hfn hc)))).trans e1⟩
    · obtain ⟨o',e1⟩ := I.base.there b o e hx
      exact ⟨o',(hs.2 b (Nat.ne_of_lt (Nat.lt_of_lt_of_le (Heap.lt_size e) (I.ok.cab x c hfn hc)))).trans e1⟩
    · by_cases hj : j = i
      · subst hj
        rw [hi] at e1; cases e1
        rw [List.getElem?_set_self hiσ] at e2
        cases e2
        exact ⟨u,r,.inr ⟨.inl hk,c,hc,hc'⟩⟩
      · rw [List.getElem?_set_ne (Ne.symm hj)] at e2
        obtain ⟨u',r',q⟩ := hl j y v' e1 e2 e3
        refine ⟨u',r',?_⟩
        rcases q with q | ⟨k,c',e,z'⟩
        · exact .inl q
        · refine .inr ⟨k,c',e,z'.sameBut hs ?_⟩
          rintro rfl
          exact hj (nodup_ix hN e1 (I.ok.inj _ _ _ e hc ▸ hi))
    · by_cases hcc : c' = c
      · subst hcc; exact ⟨_,hc'⟩
      · obtain ⟨w2,z2⟩ := I.cell y c' e
        exact ⟨w2,z2.sameBut hs hcc⟩
    · obtain ⟨e,n,ne,nf,d⟩ := I.pin p hp
      refine ⟨(hs.2 p.1 ?_).trans e,n,ne,nf,d⟩
      intro q
      rw [q,hoc] at e
      have q' : oc = p.2 := Option.some.inj e
      exact d w' (by rw [← q']; exact hocd)
theorem store_ok {M : Model} {A : Around} {E : Value → Shared → Prop} {i : Nat} {x : Str} {v : V} {u : Value} {Q : Unit → Shared → Prop} (I : Inv X pins σ H s) (hN : X.N.Nodup) (hi : X.N[i]? = some x) (hx : Loc X.env.scope x) (r : RelV v u)
    (h : ∀ s',Inv X pins (σ.set i (some v)) H s' → Q () s') (hf : X.fn x = true ∨ X.env.scope.names.lookup x = some .local := by first | exact .inl rfl | exact .inr rfl | assumption) : wpAny M A (storeName X.env x u) Q E s :=
  store_ok2 I hN hi hx r (fun s' I' _ => h s' I') hf
theorem Inv.call' {s' : Shared} {ch : List Addr} (I : Inv X pins σ H s) (ho : s'.os = s.os) (u : Un (frs X.stack) ch H H' s.heap s'.heap) (hok : HOk X.prog X.w H' s'.heap) (hg : AllBare s'.gens)
    (hch : ∀ b ∈ ch,(b ∈ X.ex ∨ X.s₀.heap.objs.size ≤ b) ∧ b ≠ X.env.locals ∧ (∀ x c,X.env.cells.lookup x = some c → c ≠ b) ∧ ∀ p ∈ X.pn ++ pins,p.1 ≠ b) : Inv X pins σ H' s' := by
  obtain ⟨h',g',d',t',o'⟩ := s'
  have e : o' = s.os := ho
  subst e
  exact I.call (g' := g') (t' := t') (d' := d') u hok hg hch
end
abbrev XK := Value → Option Addr → Hp → Prop
abbrev St := List (Option V)
abbrev VK := V → Hp → Prop
abbrev TE := St → Hp → VK → Prop
abbrev TT := St → Hp → (Bool → Hp → Prop) → Prop
abbrev TA := St → Hp → (List V → Hp → Prop) → Prop
structure Ends where
  nx : St → Hp → Prop
  rt : VK
  bk : St → Hp → Prop := fun _ _ => False
  ct : St → Hp → Prop := fun _ _ => False
abbrev TS := Ends → St → Hp → Prop
def EP (X : Cx) (pins : List (Addr × Obj)) (σ : St) (Q : VK) (u : Value) (s' : Shared) : Prop := ∃ v H',Inv X pins σ H' s' ∧ RelV v u ∧ Q v H'
def TP (X : Cx) (pins : List (Addr × Obj)) (σ : St) (Q : Bool → Hp → Prop) (b : Bool) (s' : Shared) : Prop := ∃ H',Inv X pins σ H' s' ∧ Q b H'
def AP (X : Cx) (pins : List (Addr × Obj)) (σ : St) (Q : List V → Hp → Prop) (us : List Value) (s' : Shared) : Prop := ∃ vs H',Inv X pins σ H' s' ∧ Vals vs us ∧ Q vs H'
def SP (X : Cx) (pins : List (Addr × Obj)) (D : Ends) (f : Flow) (s' : Shared) : Prop :=
  match f with
  | .next => ∃ σ' H',Inv X pins σ' H' s' ∧ D.nx σ' H'
  | .brk => ∃ σ' H',Inv X pins σ' H' s' ∧ D.bk σ' H'
  | .cont => ∃ σ' H',Inv X pins σ' H' s' ∧ D.ct σ' H'
  | .ret u => ∃ v σ' H',Inv X pins σ' H' s' ∧ RelV v u ∧ D.rt v H'
def PE (X : Cx) (e : Expr) (t : TE) : Prop :=
  ∀ (pins : List (Addr × Obj)) (s : Shared) (σ : St) (H : Hp) (Q : VK),Inv X pins σ H s → t σ H Q → wpAny (model X.prog X.w) X.A (eval e X.env) (EP X pins σ Q) X.xe s
def PT (X : Cx) (e : Expr) (t : TT) : Prop :=
  ∀ (pins : List (Addr × Obj)) (s : Shared) (σ : St) (H : Hp) (Q : Bool → Hp → Prop),Inv X pins σ H s → t σ H Q → wpAny (model X.prog X.w) X.A (isTrue e X.env (eval e X.env)) (TP X pins σ Q) X.xe s
def PW (X : Cx) (e : Expr) (t : TT) : Prop :=
  ∀ (whole : Sem Value) (pins : List (Addr × Obj)) (s : Shared) (σ : St) (H : Hp) (Q : Bool → Hp → Prop),Inv X pins σ H s → t σ H Q → wpAny (model X.prog X.w) X.A (isTrue e X.env whole) (TP X pins σ Q) X.xe s
theorem PW.pt {X : Cx} {e : Expr} {t : TT} (h : PW X e t) : PT X e t := h _
def PA (X : Cx) (es : List Expr) (t : TA) : Prop :=
  ∀ (pos : Pos) (pins : List (Addr × Obj)) (s : Shared) (σ : St) (H : Hp) (Q : List V → Hp → Prop),Inv X pins σ H s → t σ H Q → wpAny (model X.prog X.w) X.A (spliced (backTo pos (starEach es X.env))) (AP X pins σ Q) X.xe s
def PS (X : Cx) (st : Stmt) (t : TS) : Prop :=
  ∀ (pins : List (Addr × Obj)) (s : Shared) (σ : St) (H : Hp) (D : Ends),Inv X pins σ H s → t D σ H → wpAny (model X.prog X.w) X.A (exec st X.env) (SP X pins D) X.xe s
def PSs (X : Cx) (st : List Stmt) (t : TS) : Prop :=
  ∀ (pins : List (Addr × Obj)) (s : Shared) (σ : St) (H : Hp) (D : Ends),Inv X pins σ H s → t D σ H → wpAny (model X.prog X.w) X.A (execs st X.env) (SP X pins D) X.xe s
theorem thn {α : Type} {t : Sem α} {Q Q' : α → Shared → Prop} {M : Model} {A : Around} {E : Value → Shared → Prop} {s : Shared} (h : wpAny M A t Q E s) (hQ : ∀ a s,Q a s → Q' a s) : wpAny M A t Q' E s := wpAny_mono h hQ fun _ _ x => x
end L2
namespace L2
open PySem PySem.Spec PyProof.Rows
section
variable {X : Cx}
theorem bin {a b : Expr} {ta tb : TE} (ha : PE X a ta) (hb : PE X b tb) {pins : List (Addr × Obj)} {s : Shared} {σ : St} {H : Hp} {R : V → V → Hp → Prop} (I : Inv X pins σ H s) (h : ta σ H fun x H1 => tb σ H1 fun y H2 => R x y H2)
    {α : Type} {Q : α → Shared → Prop} {f : Value → Value → Sem α}
    (hf : ∀ v u s2 x y H2,Inv X pins σ H2 s2 → RelV x v → RelV y u → R x y H2 → wpAny (model X.prog X.w) X.A (f v u) Q X.xe s2) :
    wpAny (model X.prog X.w) X.A (eval a X.env) (fun v s₁ => wpAny (model X.prog X.w) X.A (eval b X.env) (fun u s₂ => wpAny (model X.prog X.w) X.A (f v u) Q X.xe s₂) X.xe s₁) X.xe s := by
  refine thn (ha pins s σ H _ I h) fun v s1 ⟨x,H1,I1,r1,q1⟩ => ?_
  refine thn (hb pins s1 σ H1 _ I1 q1) fun u s2 ⟨y,H2,I2,r2,q2⟩ => ?_
  exact hf v u s2 x y H2 I2 r1 r2 q2
def tVar (i : Nat) : TE := fun σ H Q => ∃ v,σ[i]? = some (some v) ∧ Q v H
def tC (v : V) : TE := fun _ H Q => Q v H
theorem pe_var {i : Nat} {x : Str} {pos : Pos} (hN : X.N[i]? = some x) (hv : Vis X.env.scope x) (hd : (x == ("__debug__" : Str)) = false := by decide) (hcd : (x == ("__classdict__" : Str)) = false := by decide) : PE X (.Name x pos) (tVar i) := by
  intro pins s σ H Q I h
  obtain ⟨v,e,h⟩ := h
  obtain ⟨m,hn,hl⟩ := I.loc
  obtain ⟨u,r,l⟩ := hl i x v hN e hv
  have fin : EP X pins σ Q u s := ⟨v,H,I,r,h⟩
  rcases l with ⟨hk,hm⟩ | ⟨hk,c,hc,hcell⟩
  · exact wpAny_Name (wpAny_loadName_local I.ok.kind hk hn hm fin) hd
  · rcases hk with hk | hk
    · exact wpAny_Name (wpAny_loadName_cell I.ok.kind hk hc hcell fin) hd
    · exact wpAny_Name (wpAny_loadName_free I.ok.kind hk hc hcell fin hcd) hd
theorem pe_int {i j pos} : PE X (.Constant (.int i) j pos) (tC (.int i)) := fun _ _ _ H _ I h => wpAny_Constant_int ⟨.int i,H,I.tok _,⟨_,rfl⟩,h⟩
theorem pe_bl {b j pos} : PE X (.Constant (.bool b) j pos) (tC (.bl b)) := fun _ _ _ H _ I h => Constant_bool ⟨.bl b,H,I,rfl,h⟩
theorem pe_str {x j pos} : PE X (.Constant (.str x) j pos) (tC (.str x)) := fun _ _ _ H _ I h => Calls.Constant_str ⟨.str x,H,I.tok _,⟨_,rfl⟩,h⟩
def Gl (X : Cx) (x : Str) : Prop := X.env.kindOf x = some .globalImplicit
theorem ld_glob {E : Value → Shared → Prop} {pins : List (Addr × Obj)} {s : Shared} {σ : St} {H : Hp} {x : Str} {u : Value} {pos : Pos} {Q : Value → Shared → Prop} (I : Inv X pins σ H s) (hg : Gl X x) (hm : X.mg x = some u) (h : Q u s)
    (hd : (x == ("__debug__" : Str)) = false := by decide) : wpAny (model X.prog X.w) X.A (eval (.Name x pos) X.env) Q E s :=
  Calls.Name_function_global I.ok.kind hg (Calls.loadGlobal_global (by rw [I.ok.glob]; exact I.mod.glob.keeps I.bk) hm h) hd
theorem ld_blt {E : Value → Shared → Prop} {pins : List (Addr × Obj)} {s : Shared} {σ : St} {H : Hp} {x : Str} {u : Value} {pos : Pos} {Q : Value → Shared → Prop} (I : Inv X pins σ H s) (hg : Gl X x) (hm : X.mg x = none) (hv : bootBuiltins x = some u) (h : Q u s)
    (hn : x ≠ "__name__" := by decide) (hd : (x == ("__debug__" : Str)) = false := by decide) : wpAny (model X.prog X.w) X.A (eval (.Name x pos) X.env) Q E s := by
  obtain ⟨mb,h1,h2⟩ := I.mod.blt
  exact Calls.Name_function_global I.ok.kind hg (Calls.loadGlobal_builtin (by rw [I.ok.glob]; exact I.mod.glob.keeps I.bk) hm (by rw [I.ok.blt]; exact h1.keeps I.bk) ((h2 x hn).trans hv) h) hd
theorem pe_glob {x : Str} {v : V} {u : Value} {pos : Pos} (hg : Gl X x) (hm : X.mg x = some u) (r : RelV v u) (hd : (x == ("__debug__" : Str)) = false := by decide) : PE X (.Name x pos) (tC v) :=
  fun _ _ _ H _ I h => ld_glob I hg hm ⟨v,H,I,r,h⟩ hd
theorem pe_bltn {x : Str} {v : V} {u : Value} {pos : Pos} (hg : Gl X x) (hm : X.mg x = none) (hv : bootBuiltins x = some u) (r : RelV v u) (hn : x ≠ "__name__" := by decide) (hd : (x == ("__debug__" : Str)) = false := by decide) : PE X (.Name x pos) (tC v) :=
  fun _ _ _ H _ I h => ld_blt I hg hm hv ⟨v,H,I,r,h⟩ hn hd
variable {a b : Expr} {ta tb : TE} {pos : Pos}
def PC (X : Cx) (op : CmpOp) (a b : Expr) (t : TE) : Prop :=
  ∀ (pins : List (Addr × Obj)) (s : Shared) (σ : St) (H : Hp) (Q : VK),Inv X pins σ H s → t σ H Q →
    wpAny (model X.prog X.w) X.A (eval a X.env) (fun v s₁ => wpAny (model X.prog X.w) X.A (eval b X.env) (fun u s₂ => wpAny (model X.prog X.w) X.A (compareOp op v u) (EP X pins σ Q) X.xe s₂) X.xe s₁) X.xe s
def tB (t : TE) : TT := fun σ H Q => t σ H fun x H1 => ∃ c,x = .bl c ∧ Q c H1
theorem pt_cmp {op : CmpOp} {t : TE} (h : PC X op a b t) (h1 : behindInMarks op b = false := by first | exact nobehind _ (by decide) (by decide) | rfl) : PT X (.Compare a [op] [b] pos) (tB t) := by
  intro pins s σ H Q I hw
  refine wpAny_isTrue_Compare1 (thn (h pins s σ H _ I hw) fun v s1 h1 => thn h1 fun u s2 h2 => thn h2 fun c s3 ⟨x,H1,I1,r1,q1⟩ => ?_) h1
  obtain ⟨d,rfl,q⟩ := q1
  cases r1
  exact wpAny_truthy_bool ⟨H1,I1,q⟩
theorem pt_val {e : Expr} {t : TE} (h : PE X e t) (he : ∀ whole,isTrue e X.env whole = (do let v ← whole; standAt e.pos; holding [v] (truthy v)) := by intro _; rfl) : PT X e (tB t) := by
  intro pins s σ H Q I hw
  refine isTrue_plain (thn (h pins s σ H _ I hw) fun v s1 ⟨x,H1,I1,r1,q1⟩ => ?_) (he _)
  obtain ⟨d,rfl,q⟩ := q1
  cases r1
  exact wpAny_truthy_bool ⟨H1,I1,q⟩
variable {tA tB' : TT} {rest : List Expr}
def tAnd (t u : TT) : TT := fun σ H Q => t σ H fun c H1 => if c = true then u σ H1 Q else Q false H1
def tOr (t u : TT) : TT := fun σ H Q => t σ H fun c H1 => if c = true then Q true H1 else u σ H1 Q
def tNot (t : TT) : TT := fun σ H Q => t σ H fun c H1 => Q (!c) H1
theorem pw_and1 (ha : PT X a tA) : PW X (.BoolOp .And [a] pos) tA := by
  intro wh pins s σ H Q I h
  refine isTrue_and (thn (ha pins s σ H Q I h) fun c s1 e => ?_)
  cases c with
  | true => exact isTrue_and_nil e
  | false => exact e
theorem pw_or1 (ha : PT X a tA) : PW X (.BoolOp .Or [a] pos) tA := by
  intro wh pins s σ H Q I h
  refine isTrue_or (thn (ha pins s σ H Q I h) fun c s1 e => ?_)
  cases c with
  | false => exact isTrue_or_nil e
  | true => exact e
theorem pw_and (ha : PT X a tA) (hb : PW X (.BoolOp .And (b :: rest) pos) tB') : PW X (.BoolOp .And (a :: b :: rest) pos) (tAnd tA tB') := by
  intro wh pins s σ H Q I h
  refine isTrue_and (thn (ha pins s σ H _ I h) fun c s1 ⟨H1,I1,q1⟩ => ?_)
  cases c with
  | true => exact hb wh pins s1 σ H1 Q I1 q1
  | false => exact ⟨H1,I1,q1⟩
theorem pw_or (ha : PT X a tA) (hb : PW X (.BoolOp .Or (b :: rest) pos) tB') : PW X (.BoolOp .Or (a :: b :: rest) pos) (tOr tA tB') := by
  intro wh pins s σ H Q I h
  refine isTrue_or (thn (ha pins s σ H _ I h) fun c s1 ⟨H1,I1,q1⟩ => ?_)
  cases c with
  | true => exact ⟨H1,I1,q1⟩
  | false => exact hb wh pins s1 σ H1 Q I1 q1
theorem pt_not (ha : PT X a tA) : PT X (.UnaryOp .Not a pos) (tNot tA) := by
  intro pins s σ H Q I h
  exact isTrue_not (ha pins s σ H (fun c H1 => Q (!c) H1) I h)
def tAndV (ta tb : TE) : TE := fun σ H Q => ta σ H fun x H1 => ∃ c,x = .bl c ∧ if c = true then tb σ H1 Q else Q (.bl false) H1
def tOrV (ta tb : TE) : TE := fun σ H Q => ta σ H fun x H1 => ∃ c,x = .bl c ∧ if c = true then Q (.bl true) H1 else tb σ H1 Q
def tNotV (ta : TE) : TE := fun σ H Q => ta σ H fun x H1 => ∃ c,x = .bl c ∧ Q (.bl (!c)) H1
theorem pe_one {op} {t : TE} (h : PE X a t) : PE X (.BoolOp op [a] pos) t := fun pins s σ H Q I hw => BoolOp_one (h pins s σ H Q I hw)
theorem pe_and (ha : PE X a ta) (hb : PE X (.BoolOp .And (b :: rest) pos) tb) : PE X (.BoolOp .And (a :: b :: rest) pos) (tAndV ta tb) := by
  intro pins s σ H Q I h
  refine BoolOp_and (thn (ha pins s σ H _ I h) fun v s1 ⟨x,H1,I1,r1,q1⟩ => ?_)
  obtain ⟨c,rfl,q1⟩ := q1
  cases r1
  refine wpAny_truthy_bool ?_
  cases c with
  | true => exact hb pins s1 σ H1 Q I1 q1
  | false => exact ⟨.bl false,H1,I1,rfl,q1⟩
theorem pe_or (ha : PE X a ta) (hb : PE X (.BoolOp .Or (b :: rest) pos) tb) : PE X (.BoolOp .Or (a :: b :: rest) pos) (tOrV ta tb) := by
  intro pins s σ H Q I h
  refine BoolOp_or (thn (ha pins s σ H _ I h) fun v s1 ⟨x,H1,I1,r1,q1⟩ => ?_)
  obtain ⟨c,rfl,q1⟩ := q1
  cases r1
  refine wpAny_truthy_bool ?_
  cases c with
  | false => exact hb pins s1 σ H1 Q I1 q1
  | true => exact ⟨.bl true,H1,I1,rfl,q1⟩
theorem pe_not (ha : PE X a ta) : PE X (.UnaryOp .Not a pos) (tNotV ta) := by
  intro pins s σ H Q I h
  refine UnaryOp_ (thn (ha pins s σ H _ I h) fun v s1 ⟨x,H1,I1,r1,q1⟩ => ?_)
  obtain ⟨c,rfl,q1⟩ := q1
  cases r1
  exact not_of (wpAny_truthy_bool ⟨.bl (!c),H1,I1,rfl,q1⟩)
end
end L2
namespace L2
open PySem PySem.Spec PyProof.Rows
def SqL (K : PySem.W.Frag) (H : Hp) (a : Addr) (xs : List V) : Prop :=
  Rd H a (.lst xs) ∨
    ∃ (o : Obj) (its : Array Value) (n : Nat),K.lookup a = some o ∧ o.cls = .type "list" ∧ o.dict = none ∧ o.data = .seq its n ∧ its.size ≤ sizeLine ∧ Vals xs its.toList
def SqT (K : PySem.W.Frag) (H : Hp) (a : Addr) (xs : List V) : Prop :=
  Rd H a (.tup xs) ∨
    ∃ (o : Obj) (its : Array Value) (n : Nat),K.lookup a = some o ∧ o.cls = .type "tuple" ∧ o.data = .seq its n ∧ its.size ≤ sizeLine ∧ Vals xs its.toList
def absV : Value → Option V
  | .none => some .non
  | .bool b => some (.bl b)
  | .int i _ => some (.int i)
  | .str x _ => some (.str x)
  | .bytes b _ => some (.byt b)
  | .float b _ => some (.flt b)
  | .ref a => some (.ref a)
  | .type n => some (.ty n)
  | _ => none
theorem RelV.abs {x : V} {u : Value} (r : RelV x u) : absV u = some x := by
  cases x with
  | non => cases r; rfl
  | bl _ => cases r; rfl
  | int _ => obtain ⟨t,rfl⟩ := r; rfl
  | str _ => obtain ⟨t,rfl⟩ := r; rfl
  | byt _ => obtain ⟨t,rfl⟩ := r; rfl
  | flt _ => obtain ⟨t,rfl⟩ := r; rfl
  | ref _ => cases r; rfl
  | ty _ => cases r; rfl
theorem RelV.inj {x y : V} {u : Value} (r : RelV x u) (q : RelV y u) : x = y := Option.some.inj (r.abs.symm.trans q.abs)
theorem Vals.inj : ∀ {xs ys : List V} {us : List Value},Vals xs us → Vals ys us → xs = ys
  | _,_,_,.nil,.nil => rfl
  | _,_,_,.cons r t,.cons r' t' => by rw [r.inj r',Vals.inj t t']
section
variable {X : Cx} {pins : List (Addr × Obj)} {σ : St} {H : Hp} {s : Shared} {a : Addr} {xs ys : List V}
theorem SqL.of {K : PySem.W.Frag} (h : H a = some (.lst xs)) : SqL K H a xs := .inl (.inl h)
theorem SqT.of {K : PySem.W.Frag} (h : H a = some (.tup xs)) : SqT K H a xs := .inl (.inl h)
theorem Inv.list (I : Inv X pins σ H s) (h : SqL X.K H a xs) : ∃ its : List Value,Vals xs its ∧ PlainL s.heap a its.toArray ∧ xs.length ≤ sizeLine := by
  rcases h with h | ⟨o,its,n,hk,hc,hd,hs,hz,r⟩
  · obtain ⟨z,its,n,r,e⟩ := h.ok I.hok
    exact ⟨its,r,⟨_,n,e,rfl,rfl,rfl⟩,z⟩
  · refine ⟨its.toList,r,⟨o,n,I.kIn a o hk,hc,hd,by simpa using hs⟩,?_⟩
    have e := r.length
    simp only [Array.length_toList] at e
    omega
theorem Inv.tuple (I : Inv X pins σ H s) (h : SqT X.K H a xs) : ∃ its : List Value,Vals xs its ∧ IsTup s.heap a its.toArray ∧ xs.length ≤ sizeLine := by
  rcases h with h | ⟨o,its,n,hk,hc,hs,hz,r⟩
  · obtain ⟨z,its,r,p⟩ := h.ok I.hok
    exact ⟨its,r,p,z⟩
  · refine ⟨its.toList,r,⟨o,I.kIn a o hk,hc,n,by simpa using hs⟩,?_⟩
    have e := r.length
    simp only [Array.length_toList] at e
    omega
theorem Inv.list_inj (I : Inv X pins σ H s) (h : SqL X.K H a xs) (h' : SqL X.K H a ys) : xs = ys := by
  obtain ⟨its,r,⟨o,n,e,_,_,d⟩,_⟩ := I.list h
  obtain ⟨its',r',⟨o',n',e',_,_,d'⟩,_⟩ := I.list h'
  rw [e] at e'; cases e'
  rw [d] at d'
  injection d' with d1 _
  have : its = its' := by simpa using congrArg Array.toList d1
  subst this
  exact r.inj r'
theorem Inv.tuple_inj (I : Inv X pins σ H s) (h : SqT X.K H a xs) (h' : SqT X.K H a ys) : xs = ys := by
  obtain ⟨its,r,⟨o,e,_,n,d⟩,_⟩ := I.tuple h
  obtain ⟨its',r',⟨o',e',_,n',d'⟩,_⟩ := I.tuple h'
  rw [e] at e'; cases e'
  rw [d] at d'
  injection d' with d1 _
  have : its = its' := by simpa using congrArg Array.toList d1
  subst this
  exact r.inj r'
end
abbrev Cx.wish (X : Cx) (E : Value → Shared → Prop) : Cx := { X with xe := E }
abbrev Cx.nox (X : Cx) : Cx := X.wish fun _ _ => False
theorem Cx.Ok.wish {X : Cx} (ok : X.Ok) (E : Value → Shared → Prop) : (X.wish E).Ok :=
  ⟨ok.mod,ok.kind,ok.glob,ok.blt,ok.above,ok.inj,ok.has,ok.cab,ok.hd,ok.frames,ok.stk,ok.exf,ok.bs,ok.bsz,ok.noex,ok.exfs,ok.funs,ok.frf⟩
theorem Cx.Ok.unwish {X : Cx} {E : Value → Shared → Prop} (ok : (X.wish E).Ok) : X.Ok :=
  ⟨ok.mod,ok.kind,ok.glob,ok.blt,ok.above,ok.inj,ok.has,ok.cab,ok.hd,ok.frames,ok.stk,ok.exf,ok.bs,ok.bsz,ok.noex,ok.exfs,ok.funs,ok.frf⟩
section
variable {X : Cx} {pins : List (Addr × Obj)} {σ : St} {H : Hp} {s : Shared} {E : Value → Shared → Prop}
theorem Inv.wish (I : Inv X pins σ H s) (E : Value → Shared → Prop) : Inv (X.wish E) pins σ H s := ⟨I.ok.wish E,I.os,I.bare,I.base,I.loc,I.cell,I.free,I.freeC,I.pin,I.hok,I.len⟩
theorem Inv.unwish (I : Inv (X.wish E) pins σ H s) : Inv X pins σ H s := ⟨I.ok.unwish,I.os,I.bare,I.base,I.loc,I.cell,I.free,I.freeC,I.pin,I.hok,I.len⟩
theorem SP.unwish {D : Ends} {f : Flow} {s' : Shared} (h : SP (X.wish E) pins D f s') : SP X pins D f s' := by
  cases f with
  | next => obtain ⟨σ',H',I,q⟩ := h; exact ⟨σ',H',I.unwish,q⟩
  | brk => obtain ⟨σ',H',I,q⟩ := h; exact ⟨σ',H',I.unwish,q⟩
  | cont => obtain ⟨σ',H',I,q⟩ := h; exact ⟨σ',H',I.unwish,q⟩
  | ret u => obtain ⟨v,σ',H',I,r,q⟩ := h; exact ⟨v,σ',H',I.unwish,r,q⟩
theorem PSs.nox {st : List Stmt} {t : TS} (h : PSs X.nox st t) : PSs X st t := fun pins s σ H D I hw =>
  wpAny_mono (h pins s σ H D (I.wish _) hw) (fun _ _ q => q.unwish) fun _ _ z => False.elim z
end
section
variable {X : Cx} {st : Stmt} {rest : List Stmt} {t u : TS} {e : Expr} {te : TE} {pos : Pos}
def tNext : TS := fun D σ H => D.nx σ H
def tSeq (t u : TS) : TS := fun D σ H => t { D with nx := u D } σ H
theorem pss_nil : PSs X [] tNext := fun _ _ σ H _ I h => wpAny_execs_nil ⟨σ,H,I,h⟩
theorem pss_cons (h1 : PS X st t) (h2 : PSs X rest u) : PSs X (st :: rest) (tSeq t u) := by
  intro pins s σ H D I h
  refine wpAny_execs_cons (thn (h1 pins s σ H { D with nx := u D } I h) fun f s1 q => ?_)
  cases f with
  | next =>
    obtain ⟨σ',H',I',q⟩ := q
    exact h2 pins s1 σ' H' D I' q
  | ret v => exact q
  | brk => exact q
  | cont => exact q
theorem pss_one (h1 : PS X st t) : PSs X [st] t := by
  intro pins s σ H D I h
  refine wpAny_execs_cons (thn (h1 pins s σ H D I h) fun f s1 q => ?_)
  cases f with
  | next => exact wpAny_execs_nil q
  | ret v => exact q
  | brk => exact q
  | cont => exact q
theorem Inv.quiet {pins : List (Addr × Obj)} {σ : St} {H : Hp} {s : Shared} (I : Inv X pins σ H s) : interactive X.env = false := by simp [interactive,I.ok.kind]
def tDrop (te : TE) : TS := fun D σ H => te σ H fun _ H1 => D.nx σ H1
theorem ps_expr (he : PE X e te) (hs : swapsWith e none pos.line X.env = pure false := by rfl) : PS X (.Expr e pos) (tDrop te) := by
  intro pins s σ H D I h
  exact wpAny_Expr_any (thn (he pins s σ H _ I h) fun v s1 ⟨x,H1,I1,r1,q1⟩ => ⟨σ,H1,I1,q1⟩) I.quiet hs
def tRet (te : TE) : TS := fun D σ H => te σ H D.rt
theorem ps_ret (he : PE X e te) : PS X (.Return (some e) pos) (tRet te) := by
  intro pins s σ H D I h
  exact wpAny_Return_some (thn (he pins s σ H _ I h) fun v s1 ⟨x,H1,I1,r1,q1⟩ => ⟨x,σ,H1,I1,r1,q1⟩)
def tIfS (c : TT) (t u : TS) : TS := fun D σ H => c σ H fun b H1 => if b = true then t D σ H1 else u D σ H1
theorem ps_if {c : Expr} {a b : List Stmt} {tc : TT} (hc : PT X c tc) (ha : PSs X a t) (hb : PSs X b u) : PS X (.If c a b pos) (tIfS tc t u) := by
  intro pins s σ H D I h
  refine wpAny_If (thn (hc pins s σ H _ I h) fun d s1 ⟨H1,I1,q1⟩ => ?_)
  cases d with
  | true => exact ha pins s1 σ H1 D I1 q1
  | false => exact hb pins s1 σ H1 D I1 q1
def tNever : TS := fun _ _ _ => False
theorem ps_never : PS X st tNever := fun _ _ _ _ _ _ h => h.elim
theorem pss_never {sts : List Stmt} : PSs X sts tNever := fun _ _ _ _ _ _ h => h.elim
end
abbrev TG := V → St → Hp → (St → Hp → Prop) → Prop
abbrev TGs := List V → St → Hp → (St → Hp → Prop) → Prop
def PG (X : Cx) (target : Expr) (t : TG) : Prop :=
  ∀ (pins : List (Addr × Obj)) (s : Shared) (σ : St) (H : Hp) (v : V) (u : Value) (Q : St → Hp → Prop),Inv X pins σ H s → RelV v u → t v σ H Q →
    wpAny (model X.prog X.w) X.A (assign target X.env u) (fun _ s' => ∃ σ' H',Inv X pins σ' H' s' ∧ Q σ' H') X.xe s
def PGs (X : Cx) (ts : List Expr) (t : TGs) : Prop :=
  ∀ (pins : List (Addr × Obj)) (s : Shared) (σ : St) (H : Hp) (vs : List V) (us : List Value) (Q : St → Hp → Prop),Inv X pins σ H s → Vals vs us → t vs σ H Q →
    wpAny (model X.prog X.w) X.A (assignInOrder ((assignEach ts X.env).map (·.2)) us) (fun _ s' => ∃ σ' H',Inv X pins σ' H' s' ∧ Q σ' H') X.xe s
abbrev TSet := V → V → V → Hp → (Hp → Prop) → Prop
def PSet (X : Cx) (t : TSet) : Prop :=
  ∀ (pins : List (Addr × Obj)) (s : Shared) (σ : St) (H : Hp) (o i v : V) (ov iv u : Value) (Q : Hp → Prop),Inv X pins σ H s → RelV o ov → RelV i iv → RelV v u → t o i v H Q →
    wpAny (model X.prog X.w) X.A (setItem ov iv u) (fun _ s' => ∃ H',Inv X pins σ H' s' ∧ Q H') X.xe s
section
variable {X : Cx} {pos : Pos}
def gName (i : Nat) : TG := fun v σ H Q => Q (σ.set i (some v)) H
theorem pg_name {i : Nat} {x : Str} (hN : X.N.Nodup) (hi : X.N[i]? = some x) (hx : Loc X.env.scope x) (hf : X.fn x = true ∨ X.env.scope.names.lookup x = some .local := by first | exact .inl rfl | exact .inr rfl | assumption) : PG X (.Name x pos) (gName i) := by
  intro pins s σ H v u Q I r h
  exact wpAny_assign_Name (store_ok I hN hi hx r (fun s' I' => ⟨_,H,I',h⟩) hf)
def gNil : TGs := fun vs σ H Q => vs = [] ∧ Q σ H
def gCons (t : TG) (u : TGs) : TGs := fun vs σ H Q => ∃ v r,vs = v :: r ∧ t v σ H fun σ' H' => u r σ' H' Q
theorem pgs_nil : PGs X [] gNil := by
  intro pins s σ H vs us Q I r h
  obtain ⟨e,h⟩ := h
  subst e
  cases r
  exact assignInOrder_nil ⟨σ,H,I,h⟩
theorem pgs_cons {e : Expr} {es : List Expr} {t : TG} {u : TGs} (h1 : PG X e t) (h2 : PGs X es u)
    (hs : (assignEach (e :: es) X.env).map (·.2) = assign e X.env :: (assignEach es X.env).map (·.2) := by rfl) : PGs X (e :: es) (gCons t u) := by
  intro pins s σ H vs us Q I r h
  obtain ⟨v,vr,e1,h⟩ := h
  subst e1
  cases r with
  | cons r rr =>
    rw [hs]
    refine assignInOrder_cons (thn (h1 pins s σ H _ _ _ I r h) fun _ s1 ⟨σ1,H1,I1,q1⟩ => ?_)
    exact h2 pins s1 σ1 H1 _ _ Q I1 rr q1
def gTup (K : PySem.W.Frag) (n : Nat) (t : TGs) : TG := fun v σ H Q => ∃ a xs,v = .ref a ∧ SqT K H a xs ∧ xs.length = n ∧ t xs σ H Q
theorem pg_tup {es : List Expr} {k : Nat} {t : TGs} {n : Nat} (hc : X.calm = true) (h : PGs X es t)
    (hn : (assignEach es X.env).length = n := by rfl) (hst : (assignEach es X.env).findIdx? (·.1) = none := by rfl) : PG X (.Tuple es k pos) (gTup X.K n t) := by
  intro pins s σ H v u Q I r hw
  obtain ⟨a,xs,e1,hq,hl,hw⟩ := hw
  subst e1
  cases r
  obtain ⟨its,rv,ht,hz⟩ := I.tuple hq
  refine assign_Tuple_tuple (I.ok.hd hc) ht (by simp [hn,← hl,rv.length]) hst fun h' hx => ?_
  have I1 : Inv X pins σ H { s with heap := h' } := I.kept (t' := s.toks) fun b o e => hx b o (Nat.ne_of_lt (Heap.lt_size e)) e
  exact h pins _ σ H xs _ Q I1 (by simpa using rv) hw
def gSub (to ti : TE) (t : TSet) : TG := fun v σ H Q => to σ H fun o H1 => ti σ H1 fun i H2 => t o i v H2 fun H3 => Q σ H3
theorem pg_sub {o i : Expr} {to ti : TE} {t : TSet} (ho : PE X o to) (hi : PE X i ti) (hs : PSet X t)
    (ha : ∀ v,assign (.Subscript o i pos) X.env v = (do
      let ov ← holding [v] (eval o X.env)
      let iv ← holding [v,ov] (eval i X.env)
      standAt pos
      holding [v,ov,iv] (setItem ov iv v)
      release [v,ov,iv] []) := by intro _; rfl) : PG X (.Subscript o i pos) (gSub to ti t) := by
  intro pins s σ H v u Q I r h
  rw [ha]
  refine wpAny_bind (wpAny_holding (thn (ho pins s σ H _ I h) fun ov s1 ⟨x,H1,I1,r1,q1⟩ => ?_))
  refine wpAny_bind (wpAny_holding (thn (hi pins s1 σ H1 _ I1 q1) fun iv s2 ⟨y,H2,I2,r2,q2⟩ => ?_))
  refine wpAny_bind (wpAny_standAt (wpAny_bind (wpAny_holding (thn (hs pins s2 σ H2 x y v ov iv u _ I2 r1 r2 r q2) fun _ s3 ⟨H3,I3,q3⟩ => ?_))))
  exact wpAny_release ⟨σ,H3,I3,q3⟩
def tAsg (te : TE) (g : TG) : TS := fun D σ H => te σ H fun x H1 => g x σ H1 D.nx
theorem ps_asg {tg e : Expr} {te : TE} {g : TG} (he : PE X e te) (hg : PG X tg g) (hs : swapsWithSole [tg] e pos.line X.env = pure false := by rfl) (hw : swappedStores [tg] e X.env = pure none := by rfl)
    (h1 : (assignEach [tg] X.env).map (·.2) = [assign tg X.env] := by rfl) : PS X (.Assign [tg] e pos) (tAsg te g) := by
  intro pins s σ H D I h
  refine wpAny_Assign_stores (thn (he pins s σ H _ I h) fun v s1 ⟨x,H1,I1,r1,q1⟩ => ?_) hs hw
  rw [h1]
  exact thn (hg pins s1 σ H1 x v _ I1 r1 q1) fun _ s2 q => q
theorem ps_set {i : Nat} {x : Str} {e : Expr} {te : TE} {pos' : Pos} (hN : X.N.Nodup) (hi : X.N[i]? = some x) (hx : Loc X.env.scope x) (he : PE X e te) (hs : swapsWith e (some (.Name x pos')) pos.line X.env = pure false := by rfl) (hf : X.fn x = true ∨ X.env.scope.names.lookup x = some .local := by first | exact .inl rfl | exact .inr rfl | assumption) :
    PS X (.Assign [.Name x pos'] e pos) (tAsg te (gName i)) := by
  intro pins s σ H D I h
  refine wpAny_Assign_Name (thn (he pins s σ H _ I h) fun v s1 ⟨y,H1,I1,r1,q1⟩ => ?_) hs
  exact store_ok I1 hN hi hx r1 (fun s2 I2 => ⟨_,H1,I2,q1⟩) hf
def tPar (i j : Nat) (ta : TA) : TS := fun D σ H => ta σ H fun vs H1 => ∃ v w,vs = [v,w] ∧ D.nx ((σ.set i (some v)).set j (some w)) H1
theorem ps_par {i j : Nat} {x y : Str} {a b : Expr} {ta : TA} {px py pt : Pos} {kt k2 pt2} (hc : X.calm = true) (hN : X.N.Nodup) (hi : X.N[i]? = some x) (hj : X.N[j]? = some y) (hij : i ≠ j)
    (hx : X.env.scope.names.lookup x = some .local) (hy : X.env.scope.names.lookup y = some .local) (ha : PA X [a,b] ta)
    (hw : swappedStores [.Tuple [.Name x px,.Name y py] kt pt] (.Tuple [a,b] k2 pt2) X.env = pure (some [x,y]))
    (hs : swapsWithSole [.Tuple [.Name x px,.Name y py] kt pt] (.Tuple [a,b] k2 pt2) pos.line X.env = pure false := by rfl) :
    PS X (.Assign [.Tuple [.Name x px,.Name y py] kt pt] (.Tuple [a,b] k2 pt2) pos) (tPar i j ta) := by
  intro pins s σ H D I h
  rw [exec_Assign_arm]
  refine wpAny_bind (wpAny_standAt ?_)
  rw [hs]
  refine wpAny_bind (wpAny_pure ?_)
  rw [if_neg (by decide)]
  refine wpAny_bind (Tuple_ (thn (ha _ pins s σ H _ I h) fun us s1 ⟨vs,H1,I1,r1,q1⟩ => ?_))
  obtain ⟨v,w,e1,q1⟩ := q1
  subst e1
  obtain ⟨u1,u2,rfl,rv,rw'⟩ : ∃ u1 u2,us = [u1,u2] ∧ RelV v u1 ∧ RelV w u2 := by
    cases r1 with
    | cons p q =>
      cases q with
      | cons p' q' =>
        cases q'
        exact ⟨_,_,rfl,p,p'⟩
  refine wpAny_newObj_type ?_ (by show 2 ≤ sizeLine; decide)
  have I2 : Inv X pins σ H1 { s1 with heap := s1.heap.push { cls := .type "tuple", data := .seq [u1, u2].toArray } } := I1.kept (t' := s1.toks) fun b o e => Heap.get?_push_of_some _ e
  rw [hw]
  refine wpAny_bind (wpAny_pure ?_)
  show wpAny (model X.prog X.w) X.A (do rule "assign.swapped-stores"; let items ← unpackItems (.ref s1.heap.objs.size) 2 none; assignInOrder [fun v => bindName X.env y v,fun v => bindName X.env x v] items.reverse; pure Flow.next) _ _ _
  refine wpAny_bind (wpAny_rule (wpAny_bind (unpackItems_tuple (items := #[u1,u2]) (I.ok.hd hc) (IsTup.new s1.heap _) fun h' hx' => ?_)))
  have I3 := I2.kept (h' := h') (t' := s1.toks) fun b o e => hx' b o (Nat.ne_of_lt (Heap.lt_size e)) e
  show wpAny _ _ (assignInOrder [fun v => bindName X.env y v,fun v => bindName X.env x v] [u2,u1] >>= fun _ => pure Flow.next) _ _ _
  refine wpAny_bind (assignInOrder_cons (wpAny_bindName (store_ok I3 hN hj (.inl hy) rw' (fun s2 I4 => ?_) (.inr hy))))
  refine assignInOrder_cons (wpAny_bindName (store_ok I4 hN hi (.inl hx) rv (fun s3 I5 => assignInOrder_nil (wpAny_pure ?_)) (.inr hx)))
  rw [List.set_comm _ _ (Ne.symm hij)] at I5
  exact ⟨_,H1,I5,q1⟩
end
section
variable {X : Cx} {pos : Pos}
end
structure It where
  go : Nat → Hp → Prop
  yld : Nat → Hp → V → Hp → Prop
  stop : Nat → Hp → Prop
def FpOk (X : Cx) (pins : List (Addr × Obj)) (H : Hp) (b : Addr) : Prop :=
  H b = none ∧ b ≠ X.env.locals ∧ b ∉ X.fs ∧ (b ∈ X.ex ∨ X.s₀.heap.objs.size ≤ b) ∧ (∀ x c,X.env.cells.lookup x = some c → c ≠ b) ∧ ∀ p ∈ X.pn ++ pins,p.1 ≠ b
theorem Inv.fpOk {X : Cx} {pins : List (Addr × Obj)} {σ : St} {H H' : Hp} {s : Shared} {b : Addr} (I : Inv X pins σ H s) (hb : s.heap.objs.size ≤ b) (hn : H' b = none) : FpOk X pins H' b := by
  refine ⟨hn,Nat.ne_of_gt (Nat.lt_of_lt_of_le I.lt hb),I.nofs hb,.inr (Nat.le_trans I.sz hb),fun x c e z => ?_,fun p hp z => ?_⟩
  · obtain ⟨v,q⟩ := I.cell x c e
    exact absurd (Nat.lt_of_lt_of_le q.lt (by rw [z]; exact hb)) (Nat.lt_irrefl _)
  · exact absurd (Nat.lt_of_lt_of_le (Heap.lt_size (I.pin p hp).1) (by rw [z]; exact hb)) (Nat.lt_irrefl _)
structure Turn (P : Program) (w : World) (K : PySem.W.Frag) (tg : Expr) (J : It) (fp : List Addr) (it : Addr) (tn : Nat → Heap → Prop) : Prop where
  mem : it ∈ fp
  obj : ∀ i h,tn i h → ∀ b ∈ fp,∃ o,h.get? b = some o ∧ ∀ v,o.data ≠ .cell v
  keep : ∀ i h h',tn i h → (∀ b ∈ fp,∀ o,h.get? b = some o → h'.get? b = some o) → tn i h'
  item : ∀ (X : Cx),X.prog = P → X.w = w → X.K = K → X.calm = true → ∀ (i : Nat) (pins : List (Addr × Obj)) (s : Shared) (σ : St) (H : Hp) (E : Value → Shared → Prop),Inv X pins σ H s → (∀ b ∈ fp,FpOk X pins H b) → tn i s.heap → J.go i H →
    wpAny (model P w) X.A (pyNext (.ref it)) (fun r s1 => ∃ u,r = some u ∧
      wpAny (model P w) X.A (letOwnedTupleGo tg (.ref it) u) (fun _ s2 => ∃ x H',Inv X pins σ H' s2 ∧ RelV x u ∧ J.yld i H x H' ∧ tn (i + 1) s2.heap ∧ ∀ b ∈ fp,H' b = none) E s1) E s
  done : ∀ (X : Cx),X.prog = P → X.w = w → X.K = K → X.calm = true → ∀ (i : Nat) (pins : List (Addr × Obj)) (s : Shared) (σ : St) (H : Hp) (E : Value → Shared → Prop),Inv X pins σ H s → (∀ b ∈ fp,FpOk X pins H b) → tn i s.heap → J.stop i H →
    wpAny (model P w) X.A (pyNext (.ref it)) (fun r s1 => r = none ∧ Inv X pins σ H s1) E s
  self : ∀ (A : Around) (i : Nat) (s : Shared) (Q : Value → Shared → Prop) (E : Value → Shared → Prop),tn i s.heap → Q (.ref it) s → wpAny (model P w) A (pyIter (.ref it)) Q E s
abbrev TI := St → Hp → (It → Hp → Prop) → Prop
def PIE (X : Cx) (pins : List (Addr × Obj)) (σ : St) (tg : Expr) (R : It → Hp → Prop) (itv : Value) (s2 : Shared) : Prop :=
  ∃ (it : Addr) (fp : List Addr) (tn : Nat → Heap → Prop) (J : It) (H' : Hp),itv = .ref it ∧ Inv X pins σ H' s2 ∧ Turn X.prog X.w X.K tg J fp it tn ∧ tn 0 s2.heap ∧ (∀ b ∈ fp,FpOk X pins H' b) ∧ R J H'
def PI (X : Cx) (tg iter : Expr) (wi : TI) : Prop :=
  ∀ (pins : List (Addr × Obj)) (s : Shared) (σ : St) (H : Hp) (R : It → Hp → Prop),Inv X pins σ H s → wi σ H R →
    wpAny (model X.prog X.w) X.A (eval iter X.env) (fun v s1 => wpAny (model X.prog X.w) X.A (pyIter v) (PIE X pins σ tg R) X.xe s1) X.xe s
theorem go_of {M : Model} {A : Around} {E : Value → Shared → Prop} {s : Shared} {tg : Expr} {it : Addr} {u : Value} {o : Obj} {n : String} {vs : Array Value} {Q : Unit → Shared → Prop} (ho : s.heap.get? it = some o) (hc : o.cls = .type n) (hd : o.data = .fields vs)
    (hn : ["enumerate","zip","dict_itemiterator","dict_reverseitemiterator","odict_iterator","itertools.zip_longest","itertools.pairwise"].contains n = false) (hQ : Q () s) : wpAny M A (letOwnedTupleGo tg (.ref it) u) Q E s := by
  unfold letOwnedTupleGo
  cases tg <;> first
    | exact wpAny_pure hQ
    | (cases u <;> first
        | exact wpAny_pure hQ
        | (refine wpAny_bind (wpAny_load ho ?_)
           rw [hc,hd]
           show wpAny M A (if (["enumerate","zip","dict_itemiterator","dict_reverseitemiterator","odict_iterator","itertools.zip_longest","itertools.pairwise"].contains n && vs[0]? == some (rawInt _)) = true then _ else _) Q E s
           rw [if_neg (by intro h; rw [hn,Bool.false_and] at h; cases h)]
           exact wpAny_pure hQ))
def Itl (K : PySem.W.Frag) (a : Addr) : It :=
  ⟨fun i H => ∃ xs x,SqL K H a xs ∧ xs[i]? = some x,fun i H x H' => H' = H ∧ ∀ xs,SqL K H a xs → xs[i]? = some x,fun i H => ∃ xs,SqL K H a xs ∧ xs.length ≤ i⟩
def Itt (K : PySem.W.Frag) (a : Addr) : It :=
  ⟨fun i H => ∃ xs x,SqT K H a xs ∧ xs[i]? = some x,fun i H x H' => H' = H ∧ ∀ xs,SqT K H a xs → xs[i]? = some x,fun i H => ∃ xs,SqT K H a xs ∧ xs.length ≤ i⟩
def Itr (lo : Int) (n : Nat) : It := ⟨fun i _ => i < n,fun i H x H' => H' = H ∧ x = .int (lo + i),fun i _ => n ≤ i⟩
theorem turn_list {P : Program} {w : World} {K : PySem.W.Frag} {tg : Expr} (a it : Addr) : Turn P w K tg (Itl K a) [it] it (fun i h => h.IsListIter it a i) where
  mem := by simp
  obj := fun i h st b hb => by
    have e : b = it := by simpa using hb
    subst e
    obtain ⟨o,e,c,d⟩ := st
    exact ⟨o,e,fun v z => by rw [d] at z; cases z⟩
  keep := fun i h h' st k => st.at fun o e => k it (by simp) o e
  item := by
    intro X hP hw hK hc i pins s σ H E I hf st hg
    subst hP hw hK
    obtain ⟨xs,x,hq,hx⟩ := hg
    obtain ⟨its,rv,p,hz⟩ := I.list hq
    obtain ⟨u,hu,ru⟩ := rv.get hx
    obtain ⟨f0,f1,f2,f3,f4,f5⟩ := hf it (by simp)
    refine wpAny_pyNext_list_item st p.isList (x := u) (by simpa using hu) fun h' st' sb => ?_
    have I1 : Inv X pins σ H { s with heap := h' } := I.turned (t' := s.toks) (fun b o hb e => (sb.2 b hb).trans e) f0 f1 f3 f4 f5
    obtain ⟨o,e,c,d⟩ := id st'
    exact ⟨u,rfl,go_of (s := { s with heap := h' }) e c d (by decide) ⟨x,H,I1,ru,⟨rfl,fun ys hy => by rw [I.list_inj hy hq]; exact hx⟩,st',fun b hb => (hf b hb).1⟩⟩
  done := by
    intro X hP hw hK hc i pins s σ H E I hf st hg
    subst hP hw hK
    obtain ⟨xs,hq,hx⟩ := hg
    obtain ⟨its,rv,p,hz⟩ := I.list hq
    obtain ⟨f0,f1,f2,f3,f4,f5⟩ := hf it (by simp)
    have hl := rv.length
    exact wpAny_pyNext_list_end (I.ok.hd hc) st p.isList (by simp; omega) fun h' eb => ⟨rfl,I.turned (t' := s.toks) (fun b o hb e => eb b o hb e) f0 f1 f3 f4 f5⟩
  self := fun _ _ _ _ _ st h => wpAny_pyIter_listiter st h
theorem turn_tuple {P : Program} {w : World} {K : PySem.W.Frag} {tg : Expr} (a it : Addr) : Turn P w K tg (Itt K a) [it] it (fun i h => h.IsTupleIter it a i) where
  mem := by simp
  obj := fun i h st b hb => by
    have e : b = it := by simpa using hb
    subst e
    obtain ⟨o,e,c,d⟩ := st
    exact ⟨o,e,fun v z => by rw [d] at z; cases z⟩
  keep := fun i h h' st k => st.at fun o e => k it (by simp) o e
  item := by
    intro X hP hw hK hc i pins s σ H E I hf st hg
    subst hP hw hK
    obtain ⟨xs,x,hq,hx⟩ := hg
    obtain ⟨its,rv,p,hz⟩ := I.tuple hq
    obtain ⟨u,hu,ru⟩ := rv.get hx
    obtain ⟨f0,f1,f2,f3,f4,f5⟩ := hf it (by simp)
    refine wpAny_pyNext_tuple_item st (show s.heap.IsTuple a its.toArray from p) (x := u) (by simpa using hu) fun h' st' sb => ?_
    have I1 : Inv X pins σ H { s with heap := h' } := I.turned (t' := s.toks) (fun b o hb e => (sb.2 b hb).trans e) f0 f1 f3 f4 f5
    obtain ⟨o,e,c,d⟩ := id st'
    exact ⟨u,rfl,go_of (s := { s with heap := h' }) e c d (by decide) ⟨x,H,I1,ru,⟨rfl,fun ys hy => by rw [I.tuple_inj hy hq]; exact hx⟩,st',fun b hb => (hf b hb).1⟩⟩
  done := by
    intro X hP hw hK hc i pins s σ H E I hf st hg
    subst hP hw hK
    obtain ⟨xs,hq,hx⟩ := hg
    obtain ⟨its,rv,p,hz⟩ := I.tuple hq
    obtain ⟨f0,f1,f2,f3,f4,f5⟩ := hf it (by simp)
    have hl := rv.length
    exact wpAny_pyNext_tuple_end (I.ok.hd hc) st (show s.heap.IsTuple a its.toArray from p) (by simp; omega) fun h' eb => ⟨rfl,I.turned (t' := s.toks) (fun b o hb e => eb b o hb e) f0 f1 f3 f4 f5⟩
  self := fun _ _ _ _ _ st h => wpAny_pyIter_tupleiter st h
theorem turn_range {P : Program} {w : World} {K : PySem.W.Frag} {tg : Expr} (it : Addr) (lo : Int) (n : Nat) : Turn P w K tg (Itr lo n) [it] it (fun i h => IsRangeIter h it (lo + (i : Nat) * 1) ((n : Int) - (i : Nat)) 1) where
  mem := by simp
  obj := fun i h st b hb => by
    have e : b = it := by simpa using hb
    subst e
    exact ⟨_,st,fun v z => by
      have z' : Data.fields _ = Data.cell v := z
      cases z'⟩
  keep := fun i h h' st k => k it (by simp) _ st
  item := by
    intro X hP hw hK hc i pins s σ H E I hf st hg
    subst hP hw hK
    obtain ⟨f0,f1,f2,f3,f4,f5⟩ := hf it (by simp)
    have W := Walks.range (prog := X.prog) (w := X.w) (I.ok.hd hc) it lo 1 n
    refine W.item i s _ _ hg st fun v h' tk hv st' kk => ?_
    obtain ⟨t,rfl⟩ := hv
    have I1 : Inv X pins σ H { s with heap := h',toks := tk } := I.turned (fun b o hb e => kk b o (by simpa using hb) e) f0 f1 f3 f4 f5
    refine ⟨_, rfl, go_of (s := { s with heap := h', toks := tk }) (n := "range_iterator") st' rfl rfl (by decide) ⟨.int (lo + i), H, I1, ⟨t, ?_⟩, ⟨rfl, rfl⟩, st', fun b hb => (hf b hb).1⟩⟩
    rw [Int.mul_one]
  done := by
    intro X hP hw hK hc i pins s σ H E I hf st hg
    subst hP hw hK
    obtain ⟨f0,f1,f2,f3,f4,f5⟩ := hf it (by simp)
    exact wpAny_pyNext_range_end (I.ok.hd hc) st (by have : n ≤ i := hg; omega) fun h' eb => ⟨rfl,I.turned (t' := s.toks) (fun b o hb e => eb b o hb e) f0 f1 f3 f4 f5⟩
  self := fun _ _ _ _ _ st h => wpAny_pyIter_rangeiter st h
end L2
namespace L2
open PySem PySem.Spec PyProof.Rows
section
variable {X : Cx} {tg : Expr}
def iList (K : PySem.W.Frag) (tl : TE) : TI := fun σ H R => tl σ H fun x H1 => ∃ a,x = .ref a ∧ (∃ xs,SqL K H1 a xs) ∧ R (Itl K a) H1
def iTup (K : PySem.W.Frag) (tl : TE) : TI := fun σ H R => tl σ H fun x H1 => ∃ a,x = .ref a ∧ (∃ xs,SqT K H1 a xs) ∧ R (Itt K a) H1
theorem pi_list {l : Expr} {tl : TE} (hl : PE X l tl) : PI X tg l (iList X.K tl) := by
  intro pins s σ H R I h
  refine thn (hl pins s σ H _ I h) fun v s1 ⟨x,H1,I1,r1,q1⟩ => ?_
  obtain ⟨a,e,⟨xs,hq⟩,q⟩ := q1
  subst e
  cases r1
  obtain ⟨its,rv,p,hz⟩ := I1.list hq
  refine wpAny_pyIter_list p.isList ?_
  refine ⟨s1.heap.objs.size,[s1.heap.objs.size],_,_,H1,rfl,I1.kept (t' := s1.toks) fun b o e => Heap.get?_push_of_some _ e,turn_list a _,⟨_,Heap.get?_push_size _ rfl,rfl,rfl⟩,fun b hb => ?_,q⟩
  have e : b = s1.heap.objs.size := by simpa using hb
  subst e
  exact I1.fpOk (Nat.le_refl _) (I1.hok.fresh (Nat.le_refl _))
theorem pi_tup {l : Expr} {tl : TE} (hl : PE X l tl) : PI X tg l (iTup X.K tl) := by
  intro pins s σ H R I h
  refine thn (hl pins s σ H _ I h) fun v s1 ⟨x,H1,I1,r1,q1⟩ => ?_
  obtain ⟨a,e,⟨xs,hq⟩,q⟩ := q1
  subst e
  cases r1
  obtain ⟨its,rv,p,hz⟩ := I1.tuple hq
  refine wpAny_pyIter_tuple (show s1.heap.IsTuple a its.toArray from p) ?_
  refine ⟨s1.heap.objs.size,[s1.heap.objs.size],_,_,H1,rfl,I1.kept (t' := s1.toks) fun b o e => Heap.get?_push_of_some _ e,turn_tuple a _,⟨_,Heap.get?_push_size _ rfl,rfl,rfl⟩,fun b hb => ?_,q⟩
  have e : b = s1.heap.objs.size := by simpa using hb
  subst e
  exact I1.fpOk (Nat.le_refl _) (I1.hok.fresh (Nat.le_refl _))
theorem range_it {pins : List (Addr × Obj)} {σ : St} {H : Hp} {s : Shared} {R : It → Hp → Prop} {E : Value → Shared → Prop} {lo hi : Int} {t u v : Tok} {tk : Nat} (I : Inv X pins σ H s) (h1 : -(2 ^ 62) ≤ lo) (h2 : lo < 2 ^ 62) (h3 : -(2 ^ 62) ≤ hi) (h4 : hi < 2 ^ 62)
    (q : R (Itr lo (hi - lo).toNat) H) : wpAny (model X.prog X.w) X.A (pyIter (.ref s.heap.objs.size)) (PIE X pins σ tg R) E { s with heap := s.heap.push { cls := .type "range",data := .fields #[.int lo t,.int hi u,.int 1 v] },toks := tk } := by
  refine wpAny_pyIter_range (IsRange.new ..) (small_one h1 h2 h3 h4) ?_
  have I1 : Inv X pins σ H { s with heap := s.heap.push { cls := .type "range",data := .fields #[.int lo t,.int hi u,.int 1 v] },toks := tk } := I.kept fun b o e => Heap.get?_push_of_some _ e
  refine ⟨(s.heap.push { cls := .type "range",data := .fields #[.int lo t,.int hi u,.int 1 v] }).objs.size,[(s.heap.push { cls := .type "range",data := .fields #[.int lo t,.int hi u,.int 1 v] }).objs.size],_,_,H,rfl,
    I1.kept (t' := tk) fun b o e => Heap.get?_push_of_some _ e,turn_range _ lo (hi - lo).toNat,?_,fun b hb => ?_,q⟩
  · have e1 : lo + ((0 : Nat) : Int) * 1 = lo := by simp
    have e2 : (((hi - lo).toNat : Nat) : Int) - ((0 : Nat) : Int) = Builtin.Range.rangeSize lo hi 1 := by rw [rangeSize_one]; split <;> omega
    show IsRangeIter _ _ (lo + ((0 : Nat) : Int) * 1) ((((hi - lo).toNat : Nat) : Int) - ((0 : Nat) : Int)) 1
    rw [e1,e2]
    exact Heap.get?_push_size _ rfl
  · have e : b = (s.heap.push { cls := .type "range",data := .fields #[.int lo t,.int hi u,.int 1 v] }).objs.size := by simpa using hb
    subst e
    exact I1.fpOk (Nat.le_refl _) (I1.hok.fresh (Nat.le_refl _))
def iRng1 (ta : TA) : TI := fun σ H R => ta σ H fun vs H1 => ∃ j : Int,vs = [.int j] ∧ -(2 ^ 62) ≤ j ∧ j < 2 ^ 62 ∧ R (Itr 0 j.toNat) H1
def iRng2 (ta : TA) : TI := fun σ H R => ta σ H fun vs H1 => ∃ i j : Int,vs = [.int i,.int j] ∧ (-(2 ^ 62) ≤ i ∧ i < 2 ^ 62 ∧ -(2 ^ 62) ≤ j ∧ j < 2 ^ 62) ∧ R (Itr i (j - i).toNat) H1
theorem pi_range1 {a : Expr} {ta : TA} {p pos : Pos} (hg : Gl X "range") (hm : X.mg "range" = none) (ha : PA X [a] ta) (hs : starEach [a] X.env = [(false,eval a X.env)] := by rfl) : PI X tg (.Call (.Name "range" p) [a] [] pos) (iRng1 ta) := by
  intro pins s σ H R I h
  refine Call_ (ld_blt I hg hm boot_range (PyProof.Rows.callWith_type1 (thn (ha pos pins s σ H _ I h) fun us s1 ⟨vs,H1,I1,r1,q1⟩ => ?_) hs rfl))
  obtain ⟨j,e,q1,q2,q⟩ := q1
  subst e
  cases r1 with
  | cons r rr =>
    cases rr
    obtain ⟨t,rfl⟩ := r
    exact call_range_1 (range_it I1 (by omega) (by omega) q1 q2 (by simpa using q))
theorem pi_range2 {a b : Expr} {ta : TA} {p pos : Pos} (hg : Gl X "range") (hm : X.mg "range" = none) (ha : PA X [a,b] ta) (hs : starEach [a,b] X.env = [(false,eval a X.env),(false,eval b X.env)] := by rfl) (hs2 : starEach [b] X.env = [(false,eval b X.env)] := by rfl) :
    PI X tg (.Call (.Name "range" p) [a,b] [] pos) (iRng2 ta) := by
  intro pins s σ H R I h
  refine Call_ (ld_blt I hg hm boot_range (PyProof.Rows.callWith_type1 (thn (ha pos pins s σ H _ I h) fun us s1 ⟨vs,H1,I1,r1,q1⟩ => ?_) (by rw [hs,hs2]) (by rw [hs2]; rfl)))
  obtain ⟨i,j,e,⟨q1,q2,q3,q4⟩,q⟩ := q1
  subst e
  cases r1 with
  | cons r rr =>
    cases rr with
    | cons r' rr =>
      cases rr
      obtain ⟨t,rfl⟩ := r
      obtain ⟨t',rfl⟩ := r'
      exact call_range_2 (range_it I1 q1 q2 q3 q4 q)
def tFor (wi : TI) (g : TG) (tb : TS) : TS := fun D σ H => wi σ H fun J H1 => ∃ W : Nat → Nat → St → Hp → Prop,(∃ m,W 0 m σ H1) ∧ ∀ i m σ H,W i m σ H →
  (J.stop i H ∧ D.nx σ H) ∨ (J.go i H ∧ ∃ N : St → Hp → Prop,(∀ σ' H',N σ' H' → ∃ m',m' < m ∧ W (i + 1) m' σ' H') ∧ ∀ x H',J.yld i H x H' → g x σ H' fun σ2 H2 => tb { D with nx := N,ct := N,bk := D.nx } σ2 H2)
def pinsAt (fp : List Addr) (h : Heap) : List (Addr × Obj) := fp.filterMap fun b => (h.get? b).map fun o => (b,o)
theorem mem_pinsAt {fp : List Addr} {h : Heap} {b : Addr} {o : Obj} (hb : b ∈ fp) (e : h.get? b = some o) : (b,o) ∈ pinsAt fp h := List.mem_filterMap.mpr ⟨b,hb,by rw [e]; rfl⟩
theorem of_pinsAt {fp : List Addr} {h : Heap} {p : Addr × Obj} (hp : p ∈ pinsAt fp h) : p.1 ∈ fp ∧ h.get? p.1 = some p.2 := by
  obtain ⟨b,hb,e⟩ := List.mem_filterMap.mp hp
  cases q : h.get? b with
  | none => rw [q] at e; cases e
  | some o =>
    rw [q] at e
    have e' : (b,o) = p := Option.some.inj e
    subst e'
    exact ⟨hb,q⟩
theorem Inv.pinned {pins : List (Addr × Obj)} {σ : St} {H : Hp} {s : Shared} {fp : List Addr} (I : Inv X pins σ H s) (hf : ∀ b ∈ fp,FpOk X pins H b) (ho : ∀ b ∈ fp,∃ o,s.heap.get? b = some o ∧ ∀ v,o.data ≠ .cell v) : Inv X (pins ++ pinsAt fp s.heap) σ H s :=
  I.pins_of fun p hp => (List.mem_append.mp hp).elim (fun z => I.pin p (List.mem_append_right _ z)) fun z => by
    obtain ⟨hb,e⟩ := of_pinsAt z
    obtain ⟨f0,f1,f2,_⟩ := hf p.1 hb
    obtain ⟨o,e',d⟩ := ho p.1 hb
    rw [e] at e'; cases e'
    exact ⟨e,f0,f1,f2,d⟩
theorem Inv.unpinned {pins pl : List (Addr × Obj)} {σ : St} {H : Hp} {s : Shared} (I : Inv X (pins ++ pl) σ H s) : Inv X pins σ H s := I.pins_of fun p hp => I.pin p (List.mem_append_right _ (List.mem_append_left _ hp))
theorem ps_for {iter : Expr} {body : List Stmt} {wi : TI} {g : TG} {tb : TS} {pos : Pos} (hp : PassesOwn (model X.prog X.w) X.A X.env X.xe) (hc : X.calm = true) (hi : PI X tg iter wi) (hg : PG X tg g) (hb : PSs X body tb)
    (hs : ∀ x,foldedSetIterable iter X.env x = pure x := by intro _; rfl) : PS X (.For tg iter body [] pos) (tFor wi g tb) := by
  intro pins s σ H D I h
  refine wpAny_For (thn (hi pins s σ H _ I h) fun v s1 h1 => thn h1 fun itv s2 h2 => ?_) hs
  obtain ⟨it,fp,tn,J,H2,e,I2,T,st2,f2,W,⟨m0,w0⟩,turn⟩ := h2
  subst e
  have stat : ∀ {H' : Hp},(∀ b ∈ fp,H' b = none) → ∀ b ∈ fp,FpOk X pins H' b := fun hn b hb => ⟨hn b hb,(f2 b hb).2⟩
  refine codeAny_forLoop_any (fun n s' => ∃ i σ' H',Inv X pins σ' H' s' ∧ tn i s'.heap ∧ (∀ b ∈ fp,H' b = none) ∧ W i n σ' H') ?_ m0 ⟨0,σ,H2,I2,st2,fun b hb => (f2 b hb).1,w0⟩
  rintro n s3 ⟨i,σ3,H3,I3,st3,fr3,w3⟩
  rcases turn i n σ3 H3 w3 with ⟨stop,qn⟩ | ⟨go,N,hN,step⟩
  · refine wpAny_passesOwn hp (thn (T.done X rfl rfl rfl hc i pins s3 σ3 H3 X.xe I3 (stat fr3) st3 stop) fun r s4 ⟨hr,I4⟩ => ?_)
    subst hr
    exact wpAny_execs_nil ⟨σ3,H3,I4,qn⟩
  · refine wpAny_passesOwn hp (thn (T.item X rfl rfl rfl hc i pins s3 σ3 H3 X.xe I3 (stat fr3) st3 go) fun r s4 ⟨u,hr,h4⟩ => ?_)
    subst hr
    refine wpAny_passesOwn hp (thn h4 fun _ s5 ⟨x,H5,I5,r5,y5,st5,fr5⟩ => ?_)
    have I5' := I5.pinned (stat fr5) (T.obj _ _ st5)
    refine wpAny_passesOwn hp (thn (hg _ s5 σ3 H5 x u _ I5' r5 (step x H5 y5)) fun _ s6 ⟨σ6,H6,I6,q6⟩ => ?_)
    refine wpAny_passesOwn hp (thn (hb _ s6 σ6 H6 _ I6 q6) fun f s7 q7 => ?_)
    have again : ∀ {σ7 : St} {H7 : Hp},Inv X (pins ++ pinsAt fp s5.heap) σ7 H7 s7 → N σ7 H7 → ∃ m,m < n ∧ ∃ i σ' H',Inv X pins σ' H' s7 ∧ tn i s7.heap ∧ (∀ b ∈ fp,H' b = none) ∧ W i m σ' H' := fun {σ7 H7} I7 n7 => by
      obtain ⟨m',hm,w7⟩ := hN σ7 H7 n7
      refine ⟨m',hm,i + 1,σ7,H7,I7.unpinned,T.keep _ _ _ st5 fun b hb o e => (I7.pin (b,o) (List.mem_append_right _ (List.mem_append_right _ (mem_pinsAt hb e)))).1,fun b hb => ?_,w7⟩
      obtain ⟨o,e,d⟩ := T.obj _ _ st5 b hb
      exact (I7.pin (b,o) (List.mem_append_right _ (List.mem_append_right _ (mem_pinsAt hb e)))).2.1
    cases f with
    | next => obtain ⟨σ7,H7,I7,n7⟩ := q7; exact again I7 n7
    | cont => obtain ⟨σ7,H7,I7,n7⟩ := q7; exact again I7 n7
    | brk => obtain ⟨σ7,H7,I7,q7⟩ := q7; exact ⟨σ7,H7,I7.unpinned,q7⟩
    | ret v => obtain ⟨x7,σ7,H7,I7,r7,q7⟩ := q7; exact ⟨x7,σ7,H7,I7.unpinned,r7,q7⟩
end
theorem for_list {K : PySem.W.Frag} {a : Addr} {xs : List V} {g : TG} {tb : TS} {D : Ends} {σ : St} {H : Hp} (Pv : Nat → St → Hp → Prop) (h0 : Pv 0 σ H) (hl : ∀ i σ H,i ≤ xs.length → Pv i σ H → SqL K H a xs)
    (hs : ∀ i x σ H,xs[i]? = some x → Pv i σ H → g x σ H fun σ2 H2 => tb { D with nx := Pv (i + 1),ct := Pv (i + 1),bk := D.nx } σ2 H2) (hd : ∀ σ H,Pv xs.length σ H → D.nx σ H) :
    ∃ W : Nat → Nat → St → Hp → Prop,(∃ m,W 0 m σ H) ∧ ∀ i m σ H,W i m σ H →
      ((Itl K a).stop i H ∧ D.nx σ H) ∨ ((Itl K a).go i H ∧ ∃ N : St → Hp → Prop,(∀ σ' H',N σ' H' → ∃ m',m' < m ∧ W (i + 1) m' σ' H') ∧ ∀ x H',(Itl K a).yld i H x H' → g x σ H' fun σ2 H2 => tb { D with nx := N,ct := N,bk := D.nx } σ2 H2) := by
  refine ⟨fun i m σ H => m = xs.length - i ∧ i ≤ xs.length ∧ Pv i σ H,⟨xs.length,by simp,Nat.zero_le _,h0⟩,?_⟩
  rintro i m σ H ⟨rfl,hi,p⟩
  have q := hl i σ H hi p
  by_cases hlt : i < xs.length
  · refine .inr ⟨⟨xs,xs[i],q,by simp [hlt]⟩,Pv (i + 1),fun σ' H' p' => ⟨xs.length - (i + 1),by omega,rfl,hlt,p'⟩,fun x H' y => ?_⟩
    obtain ⟨e,y⟩ := y
    subst e
    exact hs i x σ _ (y xs q) p
  · have e : i = xs.length := by omega
    subst e
    exact .inl ⟨⟨xs,q,Nat.le_refl _⟩,hd σ H p⟩
theorem for_tup {K : PySem.W.Frag} {a : Addr} {xs : List V} {g : TG} {tb : TS} {D : Ends} {σ : St} {H : Hp} (Pv : Nat → St → Hp → Prop) (h0 : Pv 0 σ H) (hl : ∀ i σ H,i ≤ xs.length → Pv i σ H → SqT K H a xs)
    (hs : ∀ i x σ H,xs[i]? = some x → Pv i σ H → g x σ H fun σ2 H2 => tb { D with nx := Pv (i + 1),ct := Pv (i + 1),bk := D.nx } σ2 H2) (hd : ∀ σ H,Pv xs.length σ H → D.nx σ H) :
    ∃ W : Nat → Nat → St → Hp → Prop,(∃ m,W 0 m σ H) ∧ ∀ i m σ H,W i m σ H →
      ((Itt K a).stop i H ∧ D.nx σ H) ∨ ((Itt K a).go i H ∧ ∃ N : St → Hp → Prop,(∀ σ' H',N σ' H' → ∃ m',m' < m ∧ W (i + 1) m' σ' H') ∧ ∀ x H',(Itt K a).yld i H x H' → g x σ H' fun σ2 H2 => tb { D with nx := N,ct := N,bk := D.nx } σ2 H2) := by
  refine ⟨fun i m σ H => m = xs.length - i ∧ i ≤ xs.length ∧ Pv i σ H,⟨xs.length,by simp,Nat.zero_le _,h0⟩,?_⟩
  rintro i m σ H ⟨rfl,hi,p⟩
  have q := hl i σ H hi p
  by_cases hlt : i < xs.length
  · refine .inr ⟨⟨xs,xs[i],q,by simp [hlt]⟩,Pv (i + 1),fun σ' H' p' => ⟨xs.length - (i + 1),by omega,rfl,hlt,p'⟩,fun x H' y => ?_⟩
    obtain ⟨e,y⟩ := y
    subst e
    exact hs i x σ _ (y xs q) p
  · have e : i = xs.length := by omega
    subst e
    exact .inl ⟨⟨xs,q,Nat.le_refl _⟩,hd σ H p⟩
theorem for_range {lo : Int} {n : Nat} {g : TG} {tb : TS} {D : Ends} {σ : St} {H : Hp} (Pv : Nat → St → Hp → Prop) (h0 : Pv 0 σ H)
    (hs : ∀ i σ H,i < n → Pv i σ H → g (.int (lo + i)) σ H fun σ2 H2 => tb { D with nx := Pv (i + 1),ct := Pv (i + 1),bk := D.nx } σ2 H2) (hd : ∀ σ H,Pv n σ H → D.nx σ H) :
    ∃ W : Nat → Nat → St → Hp → Prop,(∃ m,W 0 m σ H) ∧ ∀ i m σ H,W i m σ H →
      ((Itr lo n).stop i H ∧ D.nx σ H) ∨ ((Itr lo n).go i H ∧ ∃ N : St → Hp → Prop,(∀ σ' H',N σ' H' → ∃ m',m' < m ∧ W (i + 1) m' σ' H') ∧ ∀ x H',(Itr lo n).yld i H x H' → g x σ H' fun σ2 H2 => tb { D with nx := N,ct := N,bk := D.nx } σ2 H2) := by
  refine ⟨fun i m σ H => m = n - i ∧ i ≤ n ∧ Pv i σ H,⟨n,by simp,Nat.zero_le _,h0⟩,?_⟩
  rintro i m σ H ⟨rfl,hi,p⟩
  by_cases hlt : i < n
  · refine .inr ⟨hlt,Pv (i + 1),fun σ' H' p' => ⟨n - (i + 1),by omega,rfl,hlt,p'⟩,fun x H' y => ?_⟩
    obtain ⟨e,y⟩ := y
    subst e y
    exact hs i σ _ hlt p
  · have e : i = n := by omega
    subst e
    exact .inl ⟨Nat.le_refl _,hd σ H p⟩
end L2
namespace L2
open PySem PySem.Spec PyProof.Rows
abbrev R2 := V → V → Hp → VK → Prop
def OpR (X : Cx) (f : Value → Value → Sem Value) (r : R2) : Prop :=
  ∀ (pins : List (Addr × Obj)) (s : Shared) (σ : St) (H : Hp) (x y : V) (v u : Value) (Q : VK),Inv X pins σ H s → RelV x v → RelV y u → r x y H Q →
    wpAny (model X.prog X.w) X.A (f v u) (EP X pins σ Q) X.xe s
def CallR (X : Cx) (f : Value) (r : List V → Hp → VK → Prop) : Prop :=
  ∀ (pins : List (Addr × Obj)) (s : Shared) (σ : St) (H : Hp) (xs : List V) (us : List Value) (Q : VK),Inv X pins σ H s → Vals xs us → r xs H Q →
    wpAny (model X.prog X.w) X.A (call f us) (EP X pins σ Q) X.xe s
def tOp (r : R2) (ta tb : TE) : TE := fun σ H Q => ta σ H fun x H1 => tb σ H1 fun y H2 => r x y H2 Q
def rI (C : Int → Int → Prop) (g : Int → Int → V) : R2 := fun x y H Q => ∃ i j,x = .int i ∧ y = .int j ∧ C i j ∧ Q (g i j) H
def rI0 (g : Int → Int → V) : R2 := fun x y H Q => ∃ i j,x = .int i ∧ y = .int j ∧ Q (g i j) H
section
variable {X : Cx} {a b c : Expr} {ta tb tc : TE} {pos : Pos}
theorem binT (ha : PE X a ta) (hb : PE X b tb) {pins : List (Addr × Obj)} {s : Shared} {σ : St} {H : Hp} {R : V → V → Hp → Prop} (I : Inv X pins σ H s)
    (h : ta σ H fun x H1 => tb σ H1 fun y H2 => R x y H2) {Q : Value → Shared → Prop} {f : Value → Value → Sem Value}
    (hf : ∀ v u s2 x y H2,Inv X pins σ H2 s2 → RelV x v → RelV y u → R x y H2 → wpAny (model X.prog X.w) X.A (f v u) Q X.xe s2) :
    wpAny (model X.prog X.w) X.A (eval a X.env) (fun v s₁ => wpAny (model X.prog X.w) X.A (eval b X.env) (fun u s₂ => wpAny (model X.prog X.w) X.A (f v u) Q X.xe s₂) X.xe s₁) X.xe s := by
  refine thn (ha pins s σ H _ I h) fun v s1 ⟨x,H1,I1,r1,q1⟩ => ?_
  refine thn (hb pins s1 σ H1 _ I1 q1) fun u s2 ⟨y,H2,I2,r2,q2⟩ => ?_
  exact hf v u s2 x y H2 I2 r1 r2 q2
theorem pe_op {op : Operator} {r : R2} (ho : OpR X (binaryOp op) r) (ha : PE X a ta) (hb : PE X b tb) : PE X (.BinOp a op b pos) (tOp r ta tb) := by
  intro pins s σ H Q I h
  exact wpAny_BinOp (binT ha hb I h fun v u s2 x y H2 I2 rx ry q => ho pins s2 σ H2 x y v u Q I2 rx ry q)
theorem opI {f : Value → Value → Sem Value} {C : Int → Int → Prop} {g : Int → Int → Int}
    (rule : ∀ (i j : Int) (t u : Tok) (s : Shared) (Q : Value → Shared → Prop) (E : Value → Shared → Prop),C i j → Q (.int (g i j) s.toks) { s with toks := s.toks + 1 } → wpAny (model X.prog X.w) X.A (f (.int i t) (.int j u)) Q E s) :
    OpR X f (rI C fun i j => .int (g i j)) := by
  intro pins s σ H x y v u Q I rx ry h
  obtain ⟨i,j,rfl,rfl,hc,q⟩ := h
  obtain ⟨t,rfl⟩ := rx
  obtain ⟨t',rfl⟩ := ry
  exact rule i j t t' s _ _ hc ⟨.int (g i j),H,I.tok _,⟨_,rfl⟩,q⟩
theorem opI0 {f : Value → Value → Sem Value} {g : Int → Int → Int}
    (rule : ∀ (i j : Int) (t u : Tok) (s : Shared) (Q : Value → Shared → Prop) (E : Value → Shared → Prop),Q (.int (g i j) s.toks) { s with toks := s.toks + 1 } → wpAny (model X.prog X.w) X.A (f (.int i t) (.int j u)) Q E s) :
    OpR X f (rI0 fun i j => .int (g i j)) := by
  intro pins s σ H x y v u Q I rx ry h
  obtain ⟨i,j,rfl,rfl,q⟩ := h
  obtain ⟨t,rfl⟩ := rx
  obtain ⟨t',rfl⟩ := ry
  exact rule i j t t' s _ _ ⟨.int (g i j),H,I.tok _,⟨_,rfl⟩,q⟩
theorem opB0 {f : Value → Value → Sem Value} {g : Int → Int → Bool}
    (rule : ∀ (i j : Int) (t u : Tok) (s : Shared) (Q : Value → Shared → Prop) (E : Value → Shared → Prop),Q (.bool (g i j)) s → wpAny (model X.prog X.w) X.A (f (.int i t) (.int j u)) Q E s) :
    OpR X f (rI0 fun i j => .bl (g i j)) := by
  intro pins s σ H x y v u Q I rx ry h
  obtain ⟨i,j,rfl,rfl,q⟩ := h
  obtain ⟨t,rfl⟩ := rx
  obtain ⟨t',rfl⟩ := ry
  exact rule i j t t' s _ _ ⟨.bl (g i j),H,I,rfl,q⟩
def CPow (i j : Int) : Prop := 0 ≤ j ∧ j ≤ 1000000 ∧ i.natAbs < 2 ^ 64
def CMul (i j : Int) : Prop := (-(2 ^ 64) < i ∧ i < 2 ^ 64) ∨ (-(2 ^ 64) < j ∧ j < 2 ^ 64)
theorem CMul.ok {i j : Int} (h : CMul i j) : IntMulOk i j := by
  rcases h with ⟨h1,h2⟩ | ⟨h1,h2⟩
  · exact .of_left (intBits_le_64 h1 h2)
  · exact .of_right (intBits_le_64 h1 h2)
theorem op_add : OpR X (binaryOp .Add) (rI0 fun i j => .int (i + j)) := opI0 fun _ _ _ _ _ _ _ q => add_int q
theorem op_sub : OpR X (binaryOp .Sub) (rI0 fun i j => .int (i - j)) := opI0 fun _ _ _ _ _ _ _ q => sub_int q
theorem op_mul : OpR X (binaryOp .Mult) (rI CMul fun i j => .int (i * j)) := opI fun _ _ _ _ _ _ _ hc q => mul_int q hc.ok
theorem op_mod : OpR X (binaryOp .Mod) (rI (fun _ j => 0 < j) fun i j => .int (i % j)) := opI fun i j _ _ _ _ _ hc q => by
  have h1 : (0 : Int) < j := hc
  exact mod_int' (by omega) (by rw [Int.fmod_eq_emod_of_nonneg i (by omega)]; exact q)
theorem op_pow : OpR X (binaryOp .Pow) (rI CPow fun i j => .int (i ^ j.toNat)) := opI fun _ _ _ _ _ _ _ hc q => pow_int_small hc.1 hc.2.1 hc.2.2 q
end
def scal : V → V → Bool
  | .non,.non => true | .non,.int _ => true | .int _,.non => true | .non,.bl _ => true | .bl _,.non => true | .non,.str _ => true | .str _,.non => true
  | .int _,.int _ => true | .bl _,.bl _ => true | .str _,.str _ => true | .byt _,.byt _ => true
  | .int _,.str _ => true | .str _,.int _ => true | .bl _,.str _ => true | .str _,.bl _ => true
  | _,_ => false
def rEq : R2 := fun x y H Q => scal x y = true ∧ Q (.bl (decide (x = y))) H
def rNe : R2 := fun x y H Q => scal x y = true ∧ Q (.bl (!decide (x = y))) H
theorem dec_int {i j : Int} : decide (V.int i = V.int j) = (i == j) := by
  rw [Bool.eq_iff_iff]
  simp
theorem dec_bl {i j : Bool} : decide (V.bl i = V.bl j) = (i == j) := by
  rw [Bool.eq_iff_iff]
  simp
theorem dec_str {i j : Str} : decide (V.str i = V.str j) = (i == j) := by
  rw [Bool.eq_iff_iff]
  simp
theorem dec_byt {i j : Array UInt8} : decide (V.byt i = V.byt j) = (i.toList == j.toList) := by
  rw [Bool.eq_iff_iff]
  cases i
  cases j
  simp
section
variable {X : Cx} {a b c : Expr} {ta tb tc : TE} {pos : Pos}
theorem fin_bl {pins : List (Addr × Obj)} {σ : St} {H : Hp} {s : Shared} {Q : VK} {k k' : Bool} (I : Inv X pins σ H s) (q : Q (.bl k) H) (e : k = k') : EP X pins σ Q (.bool k') s := by
  subst e
  exact ⟨.bl k,H,I,rfl,q⟩
theorem op_eq : OpR X (compareOp .Eq) rEq := by
  intro pins s σ H x y v u Q I rx ry h
  obtain ⟨hs,q⟩ := h
  cases x with
  | non =>
    cases rx
    cases y with
    | non => cases ry; exact PySem.EqNone.eq_none_none (fin_bl I q (by simp))
    | bl j => cases ry; exact PySem.EqNone.eq_none_bool (fin_bl I q (by simp))
    | int j => obtain ⟨t',rfl⟩ := ry; exact PySem.EqNone.eq_none_int (fin_bl I q (by simp))
    | str j => obtain ⟨t',rfl⟩ := ry; exact PySem.EqNone.eq_none_str (fin_bl I q (by simp))
    | _ => exact absurd (show false = true from hs) Bool.false_ne_true
  | bl i =>
    cases rx
    cases y with
    | non => cases ry; exact PySem.EqNone.eq_bool_none (fin_bl I q (by simp))
    | bl j => cases ry; exact eq_bool (fin_bl I q dec_bl)
    | str j => obtain ⟨t',rfl⟩ := ry; exact PySem.EqMixed.eq_bool_str (fin_bl I q (by simp))
    | _ => exact absurd (show false = true from hs) Bool.false_ne_true
  | int i =>
    obtain ⟨t,rfl⟩ := rx
    cases y with
    | non => cases ry; exact PySem.EqNone.eq_int_none (fin_bl I q (by simp))
    | int j => obtain ⟨t',rfl⟩ := ry; exact eq_int (fin_bl I q dec_int)
    | str j => obtain ⟨t',rfl⟩ := ry; exact PySem.EqMixed.eq_int_str (fin_bl I q (by simp))
    | _ => exact absurd (show false = true from hs) Bool.false_ne_true
  | str i =>
    obtain ⟨t,rfl⟩ := rx
    cases y with
    | non => cases ry; exact PySem.EqNone.eq_str_none (fin_bl I q (by simp))
    | bl j => cases ry; exact PySem.EqMixed.eq_str_bool (fin_bl I q (by simp))
    | int j => obtain ⟨t',rfl⟩ := ry; exact PySem.EqMixed.eq_str_int (fin_bl I q (by simp))
    | str j => obtain ⟨t',rfl⟩ := ry; exact eq_str (fin_bl I q dec_str)
    | _ => exact absurd (show false = true from hs) Bool.false_ne_true
  | byt i =>
    obtain ⟨t,rfl⟩ := rx
    cases y with
    | byt j => obtain ⟨t',rfl⟩ := ry; exact PySem.W.eq_bytes (fin_bl I q dec_byt)
    | _ => exact absurd (show false = true from hs) Bool.false_ne_true
  | _ => cases y <;> exact absurd (show false = true from hs) Bool.false_ne_true
theorem op_ne : OpR X (compareOp .NotEq) rNe := by
  intro pins s σ H x y v u Q I rx ry h
  obtain ⟨hs,q⟩ := h
  cases x with
  | non =>
    cases rx
    cases y with
    | non => cases ry; exact PySem.EqNone.ne_none_none (fin_bl I q (by simp))
    | bl j => cases ry; exact PySem.EqNone.ne_none_bool (fin_bl I q (by simp))
    | int j => obtain ⟨t',rfl⟩ := ry; exact PySem.EqNone.ne_none_int (fin_bl I q (by simp))
    | str j => obtain ⟨t',rfl⟩ := ry; exact PySem.EqNone.ne_none_str (fin_bl I q (by simp))
    | _ => exact absurd (show false = true from hs) Bool.false_ne_true
  | bl i =>
    cases rx
    cases y with
    | non => cases ry; exact PySem.EqNone.ne_bool_none (fin_bl I q (by simp))
    | bl j => cases ry; exact ne_bool (fin_bl I q (congrArg not dec_bl))
    | str j => obtain ⟨t',rfl⟩ := ry; exact PySem.EqMixed.ne_bool_str (fin_bl I q (by simp))
    | _ => exact absurd (show false = true from hs) Bool.false_ne_true
  | int i =>
    obtain ⟨t,rfl⟩ := rx
    cases y with
    | non => cases ry; exact PySem.EqNone.ne_int_none (fin_bl I q (by simp))
    | int j => obtain ⟨t',rfl⟩ := ry; exact ne_int (fin_bl I q (congrArg not dec_int))
    | str j => obtain ⟨t',rfl⟩ := ry; exact PySem.EqMixed.ne_int_str (fin_bl I q (by simp))
    | _ => exact absurd (show false = true from hs) Bool.false_ne_true
  | str i =>
    obtain ⟨t,rfl⟩ := rx
    cases y with
    | non => cases ry; exact PySem.EqNone.ne_str_none (fin_bl I q (by simp))
    | bl j => cases ry; exact PySem.EqMixed.ne_str_bool (fin_bl I q (by simp))
    | int j => obtain ⟨t',rfl⟩ := ry; exact PySem.EqMixed.ne_str_int (fin_bl I q (by simp))
    | str j => obtain ⟨t',rfl⟩ := ry; exact ne_str (fin_bl I q (congrArg not dec_str))
    | _ => exact absurd (show false = true from hs) Bool.false_ne_true
  | byt i =>
    obtain ⟨t,rfl⟩ := rx
    cases y with
    | byt j => obtain ⟨t',rfl⟩ := ry; exact PySem.W.ne_bytes (fin_bl I q (congrArg not dec_byt))
    | _ => exact absurd (show false = true from hs) Bool.false_ne_true
  | _ => cases y <;> exact absurd (show false = true from hs) Bool.false_ne_true
theorem op_le : OpR X (compareOp .LtE) (rI0 fun i j => .bl (decide (i ≤ j))) := opB0 fun _ _ _ _ _ _ _ q => le_int q
theorem op_gt : OpR X (compareOp .Gt) (rI0 fun i j => .bl (decide (j < i))) := opB0 fun _ _ _ _ _ _ _ q => gt_int q
theorem op_ge : OpR X (compareOp .GtE) (rI0 fun i j => .bl (decide (j ≤ i))) := opB0 fun _ _ _ _ _ _ _ q => ge_int q
theorem nomark (b : Expr) {op : CmpOp} (h : op ≠ .In := by decide) (h2 : op ≠ .NotIn := by decide) : behindInMarks op b = false := by
  have e1 : (op == CmpOp.In) = false := by cases op <;> first | rfl | exact absurd rfl h
  have e2 : (op == CmpOp.NotIn) = false := by cases op <;> first | rfl | exact absurd rfl h2
  cases b <;> simp [behindInMarks,e1,e2]
theorem pe_cmpR {op : CmpOp} {r : R2} (ho : OpR X (compareOp op) r) (ha : PE X a ta) (hb : PE X b tb) (hm : behindInMarks op b = false) : PE X (.Compare a [op] [b] pos) (tOp r ta tb) := by
  intro pins s σ H Q I h
  exact wpAny_Compare1 (binT ha hb I h fun v u s2 x y H2 I2 rx ry q => ho pins s2 σ H2 x y v u Q I2 rx ry q) hm
def tTest (t : TE) : TT := fun σ H Q => t σ H fun x H' => ∃ k,x = .bl k ∧ Q k H'
theorem pt_cmpR {op : CmpOp} {r : R2} (ho : OpR X (compareOp op) r) (ha : PE X a ta) (hb : PE X b tb) (hm : behindInMarks op b = false) : PT X (.Compare a [op] [b] pos) (tTest (tOp r ta tb)) := by
  intro pins s σ H Q I h
  refine wpAny_isTrue_Compare1 (thn (ha pins s σ H _ I h) fun v s1 ⟨x,H1,I1,r1,q1⟩ => thn (hb pins s1 σ H1 _ I1 q1) fun u s2 ⟨y,H2,I2,r2,q2⟩ =>
    thn (ho pins s2 σ H2 x y v u _ I2 r1 r2 q2) fun c s3 ⟨z,H3,I3,r3,k,e,q3⟩ => ?_) hm
  subst e
  cases r3
  exact wpAny_truthy_bool ⟨H3,I3,q3⟩
def tChain (r r' : R2) (ta tb tc : TE) : TE := fun σ H Q => ta σ H fun x H1 => tb σ H1 fun y H2 => r x y H2 fun z H3 => ∃ k,z = .bl k ∧
  (if k = true then tc σ H3 fun w' H4 => r' y w' H4 Q else Q (.bl false) H3)
theorem pt_chain {op op' : CmpOp} {r r' : R2} (ho : OpR X (compareOp op) r) (ho' : OpR X (compareOp op') r') (ha : PE X a ta) (hb : PE X b tb) (hc : PE X c tc)
    (hm : lastMarks [op,op'] [b,c] = false := by with_unfolding_all rfl) : PT X (.Compare a [op,op'] [b,c] pos) (tTest (tChain r r' ta tb tc)) := by
  intro pins s σ H Q I h
  refine isTrue_chain (thn (ha pins s σ H _ I h) fun v s1 ⟨x,H1,I1,r1,q1⟩ => test_link (thn (hb pins s1 σ H1 _ I1 q1) fun u s2 ⟨y,H2,I2,r2,q2⟩ =>
    thn (ho pins s2 σ H2 x y v u _ I2 r1 r2 q2) fun d s3 ⟨z,H3,I3,r3,k,e,q3⟩ => ?_)) hm
  subst e
  cases r3
  refine wpAny_truthy_bool ?_
  cases k with
  | false =>
    obtain ⟨k',e',q'⟩ := q3
    cases e'
    exact ite_ff ⟨H3,I3,q'⟩
  | true =>
    refine ite_tt (test_last (thn (hc pins s3 σ H3 _ I3 q3) fun w' s4 ⟨z',H4,I4,r4,q4⟩ => thn (ho' pins s4 σ H4 y z' u w' _ I4 r2 r4 q4) fun d' s5 ⟨z2,H5,I5,r5,k2,e2,q5⟩ => ?_))
    subst e2
    cases r5
    exact wpAny_truthy_bool ⟨H5,I5,q5⟩
theorem line63 : (sizeLine : Nat) < 2 ^ 63 := by rw [sizeLine_eq]; decide
theorem vals1 {x : V} {us : List Value} (r : Vals [x] us) : ∃ u,us = [u] ∧ RelV x u := by
  cases r with
  | cons r1 r2 => cases r2; exact ⟨_,rfl,r1⟩
theorem vals2 {x y : V} {us : List Value} (r : Vals [x,y] us) : ∃ u w',us = [u,w'] ∧ RelV x u ∧ RelV y w' := by
  cases r with
  | cons r1 r2 =>
    cases r2 with
    | cons r3 r4 => cases r4; exact ⟨_,_,rfl,r1,r3⟩
theorem call_abs : CallR X (.builtin "abs") (fun xs H Q => ∃ i,xs = [.int i] ∧ Q (.int (if i < 0 then -i else i)) H) := by
  intro pins s σ H xs us Q I r h
  obtain ⟨i,rfl,q⟩ := h
  obtain ⟨u,rfl,t,rfl⟩ := vals1 r
  exact call_abs_int fun u tk => ⟨.int (if i < 0 then -i else i),H,I.tok _,⟨_,rfl⟩,q⟩
theorem call_max2 (hc : X.calm = true) : CallR X (.builtin "max") (fun xs H Q => ∃ i j,xs = [.int i,.int j] ∧ Q (.int (if j > i then j else i)) H) := by
  intro pins s σ H xs us Q I r h
  obtain ⟨i,j,rfl,q⟩ := h
  obtain ⟨u,w',rfl,⟨t,rfl⟩,⟨t',rfl⟩⟩ := vals2 r
  refine max_two_ints (I.ok.hd hc) fun h' tk k => ⟨_,H,I.kept k,?_,q⟩
  by_cases hj : j > i
  · rw [if_pos hj,if_pos hj]; exact ⟨_,rfl⟩
  · rw [if_neg hj,if_neg hj]; exact ⟨_,rfl⟩
theorem call_int1 : CallR X (.type "int") (fun xs H Q => (∃ i,xs = [.int i] ∧ Q (.int i) H) ∨ ∃ k,xs = [.bl k] ∧ Q (.int (if k then 1 else 0)) H) := by
  intro pins s σ H xs us Q I r h
  rcases h with ⟨i,rfl,q⟩ | ⟨k,rfl,q⟩
  · obtain ⟨u,rfl,t,rfl⟩ := vals1 r
    exact call_int_int ⟨.int i,H,I,⟨_,rfl⟩,q⟩
  · obtain ⟨u,rfl,r1⟩ := vals1 r
    cases r1
    exact call_int_bool ⟨.int (if k then 1 else 0),H,I.tok _,⟨_,rfl⟩,q⟩
end
end L2
namespace L2
open PySem PySem.Spec PyProof.Rows
structure ObjM (h : Heap) (x dx C : Addr) (mA : Str → Option Value) : Prop where
  obj : h.get? x = some (PySem.W.instObj C dx)
  ns : h.Ns1 dx mA
  ne : dx ≠ x
theorem lookIn_ns {h : Heap} {dx : Addr} {mA : Str → Option Value} (n : h.Ns1 dx mA) : ∃ od,h.get? dx = some od ∧ ∀ name,PySem.W.lookIn name od = some (mA name) := by
  obtain ⟨o,es,ep,ho,hd,hk,_,hm⟩ := n
  refine ⟨o,ho,fun name => ?_⟩
  have e := hm name
  unfold nsFind findBy at e
  rw [← Array.find?_toList] at e
  unfold PySem.W.lookIn
  rw [hd]
  dsimp only
  split
  · rename_i y q
    rw [q] at e
    exact congrArg some e
  · rename_i q
    rw [q] at e
    have a : es.toList.any (·.refKey) = false := by
      rw [List.any_eq_false]
      intro y hy
      obtain ⟨z,t,hkey⟩ := hk y (Array.mem_toList_iff.mp hy)
      simp [DictEntry.refKey,hkey]
    have a' : ¬ es.toList.any (·.refKey) = true := by rw [a]; exact Bool.false_ne_true
    rw [if_neg a']
    exact congrArg some e
theorem ObjM.look {h : Heap} {x dx C : Addr} {mA : Str → Option Value} (I : ObjM h x dx C mA) : ∃ od,PySem.W.InstAt h x (PySem.W.instObj C dx) C (some od) ∧ ∀ name,PySem.W.lookIn name od = some (mA name) :=
  let ⟨od,ho,hl⟩ := lookIn_ns I.ns
  ⟨od,⟨I.obj,rfl,rfl,ho⟩,hl⟩
section
variable {prog : Program} {w : World} {A : Around} {E : Value → Shared → Prop} {s : Shared} {K : PySem.W.Frag} {x dx C f : Addr} {mA : Str → Option Value} {name : Str} {v : Value}
theorem get_map {expr : Bool} {Q : Value → Shared → Prop} (X : K.In s.heap) (I : ObjM s.heap x dx C mA) (hg : PySem.W.plainGet K C name = true) (hh : PySem.W.hasDictIn K C = true)
    (ha : PySem.W.findIn K (.ref C) name = some none) (hv : mA name = some v) (hv' : PySem.W.handedIn v = true) (h : Q v { s with toks := s.toks + 1 }) :
    wpAny (model prog w) A (getAttr (.ref x) name expr) Q E s := by
  obtain ⟨od,J,hl⟩ := I.look
  exact PySem.W.get_value X J (PySem.W.plainGet_of hg).1 (PySem.W.findObj_own hh ha rfl (by rw [hl,hv])) hv' h
theorem get_meth {pl : Sem Bool} {Q : Value × List Value → Shared → Prop} (X : K.In s.heap) (I : ObjM s.heap x dx C mA) (hg : PySem.W.plainGet K C name = true)
    (hf : PySem.W.findIn K (.ref C) name = some (some (.ref f))) (ht : PySem.W.isFn K (.ref f) = true) (hv : mA name = none) (h : Q (.ref f,[.ref x]) s) :
    wpAny (model prog w) A (getMethod (.ref x) name pl) Q E s := by
  obtain ⟨od,J,hl⟩ := I.look
  exact PySem.W.method_fn X J (PySem.W.plainGet_of hg).1 (PySem.W.plainGet_of hg).2 hf (beq_iff_eq.mp ht) (by show (PySem.W.lookIn name od).map (·.isSome) = some false; rw [hl,hv]; rfl) h
theorem set_map {ns : List Str} {Q : Unit → Shared → Prop} (X : K.In s.heap) (I : ObjM s.heap x dx C mA)
    (hs : PySem.W.findIn K (.ref C) "__setattr__" = some (some (.builtin "object.__setattr__"))) (hp : PySem.W.plainOver K C = true) (ht : PySem.W.takerIn K C name = some none) (hh : PySem.W.hasDictIn K C = true)
    (hw : PySem.Within mA ns) (hsz : ns.length ≤ sizeLine)
    (h : ∀ h',ObjM h' x dx C (fun y => if y = name then some v else mA y) → Heap.SameBut dx s.heap h' → Q () { s with heap := h',toks := s.toks + 2 }) :
    wpAny (model prog w) A (setAttr (.ref x) name v) Q E s := by
  obtain ⟨od,J,hl⟩ := I.look
  refine PySem.W.set_plain X J hs (PySem.W.osa_open (s := { s with toks := s.toks + 1 }) (r := none) X J hp ht fun b => ?_)
  obtain ⟨cd,hc,hd'⟩ := PySem.W.any_some hh
  have hx : s.heap.get? x = some ⟨.ref C,some dx,.plain,#[]⟩ := I.obj
  refine wpAny_bind (wpAny_pure (wpAny_bind (wpAny_bind (wpAny_loadPart hx (wpAny_bind (PySem.W.Looks.here (s := { s with toks := s.toks + 1 }) (PySem.W.looks_clsIn X hc) ?_))))))
  rw [hd']
  refine wpAny_pure (a := some dx) (wpAny_bind (wpAny_pure (wpAny_bind ?_)))
  refine wpAny_nsSet1 (s := { s with toks := s.toks + 1 }) I.ns fun h' hn2 hs2 => ?_
  obtain ⟨oD,esD,epD,hoD,hdD,hcD⟩ := hn2.count (PySem.Within.cons name v hw)
  refine wpAny_bind (wpAny_lookBehind hoD (by rw [hdD]; exact pastItsLine_dict (Nat.le_trans hcD (by rw [List.length_cons]; omega))) ?_)
  exact wpAny_pure (h _ ⟨(hs2.2 _ (Ne.symm I.ne)).trans I.obj,hn2,I.ne⟩ hs2)
theorem make_map {R : Result → Shared → Prop} {vs : List Value} {kw : List (Str × Value)} (X : K.In s.heap) (hm : PySem.W.makesIn K C = true)
    (hi : PySem.W.findIn K (.ref C) "__init__" = some (some (.ref f))) (hf : PySem.W.typeIn K (.ref f) = some (.type "function"))
    (h : codeAny (model prog w) (A.under (.builtin "type.__call__" ⟨.ref C :: vs,kw⟩)) (.call (.ref f) ⟨.ref (s.heap.objs.size + 1) :: vs,kw⟩) (PySem.W.InitBack (s.heap.objs.size + 1) R)
      { s with heap := (s.heap.push PySem.W.emptyDict).push (PySem.W.instObj C s.heap.objs.size) }) :
    codeAny (model prog w) A (.call (.ref C) ⟨vs,kw⟩) R s := by
  obtain ⟨hh,g,d,t,os⟩ := s
  exact PySem.W.make_core (PySem.W.makes_of X hm) (PySem.W.looks_findIn X hi) (fun self => PySem.W.bind_fn X self hf) (.inl rfl) h
end
def putF (f : Str) (v : V) : List (Str × V) → List (Str × V)
  | [] => [(f,v)]
  | (g,x) :: r => if g = f then (g,v) :: r else (g,x) :: putF f v r
theorem lookup_putF (f g : Str) (v : V) : ∀ fs : List (Str × V),(putF f v fs).lookup g = if g = f then some v else fs.lookup g
  | [] => by
    show List.lookup g [(f,v)] = _
    by_cases h : g = f
    · have hb : (g == f) = true := beq_iff_eq.mpr h
      simp only [List.lookup,hb,if_pos h]
    · have hb : (g == f) = false := beq_eq_false_iff_ne.mpr h
      simp only [List.lookup,hb,if_neg h]
  | (k,x) :: r => by
    have ih := lookup_putF f g v r
    rw [show putF f v ((k,x) :: r) = (if k = f then (k,v) :: r else (k,x) :: putF f v r) from rfl]
    by_cases hk : k = f
    · rw [if_pos hk]
      by_cases h : g = k
      · have hb : (g == k) = true := beq_iff_eq.mpr h
        simp only [List.lookup,hb,if_pos (h.trans hk)]
      · have hb : (g == k) = false := beq_eq_false_iff_ne.mpr h
        simp only [List.lookup,hb,if_neg (fun e : g = f => h (e.trans hk.symm))]
    · rw [if_neg hk]
      by_cases h : g = k
      · have hb : (g == k) = true := beq_iff_eq.mpr h
        simp only [List.lookup,hb,if_neg (fun e : g = f => hk (h.symm.trans e))]
      · have hb : (g == k) = false := beq_eq_false_iff_ne.mpr h
        simp only [List.lookup,hb]
        exact ih
theorem keys_putF (f : Str) (v : V) : ∀ fs : List (Str × V),f ∈ (putF f v fs).map (·.1) ∧ ∀ g,g ∈ fs.map (·.1) → g ∈ (putF f v fs).map (·.1)
  | [] => ⟨by simp [putF],fun g h => by simp at h⟩
  | (k,x) :: r => by
    obtain ⟨i1,i2⟩ := keys_putF f v r
    rw [show putF f v ((k,x) :: r) = (if k = f then (k,v) :: r else (k,x) :: putF f v r) from rfl]
    by_cases hk : k = f
    · rw [if_pos hk]
      subst hk
      exact ⟨by simp,fun g h => by simpa using h⟩
    · rw [if_neg hk]
      refine ⟨?_,fun g h => ?_⟩
      · rw [List.map_cons]
        exact List.mem_cons_of_mem _ i1
      · rw [List.map_cons] at h ⊢
        rcases List.mem_cons.mp h with e | e
        · exact List.mem_cons.mpr (.inl e)
        · exact List.mem_cons_of_mem _ (i2 g e)
theorem length_putF (f : Str) (v : V) : ∀ fs : List (Str × V),(putF f v fs).length ≤ fs.length + 1
  | [] => by simp [putF]
  | (k,x) :: r => by
    have ih := length_putF f v r
    rw [show putF f v ((k,x) :: r) = (if k = f then (k,v) :: r else (k,x) :: putF f v r) from rfl]
    by_cases hk : k = f
    · rw [if_pos hk,List.length_cons,List.length_cons]; omega
    · rw [if_neg hk,List.length_cons,List.length_cons]; omega
theorem RelO.some_of {v : V} {o : Option Value} (r : RelO (some v) o) : ∃ u,o = some u ∧ RelV v u := by
  cases o with
  | none => exact (show False from r).elim
  | some u => exact ⟨u,rfl,r⟩
theorem RelO.none_of {o : Option Value} (r : RelO none o) : o = none := by
  cases o with
  | none => rfl
  | some u => exact (show False from r).elim
theorem handed_of {v : V} {u : Value} (r : RelV v u) : PySem.W.handedIn u = true := by
  cases v with
  | non => cases (show u = Value.none from r); rfl
  | bl b => cases (show u = Value.bool b from r); rfl
  | int i => obtain ⟨t,e⟩ := (show ∃ t,u = Value.int i t from r); cases e; rfl
  | str x => obtain ⟨t,e⟩ := (show ∃ t,u = Value.str x t from r); cases e; rfl
  | byt b => obtain ⟨t,e⟩ := (show ∃ t,u = Value.bytes b t from r); cases e; rfl
  | flt b => obtain ⟨t,e⟩ := (show ∃ t,u = Value.float b t from r); cases e; rfl
  | ref a => cases (show u = Value.ref a from r); rfl
  | ty n => cases (show u = Value.type n from r); rfl
section
variable {P : Program} {w : World} {H H' : Hp} {h h' : Heap} {a C dx : Addr} {fs fs' : List (Str × V)}
theorem ins_get (hok : HOk P w H h) (e : H a = some (.ins C dx fs)) : ∃ mA,ObjM h a dx C mA ∧ (∀ f,RelO (fs.lookup f) (mA f)) ∧ PySem.Within mA (fs.map (·.1)) ∧ fs.length ≤ 1000 ∧ H dx = some (.own a) := by
  obtain ⟨d,z,ne,ob,mA,n,r,q⟩ := (show ObjOk P w H h a (.ins C dx fs) from hok a _ e)
  exact ⟨mA,⟨ob,n,ne⟩,r,q,z,d⟩
end
structure Cls (K : PySem.W.Frag) (C : Addr) : Prop where
  pg : PySem.W.plainGet K C Str.empty = true
  hd : PySem.W.hasDictIn K C = true
  po : PySem.W.plainOver K C = true
  sa : PySem.W.findIn K (.ref C) "__setattr__" = some (some (.builtin "object.__setattr__"))
theorem Cls.get {K : PySem.W.Frag} {C : Addr} (c : Cls K C) (f : Str) : PySem.W.plainGet K C f = true := c.pg
def NoAttr (K : PySem.W.Frag) (C : Addr) (f : Str) : Prop := PySem.W.findIn K (.ref C) f = some none
theorem NoAttr.taker {K : PySem.W.Frag} {C : Addr} {f : Str} (n : NoAttr K C f) : PySem.W.takerIn K C f = some none := by
  unfold PySem.W.takerIn
  rw [show PySem.W.findIn K (.ref C) f = some none from n]
  rfl
structure Con (K : PySem.W.Frag) (C : Addr) (f : Str) (v : V) (u : Value) : Prop where
  at_ : PySem.W.findIn K (.ref C) f = some (some u)
  rel : RelV v u
  get : PySem.W.specialIn K u "__get__" = some none
  cp : PySem.W.copiedNames.contains f = false
structure Meth (K : PySem.W.Frag) (C : Addr) (m : Str) (f : Addr) : Prop where
  at_ : PySem.W.findIn K (.ref C) m = some (some (.ref f))
  fn : PySem.W.isFn K (.ref f) = true
  kp : PySem.W.keepIn K (.ref f) = true
section
variable {X : Cx} {pins : List (Addr × Obj)} {σ : St} {H : Hp} {s : Shared} {a C dx : Addr} {fs : List (Str × V)} {f : Str} {v : V} {A : Around} {E : Value → Shared → Prop}
theorem getattr_ok {b : Bool} {Q : Value → Shared → Prop} (I : Inv X pins σ H s) (e : H a = some (.ins C dx fs)) (c : Cls X.K C) (n : NoAttr X.K C f) (l : fs.lookup f = some v)
    (h : ∀ u s',Inv X pins σ H s' → RelV v u → Q u s') : wpAny (model X.prog X.w) A (getAttr (.ref a) f b) Q E s := by
  obtain ⟨mA,O,r,_,_,_⟩ := ins_get I.hok e
  obtain ⟨u,hu,ru⟩ := RelO.some_of (v := v) (o := mA f) (by rw [← l]; exact r f)
  exact get_map I.kIn O (c.get f) c.hd n hu (handed_of ru) (h u _ (I.tok _) ru)
theorem getmeth_ok {m : Str} {g : Addr} {pl : Sem Bool} {Q : Value × List Value → Shared → Prop} (I : Inv X pins σ H s) (e : H a = some (.ins C dx fs)) (c : Cls X.K C) (k : Meth X.K C m g) (l : fs.lookup m = none)
    (h : Q (.ref g,[.ref a]) s) : wpAny (model X.prog X.w) A (getMethod (.ref a) m pl) Q E s := by
  obtain ⟨mA,O,r,_,_,_⟩ := ins_get I.hok e
  have hn : mA m = none := RelO.none_of (by rw [← l]; exact r m)
  exact get_meth I.kIn O (c.get m) k.at_ k.fn hn h
theorem setattr_ok {y : V} {u : Value} {Q : Unit → Shared → Prop} (I : Inv X pins σ H s) (e : H a = some (.ins C dx fs)) (c : Cls X.K C) (n : NoAttr X.K C f) (hl : fs.length < 1000) (ry : RelV y u)
    (h : ∀ s',Inv X pins σ (upd H a (.ins C dx (putF f y fs))) s' → Q () s') : wpAny (model X.prog X.w) A (setAttr (.ref a) f u) Q E s := by
  obtain ⟨mA,O,r,wi,_,ho⟩ := ins_get I.hok e
  have hz : (fs.map (·.1)).length ≤ sizeLine := by rw [List.length_map,sizeLine_eq]; omega
  refine set_map I.kIn O c.sa c.po n.taker c.hd wi hz fun h' O' sb => h _ ?_
  have hd : ∃ o,h'.get? dx = some o := let ⟨o,_,_,e',_⟩ := O'.ns; ⟨o,e'⟩
  refine I.write (x := a) (e := dx) (by rw [e]; exact True.intro) (.inr ho) (fun b q hb z => (sb.2 b hb).trans z) hd ?_
  refine ⟨by rw [upd_ne O.ne]; exact ho,?_,O.ne,O'.obj,_,O'.ns,fun g => ?_,fun g hg => ?_⟩
  · have := length_putF f y fs; omega
  · show RelO ((putF f y fs).lookup g) (if g = f then some u else mA g)
    rw [lookup_putF]
    by_cases q : g = f
    · rw [if_pos q,if_pos q]; exact ry
    · rw [if_neg q,if_neg q]; exact r g
  · by_cases q : g = f
    · rw [q]; exact (keys_putF f y fs).1
    · refine (keys_putF f y fs).2 g (wi g fun z => hg ?_)
      show (if g = f then some u else mA g) = none
      rw [if_neg q]; exact z
theorem Inv.made (I : Inv X pins σ H s) : Inv X pins σ (upd (upd H s.heap.objs.size (.own (s.heap.objs.size + 1))) (s.heap.objs.size + 1) (.ins C s.heap.objs.size []))
    { s with heap := (s.heap.push PySem.W.emptyDict).push (PySem.W.instObj C s.heap.objs.size) } := by
  have e1 : (s.heap.push PySem.W.emptyDict).get? s.heap.objs.size = some PySem.W.emptyDict := Heap.get?_push_size s.heap rfl
  have e2 : ((s.heap.push PySem.W.emptyDict).push (PySem.W.instObj C s.heap.objs.size)).get? (s.heap.objs.size + 1) = some (PySem.W.instObj C s.heap.objs.size) := by
    have := Heap.get?_push_size (s.heap.push PySem.W.emptyDict) (o := PySem.W.instObj C s.heap.objs.size) rfl
    rwa [Heap.size_push] at this
  have e3 : (s.heap.push PySem.W.emptyDict).Ns s.heap.objs.size (fun _ => none) := ⟨PySem.W.emptyDict,#[],_,e1,rfl,(fun e he => absurd he (by simp)),fun _ => rfl⟩
  have I1 := I.laid (a := s.heap.objs.size) (o := .own (s.heap.objs.size + 1)) (h' := s.heap.push PySem.W.emptyDict) (t' := s.toks) (fun b u q => Heap.get?_push_of_some _ q) (Nat.le_refl _) ⟨_,e1⟩
  refine I1.laid (a := s.heap.objs.size + 1) (o := .ins C s.heap.objs.size []) (t' := s.toks) (fun b u q => Heap.get?_push_of_some _ q) (Nat.le_of_eq (Heap.size_push _ _)) ?_
  have ne : s.heap.objs.size ≠ s.heap.objs.size + 1 := Nat.ne_of_lt (Nat.lt_succ_self _)
  refine ⟨by rw [upd_ne ne,upd_same],Nat.zero_le _,ne,e2,fun _ => none,(Heap.Ns1.of_empty e3).at fun o q => Heap.get?_push_of_some _ q,fun _ => True.intro,fun y hy => absurd rfl hy⟩
theorem attr_of {prog : Program} {w : World} {env : Env} {e : Expr} {f : Str} {pos : Pos} {s : Shared} {Q : Value → Shared → Prop} (hb : attributeBase e f env (eval e env) = eval e env)
    (h : wpAny (model prog w) A (eval e env) (fun o s₁ => wpAny (model prog w) A (getAttr o f true) Q E s₁) E s) : wpAny (model prog w) A (eval (.Attribute e f pos) env) Q E s :=
  Attribute_any_ h (by rw [arm_eval_Attribute,hb])
end
def tFld (K : PySem.W.Frag) (ta : TE) (f : Str) : TE := fun σ H Q => ta σ H fun x H1 => ∃ a C dx fs v,x = .ref a ∧ H1 a = some (.ins C dx fs) ∧ Cls K C ∧ NoAttr K C f ∧ fs.lookup f = some v ∧ Q v H1
def sFld (K : PySem.W.Frag) (ta tv : TE) (f : Str) : TS := fun D σ H => tv σ H fun y H1 => ta σ H1 fun x H2 => ∃ a C dx fs,x = .ref a ∧ H2 a = some (.ins C dx fs) ∧ Cls K C ∧ NoAttr K C f ∧ fs.length < 1000 ∧
  D.nx σ (upd H2 a (.ins C dx (putF f y fs)))
section
variable {X : Cx} {o e value : Expr} {f : Str} {pos pos' tpos : Pos} {ta tv : TE}
theorem pe_fld (he : PE X e ta) (hb : attributeBase e f X.env (eval e X.env) = eval e X.env) : PE X (.Attribute e f pos) (tFld X.K ta f) := by
  intro pins s σ H Q I h
  refine attr_of hb (thn (he pins s σ H _ I h) fun u s1 ⟨x,H1,I1,rx,a,C,dx,fs,v,ex,ea,c,n,l,q⟩ => ?_)
  subst ex
  obtain rfl : u = Value.ref a := rx
  exact getattr_ok I1 ea c n l fun u' s2 I2 ru => ⟨v,H1,I2,ru,q⟩
theorem ps_fld (ha : PE X o ta) (hv : PE X value tv) (hs : swapsWith value (some (.Attribute o f pos')) pos.line X.env = pure false) : PS X (.Assign [.Attribute o f pos'] value pos) (sFld X.K ta tv f) := by
  intro pins s σ H D I h
  refine plainObj_wpAny_Assign_Attribute (thn (hv pins s σ H _ I h) fun u s1 ⟨y,H1,I1,ry,q⟩ => thn (ha pins s1 σ H1 _ I1 q) fun ov s2 ⟨x,H2,I2,rx,a,C,dx,fs,ex,ea,c,n,l,q2⟩ => ?_) hs
  subst ex
  obtain rfl : ov = Value.ref a := rx
  exact setattr_ok I2 ea c n l ry fun s3 I3 => ⟨σ,_,I3,q2⟩
theorem methcall_of {pl : Sem Bool} {m : Str} {apos : Pos} {args : List Expr} {pins : List (Addr × Obj)} {s : Shared} {σ : St} {H : Hp} {Q : Value → Shared → Prop} {te : TE} (he : PE X e te) (I : Inv X pins σ H s)
    (h : te σ H fun x H1 => ∃ a C dx fs g,x = .ref a ∧ H1 a = some (.ins C dx fs) ∧ Cls X.K C ∧ Meth X.K C m g ∧ fs.lookup m = none ∧
      ∀ s1,Inv X pins σ H1 s1 → wpAny (model X.prog X.w) X.A (callWith pos (.ref g) [.ref a] (backTo pos (starEach args X.env)) (backToKw pos (keywordEach [] X.env))) Q X.xe s1)
    (ht : eval (.Call (.Attribute e m apos) args [] pos) X.env = (do
      let ov ← eval e X.env
      standAt apos.atName
      let (f,first) ← holding [ov] (getMethod ov m pl)
      callWith pos f first (backTo pos (starEach args X.env)) (backToKw pos (keywordEach [] X.env)))) :
    wpAny (model X.prog X.w) X.A (eval (.Call (.Attribute e m apos) args [] pos) X.env) Q X.xe s := by
  refine PySem.W.methodCall_KW (pl := pl) (thn (he pins s σ H _ I h) fun u s1 ⟨x,H1,I1,rx,a,C,dx,fs,g,ex,ea,c,k,l,q⟩ => ?_) ht
  subst ex
  obtain rfl : u = Value.ref a := rx
  exact getmeth_ok I1 ea c k l (q s1 I1)
end
section
variable {X : Cx} {pins : List (Addr × Obj)} {σ : St} {H : Hp} {s : Shared} {A : Around} {E : Value → Shared → Prop} {Q : Value → Shared → Prop} {c : Value} {b : Bool}
inductive TyOf (K : PySem.W.Frag) (H : Hp) : V → Value → Prop where
  | non : TyOf K H .non (.type "NoneType")
  | bl (x : Bool) : TyOf K H (.bl x) (.type "bool")
  | int (i : Int) : TyOf K H (.int i) (.type "int")
  | str (x : Str) : TyOf K H (.str x) (.type "str")
  | flt (x : UInt64) : TyOf K H (.flt x) (.type "float")
  | lst {a : Addr} {xs : List V} (e : H a = some (.lst xs)) : TyOf K H (.ref a) (.type "list")
  | frz {a : Addr} {o : Obj} {xs : List V} (e : H a = some (.frz o (.lst xs))) : TyOf K H (.ref a) (.type "list")
  | tup {a : Addr} {xs : List V} (e : H a = some (.tup xs)) : TyOf K H (.ref a) (.type "tuple")
  | dK {a : Addr} {kvs : List (Key × V)} (e : H a = some (.dK kvs)) : TyOf K H (.ref a) (.type "dict")
  | dT {a : Addr} {kvs : List (List Key × V)} (e : H a = some (.dT kvs)) : TyOf K H (.ref a) (.type "dict")
  | ins {a C dx : Addr} {fs : List (Str × V)} (e : H a = some (.ins C dx fs)) (cl : Cls K C) (ha : PySem.W.findIn K (.ref C) "__class__" = some (some (.builtin "object.__class__")))
      (hn : PySem.W.specialIn K (.builtin "object.__class__") "__get__" = some (some (.builtin "getset_descriptor.__get__"))) (htk : PySem.W.takesIn K (.builtin "object.__class__") = some true)
      (hm : PySem.W.mroIn K C (.type "object") = some true) : TyOf K H (.ref a) (.ref C)
theorem isinst_ok {x : V} {u t : Value} (I : Inv X pins σ H s) (rx : RelV x u) (ty : TyOf X.K H x t) (e : PySem.W.kitOne X.K t c = some b) (h : ∀ tk,Q (.bool b) { s with toks := tk }) :
    wpAny (model X.prog X.w) A (call (.builtin "isinstance") [u,c]) Q E s := by
  cases ty with
  | non => cases (show u = Value.none from rx); exact PySem.W.kia_one PySem.W.kitx_none I.kIn True.intro e (fun z => nomatch z) h
  | bl y => cases (show u = Value.bool y from rx); exact PySem.W.kia_one PySem.W.kitx_bool I.kIn True.intro e (fun z => nomatch z) h
  | int i => obtain ⟨t,q⟩ := (show ∃ t,u = Value.int i t from rx); cases q; exact PySem.W.kia_one PySem.W.kitx_int I.kIn True.intro e (fun z => nomatch z) h
  | str y => obtain ⟨t,q⟩ := (show ∃ t,u = Value.str y t from rx); cases q; exact PySem.W.kia_one PySem.W.kitx_str I.kIn True.intro e (fun z => nomatch z) h
  | flt y => obtain ⟨t,q⟩ := (show ∃ t,u = Value.float y t from rx); cases q; exact PySem.W.kia_one PySem.W.kitx_float I.kIn True.intro e (fun z => nomatch z) h
  | @lst a xs ea =>
    cases (show u = Value.ref a from rx)
    obtain ⟨_,_,n,_,h1⟩ := (show ObjOk X.prog X.w H s.heap a (.lst xs) from I.hok a _ ea)
    exact PySem.W.kia_one PySem.W.kitx_list I.kIn ⟨_,h1,rfl⟩ e (fun z => nomatch z) h
  | @frz a ob xs ea =>
    cases (show u = Value.ref a from rx)
    obtain ⟨_,_,_,n,_,h1⟩ := (show ObjOk X.prog X.w H s.heap a (.frz ob (.lst xs)) from I.hok a _ ea)
    exact PySem.W.kia_one PySem.W.kitx_list I.kIn ⟨_,h1,rfl⟩ e (fun z => nomatch z) h
  | @tup a xs ea =>
    cases (show u = Value.ref a from rx)
    obtain ⟨_,_,_,p⟩ := (show ObjOk X.prog X.w H s.heap a (.tup xs) from I.hok a _ ea)
    obtain ⟨o,h1,h2,_⟩ := p
    exact PySem.W.kia_one PySem.W.kitx_tuple I.kIn ⟨o,h1,h2⟩ e (fun z => nomatch z) h
  | @dK a kvs ea =>
    cases (show u = Value.ref a from rx)
    obtain ⟨_,_,vs,_,p⟩ := (show ObjOk X.prog X.w H s.heap a (.dK kvs) from I.hok a _ ea)
    obtain ⟨o,es,ep,h1,h2,_⟩ := p
    exact PySem.W.kia_one PySem.W.kitx_dict I.kIn ⟨o,h1,h2.1⟩ e (fun z => nomatch z) h
  | @dT a kvs ea =>
    cases (show u = Value.ref a from rx)
    obtain ⟨_,_,xs,_,o,es,ep,h1,h2,_⟩ := (show ObjOk X.prog X.w H s.heap a (.dT kvs) from I.hok a _ ea)
    exact PySem.W.kia_one PySem.W.kitx_dict I.kIn ⟨o,h1,h2.1⟩ e (fun z => nomatch z) h
  | @ins a C dx fs ea cl ha hn htk hm =>
    cases (show u = Value.ref a from rx)
    obtain ⟨mA,O,_⟩ := ins_get I.hok ea
    obtain ⟨od,J,_⟩ := O.look
    exact PySem.W.kia_one (PySem.W.kitx_own (cl.get _) cl.hd ha hn htk hm) I.kIn J e (fun z => nomatch z) h
end
end L2
namespace L2
open PySem PySem.Spec PyProof.Rows
structure Room (k : Nat) (A : Around) : Prop where
  hd : A.handled = none
  dp : A.depth + 3 * k + 5 < recursionLimit
  un : A.units + 16 * k + 200 < cLine
  gd : A.guards = some []
theorem Room.mono {j k : Nat} {A : Around} (r : Room k A) (h : j ≤ k) : Room j A := ⟨r.hd,by have := r.dp; omega,by have := r.un; omega,r.gd⟩
theorem Room.deeper {k : Nat} {A : Around} (r : Room (k + 1) A) (env : Env) : Room k (A.deeper env) :=
  ⟨r.hd,by have := r.dp; show A.depth + 1 + 3 * k + 5 < _; omega,by have := r.un; show A.units + 3 + 16 * k + 200 < _; omega,r.gd⟩
theorem make_depth {A : Around} {C : Addr} {us : List Value} {kw : List (Str × Value)} : (A.under (.builtin "type.__call__" ⟨.ref C :: us,kw⟩)).depth = A.depth + 1 := by
  first | rfl | simp [Around.under,Code.weight,Code.isCreation,Code.isGuard,Code.isCaller,Code.frames,Code.isFrame,guardIds]
theorem make_units {A : Around} {C : Addr} {us : List Value} {kw : List (Str × Value)} : (A.under (.builtin "type.__call__" ⟨.ref C :: us,kw⟩)).units = A.units + 1 := by
  first | rfl | simp [Around.under,Code.cUnits,Code.frames,Code.isFrame]
theorem make_guards {A : Around} {C : Addr} {us : List Value} {kw : List (Str × Value)} : (A.under (.builtin "type.__call__" ⟨.ref C :: us,kw⟩)).guards = A.guards := by
  have e : Code.guards (.builtin "type.__call__" ⟨.ref C :: us,kw⟩) = [] := by
    have : (Code.builtin "type.__call__" ⟨.ref C :: us,kw⟩).isGuard = false := by show guardIds.contains "type.__call__" = false; decide +kernel
    simp [Code.guards,this]
  unfold Around.under
  dsimp only
  rw [e]
  rfl
theorem Room.make {k : Nat} {A : Around} (r : Room (k + 1) A) (C : Addr) (us : List Value) (kw : List (Str × Value)) : Room k (A.under (.builtin "type.__call__" ⟨.ref C :: us,kw⟩)) :=
  ⟨r.hd,by have := r.dp; rw [make_depth]; omega,by have := r.un; rw [make_units]; omega,by rw [make_guards]; exact r.gd⟩
theorem Room.depth {k : Nat} {A : Around} (r : Room k A) : A.depth < recursionLimit := by have := r.dp; omega
theorem Room.units {k : Nat} {A : Around} (r : Room k A) : A.units + 64 < cLine := by have := r.un; omega
def tNil : TA := fun _ H Q => Q [] H
def tCons (ta : TE) (tr : TA) : TA := fun σ H Q => ta σ H fun x H1 => tr σ H1 fun xs H2 => Q (x :: xs) H2
section
variable {X : Cx} {e : Expr} {es : List Expr} {te : TE} {t : TA} {pos : Pos}
theorem pa_nil : PA X [] tNil := fun _ _ _ _ H Q I h => Calls.spliced_nil ⟨[],H,I,.nil,h⟩
theorem pa_cons (ha : PE X e te) (hr : PA X es t) (hs : starEach (e :: es) X.env = (false,eval e X.env) :: starEach es X.env := by rfl) : PA X (e :: es) (tCons te t) := by
  intro pos pins s σ H Q I h
  rw [hs]
  show wpAny _ _ (spliced ((false,eval e X.env) :: backTo pos (starEach es X.env))) _ _ s
  refine Calls.spliced_cons (thn (ha pins s σ H _ I h) fun u s1 ⟨x,H1,I1,r1,q1⟩ => ?_)
  exact thn (hr pos pins s1 σ H1 _ I1 q1) fun us s2 ⟨xs,H2,I2,r2,q2⟩ => ⟨x :: xs,H2,I2,.cons r1 r2,q2⟩
def tTup (t : TA) : TE := fun σ H Q => t σ H fun xs H1 => xs.length ≤ sizeLine ∧ ∀ p,H1 p = none → Q (.ref p) (upd H1 p (.tup xs))
def tLst (t : TA) : TE := fun σ H Q => t σ H fun xs H1 => xs.length ≤ sizeLine ∧ ∀ p,H1 p = none → Q (.ref p) (upd H1 p (.lst xs))
theorem pe_tup {x1} (h : PA X es t) : PE X (.Tuple es x1 pos) (tTup t) := by
  intro pins s σ H Q I hq
  refine wpAny_Tuple_spliced (thn (h pos pins s σ H _ I hq) fun us s1 ⟨xs,H1,I1,r,z,q⟩ => ⟨by rw [← r.length]; exact z,?_⟩)
  have hf : H1 s1.heap.objs.size = none := I1.hok.fresh (Nat.le_refl _)
  refine ⟨.ref s1.heap.objs.size,upd H1 s1.heap.objs.size (.tup xs),I1.laid (t' := s1.toks) (fun b u e => Heap.get?_push_of_some _ e) (Nat.le_refl _) ?_,rfl,q _ hf⟩
  exact ⟨z,us,r,⟨_,Heap.get?_push_size _ rfl,rfl,_,rfl⟩⟩
theorem pe_lst (h : PA X es t) : PE X (.List es pos) (tLst t) := by
  intro pins s σ H Q I hq
  refine wpAny_List_spliced (thn (h pos pins s σ H _ I hq) fun us s1 ⟨xs,H1,I1,r,z,q⟩ => ⟨by rw [← r.length]; exact z,?_⟩)
  have hf : H1 s1.heap.objs.size = none := I1.hok.fresh (Nat.le_refl _)
  refine ⟨.ref s1.heap.objs.size,upd H1 s1.heap.objs.size (.lst xs),I1.laid (t' := s1.toks) (fun b u e => Heap.get?_push_of_some _ e) (Nat.le_refl _) ?_,rfl,q _ hf⟩
  exact ⟨z,us,0,r,Heap.get?_push_size _ rfl⟩
end
abbrev Sp := List V → Hp → VK → XK → Prop
abbrev CXT := List Env → Hp → Shared → XK → Value → Shared → Prop
structure Env0 (P : Program) (w : World) (K : PySem.W.Frag) (mg : Str → Option Value) (base : Heap) (A : Around) (outer : List Env) (s : Shared) (H : Hp) : Prop where
  frames : A.frames = some outer
  mod : Mod K mg base
  bs : ∀ b o,base.get? b = some o → s.heap.get? b = some o ∧ H b = none
  bsz : base.objs.size ≤ s.heap.objs.size
  funs : s.heap.FunFrames base outer
  frf : ∀ b ∈ frs outer,H b = none
  hok : HOk P w H s.heap
  bare : AllBare s.gens
def CE (outer : List Env) (P : Program) (w : World) (H : Hp) (s : Shared) (Q : VK) (u : Value) (s' : Shared) : Prop :=
  ∃ v H',s'.os = s.os ∧ AllBare s'.gens ∧ Un (frs outer) [] H H' s.heap s'.heap ∧ HOk P w H' s'.heap ∧ RelV v u ∧ Q v H'
def CR (CX : CXT) (outer : List Env) (P : Program) (w : World) (H : Hp) (s : Shared) (Q : VK) (E : XK) (r : Result) (s' : Shared) : Prop :=
  match r with
  | .ok (.ret u) => CE outer P w H s Q u s'
  | .ok _ => False
  | .error e => CX outer H s E e s'
structure FnOk (P : Program) (w : World) (K : PySem.W.Frag) (mg : Str → Option Value) (base : Heap) (CX : CXT) (k : Nat) (f : Addr) (fd : FuncData) (ps : List Str) (sp : Sp) : Prop where
  len : ∀ vs H Q E,sp vs H Q E → vs.length = ps.length
  run : ∀ (A : Around) (outer : List Env) (s : Shared) (H : Hp) (args : Args) (us : List Value) (vs : List V) (Q : VK) (E : XK),Room k A → Env0 P w K mg base A outer s H → BindsTo s fd args (ps.zip us) → Vals vs us → sp vs H Q E →
    codeAny (model P w) A (.call (.ref f) args) (CR CX outer P w H s Q E) s
theorem Env0.make {P : Program} {w : World} {K : PySem.W.Frag} {mg : Str → Option Value} {base : Heap} {A : Around} {outer : List Env} {s : Shared} {H : Hp} (e : Env0 P w K mg base A outer s H) (C : Addr) (us : List Value) (kw : List (Str × Value)) :
    Env0 P w K mg base (A.under (.builtin "type.__call__" ⟨.ref C :: us,kw⟩)) outer s H := ⟨by first | exact e.frames | (simpa [Around.under,Code.envs,Code.isFrame,pushEnvs] using e.frames),e.mod,e.bs,e.bsz,e.funs,e.frf,e.hok,e.bare⟩
section
variable {X : Cx} {pins : List (Addr × Obj)} {σ : St} {H : Hp} {s s' : Shared}
theorem Inv.env0 (I : Inv X pins σ H s) : Env0 X.prog X.w X.K X.mg X.base X.A X.stack s H :=
  ⟨I.ok.frames,I.ok.mod,I.bs,Nat.le_trans I.ok.bsz I.sz,I.stack,I.stkFree,I.hok,I.bare⟩
theorem Inv.after {Q : VK} {u : Value} (I : Inv X pins σ H s) (h : CE X.stack X.prog X.w H s Q u s') : EP X pins σ Q u s' := by
  obtain ⟨v,H',os,bare,un,hok,r,q⟩ := h
  obtain ⟨hh,g,d,t,os'⟩ := s'
  obtain rfl : os' = s.os := os
  exact ⟨v,H',I.call (h' := hh) (g' := g) (d' := d) (t' := t) (ch := []) un hok bare (fun b z => absurd z (by simp)),r,q⟩
end
def tCall (sp : Sp) (dvs : List V) (E : XK) (t : TA) : TE := fun σ H Q => t σ H fun vs H1 => sp (vs ++ dvs) H1 Q E
def tMeth (C : Addr) (m : Str) (sp : Sp) (dvs : List V) (E : XK) (ta : TE) (t : TA) : TE := fun σ H Q => ta σ H fun x H1 => ∃ a dx fs,x = .ref a ∧ H1 a = some (.ins C dx fs) ∧ fs.lookup m = none ∧
  t σ H1 fun vs H2 => sp (x :: (vs ++ dvs)) H2 Q E
def tMake (C : Addr) (sp : Sp) (dvs : List V) (E : XK) (t : TA) : TE := fun σ H Q => t σ H fun vs H1 => ∀ x dx,H1 x = none → H1 dx = none → dx ≠ x →
  sp (.ref x :: (vs ++ dvs)) (upd (upd H1 dx (.own x)) x (.ins C dx [])) (fun v H2 => v = .non ∧ Q (.ref x) H2) E
def Binds (K : PySem.W.Frag) (fd : FuncData) (ps : List Str) (ds : List Value) : Prop :=
  ∀ (s : Shared) (us : List Value),K.In s.heap → (us ++ ds).length = ps.length → BindsTo s fd ⟨us,[]⟩ (ps.zip (us ++ ds))
theorem Binds.all {K : PySem.W.Frag} {fd : FuncData} {ps : List Str} (h : ∀ us : List Value,us.length = ps.length → bindArgs fd ⟨us,[]⟩ = pure (ps.zip us)) : Binds K fd ps [] := fun s us _ hl => by
  rw [List.append_nil] at hl ⊢
  exact .of_eq (h us hl)
def Passes (CX : CXT) (X : Cx) (E : XK) : Prop := ∀ (pins : List (Addr × Obj)) (σ : St) (H : Hp) (s : Shared) (e : Value) (s' : Shared),Inv X pins σ H s → CX X.stack H s E e s' → X.xe e s'
section
variable {X : Cx} {CX : CXT} {k : Nat} {f C : Addr} {fd : FuncData} {ps : List Str} {sp : Sp} {dvs : List V} {ds : List Value} {E : XK} {x m : Str} {p pos apos : Pos} {e o : Expr} {es : List Expr} {ta : TE} {t : TA}
theorem run_fn {pins : List (Addr × Obj)} {σ : St} {H : Hp} {s : Shared} {Q : VK} {us : List Value} {vs : List V} (F : FnOk X.prog X.w X.K X.mg X.base CX k f fd ps sp) (hr : Room k X.A) (hb : Binds X.K fd ps ds) (hd : Vals dvs ds) (hx : Passes CX X E)
    (I : Inv X pins σ H s) (r : Vals vs us) (h : sp (vs ++ dvs) H Q E) : wpAny (model X.prog X.w) X.A (call (.ref f) us) (EP X pins σ Q) X.xe s := by
  have r2 : Vals (vs ++ dvs) (us ++ ds) := r.append hd
  have hl : (us ++ ds).length = ps.length := by rw [← r2.length]; exact F.len _ _ _ _ h
  refine wpAny_call (codeAny_mono (F.run X.A X.stack s H ⟨us,[]⟩ (us ++ ds) (vs ++ dvs) Q E hr I.env0 (hb s us I.kIn hl) r2 h) fun r s' hq => ?_)
  cases r with
  | error e => exact hx pins σ H s e s' I hq
  | ok fl =>
    cases fl with
    | ret u => exact I.after hq
    | next => exact False.elim hq
    | brk => exact False.elim hq
    | cont => exact False.elim hq
theorem pe_call (F : FnOk X.prog X.w X.K X.mg X.base CX k f fd ps sp) (hr : Room k X.A) (hg : Gl X x) (hm : X.mg x = some (.ref f)) (hk : PySem.W.keepIn X.K (.ref f) = true) (hb : Binds X.K fd ps ds) (hd : Vals dvs ds) (hx : Passes CX X E)
    (ha : PA X (e :: es) t) (hdb : (x == ("__debug__" : Str)) = false := by decide) (he : starEach (e :: es) X.env = (false,eval e X.env) :: starEach es X.env := by rfl) (hpl : (backTo pos (starEach es X.env)).any (·.1) = false := by rfl) :
    PE X (.Call (.Name x p) (e :: es) [] pos) (tCall sp dvs E t) := by
  intro pins s σ H Q I h
  refine wpAny_Call_Name_kw (ld_glob I hg hm ?_ hdb)
  refine PySem.W.callWith_K (h₀ := X.base) I.ok.mod.kin hk (thn (ha pos pins s σ H _ I h) fun us s1 ⟨vs,H1,I1,r,q⟩ => ⟨I1.kIn,?_⟩) he hpl
  exact run_fn F hr hb hd hx I1 r q
theorem pe_meth {pl : Sem Bool} (he : PE X o ta) (c : Cls X.K C) (hm : Meth X.K C m f) (F : FnOk X.prog X.w X.K X.mg X.base CX k f fd ps sp) (hr : Room k X.A) (hb : Binds X.K fd ps ds) (hd : Vals dvs ds) (hx : Passes CX X E) (ha : PA X (e :: es) t)
    (hst : starEach (e :: es) X.env = (false,eval e X.env) :: starEach es X.env := by rfl) (hpl : (backTo pos (starEach es X.env)).any (·.1) = false := by rfl)
    (ht : eval (.Call (.Attribute o m apos) (e :: es) [] pos) X.env = (do
      let ov ← eval o X.env
      standAt apos.atName
      let (f,first) ← holding [ov] (getMethod ov m pl)
      callWith pos f first (backTo pos (starEach (e :: es) X.env)) (backToKw pos (keywordEach [] X.env))) := by rfl) :
    PE X (.Call (.Attribute o m apos) (e :: es) [] pos) (tMeth C m sp dvs E ta t) := by
  intro pins s σ H Q I h
  refine PySem.W.methodCall_KW (pl := pl) (thn (he pins s σ H _ I h) fun u s1 ⟨x,H1,I1,rx,a,dx,fs,ex,ea,l,q⟩ => ?_) ht
  subst ex
  obtain rfl : u = Value.ref a := rx
  refine getmeth_ok I1 ea c hm l ?_
  refine PySem.W.callWith_K (first := [.ref a]) (h₀ := X.base) I.ok.mod.kin hm.kp (thn (ha pos pins s1 σ H1 _ I1 q) fun us s2 ⟨vs,H2,I2,r,q2⟩ => ⟨I2.kIn,?_⟩) hst hpl
  exact run_fn (us := .ref a :: us) (vs := .ref a :: vs) F hr hb hd hx I2 (.cons rfl r) q2
theorem pe_meth0 {pl : Sem Bool} (he : PE X o ta) (c : Cls X.K C) (hm : Meth X.K C m f) (F : FnOk X.prog X.w X.K X.mg X.base CX k f fd ps sp) (hr : Room k X.A) (hb : Binds X.K fd ps ds) (hd : Vals dvs ds) (hx : Passes CX X E)
    (ht : eval (.Call (.Attribute o m apos) [] [] pos) X.env = (do
      let ov ← eval o X.env
      standAt apos.atName
      let (f,first) ← holding [ov] (getMethod ov m pl)
      callWith pos f first (backTo pos (starEach [] X.env)) (backToKw pos (keywordEach [] X.env))) := by rfl) :
    PE X (.Call (.Attribute o m apos) [] [] pos) (tMeth C m sp dvs E ta tNil) := by
  intro pins s σ H Q I h
  refine PySem.W.methodCall_KW (pl := pl) (thn (he pins s σ H _ I h) fun u s1 ⟨x,H1,I1,rx,a,dx,fs,ex,ea,l,q⟩ => ?_) ht
  subst ex
  obtain rfl : u = Value.ref a := rx
  refine getmeth_ok I1 ea c hm l ?_
  exact PySem.W.callWith_K0 (first := [.ref a]) I1.kIn hm.kp (run_fn (us := [.ref a]) (vs := [.ref a]) F hr hb hd hx I1 (.cons rfl .nil) q)
structure Mk (K : PySem.W.Frag) (C f : Addr) : Prop where
  makes : PySem.W.makesIn K C = true
  init : PySem.W.findIn K (.ref C) "__init__" = some (some (.ref f))
  fn : PySem.W.isFn K (.ref f) = true
  kp : PySem.W.keepIn K (.ref C) = true
theorem run_make {pins : List (Addr × Obj)} {σ : St} {H : Hp} {s : Shared} {Q : VK} {us : List Value} {vs : List V} (M : Mk X.K C f) (F : FnOk X.prog X.w X.K X.mg X.base CX k f fd ps sp) (hr : Room (k + 1) X.A) (hb : Binds X.K fd ps ds) (hd : Vals dvs ds)
    (hx : Passes CX X E) (I : Inv X pins σ H s) (r : Vals vs us)
    (h : ∀ x dx,H x = none → H dx = none → dx ≠ x → sp (.ref x :: (vs ++ dvs)) (upd (upd H dx (.own x)) x (.ins C dx [])) (fun v H2 => v = .non ∧ Q (.ref x) H2) E) :
    wpAny (model X.prog X.w) X.A (call (.ref C) us) (EP X pins σ Q) X.xe s := by
  have hq := h (s.heap.objs.size + 1) s.heap.objs.size (I.hok.fresh (Nat.le_succ _)) (I.hok.fresh (Nat.le_refl _)) (Nat.ne_of_lt (Nat.lt_succ_self _))
  have I2 := Inv.made (C := C) I
  have r2 : Vals (V.ref (s.heap.objs.size + 1) :: (vs ++ dvs)) (Value.ref (s.heap.objs.size + 1) :: (us ++ ds)) := .cons rfl (r.append hd)
  have hl : (Value.ref (s.heap.objs.size + 1) :: us ++ ds).length = ps.length := by
    have e := r2.length
    rw [F.len _ _ _ _ hq] at e
    exact e.symm
  refine wpAny_call (make_map (f := f) I.kIn M.makes M.init (beq_iff_eq.mp M.fn) (codeAny_mono (F.run _ X.stack _ _ ⟨Value.ref (s.heap.objs.size + 1) :: us,[]⟩ (Value.ref (s.heap.objs.size + 1) :: (us ++ ds)) _ _ E (hr.make C us [])
    (I2.env0.make C us []) (hb _ (Value.ref (s.heap.objs.size + 1) :: us) I2.kIn hl) r2 hq) fun r s' hq' => ?_))
  cases r with
  | error e => exact hx pins σ _ _ e s' I2 hq'
  | ok fl =>
    cases fl with
    | ret u =>
      obtain ⟨v,H',I3,rv,ev,q3⟩ := I2.after hq'
      subst ev
      exact ⟨rv,⟨V.ref (s.heap.objs.size + 1),H',I3,rfl,q3⟩⟩
    | next => exact False.elim hq'
    | brk => exact False.elim hq'
    | cont => exact False.elim hq'
theorem pe_make (M : Mk X.K C f) (F : FnOk X.prog X.w X.K X.mg X.base CX k f fd ps sp) (hr : Room (k + 1) X.A) (hg : Gl X x) (hm : X.mg x = some (.ref C)) (hb : Binds X.K fd ps ds) (hd : Vals dvs ds) (hx : Passes CX X E)
    (ha : PA X (e :: es) t) (hdb : (x == ("__debug__" : Str)) = false := by decide) (he : starEach (e :: es) X.env = (false,eval e X.env) :: starEach es X.env := by rfl) (hpl : (backTo pos (starEach es X.env)).any (·.1) = false := by rfl) :
    PE X (.Call (.Name x p) (e :: es) [] pos) (tMake C sp dvs E t) := by
  intro pins s σ H Q I h
  refine wpAny_Call_Name_kw (ld_glob I hg hm ?_ hdb)
  refine PySem.W.callWith_K (h₀ := X.base) I.ok.mod.kin M.kp (thn (ha pos pins s σ H _ I h) fun us s1 ⟨vs,H1,I1,r,q⟩ => ⟨I1.kIn,?_⟩) he hpl
  exact run_make M F hr hb hd hx I1 r q
end
section
variable {X : Cx} {CX : CXT} {k : Nat} {f C : Addr} {fd : FuncData} {ps ks : List Str} {sp : Sp} {E : XK} {x m : Str} {p pos apos kpos : Pos} {e o : Expr} {es : List Expr} {kws : List Keyword} {te ta : TE} {t tk : TA} {nm : Option Str}
structure KBinds (K : PySem.W.Frag) (fd : FuncData) (ps ks : List Str) (g : List Value → List Value → List Value) (gV : List V → List V → List V) : Prop where
  to : ∀ (s : Shared) (us ws : List Value),K.In s.heap → (g us ws).length = ps.length → BindsTo s fd ⟨us,ks.zip ws⟩ (ps.zip (g us ws))
  rel : ∀ {vs : List V} {us : List Value} {zs : List V} {ws : List Value},Vals vs us → Vals zs ws → Vals (gV vs zs) (g us ws)
variable {g : List Value → List Value → List Value} {gV : List V → List V → List V}
end
structure FnScope (N P : List Str) (sc : Scope) : Prop where
  kind : sc.kind = .function
  co : sc.isCoroutine = false
  gen : sc.isGenerator = false
  nd : N.Nodup
  pre : N.take P.length = P
  par : ∀ x ∈ P,sc.names.lookup x = some .local ∨ sc.names.lookup x = some .cell
  nofree : ∀ y ∈ sc.names,y.2 ≠ .free
theorem bindL_out {kindOf : Str → Option NameKind} {x : Str} : ∀ {binds : List (Str × Value)} {m : Str → Option Value},(∀ v,(x,v) ∉ binds) → bindL kindOf binds m x = m x
  | [],_,_ => rfl
  | (n,v) :: r,m,h => by
    unfold bindL
    rw [bindL_out fun w hw => h w (List.mem_cons_of_mem _ hw)]
    split
    · have : x ≠ n := by rintro rfl; exact h v List.mem_cons_self
      simp [this]
    · rfl
theorem bindC_out {kindOf : Str → Option NameKind} {x : Str} : ∀ {binds : List (Str × Value)} {m : Str → Option Value},(∀ v,(x,v) ∉ binds) → bindC kindOf binds m x = m x
  | [],_,_ => rfl
  | (n,v) :: r,m,h => by
    unfold bindC
    rw [bindC_out fun w hw => h w (List.mem_cons_of_mem _ hw)]
    split
    · rfl
    · have : x ≠ n := by rintro rfl; exact h v List.mem_cons_self
      simp [this]
theorem bindL_get {kindOf : Str → Option NameKind} {x : Str} {v : Value} : ∀ {P : List Str} {vs : List Value} {i : Nat} {m : Str → Option Value},P.Nodup → P[i]? = some x → vs[i]? = some v → kindOf x = some .local →
    bindL kindOf (P.zip vs) m x = some v
  | [],_,_,_,_,h,_,_ => by simp at h
  | _ :: _,[],_,_,_,_,h,_ => by simp at h
  | p :: P,w :: vs,0,m,nd,h1,h2,hk => by
    simp at h1 h2; subst h1; subst h2
    show bindL kindOf ((p,w) :: P.zip vs) m p = _
    unfold bindL
    rw [bindL_out fun v hv => (List.nodup_cons.mp nd).1 (List.of_mem_zip hv).1,if_pos hk]
    simp
  | p :: P,w :: vs,i + 1,m,nd,h1,h2,hk => by
    show bindL kindOf ((p,w) :: P.zip vs) m x = _
    unfold bindL
    exact bindL_get (i := i) (List.nodup_cons.mp nd).2 (by simpa using h1) (by simpa using h2) hk
theorem bindC_get {kindOf : Str → Option NameKind} {x : Str} {v : Value} : ∀ {P : List Str} {vs : List Value} {i : Nat} {m : Str → Option Value},P.Nodup → P[i]? = some x → vs[i]? = some v → kindOf x ≠ some .local →
    bindC kindOf (P.zip vs) m x = some v
  | [],_,_,_,_,h,_,_ => by simp at h
  | _ :: _,[],_,_,_,_,h,_ => by simp at h
  | p :: P,w :: vs,0,m,nd,h1,h2,hk => by
    simp at h1 h2; subst h1; subst h2
    show bindC kindOf ((p,w) :: P.zip vs) m p = _
    unfold bindC
    rw [bindC_out fun v hv => (List.nodup_cons.mp nd).1 (List.of_mem_zip hv).1,if_neg hk]
    simp
  | p :: P,w :: vs,i + 1,m,nd,h1,h2,hk => by
    show bindC kindOf ((p,w) :: P.zip vs) m x = _
    unfold bindC
    exact bindC_get (i := i) (List.nodup_cons.mp nd).2 (by simpa using h1) (by simpa using h2) hk
def start (N : List Str) (vs : List V) : St := vs.map some ++ List.replicate (N.length - vs.length) none
def cxOf (CX : CXT) (P : Program) (w : World) (K : PySem.W.Frag) (mg : Str → Option Value) (base : Heap) (N : List Str) (qual : Str) (scope : Scope) (f : Addr) (cd : Value) (A : Around) (outer : List Env) (s : Shared) (H : Hp) (E : XK) : Cx where
  prog := P
  w := w
  K := K
  mg := mg
  base := base
  A := A.deeper (envOfC qual scope s.heap.objs.size f cd)
  N := N
  s₀ := s
  H₀ := H
  env := envOfC qual scope s.heap.objs.size f cd
  outer := outer
  stack := envOfC qual scope s.heap.objs.size f cd :: outer
  ex := []
  calm := true
  fn := fun _ => true
  pn := []
  xe := fun e s' => wpAny (model P w) (A.deeper (envOfC qual scope s.heap.objs.size f cd)) (leaving (envOfC qual scope s.heap.objs.size f cd) e) (fun _ s'' => CX outer H s E e s'') (fun e' s'' => CX outer H s E e' s'') s'
theorem cell_has {sc : Scope} {n : Nat} {x : Str} (h : sc.names.lookup x = some .cell) : ∃ c,(cellsFrom n sc.names []).lookup x = some c := by
  have q := PySem.W.cellsFrom_some sc.names n [] (.inl h)
  exact Option.isSome_iff_exists.mp q
theorem inv_start {CX : CXT} {P : Program} {w : World} {K : PySem.W.Frag} {mg : Str → Option Value} {base : Heap} {N ps : List Str} {qual : Str} {scope : Scope} {f : Addr} {cd : Value} {A : Around} {outer : List Env} {s s1 : Shared} {H : Hp} {E : XK} {us : List Value} {vs : List V}
    (S : FnScope N ps scope) (hd : A.handled = none) (e0 : Env0 P w K mg base A outer s H) (hl : vs.length = ps.length) (r : Vals vs us)
    (x : InCallC s s.heap.objs.size (bindL (envOfC qual scope s.heap.objs.size f cd).kindOf (ps.zip us) fun _ => none) (cellsFrom (s.heap.objs.size + 1) scope.names []) (bindC (envOfC qual scope s.heap.objs.size f cd).kindOf (ps.zip us) fun _ => none) s1) :
    Inv (cxOf CX P w K mg base N qual scope f cd A outer s H E) [] (start N vs) H s1 := by
  have hpl : ps.length ≤ N.length := by have := congrArg List.length S.pre; rw [List.length_take] at this; omega
  obtain ⟨h1,tk,rfl,hk⟩ := x.done
  have noA : ∀ b : Addr,b ∉ (cxOf CX P w K mg base N qual scope f cd A outer s H E).ex := fun b z => absurd (show b ∈ ([] : List Addr) from z) (by simp)
  refine ⟨⟨e0.mod,S.kind,rfl,rfl,Nat.le_refl _,fun y z c h1 h2 => ?_,fun y hy => ?_,fun y c _ h => ?_,fun _ => hd,Around.frames_deeper e0.frames,.inr ⟨rfl,rfl⟩,fun b z => absurd z (noA b),e0.bs,e0.bsz,fun b _ _ => noA b,fun b z => absurd z (noA b),e0.funs,e0.frf⟩,
    rfl,e0.bare,Un.kept hk,⟨_,x.toInCall.ns,fun i y v h1 h2 h3 => ?_⟩,fun y c h => ⟨_,x.cell y c h⟩,e0.hok.fresh (Nat.le_refl _),fun y c h => ?_,fun p hp => absurd (show p ∈ ([] : List (Addr × Obj)) from hp) (by simp),e0.hok.kept hk,?_⟩
  · exact name_of_addr x.apart (PySem.mem_of_lookup h1) (PySem.mem_of_lookup h2)
  · have hy : scope.names.lookup y = some .cell ∨ scope.names.lookup y = some .free := hy
    rcases hy with hy | hy
    · exact cell_has hy
    · exact absurd rfl (S.nofree _ (PySem.mem_of_lookup hy))
  · exact Nat.le_of_lt (x.above y c (PySem.mem_of_lookup h))
  · have hi : i < vs.length := by
      unfold start at h2
      by_cases hi : i < vs.length
      · exact hi
      · rw [List.getElem?_append_right (by simpa using hi)] at h2
        rw [List.getElem?_replicate] at h2
        split at h2 <;> cases h2
    have ha : vs[i]? = some v := by
      unfold start at h2
      rw [List.getElem?_append_left (by simpa using hi),List.getElem?_map] at h2
      cases e : vs[i]? with
      | none => rw [e] at h2; cases h2
      | some a => rw [e] at h2; cases h2; rfl
    obtain ⟨u,hu,rv⟩ := r.get ha
    have hp : ps[i]? = some y := by
      rw [← S.pre,List.getElem?_take_of_lt (by omega)]; exact h1
    have ndP : ps.Nodup := by rw [← S.pre]; exact S.nd.sublist (List.take_sublist _ _)
    refine ⟨u,rv,?_⟩
    rcases S.par y (List.mem_of_getElem? hp) with k | k
    · exact .inl ⟨k,bindL_get ndP hp hu k⟩
    · obtain ⟨c,e⟩ := cell_has (n := s.heap.objs.size + 1) k
      refine .inr ⟨.inl k,c,e,?_⟩
      have q := x.cell y c e
      rw [bindC_get ndP hp hu (by show scope.names.lookup y ≠ _; rw [k]; decide)] at q
      exact q
  · exact e0.hok.fresh (Nat.le_of_lt (x.above y c (PySem.mem_of_lookup h)))
  · unfold start
    show _ = N.length
    rw [List.length_append,List.length_map,List.length_replicate]
    omega
theorem fn_of {CX : CXT} {P : Program} {w : World} {K : PySem.W.Frag} {mg : Str → Option Value} {base : Heap} {k : Nat} {f : Addr} {name qual : Str} {params : Arguments} {body : List Stmt} {scope : Scope} {dV kV doc pm cdv ct oc : Value} {an od : Option Addr}
    {osl : Array (Option Value)} {N ps : List Str} {sp : Sp} (lk : K.lookup f = some ⟨oc,od,.func (PySem.W.fnOf name qual params body scope dV kV doc pm an cdv ct),osl⟩) (hcd : PySem.W.codeIn K cdv qual = true) (S : FnScope N ps scope)
    (len : ∀ vs H Q E,sp vs H Q E → vs.length = ps.length)
    (hbody : ∀ (A : Around) (outer : List Env) (s : Shared) (H : Hp) (vs : List V) (Q : VK) (E : XK),Room k (A.deeper (envOfC qual scope s.heap.objs.size f cdv)) → sp vs H Q E →
      ∃ t,PSs (cxOf CX P w K mg base N qual scope f cdv A outer s H E) body t ∧ t { nx := fun _ H' => Q .non H',rt := Q } (start N vs) H) :
    FnOk P w K mg base CX (k + 1) f (PySem.W.fnOf name qual params body scope dV kV doc pm an cdv ct) ps sp := by
  refine ⟨len,fun A outer s H args us vs Q E hr e0 hb r hsp => ?_⟩
  have hl := len _ _ _ _ hsp
  have KX : K.In s.heap := e0.mod.kin.keeps fun b o e => (e0.bs b o e).1
  have lim : s.heap.NoLimit := e0.mod.nolimit.keeps fun b o e => (e0.bs b o e).1
  have hkind : ∀ y ∈ ps.zip us,scope.names.lookup y.1 = some .local ∨ (scope.names.lookup y.1 = some .cell ∧ ((cellsFrom (s.heap.objs.size + 1) scope.names []).lookup y.1).isSome = true) := fun ⟨n,v⟩ hy => by
    rcases S.par n (List.of_mem_zip hy).1 with q | q
    · exact .inl q
    · exact .inr ⟨q,PySem.W.cellsFrom_some _ _ _ (.inl q)⟩
  refine codeAny_call_function hr.depth (KX _ _ lk) rfl S.co S.gen rfl (PySem.W.codeRec_of KX hcd) (hb _ _ _ _ ?_)
  refine wpAny_newFunctionEnv_cells S.kind hkind fun env he s1 x => ?_
  subst he
  refine ⟨lim.keeps x.toInCall.keep,codeAny_func ?_⟩
  obtain ⟨t,ht,hq⟩ := hbody A outer s H vs Q E (hr.deeper _) hsp
  have I : Inv (cxOf CX P w K mg base N qual scope f cdv A outer s H E) [] (start N vs) H s1 := inv_start S hr.hd e0 hl r x
  refine wpAny_mono (ht [] s1 (start N vs) H _ I hq) (fun fl s' hs => ?_) fun e s' hs => hs
  have fin : ∀ {σ' : St} {H' : Hp} {v : V} {u : Value},Inv (cxOf CX P w K mg base N qual scope f cdv A outer s H E) [] σ' H' s' → RelV v u → Q v H' → CE outer P w H s Q u s' :=
    fun {σ' H' v u} J rv q => ⟨v,H',J.os,J.bare,J.base,J.hok,rv,q⟩
  cases fl with
  | ret u =>
    obtain ⟨v,σ',H',J,rv,q⟩ := hs
    exact fin J rv q
  | next =>
    obtain ⟨σ',H',J,q⟩ := hs
    exact fin (v := V.non) (u := Value.none) J rfl q
  | brk =>
    obtain ⟨_,_,_,q⟩ := hs
    exact False.elim q
  | cont =>
    obtain ⟨_,_,_,q⟩ := hs
    exact False.elim q
end L2
namespace L2
open PySem PySem.Spec PyProof.Rows
section
variable {X : Cx} {x : Str} {p pos : Pos} {e : Expr} {es : List Expr} {t : TA} {id T : String} {r : List V → Hp → VK → Prop}
def tCB (r : List V → Hp → VK → Prop) (t : TA) : TE := fun σ H Q => t σ H fun vs H1 => r vs H1 Q
theorem pe_callB (hc : CallR X (.builtin id) r) (hg : Gl X x) (hm : X.mg x = none) (hv : bootBuiltins x = some (.builtin id)) (ha : PA X (e :: es) t) (hn : x ≠ "__name__" := by decide) (hdb : (x == ("__debug__" : Str)) = false := by decide)
    (he : starEach (e :: es) X.env = (false,eval e X.env) :: starEach es X.env := by rfl) (hpl : (backTo pos (starEach es X.env)).any (·.1) = false := by rfl) : PE X (.Call (.Name x p) (e :: es) [] pos) (tCB r t) := by
  intro pins s σ H Q I h
  refine wpAny_Call_Name_kw (ld_blt I hg hm hv ?_ hn hdb)
  exact PyProof.Rows.callWith_builtin1 (thn (ha pos pins s σ H _ I h) fun us s1 ⟨vs,H1,I1,r1,q1⟩ => hc pins s1 σ H1 vs us Q I1 r1 q1) he hpl
theorem pe_callTy (hc : CallR X (.type T) r) (hg : Gl X x) (hm : X.mg x = none) (hv : bootBuiltins x = some (.type T)) (ha : PA X (e :: es) t) (hn : x ≠ "__name__" := by decide) (hdb : (x == ("__debug__" : Str)) = false := by decide)
    (he : starEach (e :: es) X.env = (false,eval e X.env) :: starEach es X.env := by rfl) (hpl : (backTo pos (starEach es X.env)).any (·.1) = false := by rfl) : PE X (.Call (.Name x p) (e :: es) [] pos) (tCB r t) := by
  intro pins s σ H Q I h
  refine wpAny_Call_Name_kw (ld_blt I hg hm hv ?_ hn hdb)
  exact PyProof.Rows.callWith_type1 (thn (ha pos pins s σ H _ I h) fun us s1 ⟨vs,H1,I1,r1,q1⟩ => hc pins s1 σ H1 vs us Q I1 r1 q1) he hpl
end
end L2
namespace HT
open PySem PyProof.Rows
section
open PySem.SeqAt
open PySem.AutoSeq1 (wpAny_loadPart')
open PySem.MeetsSeq PySem.MeetsSeq2 PySem.MeetsSeq3
end
section
variable {prog : Program} {w : World} {A : Around} {E : Value → Shared → Prop} {s : Shared}
theorem cat_tup {t b : Addr} {vs ws : List Value} {Q : Value → Shared → Prop} (ht : IsTup s.heap t vs.toArray) (hb : IsTup s.heap b ws.toArray) (hv : vs ≠ [])
    (h1 : ws = [] → Q (.ref t) s) (h2 : ws ≠ [] → Q (.ref s.heap.objs.size) { s with heap := s.heap.push { cls := .type "tuple",data := .seq (vs ++ ws).toArray } })
    (hsz : vs.length + ws.length ≤ sizeLine) : wpAny (model prog w) A (binaryOp .Add (.ref t) (.ref b)) Q E s := by
  obtain ⟨⟨cls,dd,data,sl⟩,ho,hc,n,hd⟩ := id ht
  obtain ⟨⟨cls2,dd2,data2,sl2⟩,ho2,hc2,n2,hd2⟩ := id hb
  simp only at hc hd hc2 hd2
  subst hc hd hc2 hd2
  have e : vs.toArray ++ ws.toArray = (vs ++ ws).toArray := by simp
  by_cases hw : ws = []
  · exact concat_meets ⟨_,ho,rfl⟩ ⟨_,ho2,rfl⟩ noFill_tuple_add seq_tuple_add PySem.F.slot_tuple_add PySem.F.entry_tuple_add (PySem.F.args_tuple_add_2 _ _)
      (tuple_addW1 t b vs.toArray ws.toArray n n2 dd dd2 sl sl2 (by simpa using hv) (by simp [hw])) ⟨ho,ho2,h1 hw⟩
  · refine concat_meets ⟨_,ho,rfl⟩ ⟨_,ho2,rfl⟩ noFill_tuple_add seq_tuple_add PySem.F.slot_tuple_add PySem.F.entry_tuple_add (PySem.F.args_tuple_add_2 _ _)
      (tuple_addW2 t b vs.toArray ws.toArray n n2 dd dd2 sl sl2 (by simpa using hv) (by simpa using hw) (by rw [List.size_toArray,List.size_toArray]; exact hsz)) ⟨ho,ho2,?_⟩
    rw [e]
    exact h2 hw
def sIx (n d : Nat) : Option Int → Nat
  | none => d
  | some v => if v < 0 then (v + (n : Int)).toNat else min v.toNat n
end
end HT
namespace L2
open PySem PySem.Spec PyProof.Rows
abbrev TO := St → Hp → (Option Int → Hp → Prop) → Prop
def PO (X : Cx) (e : Option Expr) (t : TO) : Prop :=
  ∀ (pins : List (Addr × Obj)) (s : Shared) (σ : St) (H : Hp) (Q : Option Int → Hp → Prop),Inv X pins σ H s → t σ H Q →
    wpAny (model X.prog X.w) X.A (evalPart e X.env) (fun u s' => ∃ o H',Inv X pins σ H' s' ∧ IsPart u o ∧ Q o H') X.xe s
def tNoPart : TO := fun _ H Q => Q none H
def tPart (t : TE) : TO := fun σ H Q => t σ H fun x H1 => ∃ i,x = .int i ∧ Q (some i) H1
section
variable {X : Cx} {e : Expr} {te : TE} {lo hi : Option Expr} {tl th : TO} {pos p2 : Pos}
theorem po_none : PO X none tNoPart := by
  intro pins s σ H Q I h
  rw [evalPart_none]
  exact wpAny_pure ⟨none,H,I,.none,h⟩
theorem po_some (h : PE X e te) : PO X (some e) (tPart te) := by
  intro pins s σ H Q I hw
  rw [evalPart_some]
  refine thn (h pins s σ H _ I hw) fun u s1 ⟨x,H1,I1,r1,q1⟩ => ?_
  obtain ⟨i,rfl,q⟩ := q1
  obtain ⟨t,rfl⟩ := r1
  exact ⟨some i,H1,I1,.int i t,q⟩
def SlR (X : Cx) (r : V → Option Int → Option Int → Hp → VK → Prop) : Prop :=
  ∀ (pins : List (Addr × Obj)) (s : Shared) (σ : St) (H : Hp) (x : V) (v vl vu : Value) (lo hi : Option Int) (sl : Addr) (Q : VK),Inv X pins σ H s → RelV x v → s.heap.IsSliceOf sl vl vu .none → IsPart vl lo → IsPart vu hi → r x lo hi H Q →
    ∃ T id,typeLookup (.type T) "__getitem__" = pure (some (.builtin id)) ∧ s.TypeIs v T ∧ wpAny (model X.prog X.w) X.A (getItem v (.ref sl)) (EP X pins σ Q) X.xe s
def tSl (r : V → Option Int → Option Int → Hp → VK → Prop) (te : TE) (tl th : TO) : TE := fun σ H Q => te σ H fun x H1 => tl σ H1 fun l H2 => th σ H2 fun u H3 => r x l u H3 Q
theorem pe_slice {r : V → Option Int → Option Int → Hp → VK → Prop} (hr : SlR X r) (he : PE X e te) (hl : PO X lo tl) (hu : PO X hi th) : PE X (.Subscript e (.Slice lo hi none p2) pos) (tSl r te tl th) := by
  intro pins s σ H Q I h
  refine Subscript_ (thn (he pins s σ H _ I h) fun v s1 ⟨x,H1,I1,r1,q1⟩ => ?_)
  refine wpAny_Slice (thn (hl pins s1 σ H1 _ I1 q1) fun vl s2 ⟨l,H2,I2,pl,q2⟩ => thn (hu pins s2 σ H2 _ I2 q2) fun vu s3 ⟨u,H3,I3,pu,q3⟩ => ?_)
  rw [evalPart_none]
  refine wpAny_pure ?_
  have I4 : Inv X pins σ H3 { s3 with heap := s3.heap.push { cls := .type "slice", data := .fields #[vl, vu, .none] } } := I3.kept (t' := s3.toks) fun b ob q => Heap.get?_push_of_some _ q
  obtain ⟨T,id,hT,ht,hg⟩ := hr pins { s3 with heap := s3.heap.push { cls := .type "slice",data := .fields #[vl,vu,.none] } } σ H3 x v vl vu l u s3.heap.objs.size Q I4 r1 (Heap.IsSliceOf.new ..) pl pu q3
  show wpAny (model X.prog X.w) X.A (subscriptTail e (.Slice lo hi none p2) v (.ref s3.heap.objs.size)) (EP X pins σ Q) X.xe { s3 with heap := s3.heap.push { cls := .type "slice",data := .fields #[vl,vu,.none] } }
  exact tail_any (ops := [.ref s3.heap.objs.size,v]) ht hT hg (by with_unfolding_all rfl)
def cutV (xs : List V) (lo hi : Option Int) : List V := (xs.drop (HT.sIx xs.length 0 lo)).take (HT.sIx xs.length xs.length hi - HT.sIx xs.length 0 lo)
theorem cutV_length (xs : List V) (lo hi : Option Int) : (cutV xs lo hi).length ≤ xs.length := by
  unfold cutV
  rw [List.length_take,List.length_drop]
  omega
def rCatT (K : PySem.W.Frag) : R2 := fun x y H Q => ∃ a b xs ys,x = .ref a ∧ y = .ref b ∧ SqT K H a xs ∧ SqT K H b ys ∧ xs ≠ [] ∧ xs.length + ys.length ≤ sizeLine ∧
  (ys = [] → Q (.ref a) H) ∧ (ys ≠ [] → ∀ p,H p = none → Q (.ref p) (upd H p (.tup (xs ++ ys))))
theorem Vals.nil_iff {xs : List V} {us : List Value} (r : Vals xs us) : us = [] ↔ xs = [] := by
  cases r with
  | nil => simp
  | cons _ _ => simp
theorem op_catT : OpR X (binaryOp .Add) (rCatT X.K) := by
  intro pins s σ H x y v u Q I rx ry h
  obtain ⟨a,b,xs,ys,rfl,rfl,ha,hb,hx,hz,q1,q2⟩ := h
  cases rx
  cases ry
  obtain ⟨its,r1,p1,_⟩ := I.tuple ha
  obtain ⟨its2,r2,p2,_⟩ := I.tuple hb
  refine HT.cat_tup p1 p2 (fun z => hx (r1.nil_iff.mp z)) (fun z => ⟨.ref a,H,I,rfl,q1 (r2.nil_iff.mp z)⟩) (fun z => ?_) (by rw [← r1.length,← r2.length]; exact hz)
  refine ⟨.ref s.heap.objs.size,_,I.laid (t' := s.toks) (o := .tup (xs ++ ys)) (fun b ob q => Heap.get?_push_of_some _ q) (Nat.le_refl _) ?_,rfl,q2 (fun w => z (r2.nil_iff.mpr w)) _ (I.hok.fresh (Nat.le_refl _))⟩
  exact ⟨by rw [List.length_append]; exact hz,_,r1.append r2,IsTup.new _ _⟩
end
end L2
namespace L2
open PySem PySem.Spec PyProof.Rows
def ixN (n : Nat) (i : Int) : Option Nat := if 0 ≤ i then (if i < n then some i.toNat else none) else if -(n : Int) ≤ i then some (i + n).toNat else none
def atI {α : Type} (xs : List α) (i : Int) : Option α := (ixN xs.length i).bind fun j => xs[j]?
theorem ixN_seq {n : Nat} {i : Int} {j : Nat} (h : ixN n i = some j) : seqIndex? i n = some j ∧ j < n ∧ -(n : Int) ≤ i ∧ i < n := by
  unfold ixN at h
  by_cases h0 : 0 ≤ i
  · rw [if_pos h0] at h
    by_cases h1 : i < n
    · rw [if_pos h1] at h
      have e : i.toNat = j := Option.some.inj h
      exact ⟨by rw [seqIndex_of h0 h1,e],by omega,by omega,h1⟩
    · rw [if_neg h1] at h; cases h
  · rw [if_neg h0] at h
    by_cases h1 : -(n : Int) ≤ i
    · rw [if_pos h1] at h
      have e : (i + n).toNat = j := Option.some.inj h
      exact ⟨by rw [seqIndex_neg (by omega) h1,e],by omega,h1,by omega⟩
    · rw [if_neg h1] at h; cases h
theorem atI_get {α : Type} {xs : List α} {i : Int} {v : α} (h : atI xs i = some v) : ∃ j,seqIndex? i xs.length = some j ∧ xs[j]? = some v ∧ j < xs.length ∧ -(xs.length : Int) ≤ i ∧ i < xs.length := by
  unfold atI at h
  cases e : ixN xs.length i with
  | none => rw [e] at h; cases h
  | some j =>
    rw [e] at h
    obtain ⟨h1,h2,h3,h4⟩ := ixN_seq e
    exact ⟨j,h1,h,h2,h3,h4⟩
theorem atI_nat {α : Type} {xs : List α} {j : Nat} {v : α} (h : xs[j]? = some v) : atI xs (j : Int) = some v := by
  have hj : j < xs.length := (List.getElem?_eq_some_iff.mp h).1
  have e : ixN xs.length (j : Int) = some j := by
    unfold ixN
    rw [if_pos (by omega),if_pos (by omega)]; simp
  unfold atI; rw [e]; exact h
def PlainIx (b : Expr) : Prop := ∀ o i,subscripted b false o i = operate [o,i] (getItem o i)
def IxR (X : Cx) (r : R2) : Prop :=
  ∀ (value slice : Expr) (pins : List (Addr × Obj)) (s : Shared) (σ : St) (H : Hp) (x y : V) (v u : Value) (Q : VK),Inv X pins σ H s → RelV x v → RelV y u → r x y H Q →
    subscripted slice false v u = operate [v,u] (getItem v u) → wpAny (model X.prog X.w) X.A (subscriptTail value slice v u) (EP X pins σ Q) X.xe s
def MtR (X : Cx) (id : String) (r : V → List V → Hp → VK → Prop) : Prop :=
  ∀ (pins : List (Addr × Obj)) (s : Shared) (σ : St) (H : Hp) (x : V) (xs : List V) (v : Value) (us : List Value) (Q : VK),Inv X pins σ H s → RelV x v → Vals xs us → r x xs H Q →
    wpAny (model X.prog X.w) X.A (call (.builtin id) (v :: us)) (EP X pins σ Q) X.xe s
section
variable {X : Cx} {a b : Expr} {ta tb : TE} {pos : Pos}
theorem pe_ix {r : R2} (hr : IxR X r) (ha : PE X a ta) (hb : PE X b tb) (hs : PlainIx b) : PE X (.Subscript a b pos) (tOp r ta tb) := by
  intro pins s σ H Q I h
  exact Subscript_ (binT ha hb I h fun v u s2 x y H2 I2 rx ry q => hr a b pins s2 σ H2 x y v u Q I2 rx ry q (hs _ _))
def rIxL (K : PySem.W.Frag) : R2 := fun x y H Q => ∃ p xs i v,x = .ref p ∧ y = .int i ∧ SqL K H p xs ∧ atI xs i = some v ∧ Q v H
def rIxT (K : PySem.W.Frag) : R2 := fun x y H Q => ∃ p xs i v,x = .ref p ∧ y = .int i ∧ SqT K H p xs ∧ atI xs i = some v ∧ Q v H
theorem ix_list : IxR X (rIxL X.K) := by
  intro value slice pins s σ H x y v u Q I rx ry h hs
  obtain ⟨p,xs,i,z,rfl,rfl,hq,he,q⟩ := h
  cases rx
  obtain ⟨t,rfl⟩ := ry
  obtain ⟨its,r,pl,hz⟩ := I.list hq
  obtain ⟨j,h1,h2,h3,h4,h5⟩ := atI_get he
  obtain ⟨w,ew,rw'⟩ := r.get h2
  have hl := r.length
  have hn := line63
  have fin : EP X pins σ Q w s := ⟨z,H,I,rw',q⟩
  by_cases h0 : 0 ≤ i
  · have hj : i.toNat = j := by
      rw [seqIndex_of h0 h5] at h1
      exact Option.some.inj h1
    exact item_listR pl.isList h0 (by omega) (by rw [hj]; simpa using ew) fin hs
  · have hj : (i + (its.toArray.size : Int)).toNat = j := by
      rw [seqIndex_neg (by omega) h4] at h1
      rw [List.size_toArray,← hl]
      exact Option.some.inj h1
    exact subscriptTail_builtinR (x := w) pl.isList.typeIs slot_list_getitem.lookup
      (wpAny_getItem_list_neg (Q := fun r s' => r = w ∧ EP X pins σ Q r s') pl.isList (by omega) (by rw [List.size_toArray] <;> omega) (by omega) (by rw [hj]; simpa using ew) ⟨rfl,fin⟩) hs
theorem ix_tup : IxR X (rIxT X.K) := by
  intro value slice pins s σ H x y v u Q I rx ry h hs
  obtain ⟨p,xs,i,z,rfl,rfl,hq,he,q⟩ := h
  cases rx
  obtain ⟨t,rfl⟩ := ry
  obtain ⟨its,r,pl,hz⟩ := I.tuple hq
  obtain ⟨j,h1,h2,h3,h4,h5⟩ := atI_get he
  obtain ⟨w,ew,rw'⟩ := r.get h2
  have hl := r.length
  have hn := line63
  have fin : EP X pins σ Q w s := ⟨z,H,I,rw',q⟩
  exact subscriptTail_builtinR (x := w) pl.typeIs slot_tuple_getitem.lookup
    (getItem_tuple (j := j) (Q := fun r s' => r = w ∧ EP X pins σ Q r s') pl (by omega) (by omega) (by rw [List.size_toArray,← hl]; exact h1) (by simpa using ew) ⟨rfl,fin⟩) hs
theorem mapSeq_set (its : List Value) (n j : Nat) (u : Value) : Obj.mapSeq (·.setIfInBounds j u) { cls := .type "list",data := .seq its.toArray n } = { cls := .type "list",data := .seq (its.set j u).toArray n } := by
  simp [Obj.mapSeq]
theorem Inv.lst {pins : List (Addr × Obj)} {σ : St} {H : Hp} {s : Shared} {p : Addr} {xs : List V} (I : Inv X pins σ H s) (h : H p = some (.lst xs)) :
    ∃ (its : List Value) (n : Nat),Vals xs its ∧ s.heap.get? p = some { cls := .type "list",data := .seq its.toArray n } ∧ xs.length ≤ sizeLine := by
  obtain ⟨z,its,n,r,e⟩ := I.hok p _ h
  exact ⟨its,n,r,e,z⟩
theorem Inv.lstUpd {pins : List (Addr × Obj)} {σ : St} {H : Hp} {s : Shared} {p : Addr} {xs ys : List V} {its its' : List Value} {n n' : Nat} {f : Obj → Obj} (I : Inv X pins σ H s) (h : H p = some (.lst xs))
    (ho : s.heap.get? p = some { cls := .type "list", data := .seq its.toArray n }) (hf : f { cls := .type "list", data := .seq its.toArray n } = { cls := .type "list", data := .seq its'.toArray n' }) (r : Vals ys its') (hz : ys.length ≤ sizeLine) (t : Nat) :
    Inv X pins σ (upd H p (.lst ys)) { s with heap := s.heap.update p f,toks := t } := by
  have e : (s.heap.update p f).get? p = some { cls := .type "list", data := .seq its'.toArray n' } := by
    rw [Heap.get?_update_self f ho (by rw [hf] <;> rfl),hf]
  refine I.write (x := p) (e := p) (by rw [h]; trivial) (.inl rfl) (fun b u hb q => (Heap.get?_update_other _ _ (Ne.symm hb)).trans q) ⟨_,e⟩ ?_
  exact ⟨hz,its',n',r,e⟩
def rSetL : V → V → V → Hp → (Hp → Prop) → Prop := fun o i v H Q => ∃ p xs k j,o = .ref p ∧ i = .int k ∧ H p = some (.lst xs) ∧ ixN xs.length k = some j ∧ Q (upd H p (.lst (xs.set j v)))
theorem set_list : PSet X rSetL := by
  intro pins s σ H o i v ov iv u Q I ro ri rv h
  obtain ⟨p,xs,k,j,rfl,rfl,hp,hj,q⟩ := h
  cases ro
  obtain ⟨t,rfl⟩ := ri
  obtain ⟨its,n,r,ho,hz⟩ := I.lst hp
  obtain ⟨h1,h2,h3,h4⟩ := ixN_seq hj
  have hl := r.length
  have hn := line63
  have I' : Inv X pins σ (upd H p (.lst (xs.set j v))) { s with heap := s.heap.update p (Obj.mapSeq (·.setIfInBounds j u)) } :=
    I.lstUpd hp ho (mapSeq_set its n j u) (r.set rv j) (by rw [List.length_set]; exact hz) s.toks
  by_cases h0 : 0 ≤ k
  · have hk : k.toNat = j := by
      rw [seqIndex_of h0 h4] at h1
      exact Option.some.inj h1
    exact PySem.W.ki_setAt ho h0 (by omega) (by rw [List.size_toArray,← hl]; exact h4) (by rw [hk]; exact ⟨_,I',q⟩)
  · have hk : (k + (its.toArray.size : Int)).toNat = j := by
      rw [seqIndex_neg (by omega) h3] at h1
      rw [List.size_toArray,← hl]
      exact Option.some.inj h1
    exact PySem.W.ki_setBack ho (by omega) (by rw [List.size_toArray,← hl]; exact h3) (by omega) (by rw [hk]; exact ⟨_,I',q⟩)
theorem slice_bounds (lo hi : Option Int) (n : Nat) : (sliceBounds lo hi none n).1 = ((HT.sIx n 0 lo : Nat) : Int) ∧ (sliceBounds lo hi none n).2.1 = ((HT.sIx n n hi : Nat) : Int) ∧ (sliceBounds lo hi none n).2.2 = 1 := by
  refine ⟨?_,?_,rfl⟩
  · cases lo with
    | none => simp [sliceBounds,HT.sIx]
    | some i =>
      simp only [sliceBounds,HT.sIx,Option.getD_none,show (1 : Int) > 0 by decide,if_true]
      by_cases h : i < 0
      · simp only [h,if_true] <;> omega
      · simp only [h,if_false] <;> omega
  · cases hi with
    | none => simp [sliceBounds,HT.sIx]
    | some i =>
      simp only [sliceBounds,HT.sIx,Option.getD_none,show (1 : Int) > 0 by decide,if_true]
      by_cases h : i < 0
      · simp only [h,if_true] <;> omega
      · simp only [h,if_false] <;> omega
theorem slicePick_cut (its : List Value) (lo hi : Option Int) : slicePick its.toArray lo hi none = ((its.drop (HT.sIx its.length 0 lo)).take (HT.sIx its.length its.length hi - HT.sIx its.length 0 lo)).toArray := by
  obtain ⟨h1,h2,h3⟩ := slice_bounds lo hi its.toArray.size
  unfold slicePick
  rw [h1,h2,h3]
  simp only [sliceRange_one,pick_run,List.size_toArray] <;> rfl
def rSlL (K : PySem.W.Frag) : V → Option Int → Option Int → Hp → VK → Prop := fun x lo hi H Q => ∃ a xs,x = .ref a ∧ SqL K H a xs ∧ ∀ p,H p = none → Q (.ref p) (upd H p (.lst (cutV xs lo hi)))
theorem sl_list : SlR X (rSlL X.K) := by
  intro pins s σ H x v vl vu lo hi sl Q I rx hs pl pu h
  obtain ⟨a,xs,rfl,hx,q⟩ := h
  cases rx
  obtain ⟨its,r,ht,hz⟩ := I.list hx
  have hlen := r.length
  refine ⟨"list",_,slot_list_getitem.lookup,ht.isList.typeIs,?_⟩
  refine wpAny_getItem_list_slice ht.isList hs pl pu .none (by simp) ?_ (by rw [List.size_toArray] <;> omega)
  rw [slicePick_cut,← hlen]
  refine ⟨.ref s.heap.objs.size,_,I.laid (t' := s.toks) (o := .lst (cutV xs lo hi)) (fun b ob q => Heap.get?_push_of_some _ q) (Nat.le_refl _) ?_,rfl,q _ (I.hok.fresh (Nat.le_refl _))⟩
  exact ⟨Nat.le_trans (cutV_length xs lo hi) hz,_,0,(r.drop (HT.sIx xs.length 0 lo)).take (HT.sIx xs.length xs.length hi - HT.sIx xs.length 0 lo),Heap.get?_push_size _ rfl⟩
def flatV : V → Bool
  | .non => true
  | .bl _ => true
  | .int _ => true
  | .str _ => true
  | _ => false
def eqV : V → V → Bool
  | .non,.non => true
  | .bl a,.bl b => a == b
  | .bl a,.int b => (if a then 1 else 0) == b
  | .int a,.bl b => a == (if b then 1 else 0)
  | .int a,.int b => a == b
  | .str a,.str b => a == b
  | _,_ => false
theorem eqAt_V {A : Around} {s : Shared} {y x : V} {u v : Value} (ry : RelV y u) (rx : RelV x v) (fy : flatV y = true) (fx : flatV x = true) : SeqAt.EqAt A s u v (eqV y x) := by
  cases y with
  | non =>
    cases ry
    cases x with
    | non => cases rx; exact SeqAt.EqAt.same _
    | bl b => cases rx; exact SeqAt.EqAt.none_bool b
    | int b => obtain ⟨t,rfl⟩ := rx; exact SeqAt.EqAt.none_int b t
    | str b => obtain ⟨t,rfl⟩ := rx; exact SeqAt.EqAt.none_str b t
    | _ => exact absurd (show false = true from fx) Bool.false_ne_true
  | bl a =>
    cases ry
    cases x with
    | non => cases rx; exact SeqAt.EqAt.bool_none a
    | bl b => cases rx; exact SeqAt.EqAt.bool_bool a b
    | int b => obtain ⟨t,rfl⟩ := rx; exact SeqAt.EqAt.bool_int a b t
    | str b => obtain ⟨t,rfl⟩ := rx; exact SeqAt.EqAt.bool_str a b t
    | _ => exact absurd (show false = true from fx) Bool.false_ne_true
  | int a =>
    obtain ⟨t',rfl⟩ := ry
    cases x with
    | non => cases rx; exact SeqAt.EqAt.int_none a t'
    | bl b => cases rx; exact SeqAt.EqAt.int_bool a t' b
    | int b => obtain ⟨t,rfl⟩ := rx; exact SeqAt.EqAt.int_int a t' b t
    | str b => obtain ⟨t,rfl⟩ := rx; exact SeqAt.EqAt.int_str a t' b t
    | _ => exact absurd (show false = true from fx) Bool.false_ne_true
  | str a =>
    obtain ⟨t',rfl⟩ := ry
    cases x with
    | non => cases rx; exact SeqAt.EqAt.str_none a t'
    | bl b => cases rx; exact SeqAt.EqAt.str_bool a t' b
    | int b => obtain ⟨t,rfl⟩ := rx; exact SeqAt.EqAt.str_int a t' b t
    | str b => obtain ⟨t,rfl⟩ := rx; exact SeqAt.EqAt.str_str a t' b t
    | _ => exact absurd (show false = true from fx) Bool.false_ne_true
  | _ => exact absurd (show false = true from fy) Bool.false_ne_true
def eqU (x : V) (u : Value) : Bool := match u with
  | .none => eqV .non x
  | .bool b => eqV (.bl b) x
  | .int i _ => eqV (.int i) x
  | .str z _ => eqV (.str z) x
  | _ => false
theorem eqU_of {x y : V} {u : Value} (r : RelV y u) (f : flatV y = true) : eqU x u = eqV y x := by
  cases y with
  | non => cases r; rfl
  | bl b => cases r; rfl
  | int i => obtain ⟨t,rfl⟩ := r; rfl
  | str z => obtain ⟨t,rfl⟩ := r; rfl
  | _ => exact absurd (show false = true from f) Bool.false_ne_true
theorem any_eqU {x : V} : ∀ {xs : List V} {us : List Value},Vals xs us → xs.all flatV = true → us.any (eqU x) = xs.any fun y => eqV y x
  | _,_,.nil,_ => rfl
  | y :: xs,u :: us,.cons r t,f => by
    rw [List.all_cons,Bool.and_eq_true] at f
    rw [List.any_cons,List.any_cons,eqU_of r f.1,any_eqU t f.2]
theorem mem_eqAt {A : Around} {s : Shared} {x : V} {v : Value} (rx : RelV x v) (fx : flatV x = true) : ∀ {xs : List V} {us : List Value},Vals xs us → xs.all flatV = true → ∀ u ∈ us,SeqAt.EqAt A s u v (eqU x u)
  | _,_,.nil,_ => fun u hu => by cases hu
  | y :: xs,u :: us,.cons r t,f => fun u' hu => by
    rw [List.all_cons,Bool.and_eq_true] at f
    rcases List.mem_cons.mp hu with rfl | hu
    · rw [eqU_of r f.1]; exact eqAt_V r rx f.1 fx
    · exact mem_eqAt rx fx t f.2 u' hu
def inV (x : V) (xs : List V) : Bool := xs.any fun y => eqV y x
def rIn (K : PySem.W.Frag) (neg : Bool) : R2 := fun x y H Q => ∃ p xs,y = .ref p ∧ (SqL K H p xs ∨ SqT K H p xs) ∧ flatV x = true ∧ xs.all flatV = true ∧ Q (.bl (if neg then !inV x xs else inV x xs)) H
theorem op_in_seq : OpR X (compareOp .In) (rIn X.K false) := by
  intro pins s σ H x y v u Q I rx ry h
  obtain ⟨p,xs,rfl,hq,fx,fs,q⟩ := h
  cases ry
  rcases hq with hq | hq
  · obtain ⟨its,r,pl,hz⟩ := I.list hq
    refine SeqAt.in_listAt (eqU x) pl.isList (fun w hw => mem_eqAt rx fx r fs w (by simpa using hw)) ⟨.bl _,H,I,rfl,?_⟩
    rw [show its.toArray.any (eqU x) = its.any (eqU x) by simp,any_eqU r fs]
    exact q
  · obtain ⟨its,r,pl,hz⟩ := I.tuple hq
    refine SeqAt.in_tupleAt (eqU x) pl (fun w hw => mem_eqAt rx fx r fs w (by simpa using hw)) ⟨.bl _,H,I,rfl,?_⟩
    rw [show its.toArray.any (eqU x) = its.any (eqU x) by simp,any_eqU r fs]
    exact q
theorem call_len_seq : CallR X (.builtin "len") (fun xs H Q => ∃ p ys,xs = [.ref p] ∧ (SqL X.K H p ys ∨ SqT X.K H p ys) ∧ Q (.int ys.length) H) := by
  intro pins s σ H xs us Q I r h
  obtain ⟨p,ys,rfl,hq,q⟩ := h
  obtain ⟨u,rfl,rx⟩ := vals1 r
  cases rx
  have hn := line63
  rcases hq with hq | hq
  · obtain ⟨its,r',pl,hz⟩ := I.list hq
    have hlen := r'.length
    exact Calls.call_len_list pl.isList (by simp only [List.size_toArray] <;> omega) ⟨.int ys.length,H,I.tok _,⟨s.toks + 1,by rw [List.size_toArray,hlen]⟩,q⟩
  · obtain ⟨its,r',pl,hz⟩ := I.tuple hq
    have hlen := r'.length
    exact len_tuple pl (by simp only [List.size_toArray] <;> omega) ⟨.int ys.length,H,I.tok _,⟨s.toks + 1,by rw [List.size_toArray,hlen]⟩,q⟩
theorem call_list_of : CallR X (.type "list") (fun xs H Q => ∃ p ys,xs = [.ref p] ∧ (SqL X.K H p ys ∨ SqT X.K H p ys) ∧ ∀ l,H l = none → Q (.ref l) (upd H l (.lst ys))) := by
  intro pins s σ H xs us Q I r h
  obtain ⟨p,ys,rfl,hq,q⟩ := h
  obtain ⟨u,rfl,rx⟩ := vals1 r
  cases rx
  have fin : ∀ (its : List Value),Vals ys its → ys.length ≤ sizeLine → ∀ (h' : Heap) (c' : Nat),(∀ b o',s.heap.get? b = some o' → h'.get? b = some o') →
      h'.get? s.heap.objs.size = some { cls := .type "list", dict := none, data := .seq its.toArray c', slots := #[] } → EP X pins σ Q (.ref s.heap.objs.size) { s with heap := h' } := fun its r' hz h' c' kp e =>
    ⟨.ref s.heap.objs.size,_,I.laid (t' := s.toks) kp (Nat.le_refl _) (show ObjOk X.prog X.w _ h' _ (.lst ys) from ⟨hz,its,c',r',e⟩),rfl,q _ (I.hok.fresh (Nat.le_refl _))⟩
  rcases hq with hq | hq
  · obtain ⟨its,r',pl,hz⟩ := I.list hq
    have hlen := r'.length
    obtain ⟨o,ho,hc,n,hd⟩ := pl.isList
    exact call_list_seq p (.inl rfl) ho hc hd (fun h' c' kp e => fin its r' hz h' c' kp e) (by simp only [List.size_toArray] <;> omega)
  · obtain ⟨its,r',pl,hz⟩ := I.tuple hq
    have hlen := r'.length
    obtain ⟨o,ho,hc,n,hd⟩ := pl
    exact call_list_seq p (.inr rfl) ho hc hd (fun h' c' kp e => fin its r' hz h' c' kp e) (by simp only [List.size_toArray] <;> omega)
theorem call_tuple_of : CallR X (.type "tuple") (fun xs H Q => ∃ p ys,xs = [.ref p] ∧ ((SqL X.K H p ys ∧ ∀ l,H l = none → Q (.ref l) (upd H l (.tup ys))) ∨ (SqT X.K H p ys ∧ Q (.ref p) H))) := by
  intro pins s σ H xs us Q I r h
  obtain ⟨p,ys,rfl,h⟩ := h
  obtain ⟨u,rfl,rx⟩ := vals1 r
  cases rx
  rcases h with ⟨hq,q⟩ | ⟨hq,q⟩
  · obtain ⟨its,r',pl,hz⟩ := I.list hq
    have hlen := r'.length
    refine call_tuple_list pl.isList (fun h' kp => ?_) (by simp only [List.size_toArray] <;> omega)
    have I1 : Inv X pins σ H { s with heap := h' } := I.kept (t' := s.toks) kp
    have I2 : Inv X pins σ (upd H h'.objs.size (.tup ys)) { s with heap := h'.push { cls := .type "tuple", data := .seq its.toArray } } :=
      I1.laid (t' := s.toks) (fun b o e => Heap.get?_push_of_some _ e) (Nat.le_refl _) (show ObjOk X.prog X.w _ _ _ (.tup ys) from ⟨hz,its,r',IsTup.new _ _⟩)
    exact ⟨.ref h'.objs.size,_,I2,rfl,q _ (I1.hok.fresh (Nat.le_refl _))⟩
  · obtain ⟨its,r',pl,hz⟩ := I.tuple hq
    exact call_tuple_same pl ⟨.ref p,H,I,rfl,q⟩
def tyV (K : PySem.W.Frag) (T : String) (x : V) (H : Hp) : Prop := match x with
  | .str _ => T = "str"
  | .int _ => T = "int"
  | .ref p => (T = "list" ∧ ∃ xs,SqL K H p xs) ∨ (T = "tuple" ∧ ∃ o,K.lookup p = some o ∧ o.cls = .type "tuple" ∧ o.dict = none) ∨
      (T = "dict" ∧ ((∃ kvs,H p = some (.dK kvs)) ∨ ∃ kvs,H p = some (.dT kvs))) ∨ (T = "set" ∧ ∃ S n,H p = some (.set S n))
  | _ => False
theorem tyV_is {pins : List (Addr × Obj)} {σ : St} {H : Hp} {s : Shared} {T : String} {x : V} {v : Value} (I : Inv X pins σ H s) (r : RelV x v) (ty : tyV X.K T x H) :
    s.TypeIs v T ∧ ∀ a,v = .ref a → ∃ ob,s.heap.get? a = some ob ∧ ob.dict = none := by
  cases x with
  | str z =>
    obtain ⟨t,rfl⟩ := r
    cases (show T = "str" from ty)
    exact ⟨typeIs_str s z t,fun _ e => nomatch e⟩
  | int i =>
    obtain ⟨t,rfl⟩ := r
    cases (show T = "int" from ty)
    exact ⟨typeIs_int s i t,fun _ e => nomatch e⟩
  | ref p =>
    cases r
    rcases ty with ⟨rfl,xs,hq⟩ | ⟨rfl,o,hk,hc,hd⟩ | ⟨rfl,hk⟩ | ⟨rfl,S,n,hk⟩
    · obtain ⟨its,_,pl,_⟩ := I.list hq
      refine ⟨pl.isList.typeIs,fun a e => ?_⟩
      cases e
      obtain ⟨o,n,e,c,hd,_⟩ := pl
      exact ⟨o,e,hd⟩
    · refine ⟨⟨o,I.kIn p o hk,hc⟩,fun a e => ?_⟩
      cases e
      exact ⟨o,I.kIn _ o hk,hd⟩
    · have z : ∃ o,s.heap.get? p = some o ∧ o.ExactDict := by
        rcases hk with ⟨kvs,hk⟩ | ⟨kvs,hk⟩
        · obtain ⟨_,_,_,_,o,_,_,e,ex,_⟩ := I.hok p _ hk
          exact ⟨o,e,ex⟩
        · obtain ⟨_,_,_,_,o,_,_,e,ex,_⟩ := I.hok p _ hk
          exact ⟨o,e,ex⟩
      obtain ⟨o,e,ex⟩ := z
      refine ⟨⟨o,e,ex.1⟩,fun a e2 => ?_⟩
      cases e2
      exact ⟨o,e,ex.2.1⟩
    · obtain ⟨o,_,_,_,e,ex,_⟩ := I.hok p _ hk
      refine ⟨⟨o,e,ex.1⟩,fun a e2 => ?_⟩
      cases e2
      exact ⟨o,e,ex.2.1⟩
  | _ => exact False.elim ty
def tBM (K : PySem.W.Frag) (T : String) (r : V → List V → Hp → VK → Prop) (to : TE) (t : TA) : TE := fun σ H Q => to σ H fun x H1 => tyV K T x H1 ∧ t σ H1 fun xs H2 => r x xs H2 Q
variable {o e : Expr} {es : List Expr} {to : TE} {t : TA} {name : Str} {apos cpos : Pos} {T id : String} {r : V → List V → Hp → VK → Prop}
theorem pe_bm (pa : PlainAttrs T) (slot : Slot T name id) (hty : typeOf (.builtin id) = pure (.type "method_descriptor")) (hm : MtR X id r) (ho : PE X o to) (ha : PA X (e :: es) t)
    (hbase : attributeBase o name X.env (eval o X.env) = eval o X.env := by rfl)
    (hfew : ((backTo cpos (starEach (e :: es) X.env)).all (fun x => !x.1) && (backToKw cpos (keywordEach [] X.env)).all (fun x => x.1.isSome)
      && decide ((e :: es).length + ([] : List Keyword).length + (if ([] : List Keyword).isEmpty then 0 else 1) < 30)) = true := by rfl)
    (hline : (apos.endLine == cpos.line) = true := by rfl) (hs : starEach (e :: es) X.env = (false,eval e X.env) :: starEach es X.env := by rfl) (hplain : (backTo cpos (starEach es X.env)).any (·.1) = false := by rfl) :
    PE X (.Call (.Attribute o name apos) (e :: es) [] cpos) (tBM X.K T r to t) := by
  intro pins s σ H Q I h
  refine wpAny_Call_method_late hbase hfew hline rfl (thn (ho pins s σ H _ I h) fun v s1 ⟨x,H1,I1,r1,ty,q1⟩ => ?_)
  obtain ⟨h1,h2⟩ := tyV_is I1 r1 ty
  refine ⟨T,id,pa,slot,hty,h1,h2,?_⟩
  have hA := ha cpos pins s1 σ H1 _ I1 q1
  rw [hs] at hA ⊢
  refine Calls.callWith_builtin (by show (false || (backTo cpos (starEach es X.env)).any (·.1)) = false; rw [hplain] <;> rfl) (Calls.evalArgs_plain ?_)
  exact thn hA fun us s2 ⟨vs,H2,I2,r2,q2⟩ => hm pins s2 σ H2 x vs v us Q I2 r1 r2 q2
/- xs.append(e),list.index on a module's tuple .. are MtR facts of 06m -/
end
end L2
namespace L2
open PySem PySem.Spec PyProof.Rows
def MtM (X : Cx) (id : String) (r : V → List V → Hp → VK → Prop) : Prop :=
  ∀ (pins : List (Addr × Obj)) (s : Shared) (σ : St) (H : Hp) (x : V) (xs : List V) (v : Value) (us : List Value) (Q : VK),Inv X pins σ H s → RelV x v → Vals xs us → r x xs H Q →
    wpAny (model X.prog X.w) X.A (call (.builtin id) (v :: us)) (EP X pins σ Q) X.xe s
theorem Vals.one : ∀ {x : V} {us : List Value},Vals [x] us → ∃ u,us = [u] ∧ RelV x u
  | _,_,.cons r .nil => ⟨_,rfl,r⟩
theorem Vals.dropLast {xs : List V} {us : List Value} (h : Vals xs us) : Vals xs.dropLast us.dropLast := by
  induction h with
  | nil => exact .nil
  | cons r t ih =>
    cases t with
    | nil => exact .nil
    | cons q t' => exact .cons r ih
theorem erase_last {α : Type} (l : List α) : l.eraseIdx (l.length - 1) = l.dropLast := by
  induction l with
  | nil => rfl
  | cons a r ih =>
    cases r with
    | nil => rfl
    | cons b r =>
      have e : (a :: b :: r).length - 1 = ((b :: r).length - 1) + 1 := by
        have h1 : (a :: b :: r).length = r.length + 2 := rfl
        have h2 : (b :: r).length = r.length + 1 := rfl
        omega
      rw [e,List.eraseIdx_cons_succ,ih]
      all_goals rfl
section
variable {X : Cx} {pins : List (Addr × Obj)} {σ : St} {H : Hp} {s : Shared} {l b : Addr} {xs ys zs : List V}
theorem Inv.lset {its its' : List Value} {n : Nat} {f : Array Value → Array Value} {t' : Nat} (I : Inv X pins σ H s) (hH : H l = some (.lst xs))
    (e : s.heap.get? l = some { cls := .type "list", data := .seq its.toArray n }) (hf : f its.toArray = its'.toArray) (hv : Vals ys its') (hz : ys.length ≤ sizeLine) :
    Inv X pins σ (upd H l (.lst ys)) { s with heap := s.heap.update l (Obj.mapSeq f),toks := t' } := by
  have q := PySem.IsL.update e f
  rw [hf] at q
  refine I.write (x := l) (e := l) (by rw [hH]; exact trivial) (.inl rfl) (fun b' u hb hu => (Heap.get?_update_other s.heap (Obj.mapSeq f) (Ne.symm hb)).trans hu) ⟨_,q⟩ ?_
  exact ⟨hz,its',_,hv,q⟩
theorem Inv.lnew {its : List Value} {t' : Nat} (I : Inv X pins σ H s) (hv : Vals ys its) (hz : ys.length ≤ sizeLine) :
    Inv X pins σ (upd H s.heap.objs.size (.lst ys)) { s with heap := s.heap.push { cls := .type "list", data := .seq its.toArray }, toks := t' } :=
  I.laid (fun _ _ q => Heap.get?_push_of_some _ q) (Nat.le_refl _) ⟨hz,its,0,hv,Heap.get?_push_size _ rfl⟩
theorem Inv.fresh (I : Inv X pins σ H s) : H s.heap.objs.size = none := I.hok.fresh (Nat.le_refl _)
theorem Inv.lstM (I : Inv X pins σ H s) (hH : H l = some (.lst xs)) : xs.length ≤ sizeLine ∧ ∃ (its : List Value) (n : Nat),Vals xs its ∧ xs.length = its.length ∧ s.heap.get? l = some { cls := .type "list",data := .seq its.toArray n } := by
  obtain ⟨z,its,n,r,e⟩ := I.hok l _ hH
  exact ⟨z,its,n,r,r.length,e⟩
theorem notLongL {n : Nat} (h : n ≤ sizeLine) : Builtin.List.listTooLong n = false := by
  unfold Builtin.List.listTooLong
  exact decide_eq_false (by omega)
end
section
variable {X : Cx}
def rAppend : V → List V → Hp → VK → Prop := fun x vs H Q => ∃ l xs y,x = .ref l ∧ vs = [y] ∧ H l = some (.lst xs) ∧ xs.length < sizeLine ∧ Q .non (upd H l (.lst (xs ++ [y])))
theorem mt_append : MtM X "list.append" rAppend := by
  intro pins s σ H x vs v us Q I rx rv h
  obtain ⟨l,xs,y,rfl,rfl,hH,hz,q⟩ := h
  cases rx
  obtain ⟨u,rfl,ru⟩ := rv.one
  obtain ⟨z,its,n,r,hl,e⟩ := I.lstM hH
  refine call_meets F.slot_list_append ⟨_,e,rfl⟩ F.entry_list_append (F.args_list_append_2 _ _) (PySem.list_append l its.toArray n u (by rw [List.size_toArray]; omega)) ⟨e,?_⟩
  refine ⟨.non,_,I.lset (its' := its ++ [u]) hH e (by simp) (r.append (.cons ru .nil)) ?_,rfl,q⟩
  rw [List.length_append,List.length_singleton]
  omega
def rExtend : V → List V → Hp → VK → Prop := fun x vs H Q => ∃ l b xs zs,x = .ref l ∧ vs = [.ref b] ∧ H l = some (.lst xs) ∧ H b = some (.lst zs) ∧ xs.length + zs.length ≤ sizeLine ∧ Q .non (upd H l (.lst (xs ++ zs)))
theorem mt_extend : MtM X "list.extend" rExtend := by
  intro pins s σ H x vs v us Q I rx rv h
  obtain ⟨l,b,xs,zs,rfl,rfl,hH,hB,hz,q⟩ := h
  cases rx
  obtain ⟨u,rfl,ru⟩ := rv.one
  cases ru
  obtain ⟨z,its,n,r,hl,e⟩ := I.lstM hH
  obtain ⟨z2,its2,n2,r2,hl2,e2⟩ := I.lstM hB
  have hsz : its.toArray.size + its2.toArray.size ≤ sizeLine := by rw [List.size_toArray,List.size_toArray]; omega
  have hlong : ¬ (!its.toArray.isEmpty && Builtin.List.listTooLong (its.toArray.size + its2.toArray.size)) = true := by
    rw [notLongL hsz,Bool.and_false]
    exact Bool.false_ne_true
  refine call_meets F.slot_list_extend ⟨_,e,rfl⟩ F.entry_list_extend (F.args_list_extend_2 _ _)
    (AutoSeq1.list_extend_list_list_0 l its.toArray n b its2.toArray n2 hlong (by rw [List.size_toArray]; omega) (by omega)) ⟨e,e2,?_⟩
  refine ⟨.non,_,I.lset (its' := its ++ its2) hH e (by simp) (r.append r2) ?_,rfl,q⟩
  rw [List.length_append]
  omega
def rCat : R2 := fun x y H Q => ∃ l b xs zs,x = .ref l ∧ y = .ref b ∧ H l = some (.lst xs) ∧ H b = some (.lst zs) ∧ xs.length + zs.length ≤ sizeLine ∧ ∀ p,H p = none → Q (.ref p) (upd H p (.lst (xs ++ zs)))
theorem op_cat : OpR X (binaryOp .Add) rCat := by
  intro pins s σ H x y v u Q I rx ry h
  obtain ⟨l,b,xs,zs,rfl,rfl,hH,hB,hz,q⟩ := h
  cases rx
  cases ry
  obtain ⟨z,its,n,r,hl,e⟩ := I.lstM hH
  obtain ⟨z2,its2,n2,r2,hl2,e2⟩ := I.lstM hB
  refine PySem.P.add_list e e2 ?_ (by rw [List.size_toArray,List.size_toArray]; omega)
  have ea : its.toArray ++ its2.toArray = (its ++ its2).toArray := by simp
  rw [ea]
  exact ⟨.ref _,_,I.lnew (t' := s.toks) (r.append r2) (by rw [List.length_append]; omega),rfl,q _ I.fresh⟩
end
section
variable {prog : Program} {w : World} {A : Around} {E : Value → Shared → Prop} {s : Shared}
end
section
variable {X : Cx}
end
end L2
namespace Att
open PySem PySem.W PySem.Calls PyProof.Rows
theorem ints_of_wellAll {P : Params} {h : Heap} : ∀ (ns : List Int) (vs : List Value),WellAll P h vs (ns.map WData.int) → IntsAre vs ns := by
  intro ns
  induction ns with
  | nil =>
    intro vs w
    rw [List.map_nil] at w
    cases w
    exact .nil
  | cons n ns ih =>
    intro vs w
    rw [List.map_cons] at w
    cases w with
    | cons a b =>
      cases a
      exact .cons _ _ (ih _ b)
theorem script_of {l : OpenLaw} {n : Nat} (hn : l.most = some n) {P : Params} {h : Heap} {args : List WData} {vals : List Value}
    (hpre : l.row.toRowW.claim.pre args = true) (hwl : WellAll P h vals args) :
    ∃ a vs ns,vals = [Value.ref a] ∧ args = [WData.list (ns.map WData.int)] ∧ h.get? a = some { cls := .type "list",data := .seq vs.toArray } ∧ IntsAre vs ns ∧ ns.length ≤ n := by
  have hsh : WShape.hasAll [] args [.list .int] = true := (pre_splitW hpre).1
  have hc : l.pre.holds [] { args := args } = true := (pre_splitW hpre).2
  obtain ⟨d,r,rfl,h1,h2⟩ := hasAllW_cons hsh
  obtain rfl := hasAllW_nil h2
  obtain ⟨xs,rfl,h3⟩ := hasW_list h1
  obtain ⟨ns,rfl⟩ := items_int h3
  have hlen : ns.length ≤ n := by
    unfold OpenLaw.pre at hc
    have h4 : (WTm.not (.lt (.lit (.int (n : Int))) (.len (.arg 0)))).holds [] { args := [.list (ns.map .int)] } = true := by
      have h4 := (holds_andW hc).1
      rw [hn] at h4
      exact h4
    have h5 := condW_of h4 (w_not (w_lt w_lit (w_len_list (w_arg rfl))))
    rw [List.length_map] at h5
    refine Nat.le_of_not_lt fun q => ?_
    have q' : (n : Int) < ((ns.length : Nat) : Int) := by omega
    first
      | (rw [decide_eq_true q'] at h5; exact absurd h5 (by decide))
      | (simp at h5; omega)
  cases hwl with
  | cons w1 w2 =>
    cases w2
    cases w1 with
    | list ho hall => exact ⟨_,_,ns,rfl,rfl,ho,ints_of_wellAll ns _ hall,hlen⟩
theorem post_true (l : OpenLaw) (args : List WData) : l.row.toRowW.claim.post args (.bool true) args = true :=
  postW_of (r := l.row.toRowW) (X := (true == true))
    (show WShape.has [] (.bool true) .bool = true by first | rfl | decide | simp [WShape.has,WShape.arms,WShape.armsAll])
    (show (WTm.eq .res (.lit (.bool true))).value [] { args := args,res := some (.bool true),after := args } = some (.bool (true == true)) from w_eq_bool (w_res rfl) w_lit) rfl
theorem attach_call {l : OpenLaw} {n : Nat} {q : Program} {loose : List Str} {XP : (Str → Option Value) → Heap → Prop} {YP : World → Heap → Prop} {d : DefRec}
    (hn : l.most = some n) (hdf : d.params.defaults = [])
    (call : ∀ (w : World) (s₀ s₁ : Shared) (mg mb : Str → Option Value) (fa : Addr) (o : Obj) (pm cd doc : Value) (a : Addr) (vs : List Value) (ns : List Int),
      Ground q loose [] XP w s₀ mg mb s₁.heap → YP w s₁.heap →
      s₁.heap.get? fa = some o → o.data = .func (docDef d.name d.params d.body d.scope pm cd doc) → s₁.heap.CodeRec cd d.name → mg d.name = some (.ref fa) →
      s₁.heap.get? a = some { cls := .type "list",data := .seq vs.toArray } → IntsAre vs ns → ns.length ≤ n → s₁.gens = #[] →
      codeAny (model l.prog w) callerA (.call (.ref fa) ⟨[.ref a],[]⟩) (fun r s' => r = .ok (.ret (.bool true)) ∧ OldK s₁.heap s'.heap ∧ s'.os = s₁.os ∧ AllBare s'.gens) s₁) :
    WalkO q loose XP YP l.row.toRowW d [] (fun f vs => PySem.call f vs) := by
  intro w s₀ s₁ mg mb G Y fa o pm cd doc dV kV ho hd hcd hD hmg hg args vals as hpre hlay hrd hwl hlo
  obtain rfl : dV = .none := Dflts.none hD hdf
  obtain rfl : kV = .none := Dflts.noKw hD
  obtain ⟨a,vs,ns,rfl,rfl,hobj,hints,hlen⟩ := script_of hn hpre hwl
  refine enter_call (codeAny_mono (call w s₀ s₁ mg mb fa o pm cd doc a vs ns G Y ho (fd_plain hd) hcd hmg hobj hints hlen hg) fun r s' hq => ?_)
  obtain ⟨rfl,h2,h3,h4⟩ := hq
  exact ⟨.inl ⟨.bool true,.bool true,[],rfl,fun _ => rfl,.bool true,post_true l _,fun _ => ⟨List.Pairwise.nil,fun _ hm => (nomatch hm)⟩⟩,h2,h3,h4⟩
section
variable {prog : Program} {w : World} {A : Around} {E : Value → Shared → Prop} {s : Shared} {K : Frag}
def ledger (h : Heap) (L d : Addr) : List (Addr × Obj) := (List.range h.objs.size).filterMap fun a => if a = L ∨ a = d then none else (h.get? a).map fun o => (a,o)
end
end Att
namespace L2
open PySem PySem.Spec PyProof.Rows
theorem vals_ints : ∀ {vs : List Value} {ns : List Int},IntsAre vs ns → Vals (ns.map V.int) vs
  | _,_,.nil => .nil
  | _,_,.cons n t h => .cons ⟨t,rfl⟩ (vals_ints h)
def Only (H : Hp) : Prop := ∀ b,H b = none ∨ ∃ o xs,H b = some (.frz o (.lst xs))
theorem law_call {P : Program} {w : World} {K : PySem.W.Frag} {mg mb : Str → Option Value} {CX : CXT} {k : Nat} {fa a : Addr} {fd : FuncData} {x : Str} {sp : Sp} {s₁ : Shared} {vs : List Value} {ns : List Int}
    (KX : K.In s₁.heap) (hns : s₁.heap.Ns mainGlobals mg) (hb : s₁.heap.Ns builtinsNs mb) (hbb : ∀ x : Str,x ≠ "__name__" → mb x = bootBuiltins x) (hlim : s₁.heap.NoLimit) (hg : s₁.gens = #[])
    (ha : s₁.heap.get? a = some { cls := .type "list",data := .seq vs.toArray }) (hi : IntsAre vs ns) (hl : ns.length ≤ sizeLine) (hr : Room k callerA)
    (F : ∀ base : Heap,K.In base → base.Ns mainGlobals mg → FnOk P w K mg base CX k fa fd [x] sp) (hbind : ∀ (s : Shared) (u : Value),BindsTo s fd ⟨[u],[]⟩ [(x,u)])
    (hsp : ∀ H : Hp,Only H → SqL K H a (ns.map V.int) → sp [.ref a] H (fun v _ => v = .bl true) fun _ _ _ => False)
    (hCX : ∀ H e s',CX [] H s₁ (fun _ _ _ => False) e s' → False) :
    codeAny (model P w) callerA (.call (.ref fa) ⟨[.ref a],[]⟩) (fun r s' => r = .ok (.ret (.bool true)) ∧ OldK s₁.heap s'.heap ∧ s'.os = s₁.os ∧ AllBare s'.gens) s₁ := by
  have rv := vals_ints hi
  have lenV := hi.length
  have core : ∀ H : Hp,Only H → SqL K H a (ns.map V.int) → HOk P w H s₁.heap → (∀ b,H b ≠ none → b = a) → (H a ≠ none → K.lookup a = none) →
      codeAny (model P w) callerA (.call (.ref fa) ⟨[.ref a],[]⟩) (fun r s' => r = .ok (.ret (.bool true)) ∧ OldK s₁.heap s'.heap ∧ s'.os = s₁.os ∧ AllBare s'.gens) s₁ := by
    intro H hO hS hok hA hK
    have base_of : ∀ {b : Addr} {o : Obj},s₁.heap.get? b = some o → H b = none → (hidT s₁.heap H).get? b = some o := fun e n => hidT_get e n
    have noA : ∀ {b : Addr} {o : Obj} {es : Array DictEntry} {ep : Nat},s₁.heap.get? b = some o → o.data = .dict es ep → H b = none := fun {b o es ep} e d => by
      cases q : H b with
      | none => rfl
      | some u =>
        have e' : b = a := hA b (by rw [q]; simp)
        subst e'
        rw [ha] at e; cases e
        have d' : Data.seq vs.toArray _ = Data.dict es ep := d
        cases d'
    have nsK : ∀ {b : Addr} {m : Str → Option Value},s₁.heap.Ns b m → (hidT s₁.heap H).Ns b m := fun {b m} ⟨o,es,ep,e,d,r⟩ => ⟨o,es,ep,base_of e (noA e d),d,r⟩
    have hKb : K.In (hidT s₁.heap H) := fun b o e => base_of (KX b o e) (by
      cases q : H b with
      | none => rfl
      | some u =>
        have e' : b = a := hA b (by rw [q]; simp)
        subst e'
        rw [hK (by rw [q]; simp)] at e; cases e)
    have hM : Mod K mg (hidT s₁.heap H) := ⟨hKb,nsK hns,⟨mb,nsK hb,hbb⟩,let ⟨mc,h1,h2⟩ := hlim; ⟨mc,nsK h1,h2⟩⟩
    have e0 : Env0 P w K mg (hidT s₁.heap H) callerA [] s₁ H := ⟨rfl,hM,fun b o e => of_hidT e,Nat.le_of_eq (hidT_size _ _),trivial,fun b hb => absurd (show b ∈ ([] : List Addr) from hb) (by simp),hok,.of_eq hg⟩
    refine codeAny_mono ((F _ hKb (nsK hns)).run callerA [] s₁ H ⟨[.ref a],[]⟩ [.ref a] [.ref a] _ _ hr e0 (hbind s₁ (.ref a)) (.cons rfl .nil) (hsp H hO hS)) fun r s' h => ?_
    cases r with
    | error e => exact (hCX H e s' h).elim
    | ok fl =>
      cases fl with
      | next => exact False.elim h
      | brk => exact False.elim h
      | cont => exact False.elim h
      | ret u =>
        obtain ⟨v,H',os,bare,un,hok',r',q⟩ := h
        have q' : v = .bl true := q
        subst q'
        obtain rfl : u = Value.bool true := r'
        refine ⟨rfl,OldK.of_keep fun b o e => ?_,os,bare⟩
        cases q : H b with
        | none => exact un.keep b o e q (by intro z; exact absurd (show b ∈ ([] : List Addr) from z) (by simp)) (by simp)
        | some u =>
          rcases hO b with z | ⟨ob,xs,z⟩
          · rw [q] at z; cases z
          · have z2 := un.frzs b ob _ z
            obtain ⟨e1,_⟩ := hok b _ z
            obtain ⟨e2,_⟩ := hok' b _ z2
            rw [e] at e1; cases e1
            exact e2
  cases hk : K.lookup a with
  | some o =>
    have e := KX a o hk
    rw [ha] at e
    cases e
    refine core (fun _ => none) (fun _ => .inl rfl) (.inr ⟨_,vs.toArray,_,hk,rfl,rfl,rfl,by rw [List.size_toArray,lenV]; exact hl,by simpa using rv⟩) (fun b u z => by have z' : (none : Option HO) = some u := z; cases z') (fun b z => absurd rfl z) fun z => absurd rfl z
  | none =>
    refine core (fun b => if b = a then some (.frz { cls := .type "list",data := .seq vs.toArray } (.lst (ns.map V.int))) else none) (fun b => ?_) (.inl (.inr ⟨{ cls := .type "list",data := .seq vs.toArray },if_pos rfl⟩)) (fun b u z => ?_) (fun b z => ?_) fun _ => hk
    · by_cases hb : b = a
      · exact .inr ⟨_,_,if_pos hb⟩
      · exact .inl (if_neg hb)
    · by_cases hb : b = a
      · have z' := (if_pos hb).symm.trans z
        cases z'
        subst hb
        exact ⟨ha,by rw [List.length_map]; exact hl,vs,_,rv,ha⟩
      · have z' := (if_neg hb).symm.trans z
        cases z'
    · by_cases hb : b = a
      · exact hb
      · exact absurd (if_neg hb) z
end L2
namespace L2
open PySem PySem.Spec PyProof.Rows
theorem walk_of {l : PySem.W.OpenLaw} {n k : Nat} {q : Program} {loose : List Str} {XP : (Str → Option Value) → Heap → Prop} {YP : World → Heap → Prop} {d : DefRec} {K : Params → PySem.W.Frag} {CX : World → CXT} {sp : World → Sp} {x : Str}
    (hn : l.most = some n) (hn2 : n ≤ sizeLine) (hdf : d.params.defaults = []) (hr : Room k callerA)
    (hY : ∀ (w : World) (h : Heap),YP w h → (K w.params).In h)
    (F : ∀ (w : World) (mg : Str → Option Value) (fa : Addr) (h : Heap),(K w.params).In h → h.Ns mainGlobals mg → mg d.name = some (.ref fa) →
      ∃ fd : FuncData,(∀ (s : Shared) (u : Value),BindsTo s fd ⟨[u],[]⟩ [(x,u)]) ∧
        ∀ base : Heap,(K w.params).In base → base.Ns mainGlobals mg → FnOk l.prog w (K w.params) mg base (CX w) k fa fd [x] (sp w))
    (hsp : ∀ (w : World) (H : Hp) (a : Addr) (ns : List Int),ns.length ≤ n → Only H → SqL (K w.params) H a (ns.map V.int) → sp w [.ref a] H (fun v _ => v = .bl true) fun _ _ _ => False)
    (hCX : ∀ (w : World) (H : Hp) (s : Shared) (e : Value) (s' : Shared),CX w [] H s (fun _ _ _ => False) e s' → False) :
    PySem.W.WalkO q loose XP YP l.row.toRowW d [] (fun f vs => PySem.call f vs) := by
  refine Att.attach_call hn hdf fun w s₀ s₁ mg mb fa o pm cd doc a vs ns G Y ho hd hcd hmg hobj hints hlen hg => ?_
  have KX := hY w _ Y
  obtain ⟨fd,hb,hF⟩ := F w mg fa _ KX G.T.g hmg
  exact law_call KX G.T.g G.T.b G.T.builtins G.T.nolimit hg hobj hints (Nat.le_trans hlen hn2) hr hF hb (fun H hO hS => hsp w H a ns hlen hO hS) fun H e s' => hCX w H s₁ e s'
end L2
namespace L2
open PySem PySem.Spec PyProof.Rows
def inClass (s : Stmt) (j : Nat) : Stmt := match s with
  | .ClassDef _ _ _ body _ _ _ _ _ _ _ => body.getD j (.Pass ⟨0,0,0,0⟩)
  | _ => .Pass ⟨0,0,0,0⟩
def defArgs (s : Stmt) : Arguments := match s with
  | .FunctionDef _ a _ _ _ _ _ _ _ _ => a
  | _ => { posonlyargs := [],args := [],vararg := none,kwonlyargs := [],kw_defaults := [],kwarg := none,defaults := [] }
def defBody (s : Stmt) : List Stmt := match s with
  | .FunctionDef _ _ b _ _ _ _ _ _ _ => b
  | _ => []
def defScope (s : Stmt) : Scope := match s with
  | .FunctionDef _ _ _ _ _ _ sc _ _ _ => sc
  | _ => { kind := .function,names := [],isGenerator := false,isCoroutine := false }
abbrev CX0 : CXT := fun _ _ _ _ _ _ => False
abbrev E0 : XK := fun _ _ _ => False
theorem pass0 {X : Cx} : Passes CX0 X E0 := fun _ _ _ _ _ _ _ h => h.elim
structure Fun (K : PySem.W.Frag) (x qual : Str) (st : Stmt) (f : Addr) (fd : FuncData) : Prop where
  ex : ∃ (oc : Value) (od : Option Addr) (kV doc pm : Value) (an : Option Addr) (cdv ct : Value) (osl : Array (Option Value)),
    fd = PySem.W.fnOf x qual (defArgs st) (defBody st) (defScope st) .none kV doc pm an cdv ct ∧ K.lookup f = some ⟨oc,od,.func fd,osl⟩ ∧ PySem.W.codeIn K cdv qual = true
  kp : PySem.W.keepIn K (.ref f) = true
section
variable {P : Program} {w : World} {K : PySem.W.Frag} {mg : Str → Option Value} {base : Heap}
theorem Fun.ok {x qual : Str} {st : Stmt} {f : Addr} {fd : FuncData} {N ps : List Str} {k : Nat} {sp : Sp} (F : Fun K x qual st f fd) (S : FnScope N ps (defScope st)) (len : ∀ vs H Q E,sp vs H Q E → vs.length = ps.length)
    (hbody : ∀ (cdv : Value) (A : Around) (outer : List Env) (s : Shared) (H : Hp) (vs : List V) (Q : VK) (E : XK),Room k (A.deeper (envOfC qual (defScope st) s.heap.objs.size f cdv)) → sp vs H Q E →
      ∃ t,PSs (cxOf CX0 P w K mg base N qual (defScope st) f cdv A outer s H E).nox (defBody st) t ∧ t { nx := fun _ H' => Q .non H',rt := Q } (start N vs) H) : FnOk P w K mg base CX0 (k + 1) f fd ps sp := by
  obtain ⟨oc,od,kV,doc,pm,an,cdv,ct,osl,rfl,lk,hcd⟩ := F.ex
  refine fn_of lk hcd S len fun A outer s H vs Q E hr hsp => ?_
  obtain ⟨t,h,q⟩ := hbody cdv A outer s H vs Q E hr hsp
  exact ⟨t,h.nox,q⟩
theorem Fun.binds {x qual : Str} {st : Stmt} {f : Addr} {fd : FuncData} {ps : List Str} (F : Fun K x qual st f fd)
    (h : ∀ (kV doc pm : Value) (an : Option Addr) (cdv ct : Value) (us : List Value),us.length = ps.length → bindArgs (PySem.W.fnOf x qual (defArgs st) (defBody st) (defScope st) .none kV doc pm an cdv ct) ⟨us,[]⟩ = pure (ps.zip us)) : Binds K fd ps [] := by
  obtain ⟨oc,od,kV,doc,pm,an,cdv,ct,osl,rfl,lk,hcd⟩ := F.ex
  exact .all (h kV doc pm an cdv ct)
theorem fun_mk {x qual : Str} {st : Stmt} {f : Addr} {oc : Value} {od an : Option Addr} {osl : Array (Option Value)} {kV doc pm cdv ct : Value} (l : K.lookup f = some ⟨oc,od,.func (PySem.W.fnOf x qual (defArgs st) (defBody st) (defScope st) .none kV doc pm an cdv ct),osl⟩)
    (c : PySem.W.codeIn K cdv qual = true) (k : PySem.W.keepIn K (.ref f) = true) : Fun K x qual st f (PySem.W.fnOf x qual (defArgs st) (defBody st) (defScope st) .none kV doc pm an cdv ct) := ⟨⟨oc,od,kV,doc,pm,an,cdv,ct,osl,rfl,l,c⟩,k⟩
end
section
variable {X : Cx}
theorem pv (i : Nat) {x : Str} {pos : Pos} (hN : X.N[i]? = some x := by rfl) (hv : Vis X.env.scope x := by first | exact Or.inl rfl | exact Or.inr (Or.inl rfl) | exact Or.inr (Or.inr rfl)) (hd : (x == ("__debug__" : Str)) = false := by decide)
    (hcd : (x == ("__classdict__" : Str)) = false := by decide) : PE X (.Name x pos) (tVar i) := pe_var hN hv hd hcd
end
theorem iteF {A B : Prop} (h : B) : if false = true then A else B := by
  rw [if_neg Bool.false_ne_true]
  exact h
theorem iteT {A B : Prop} (h : A) : if true = true then A else B := by
  rw [if_pos rfl]
  exact h
theorem ite2 {c A B : Prop} [Decidable c] (h1 : c → A) (h2 : ¬ c → B) : if c then A else B := by
  by_cases h : c
  · rw [if_pos h]
    exact h1 h
  · rw [if_neg h]
    exact h2 h
def Same (H H' : Hp) : Prop := ∀ b o,H b = some o → H' b = some o
theorem Same.refl (H : Hp) : Same H H := fun _ _ h => h
theorem Same.trans {H H1 H2 : Hp} (a : Same H H1) (b : Same H1 H2) : Same H H2 := fun c o h => b c o (a c o h)
theorem Same.free {H H' : Hp} (e : Same H H') {l : Addr} (h : H' l = Option.none) : H l = Option.none := by
  cases q : H l with
  | none => rfl
  | some o =>
    rw [e l o q] at h
    cases h
end L2
set_option Elab.async false
set_option linter.all false
set_option maxRecDepth 100000
namespace L2
open PySem PySem.Spec PyProof.Rows
def clAdd (env : Env) : List (Str × NameKind) → List (Str × Addr) → List (Str × Addr)
  | [],acc => acc
  | (n,k) :: r,acc => clAdd env r (if (k == NameKind.free) = true then (n,(env.cells.lookup n).getD 0) :: acc else acc)
theorem clAdd_lookup (env : Env) : ∀ (names : List (Str × NameKind)) (acc : List (Str × Addr)) (x : Str) (c : Addr),(∀ y ∈ names,y.2 = .free → ∃ c,env.cells.lookup y.1 = some c) →
    (∀ x c,acc.lookup x = some c → env.cells.lookup x = some c) → (clAdd env names acc).lookup x = some c → env.cells.lookup x = some c
  | [],acc,x,c,_,h,e => h x c e
  | (n,k) :: r,acc,x,c,hf,h,e => by
    refine clAdd_lookup env r _ x c (fun y hy => hf y (List.mem_cons_of_mem _ hy)) (fun x c e' => ?_) e
    by_cases hk : (k == NameKind.free) = true
    · rw [if_pos hk] at e'
      obtain ⟨c0,hc0⟩ := hf (n,k) List.mem_cons_self (by simpa using hk)
      have hc0' : env.cells.lookup n = some c0 := hc0
      rw [List.lookup_cons] at e'
      cases hx : x == n with
      | true =>
        rw [hx] at e'
        have : x = n := by simpa using hx
        subst this
        rw [hc0'] at e' ⊢
        simpa using e'
      | false => rw [hx] at e'; exact h x c e'
    · rw [if_neg hk] at e'; exact h x c e'
theorem clAdd_keep (env : Env) : ∀ (names : List (Str × NameKind)) (acc : List (Str × Addr)) (x : Str),(∃ c,acc.lookup x = some c) → ∃ c,(clAdd env names acc).lookup x = some c
  | [],acc,x,h => h
  | (n,k) :: r,acc,x,h => by
    refine clAdd_keep env r _ x ?_
    by_cases hk : (k == NameKind.free) = true
    · rw [if_pos hk,List.lookup_cons]
      cases hx : x == n with
      | true => exact ⟨_,rfl⟩
      | false => exact h
    · rw [if_neg hk]; exact h
theorem clAdd_has (env : Env) : ∀ (names : List (Str × NameKind)) (acc : List (Str × Addr)) (x : Str),(x,NameKind.free) ∈ names → ∃ c,(clAdd env names acc).lookup x = some c
  | [],acc,x,h => by simp at h
  | (n,k) :: r,acc,x,h => by
    rcases List.mem_cons.mp h with e | e
    · have e1 : x = n := congrArg Prod.fst e
      have e2 : NameKind.free = k := congrArg Prod.snd e
      subst e1
      subst e2
      refine clAdd_keep env r _ x ?_
      rw [if_pos (by simp),List.lookup_cons]
      simp
    · exact clAdd_has env r _ x e
theorem closure_eq {env : Env} {scope : Scope} (hf : ∀ y ∈ scope.names,y.2 = .free → ∃ c,env.cells.lookup y.1 = some c) : closureFor scope env = pure (clAdd env scope.names []) := by
  have key : ∀ (names : List (Str × NameKind)) (acc : List (Str × Addr)),(∀ y ∈ names,y.2 = .free → ∃ c,env.cells.lookup y.1 = some c) →
      (forIn names acc (fun (x : Str × NameKind) (r : List (Str × Addr)) => (if (x.2 == NameKind.free) = true then do
        let a ← cellOf env x.1
        pure (ForInStep.yield ((x.1,a) :: r)) else pure (ForInStep.yield r)) ) : Sem (List (Str × Addr))) = pure (clAdd env names acc) := by
    intro names
    induction names with
    | nil => intro acc _; rfl
    | cons y r ih =>
      intro acc h
      obtain ⟨n,k⟩ := y
      have ih' := fun acc => ih acc fun z hz => h z (List.mem_cons_of_mem _ hz)
      rw [List.forIn_cons]
      by_cases hk : (k == NameKind.free) = true
      · obtain ⟨c,hc⟩ := h (n,k) List.mem_cons_self (by simpa using hk)
        have hc' : env.cells.lookup n = some c := hc
        have e1 : cellOf env n = pure c := by unfold cellOf; rw [hc']
        have e2 : clAdd env ((n,k) :: r) acc = clAdd env r ((n,c) :: acc) := by
          show clAdd env r _ = _
          rw [if_pos hk,hc']; rfl
        rw [if_pos hk,e2,← ih']
        show ((cellOf env n >>= fun a => pure (ForInStep.yield ((n,a) :: acc))) >>= _) = _
        rw [e1]
        rfl
      · have e2 : clAdd env ((n,k) :: r) acc = clAdd env r acc := by
          show clAdd env r _ = _
          rw [if_neg hk]
        rw [if_neg hk,e2,← ih']
        rfl
  have := key scope.names [] hf
  simp only [closureFor]
  exact (congrArg (fun m => m >>= fun r => (pure r : Sem _)) this).trans rfl
theorem relabel_back {env : Env} {scope : Scope} (hcell : ∀ y ∈ scope.names,y.2 ≠ .cell) {x : Str} : ((relabel scope env).names.lookup x = some .cell ∨ (relabel scope env).names.lookup x = some .free) → (x,NameKind.free) ∈ scope.names := by
  have key : ∀ names : List (Str × NameKind),(∀ y ∈ names,y.2 ≠ .cell) → ∀ k,(names.map fun (n,k) => if (k == NameKind.free && env.scope.kind == .function && env.kindOf n == some .cell) then (n,NameKind.cell) else (n,k)).lookup x = some k →
      (k = .cell ∨ k = .free) → (x,NameKind.free) ∈ names := by
    intro names
    induction names with
    | nil => intro _ k h _; simp at h
    | cons y r ih =>
      obtain ⟨n,k'⟩ := y
      intro hc k h hk
      have nc : k' ≠ .cell := hc (n,k') List.mem_cons_self
      rw [List.map_cons] at h
      by_cases hb : (k' == NameKind.free && env.scope.kind == .function && env.kindOf n == some .cell) = true
      · have hb' : k' = .free := by simp at hb; exact hb.1.1
        dsimp only at h
        rw [if_pos hb,List.lookup_cons] at h
        cases hx : x == n with
        | true => have : x = n := by simpa using hx
                  subst this; subst hb'; exact List.mem_cons_self
        | false => rw [hx] at h; exact List.mem_cons_of_mem _ (ih (fun y hy => hc y (List.mem_cons_of_mem _ hy)) k h hk)
      · dsimp only at h
        rw [if_neg hb,List.lookup_cons] at h
        cases hx : x == n with
        | true =>
          rw [hx] at h
          have : x = n := by simpa using hx
          subst this
          have e : k' = k := by simpa using h
          rcases hk with q | q
          · exact absurd (e.trans q) nc
          · rw [e,q]; exact List.mem_cons_self
        | false => rw [hx] at h; exact List.mem_cons_of_mem _ (ih (fun y hy => hc y (List.mem_cons_of_mem _ hy)) k h hk)
  rintro (h | h)
  · exact key _ hcell _ h (.inl rfl)
  · exact key _ hcell _ h (.inr rfl)
def blkCx (X : Cx) (pins : List (Addr × Obj)) (s2 : Shared) (H2 : Hp) (scope : Scope) (C : Addr) (N' : List Str) (fp : List Addr) : Cx where
  prog := X.prog
  w := X.w
  K := X.K
  mg := X.mg
  base := X.base
  A := X.A
  N := N'
  s₀ := s2
  H₀ := H2
  env := compEnvC scope (clAdd X.env scope.names []) C X.env
  outer := X.stack
  stack := X.stack
  ex := fp
  fn := fun _ => false
  calm := X.calm
  pn := X.pn ++ pins
  xe := fun _ _ => False
def blkSt (σ : St) (cap : List Nat) (k : Nat) : St := List.replicate k none ++ cap.map fun j => (σ[j]?).join
def leS (σ σ' : St) : Prop := σ'.length = σ.length ∧ ∀ (i : Nat) v,σ[i]? = some (some v) → σ'[i]? = some (some v)
theorem leS.set {σ : St} {i : Nat} {v : V} (h : σ[i]? = some none) : leS σ (σ.set i (some v)) := by
  refine ⟨by simp,fun j w e => ?_⟩
  by_cases hj : j = i
  · subst hj; rw [h] at e; cases e
  · rw [List.getElem?_set_ne (Ne.symm hj)]; exact e
structure CompOk (X : Cx) (scope : Scope) (own : List Str) (cs : List Str) (cap : List Nat) : Prop where
  kind : scope.kind = .function
  cell : ∀ y ∈ scope.names,y.2 ≠ .cell
  names : ∀ y ∈ scope.names,y.2 = .local → scope.names.lookup y.1 = some .local
  free : ∀ y ∈ scope.names,y.2 = .free → X.env.kindOf y.1 = some .cell ∨ X.env.kindOf y.1 = some .free
  caps : ∀ (i : Nat) y,cs[i]? = some y → ∃ j,cap[i]? = some j ∧ X.N[j]? = some y ∧ (y,NameKind.free) ∈ scope.names
  ownl : ∀ y ∈ own,scope.names.lookup y = some .local
  len : cs.length = cap.length
  free2 : ∀ y,(y,NameKind.free) ∈ scope.names → scope.names.lookup y = some .local → False
def PIfs (X : Cx) (ifs : List Expr) (tt : TT) : Prop :=
  ∀ (pins : List (Addr × Obj)) (s : Shared) (σ : St) (H : Hp) (Q : Bool → Hp → Prop),Inv X pins σ H s → tt σ H Q →
    wpAny (model X.prog X.w) X.A (forIn ifs true fun c r => if r = true then do let ok ← isTrue c X.env (eval c X.env); pure (ForInStep.yield ok) else pure (ForInStep.yield r)) (TP X pins σ Q) X.xe s
def tYes : TT := fun _ H Q => Q true H
theorem pifs_nil {X : Cx} : PIfs X [] tYes := fun _ _ _ H _ I h => wpAny_tests_nil ⟨H,I,h⟩
theorem pifs_one {X : Cx} {c : Expr} {tt : TT} (h : PT X c tt) : PIfs X [c] tt := fun pins s σ H Q I q => wpAny_tests_one (h pins s σ H Q I q)
def CompW (σ : St) (cap : List Nat) (k : Nat) (J : It) (g : TG) (tt : TT) (te : TE) (Q : List V → Hp → Prop) (W : Nat → Nat → List V → Hp → Prop) : Prop :=
  ∀ i m ys H,W i m ys H → (J.stop i H ∧ ys.length ≤ sizeLine ∧ Q ys H) ∨
    (J.go i H ∧ ys.length < sizeLine ∧ ∀ x H',J.yld i H x H' → g x (blkSt σ cap k) H' fun σ2 H2 => leS (blkSt σ cap k) σ2 ∧ tt σ2 H2 fun ok H3 =>
      if ok = true then te σ2 H3 (fun v H4 => ∃ m',m' < m ∧ W (i + 1) m' (ys ++ [v]) H4) else ∃ m',m' < m ∧ W (i + 1) m' ys H3)
theorem HOk.add {P : Program} {w : World} {H : Hp} {h : Heap} {a : Addr} {o : HO} (x : HOk P w H h) (n : H a = none) (new : ObjOk P w (upd H a o) h a o) : HOk P w (upd H a o) h := fun b u e => by
  by_cases hb : b = a
  · subst hb; rw [upd_same] at e; cases e; exact new
  · rw [upd_ne hb] at e
    exact (x b u e).stay (fun c v _ q => q) (fun c q => by rw [upd_ne (ne_of_none q n)]; exact q) fun c xs q => by rw [upd_ne (ne_of_none q n)]; exact q
section
variable {X : Cx} {pins : List (Addr × Obj)} {σ : St} {H2 : Hp} {s2 : Shared} {scope : Scope} {own cs : List Str} {cap : List Nat} {fp : List Addr}
theorem blk_start {h1 : Heap} {C : Addr} {tk : Nat} (I : Inv X pins σ H2 s2) (ok : CompOk X scope own cs cap) (hf : ∀ b ∈ fp,FpOk X pins H2 b) (hfl : ∀ b ∈ fp,b < s2.heap.objs.size)
    (hC : s2.heap.objs.size ≤ C) (hns : h1.Ns C (fun _ => none)) (old : ∀ b o,s2.heap.get? b = some o → h1.get? b = some o) :
    Inv (blkCx X pins s2 H2 scope C (own ++ cs) fp) [] (blkSt σ cap own.length) H2 { s2 with heap := h1,toks := tk } := by
  have hfr : ∀ y ∈ scope.names,y.2 = .free → ∃ c,X.env.cells.lookup y.1 = some c := fun y hy e => I.ok.has y.1 (ok.free y hy e)
  have sub : ∀ x c,(clAdd X.env scope.names []).lookup x = some c → X.env.cells.lookup x = some c := fun x c e => clAdd_lookup X.env scope.names [] x c hfr (fun _ _ z => by simp at z) e
  have clt : ∀ x c,(clAdd X.env scope.names []).lookup x = some c → c < s2.heap.objs.size := fun x c e => by
    obtain ⟨v,o,ho,_⟩ := I.cell x c (sub x c e)
    exact Heap.lt_size ho
  refine ⟨⟨I.ok.mod,ok.kind,I.ok.glob,I.ok.blt,hC,fun y z c h1 h2 => I.ok.inj y z c (sub y c h1) (sub z c h2),fun y hy => ?_,fun y c z => ?_,I.ok.hd,I.ok.frames,.inl rfl,fun b hb => ?_,I.bs,Nat.le_trans I.ok.bsz I.sz,fun b o e hb => ?_,fun b hb z => ?_,I.stack,I.stkFree⟩,
    rfl,I.bare,Un.kept old,⟨_,hns,fun i y v e1 e2 e3 => ?_⟩,fun y c e => ?_,I.hok.fresh hC,fun y c e => I.freeC y c (sub y c e),fun p hp => ?_,I.hok.kept old,?_⟩
  · have hm := relabel_back ok.cell hy
    exact clAdd_has X.env scope.names [] y hm
  · exact absurd (show false = true from z) Bool.false_ne_true
  · exact ⟨Nat.ne_of_lt (Nat.lt_of_lt_of_le (hfl b hb) hC),fun x c e => (hf b hb).2.2.2.2.1 x c (sub x c e)⟩
  · rcases (hf b hb).2.2.2.1 with z | z
    · exact I.ok.noex b o e z
    · exact absurd (Nat.lt_of_lt_of_le (Heap.lt_size (I.ok.bs b o e).1) z) (Nat.lt_irrefl _)
  · rcases List.mem_cons.mp (I.stkSub b z) with q | q
    · exact (hf b hb).2.1 q
    · exact (hf b hb).2.2.1 q
  · have hi : own.length ≤ i := by
      refine Nat.le_of_not_lt fun q => ?_
      unfold blkSt at e2
      rw [List.getElem?_append_left (by simpa using q),List.getElem?_replicate] at e2
      split at e2 <;> cases e2
    have e1' : cs[i - own.length]? = some y := by
      have e1 : (own ++ cs)[i]? = some y := e1
      rwa [List.getElem?_append_right hi] at e1
    obtain ⟨j,hj,hN,hm⟩ := ok.caps _ y e1'
    have hk := ok.free _ hm rfl
    have e2' : σ[j]? = some (some v) := by
      unfold blkSt at e2
      rw [List.getElem?_append_right (by simpa using hi),List.length_replicate,List.getElem?_map,hj] at e2
      have e2 : (σ[j]?).join = some v := by simpa using e2
      cases q : σ[j]? with
      | none => rw [q] at e2; cases e2
      | some w => rw [q] at e2; have : w = some v := e2; rw [this]
    obtain ⟨m,hn,hl⟩ := I.loc
    obtain ⟨u,ru,l⟩ := hl j y v hN e2' (by rcases hk with q | q; exact .inr (.inl q); exact .inr (.inr q))
    refine ⟨u,ru,.inr ?_⟩
    obtain ⟨c,hc⟩ := clAdd_has X.env scope.names [] y hm
    have hc' := sub y c hc
    have cellu : h1.IsCell c (some u) := by
      rcases l with ⟨k,_⟩ | ⟨k,c',e,o,ho,hd⟩
      · rcases hk with q | q <;> (have z : X.env.kindOf y = _ := q; rw [k] at z; cases z)
      · rw [hc'] at e; cases e
        exact ⟨o,old _ _ ho,hd⟩
    refine ⟨?_,c,hc,cellu⟩
    rcases e3 with z | z | z
    · exfalso
      have key : ∀ names : List (Str × NameKind),True := fun _ => trivial
      have z : (relabel scope X.env).names.lookup y = some .local := z
      have zz : scope.names.lookup y = some .local := by
        unfold relabel at z
        dsimp only at z
        revert z
        generalize scope.names = names
        induction names with
        | nil => intro z; simp at z
        | cons q r ih =>
          obtain ⟨n,k⟩ := q
          intro z
          rw [List.map_cons] at z
          by_cases hb : (k == NameKind.free && X.env.scope.kind == .function && X.env.kindOf n == some .cell) = true
          · dsimp only at z
            rw [if_pos hb,List.lookup_cons] at z
            rw [List.lookup_cons]
            cases hx : y == n with
            | true => rw [hx] at z; cases z
            | false => rw [hx] at z; exact ih z
          · dsimp only at z
            rw [if_neg hb,List.lookup_cons] at z
            rw [List.lookup_cons]
            cases hx : y == n with
            | true => rw [hx] at z; exact z
            | false => rw [hx] at z; exact ih z
      have := ok.free2 y hm zz
      exact this
    · exact .inl z
    · exact .inr z
  · obtain ⟨v,o,ho,hd⟩ := I.cell y c (sub y c e)
    exact ⟨v,o,old _ _ ho,hd⟩
  · have hp' : p ∈ X.pn ++ pins := by
      have : p ∈ (X.pn ++ pins) ++ [] := hp
      simpa using this
    obtain ⟨e,n,ne,nf,d⟩ := I.pin p hp'
    refine ⟨old _ _ e,n,Nat.ne_of_lt (Nat.lt_of_lt_of_le (Heap.lt_size e) hC),fun z => ?_,d⟩
    rcases List.mem_cons.mp (I.stkSub p.1 z) with q | q
    · exact ne q
    · exact nf q
  · show (blkSt σ cap own.length).length = (own ++ cs).length
    unfold blkSt
    rw [List.length_append,List.length_replicate,List.length_map,List.length_append,ok.len]
end
end L2
set_option Elab.async false
set_option linter.all false
set_option maxRecDepth 100000
namespace L2
open PySem PySem.Spec PyProof.Rows
section
variable {X : Cx} {pins : List (Addr × Obj)} {σ : St} {H2 : Hp} {s2 : Shared} {scope : Scope} {own cs : List Str} {cap : List Nat} {fp : List Addr} {it : Addr} {tn : Nat → Heap → Prop}
  {elt tg iter : Expr} {ifs : List Expr} {pos : Pos} {J : It} {g : TG} {tt : TT} {te : TE} {E : Value → Shared → Prop} {W : Nat → Nat → List V → Hp → Prop} {Qf : List V → Hp → Prop}
structure BlkEnd (X : Cx) (pins : List (Addr × Obj)) (σ : St) (Qf : List V → Hp → Prop) (D C : Addr) (s' : Shared) : Prop where
  ex : ∃ (ys : List V) (H' : Hp),H' D = none ∧ Qf ys H' ∧ Inv X pins σ (upd H' D (.lst ys)) s' ∧ FpOk X pins (upd H' D (.lst ys)) C
  ns : ∃ m,s'.heap.Ns C m
theorem Inv.bareP {pins' : List (Addr × Obj)} {H : Hp} {s : Shared} (I : Inv X pins' σ H s) : Inv X [] σ H s := I.pins_of fun p hp => absurd hp (by simp)
theorem comp_run {RR : Value → Addr → Result → Shared → Prop} (I : Inv X pins σ H2 s2) (ok : CompOk X scope own cs cap) (hc : X.calm = true) (T : Turn X.prog X.w X.K tg J fp it tn) (st : tn 0 s2.heap) (hf : ∀ b ∈ fp,FpOk X pins H2 b)
    (hg : ∀ C,PG (blkCx X pins s2 H2 scope C (own ++ cs) fp) tg g) (hi : ∀ C,PIfs (blkCx X pins s2 H2 scope C (own ++ cs) fp) ifs tt) (he : ∀ C,PE (blkCx X pins s2 H2 scope C (own ++ cs) fp) elt te)
    (w0 : ∃ m,W 0 m [] H2) (turn : CompW σ cap own.length J g tt te Qf W)
    (hRR : ∀ D C s',BlkEnd X pins σ Qf D C s' → RR (.ref D) C (.ok .next) s') :
    wpAny (model X.prog X.w) X.A (newList []) (fun acc s₃ => wpAny (model X.prog X.w) X.A (newFunctionEnv scope X.env.globals (clAdd X.env scope.names []) [] X.env.qual none .none (some X.env)) (fun cenv s₄ =>
      codeAny (model X.prog X.w) X.A (.compStart (.ListComp elt [⟨tg,iter,ifs,0⟩] scope pos) 0 (.ref it) acc { cenv with scope := relabel scope X.env }) (RR acc cenv.locals) s₄) E s₃) E s2 := by
  refine wpAny_newObj_type (wpAny_newFunctionEnv ok.cell (by intro y hy; simp at hy) (fun h₁ hns₁ hsb₁ => ?_) ok.kind)
  dsimp only at hns₁ hsb₁ ⊢
  generalize hHH : s2.heap.push { cls := .type "list",dict := none,data := .seq ([] : List Value).toArray } = HH at hns₁ hsb₁ ⊢
  have hCs : HH.objs.size = s2.heap.objs.size + 1 := by rw [← hHH,Heap.size_push]
  have hDC : s2.heap.objs.size ≠ HH.objs.size := by rw [hCs]; exact Nat.ne_of_lt (Nat.lt_succ_self _)
  have hCle : s2.heap.objs.size ≤ HH.objs.size := by rw [hCs]; exact Nat.le_succ _
  have hfl : ∀ b ∈ fp,b < s2.heap.objs.size := fun b hb => by
    obtain ⟨o,e,_⟩ := T.obj 0 _ st b hb
    exact Heap.lt_size e
  have old : ∀ b o,s2.heap.get? b = some o → h₁.get? b = some o := fun b o e => hsb₁.extBut b o (by rw [hCs]; exact Nat.ne_of_lt (Nat.lt_succ_of_lt (Heap.lt_size e))) (Heap.get?_push_of_some _ (hHH ▸ Heap.get?_push_of_some _ e))
  have hacc : h₁.PlainList s2.heap.objs.size #[] := ⟨_,hsb₁.extBut _ _ hDC (Heap.get?_push_of_some _ (hHH ▸ Heap.get?_push_size _ rfl))⟩
  generalize hD : s2.heap.objs.size = D at *
  generalize hCC : HH.objs.size = C at *
  have hns₁' : h₁.Ns C (fun _ => none) := hns₁
  have I0 : Inv (blkCx X pins s2 H2 scope C (own ++ cs) fp) [] (blkSt σ cap own.length) H2 { s2 with heap := h₁,toks := s2.toks + ([] : List (Str × Value)).length } :=
    blk_start I ok hf (fun b hb => by rw [hD]; exact hfl b hb) (by rw [hD]; exact hCle) hns₁' old
  have Dfs : D ∉ frs X.stack := fun hb => by
    obtain ⟨_,o,ho,_⟩ := I.stack.mem hb
    exact absurd (Heap.lt_size ho) (by rw [hD]; exact Nat.lt_irrefl _)
  have Dfp : ∀ b ∈ fp,D ≠ b := fun b hb z => absurd (hfl b hb) (by rw [← z]; exact Nat.lt_irrefl _)
  have clt : ∀ x c,(clAdd X.env scope.names []).lookup x = some c → c < D := fun x c e => by
    have e' := clAdd_lookup X.env scope.names [] x c (fun y hy e => I.ok.has y.1 (ok.free y hy e)) (fun _ _ z => by simp at z) e
    obtain ⟨v,o,ho,_⟩ := I.cell x c e'
    have := Heap.lt_size ho
    rw [hD] at this; exact this
  have plt : ∀ p ∈ X.pn ++ pins,p.1 < D := fun p hp => by
    have := Heap.lt_size (I.pin p hp).1
    rw [hD] at this; exact this
  have stat : ∀ {H' : Hp} {ob : Obj},(∀ b ∈ fp,H' b = none) → ∀ b ∈ fp,FpOk (blkCx X pins s2 H2 scope C (own ++ cs) fp) [(D,ob)] H' b := fun {H' ob} hn b hb => by
    have q := I0.ok.exf b hb
    refine ⟨hn b hb,q.1,I0.ok.exfs b hb,.inl hb,q.2,fun p hp => ?_⟩
    rcases List.mem_append.mp hp with z | z
    · exact (hf b hb).2.2.2.2.2 p z
    · have : p = (D,ob) := by simpa using z
      subst this
      exact Dfp b hb
  have loop : codeAny (model X.prog X.w) X.A (.compLoop (.ListComp elt [⟨tg,iter,ifs,0⟩] scope pos) 0 (.ref it) (.ref D) (compEnvC scope (clAdd X.env scope.names []) C X.env)) (RR (.ref D) C)
      { s2 with heap := h₁,toks := s2.toks + ([] : List (Str × Value)).length } := by
    obtain ⟨m0,w0⟩ := w0
    refine codeAny_loop rfl (fun n s' => ∃ i H' its ys,Inv (blkCx X pins s2 H2 scope C (own ++ cs) fp) [] (blkSt σ cap own.length) H' s' ∧ tn i s'.heap ∧ (∀ b ∈ fp,H' b = none) ∧ s'.heap.PlainList D its.toArray ∧ Vals ys its ∧ H' D = none ∧ W i n ys H') ?_ m0
      ⟨0,H2,[],[],I0,T.keep 0 _ _ st fun b _ o e => old b o e,fun b hb => (hf b hb).1,hacc,.nil,I.hok.fresh (by rw [hD]; exact Nat.le_refl _),w0⟩
    rintro n s3 ⟨i,H3,its,ys,I3,st3,fr3,⟨nn,pl3⟩,rv3,hD3,w3⟩
    show wpAny _ X.A ((compTurn (.ListComp elt [⟨tg,iter,ifs,0⟩] scope pos) 0 (.ref it) (.ref D) (compEnvC scope (clAdd X.env scope.names []) C X.env)).onRaise (fun x => do noteFrame x (compEnvC scope (clAdd X.env scope.names []) C X.env); theTreesLotGoes x)) _ _ s3
    refine wpAny_noted ?_
    rw [compTurn_list]
    refine wpAny_bind (wpAny_standAt (wpAny_bind ?_))
    have I3' : Inv (blkCx X pins s2 H2 scope C (own ++ cs) fp) [(D, { cls := .type "list", data := .seq its.toArray nn })] (blkSt σ cap own.length) H3 s3 :=
      I3.pins_of fun p hp => by
        have : p = (D,{ cls := .type "list",data := .seq its.toArray nn }) := by simpa using hp
        subst this
        exact ⟨pl3,hD3,hDC,Dfs,fun v z => by cases z⟩
    rcases turn i n ys H3 w3 with ⟨stop,hz,qf⟩ | ⟨go,hz,step⟩
    · refine thn (T.done (blkCx X pins s2 H2 scope C (own ++ cs) fp) rfl rfl rfl hc i _ s3 _ H3 _ I3' (stat fr3) st3 stop) fun r s4 ⟨hr,I4⟩ => ?_
      subst hr
      refine wpAny_pure (hRR D C s4 ⟨⟨ys,H3,hD3,qf,?_,?_⟩,?_⟩)
      · have pl4 := (I4.pin (D,_) (List.mem_append_right _ (List.mem_singleton.mpr rfl))).1
        have u4 := I4.base
        have Ds2 : s2.heap.get? D = none := Heap.get?_none_of_le (by rw [hD]; exact Nat.le_refl _)
        refine I.call' (s' := s4) (ch := fp) I4.os ⟨u4.keep,u4.slot,fun b o e n hx => ?_,u4.there,fun b xs e => ?_,fun b o u e => ?_,fun b ps e => ?_⟩ ?_ I4.bare fun b hb => ⟨(hf b hb).2.2.2.1,(hf b hb).2.1,(hf b hb).2.2.2.2.1,(hf b hb).2.2.2.2.2⟩
        · rw [upd_ne (fun z => by rw [z,Ds2] at e; cases e)]
          exact u4.free b o e n hx
        · have := u4.tups b xs e
          rw [upd_ne (ne_of_none this hD3)]; exact this
        · have := u4.frzs b o u e
          rw [upd_ne (ne_of_none this hD3)]; exact this
        · obtain ⟨more,e'⟩ := u4.tbls b ps e
          exact ⟨more,by rw [upd_ne (ne_of_none e' hD3)]; exact e'⟩
        · exact I4.hok.add hD3 ⟨hz,its,nn,rv3,pl4⟩
      · have CH : (upd H3 D (.lst ys)) C = none := by rw [upd_ne (Ne.symm hDC)]; exact I4.free
        exact I.fpOk (H' := upd H3 D (.lst ys)) (by rw [hD]; exact hCle) CH
      · obtain ⟨m,hn,_⟩ := I4.loc
        exact ⟨m,hn⟩
    · refine thn (T.item (blkCx X pins s2 H2 scope C (own ++ cs) fp) rfl rfl rfl hc i _ s3 _ H3 _ I3' (stat fr3) st3 go) fun r s4 ⟨u,hr,h4⟩ => ?_
      subst hr
      refine wpAny_bind (thn h4 fun _ s5 ⟨x,H5,I5,r5,y5,st5,fr5⟩ => ?_)
      have I5' := I5.pinned (stat fr5) (T.obj _ _ st5)
      refine wpAny_bind (wpAny_mono (hg C _ s5 _ H5 x u _ I5' r5 (step x H5 y5)) (fun _ s6 ⟨σ6,H6,I6,le6,q6⟩ => ?_) fun _ _ z => False.elim z)
      refine wpAny_bind (wpAny_mono (hi C _ s6 σ6 H6 _ I6 q6) (fun b s7 ⟨H7,I7,q7⟩ => ?_) fun _ _ z => False.elim z)
      have back : ∀ {pins' : List (Addr × Obj)} {H8 : Hp} {s8 : Shared},Inv (blkCx X pins s2 H2 scope C (own ++ cs) fp) pins' σ6 H8 s8 → Inv (blkCx X pins s2 H2 scope C (own ++ cs) fp) [] (blkSt σ cap own.length) H8 s8 := fun I8 =>
        I8.bareP.weak le6.1.symm fun i v e => le6.2 i v e
      cases b with
      | false =>
        rw [if_neg Bool.false_ne_true] at q7
        obtain ⟨m',hm,w7⟩ := q7
        refine wpAny_pure ⟨rfl,m',hm,i + 1,H7,its,ys,back I7,T.keep _ _ _ st5 fun b hb o e => ?_,fun b hb => ?_,⟨nn,?_⟩,rv3,?_,w7⟩
        · exact (I7.pin (b,o) (List.mem_append_right _ (List.mem_append_right _ (mem_pinsAt hb e)))).1
        · obtain ⟨o,e,d⟩ := T.obj _ _ st5 b hb
          exact (I7.pin (b,o) (List.mem_append_right _ (List.mem_append_right _ (mem_pinsAt hb e)))).2.1
        · exact (I7.pin (D,_) (List.mem_append_right _ (List.mem_append_left _ (List.mem_singleton.mpr rfl)))).1
        · exact (I7.pin (D,_) (List.mem_append_right _ (List.mem_append_left _ (List.mem_singleton.mpr rfl)))).2.1
      | true =>
        rw [if_pos rfl] at q7
        refine wpAny_bind (wpAny_bind (wpAny_mono (he C _ s7 σ6 H7 _ I7 q7) (fun y s8 ⟨v,H8,I8,r8,m',hm,w8⟩ => ?_) fun _ _ z => False.elim z))
        have pD := I8.pin (D,{ cls := .type "list",data := .seq its.toArray nn }) (List.mem_append_right _ (List.mem_append_left _ (List.mem_singleton.mpr rfl)))
        have hlen := rv3.length
        refine wpAny_bind (wpAny_list_append_plain (hsz := by rw [List.size_toArray]; omega) ⟨nn,pD.1⟩ fun h9 pl9 sb9 => wpAny_pure (wpAny_pure ?_))
        have I8' := back I8
        refine ⟨rfl,m',hm,i + 1,H8,its ++ [y],ys ++ [v],?_,T.keep _ _ _ st5 fun b hb o e => ?_,fun b hb => ?_,?_,rv3.append (.cons r8 .nil),pD.2.1,w8⟩
        · exact I8'.turned (t' := s8.toks) (fun b o hb e => sb9.extBut b o hb e) pD.2.1 hDC (.inr (by show s2.heap.objs.size ≤ D; rw [hD]; exact Nat.le_refl _)) (fun x c e => Nat.ne_of_lt (clt x c e)) fun p hp => by
            have hp' : p ∈ X.pn ++ pins := by
              have : p ∈ (X.pn ++ pins) ++ [] := hp
              simpa using this
            exact Nat.ne_of_lt (plt p hp')
        · exact sb9.extBut b o (Ne.symm (Dfp b hb)) (I8.pin (b,o) (List.mem_append_right _ (List.mem_append_right _ (mem_pinsAt hb e)))).1
        · obtain ⟨o,e,d⟩ := T.obj _ _ st5 b hb
          exact (I8.pin (b,o) (List.mem_append_right _ (List.mem_append_right _ (mem_pinsAt hb e)))).2.1
        · have e : its.toArray.push y = (its ++ [y]).toArray := by simp
          rw [← e]; exact pl9
  exact codeAny_compStart_list loop (T.self _ 0 _ _ _ (T.keep 0 _ _ st fun b _ o e => old b o e) loop)
def tComp (wi : TI) (cap : List Nat) (k : Nat) (g : TG) (tt : TT) (te : TE) : TE := fun σ H Q => wi σ H fun J H1 =>
  ∃ W : Nat → Nat → List V → Hp → Prop,(∃ m,W 0 m [] H1) ∧ CompW σ cap k J g tt te (fun ys H' => ∀ p,H' p = none → Q (.ref p) (upd H' p (.lst ys))) W
theorem pe_comp {wi : TI} (hc : X.calm = true) (hit : PI X tg iter wi) (ok : CompOk X scope own cs cap)
    (hg : ∀ pins s2 H2 C fp,PG (blkCx X pins s2 H2 scope C (own ++ cs) fp) tg g) (hi : ∀ pins s2 H2 C fp,PIfs (blkCx X pins s2 H2 scope C (own ++ cs) fp) ifs tt) (he : ∀ pins s2 H2 C fp,PE (blkCx X pins s2 H2 scope C (own ++ cs) fp) elt te)
    (hs : ∀ x,foldedSetIterable iter X.env x = pure x := by intro _; rfl) : PE X (.ListComp elt [⟨tg,iter,ifs,0⟩] scope pos) (tComp wi cap own.length g tt te) := by
  intro pins s σ H Q I h
  rw [eval_ListComp]
  refine wpAny_comprehension_free (use := none) rfl hs (closure_eq fun y hy e => I.ok.has y.1 (ok.free y hy e)) ok.kind ok.names (thn (hit pins s σ H _ I h) fun v s1 h1 => thn h1 fun itv s2 h2 => ?_)
  obtain ⟨it,fp,tn,J,H2,e,I2,T,st2,f2,W,w0,turn⟩ := h2
  subst e
  refine comp_run (RR := fun acc C => compPost (model X.prog X.w) X.A X.xe none (EP X pins σ Q) acc C) I2 ok hc T st2 f2 (fun C => hg _ _ _ _ _) (fun C => hi _ _ _ _ _) (fun C => he _ _ _ _ _) w0 turn fun D C s' B => ?_
  obtain ⟨⟨ys,H',hD,q,I',fp'⟩,m,hn⟩ := B
  obtain ⟨f0,f1,f2',f3,f4,f5⟩ := fp'
  exact ⟨m,hn,fun h' sb => ⟨.ref D,_,I'.turned (t' := s'.toks) (fun b o hb e => sb.extBut b o hb e) f0 f1 f3 f4 f5,rfl,q D hD⟩⟩
theorem ps_comp {wi : TI} {i : Nat} {y : Str} {py spos : Pos} (hc : X.calm = true) (hN : X.N.Nodup) (hiy : X.N[i]? = some y) (hy : X.env.scope.names.lookup y = some .local)
    (hsw : swapsWith (.ListComp elt [⟨tg,iter,ifs,0⟩] scope pos) (some (.Name y py)) spos.line X.env = pure true) (hit : PI X tg iter wi) (ok : CompOk X scope own cs cap)
    (hg : ∀ pins s2 H2 C fp,PG (blkCx X pins s2 H2 scope C (own ++ cs) fp) tg g) (hi : ∀ pins s2 H2 C fp,PIfs (blkCx X pins s2 H2 scope C (own ++ cs) fp) ifs tt) (he : ∀ pins s2 H2 C fp,PE (blkCx X pins s2 H2 scope C (own ++ cs) fp) elt te)
    (hs : ∀ x,foldedSetIterable iter X.env x = pure x := by intro _; rfl) : PS X (.Assign [.Name y py] (.ListComp elt [⟨tg,iter,ifs,0⟩] scope pos) spos) (tAsg (tComp wi cap own.length g tt te) (gName i)) := by
  intro pins s σ H D0 I h
  rw [exec_Assign_Name_used _ _ _ _ hsw]
  refine wpAny_bind (wpAny_standAt (wpAny_bind ?_))
  show wpAny _ X.A (do let _ ← comprehension (.ListComp elt [⟨tg,iter,ifs,0⟩] scope pos) scope X.env _ (newList []) false (eval iter X.env) (some (assign (.Name y py) X.env))) _ _ s
  refine wpAny_bind (wpAny_mono (wpAny_comprehension_free (use := some (assign (.Name y py) X.env)) (Q := fun _ s' => SP X pins D0 .next s') rfl hs (closure_eq fun y hy e => I.ok.has y.1 (ok.free y hy e)) ok.kind ok.names
    (thn (hit pins s σ H _ I h) fun v s1 h1 => thn h1 fun itv s2 h2 => ?_)) (fun _ s' hq => wpAny_pure (wpAny_pure hq)) fun _ _ e => e)
  obtain ⟨it,fp,tn,J,H2,e,I2,T,st2,f2,W,w0,turn⟩ := h2
  subst e
  refine comp_run (RR := fun acc C => compPost (model X.prog X.w) X.A X.xe (some (assign (.Name y py) X.env)) (fun _ s' => SP X pins D0 .next s') acc C) I2 ok hc T st2 f2 (fun C => hg _ _ _ _ _) (fun C => hi _ _ _ _ _) (fun C => he _ _ _ _ _) w0 turn fun D C s' B => ?_
  obtain ⟨⟨ys,H',hD,q,I',fp'⟩,m,hn⟩ := B
  obtain ⟨f0,f1,f2',f3,f4,f5⟩ := fp'
  show wpAny _ X.A (assign (.Name y py) X.env (.ref D)) _ _ _
  refine wpAny_assign_Name (store_ok2 I' hN hiy (.inl hy) (v := .ref D) rfl (fun s3 I3 ⟨a,sb,ha⟩ => ?_) (.inr hy))
  have hCa : C ≠ a := by
    rcases ha with z | z
    · rw [z]; exact f1
    · exact fun q => f4 y a z q.symm
  refine ⟨m,hn.sameBut sb hCa,fun h' sb' => ⟨_,_,I3.turned (t' := s3.toks) (fun b o hb e => sb'.extBut b o hb e) f0 f1 f3 f4 f5,q D hD⟩⟩
end
end L2
set_option Elab.async false
set_option linter.all false
set_option maxRecDepth 100000
namespace L2
open PySem PySem.Spec PyProof.Rows
def CDivB (i j : Int) : Prop := 0 < j ∧ j ≤ 10 ^ 60
theorem CDivB.np {i j : Int} (h : CDivB i j) : Builtin.divisionGoesByPylong i j = false := by
  refine PyProof.noPylong_of_log2 ?_
  have h1 : j.natAbs < 2 ^ 200 := by
    obtain ⟨a,b⟩ := h
    omega
  have h2 : j.natAbs.log2 < 200 := (Nat.log2_lt (by have := h.1; omega)).mpr h1
  omega
section
variable {X : Cx}
theorem op_fdivB : OpR X (binaryOp .FloorDiv) (rI CDivB fun i j => .int (i / j)) := opI fun i j _ _ _ _ _ hc q => by
  refine floordiv_int (by have := hc.1; omega) ?_ (.inl hc.np)
  rw [Int.fdiv_eq_ediv_of_nonneg _ (by have := hc.1; omega)]
  exact q
theorem Inv.kitx {pins : List (Addr × Obj)} {σ : St} {H : Hp} {s : Shared} {x : V} {u t : Value} (I : Inv X pins σ H s) (rx : RelV x u) (ty : TyOf X.K H x t) :
    ∃ P : Heap → Prop,PySem.W.KitX X.K u t P ∧ P s.heap ∧ u ≠ .builtin "__main__.__loader__#opaque" := by
  cases ty with
  | non => cases (show u = Value.none from rx); exact ⟨_,PySem.W.kitx_none,True.intro,fun z => nomatch z⟩
  | bl y => cases (show u = Value.bool y from rx); exact ⟨_,PySem.W.kitx_bool,True.intro,fun z => nomatch z⟩
  | int i => obtain ⟨t,q⟩ := (show ∃ t,u = Value.int i t from rx); cases q; exact ⟨_,PySem.W.kitx_int,True.intro,fun z => nomatch z⟩
  | str y => obtain ⟨t,q⟩ := (show ∃ t,u = Value.str y t from rx); cases q; exact ⟨_,PySem.W.kitx_str,True.intro,fun z => nomatch z⟩
  | flt y => obtain ⟨t,q⟩ := (show ∃ t,u = Value.float y t from rx); cases q; exact ⟨_,PySem.W.kitx_float,True.intro,fun z => nomatch z⟩
  | @lst a xs ea =>
    cases (show u = Value.ref a from rx)
    obtain ⟨_,_,n,_,h1⟩ := (show ObjOk X.prog X.w H s.heap a (.lst xs) from I.hok a _ ea)
    exact ⟨_,PySem.W.kitx_list,⟨_,h1,rfl⟩,fun z => nomatch z⟩
  | @frz a ob xs ea =>
    cases (show u = Value.ref a from rx)
    obtain ⟨_,_,_,n,_,h1⟩ := (show ObjOk X.prog X.w H s.heap a (.frz ob (.lst xs)) from I.hok a _ ea)
    exact ⟨_,PySem.W.kitx_list,⟨_,h1,rfl⟩,fun z => nomatch z⟩
  | @tup a xs ea =>
    cases (show u = Value.ref a from rx)
    obtain ⟨_,_,_,p⟩ := (show ObjOk X.prog X.w H s.heap a (.tup xs) from I.hok a _ ea)
    obtain ⟨o,h1,h2,_⟩ := p
    exact ⟨_,PySem.W.kitx_tuple,⟨o,h1,h2⟩,fun z => nomatch z⟩
  | @dK a kvs ea =>
    cases (show u = Value.ref a from rx)
    obtain ⟨_,_,vs,_,p⟩ := (show ObjOk X.prog X.w H s.heap a (.dK kvs) from I.hok a _ ea)
    obtain ⟨o,es,ep,h1,h2,_⟩ := p
    exact ⟨_,PySem.W.kitx_dict,⟨o,h1,h2.1⟩,fun z => nomatch z⟩
  | @dT a kvs ea =>
    cases (show u = Value.ref a from rx)
    obtain ⟨_,_,xs,_,o,es,ep,h1,h2,_⟩ := (show ObjOk X.prog X.w H s.heap a (.dT kvs) from I.hok a _ ea)
    exact ⟨_,PySem.W.kitx_dict,⟨o,h1,h2.1⟩,fun z => nomatch z⟩
  | @ins a C dx fs ea cl ha hn htk hm =>
    cases (show u = Value.ref a from rx)
    obtain ⟨mA,O,_⟩ := ins_get I.hok ea
    obtain ⟨od,J,_⟩ := O.look
    exact ⟨_,PySem.W.kitx_own (cl.get _) cl.hd ha hn htk hm,J,fun z => nomatch z⟩
def clV : V → Option Value
  | .ty T => some (.type T)
  | .ref C => some (.ref C)
  | _ => none
theorem clV.rel {v : V} {u c : Value} (e : clV v = some c) (r : RelV v u) : u = c := by
  cases v with
  | ty T => have e' : Value.type T = c := Option.some.inj e; rw [← e']; exact r
  | ref C => have e' : Value.ref C = c := Option.some.inj e; rw [← e']; exact r
  | _ => cases e
def clVs : List V → Option (List Value)
  | [] => some []
  | v :: r => match clV v,clVs r with
    | some c,some cs => some (c :: cs)
    | _,_ => none
theorem clVs.rel : ∀ {vs : List V} {us cs : List Value},clVs vs = some cs → Vals vs us → us = cs
  | [],_,_,e,.nil => Option.some.inj e
  | v :: r,_,_,e,.cons r1 r2 => by
    unfold clVs at e
    split at e
    · rename_i c cs' e1 e2
      cases e
      rw [clV.rel e1 r1,clVs.rel e2 r2]
    · cases e
theorem call_isinst : CallR X (.builtin "isinstance") (fun xs H Q => ∃ x cv t c b,xs = [x,cv] ∧ TyOf X.K H x t ∧ clV cv = some c ∧ PySem.W.kitOne X.K t c = some b ∧ Q (.bl b) H) := by
  intro pins s σ H xs us Q I rv h
  obtain ⟨x,cv,t,c,b,rfl,ty,e1,e2,q⟩ := h
  cases rv with
  | cons r1 rr =>
    cases rr with
    | cons r2 rr =>
      cases rr
      rw [clV.rel e1 r2]
      exact isinst_ok I r1 ty e2 fun tk => ⟨.bl b,H,I.tok tk,rfl,q⟩
theorem call_isinstT : CallR X (.builtin "isinstance") (fun xs H Q => ∃ x p t cvs cs b,xs = [x,.ref p] ∧ TyOf X.K H x t ∧ H p = some (.tup cvs) ∧ clVs cvs = some cs ∧ PySem.W.kitAny X.K t cs = some b ∧ Q (.bl b) H) := by
  intro pins s σ H xs us Q I rv h
  obtain ⟨x,p,t,cvs,cs,b,rfl,ty,hp,e1,e2,q⟩ := h
  cases rv with
  | cons r1 rr =>
    cases rr with
    | cons r2 rr =>
      cases rr
      cases r2
      obtain ⟨_,its,rits,o,ho,hc,n,hd⟩ := I.hok p _ hp
      obtain ⟨P,Z,p1,p2⟩ := I.kitx r1 ty
      obtain ⟨oc,od,dt,osl⟩ := o
      replace hc : oc = .type "tuple" := hc
      replace hd : dt = .seq its.toArray n := hd
      subst hc hd
      have e3 := clVs.rel e1 rits
      subst e3
      exact PySem.W.kia_tup Z I.kIn p1 ho e2 p2 fun tk => ⟨.bl b,H,I.tok tk,rfl,q⟩
end
mutual
inductive DatV (K : PySem.W.Frag) (H : Hp) : V → PyData → Prop
  | non : DatV K H .non .none
  | bl (b : Bool) : DatV K H (.bl b) (.bool b)
  | int (i : Int) : DatV K H (.int i) (.int i)
  | str (x : Str) : DatV K H (.str x) (.str x)
  | lst {a : Addr} {xs : List V} {ds : List PyData} : SqL K H a xs → DatVs K H xs ds → DatV K H (.ref a) (.list ds)
  | tup {a : Addr} {xs : List V} {ds : List PyData} : SqT K H a xs → DatVs K H xs ds → DatV K H (.ref a) (.tuple ds)
inductive DatVs (K : PySem.W.Frag) (H : Hp) : List V → List PyData → Prop
  | nil : DatVs K H [] []
  | cons {x : V} {d : PyData} {xs : List V} {ds : List PyData} : DatV K H x d → DatVs K H xs ds → DatVs K H (x :: xs) (d :: ds)
end
section
variable {X : Cx} {pins : List (Addr × Obj)} {σ : St} {H : Hp} {s : Shared}
mutual
theorem Inv.reads (I : Inv X pins σ H s) : ∀ {v : V} {d : PyData},DatV X.K H v d → ∀ {u : Value},RelV v u → ∃ as,Reads s.heap u d as
  | _,_,.non,u,r => by cases (show u = Value.none from r); exact ⟨_,.none⟩
  | _,_,.bl b,u,r => by cases (show u = Value.bool b from r); exact ⟨_,.bool b⟩
  | _,_,.int i,u,r => by obtain ⟨t,e⟩ := (show ∃ t,u = Value.int i t from r); subst e; exact ⟨_,.int i t⟩
  | _,_,.str x,u,r => by obtain ⟨t,e⟩ := (show ∃ t,u = Value.str x t from r); subst e; exact ⟨_,.str x t⟩
  | _,_,.lst (a := a) h hs,u,r => by
    cases (show u = Value.ref a from r)
    obtain ⟨its,rv,⟨o,n,e,c,_,d⟩,_⟩ := I.list h
    obtain ⟨as,ra⟩ := I.readsAll hs rv
    exact ⟨_,.list e c d (by simpa using ra)⟩
  | _,_,.tup (a := a) h hs,u,r => by
    cases (show u = Value.ref a from r)
    obtain ⟨its,rv,⟨o,e,c,n,d⟩,_⟩ := I.tuple h
    obtain ⟨as,ra⟩ := I.readsAll hs rv
    exact ⟨_,.tuple e c d (by simpa using ra)⟩
theorem Inv.readsAll (I : Inv X pins σ H s) : ∀ {vs : List V} {ds : List PyData},DatVs X.K H vs ds → ∀ {us : List Value},Vals vs us → ∃ as,ReadsAll s.heap us ds as
  | _,_,.nil,_,.nil => ⟨_,.nil⟩
  | _,_,.cons h hs,_,.cons r rs => by
    obtain ⟨as,ra⟩ := I.reads h r
    obtain ⟨bs,rb⟩ := I.readsAll hs rs
    exact ⟨_,.cons ra rb⟩
end
end
section
variable {X : Cx}
end
section
variable {prog : Program} {w : World} {A : Around} {E : Value → Shared → Prop}
theorem draw_listN {it l : Addr} {items : Array Value} (hne : l ≠ it) : ∀ (n i : Nat) (s : Shared) (Q : List Value → Shared → Prop),s.heap.IsListIter it l i → s.heap.IsList l items → i + n ≤ items.size →
    (∀ h',h'.IsListIter it l (i + n) → Heap.SameBut it s.heap h' → Q ((items.toList.drop i).take n) { s with heap := h' }) → wpAny (model prog w) A (draw (.ref it) n) Q E s
  | 0,i,s,Q,hit,_,_,hQ => by
    show wpAny _ _ (pure []) Q E s
    exact wpAny_pure (by simpa using hQ s.heap hit (Heap.SameBut.refl ..))
  | n + 1,i,s,Q,hit,ht,hle,hQ => by
    have hlt : i < items.size := by omega
    show wpAny _ _ (pyNext (.ref it) >>= _) Q E s
    refine wpAny_bind (wpAny_pyNext_list_item hit ht (x := items[i]) (by simp [hlt]) fun h₁ hit₁ hs₁ => ?_)
    refine wpAny_bind (wpAny_holding (draw_listN hne n (i + 1) _ _ hit₁ (ht.extBut hs₁.extBut hne) (by omega) fun h₂ hit₂ hs₂ => wpAny_pure ?_))
    have hd : items.toList.drop i = items[i] :: items.toList.drop (i + 1) := by simp [List.drop_eq_getElem_cons,hlt]
    have q := hQ h₂ (by rw [show i + (n + 1) = i + 1 + n by omega]; exact hit₂) (hs₁.trans hs₂)
    rw [hd,List.take_succ_cons] at q
    exact q
theorem unpackItems_listN {s : Shared} {l : Addr} {items : Array Value} {Q : List Value → Shared → Prop} (hh : A.handled = none) (ht : s.heap.IsList l items)
    (hQ : ∀ h',Heap.ExtBut s.heap.objs.size s.heap h' → Q items.toList { s with heap := h' }) : wpAny (model prog w) A (unpackItems (.ref l) items.size none) Q E s := by
  have hlt : l ≠ s.heap.objs.size := by obtain ⟨o,ho,_⟩ := ht; exact Nat.ne_of_lt (Heap.lt_size ho)
  have hp : (s.heap.push { cls := .type "list_iterator",data := .fields #[.ref l,.int 0 0] }).IsList l items := by
    obtain ⟨o,ho,r⟩ := ht; exact ⟨o,Heap.get?_push_of_some _ ho,r⟩
  unfold unpackItems
  refine wpAny_bind ?_
  · unfold notIterableAtAll
    refine wpAny_bind (wpAny_specialOf ht.typeIs PySem.slot_list_iter.lookup ?_)
    refine wpAny_pure ?_
    simp only [Bool.false_eq_true,if_false]
    refine wpAny_bind (wpAny_holding (wpAny_pyIter_list ht ?_))
    refine wpAny_bind (wpAny_holding (draw_listN hlt items.size 0 _ _ ⟨_,Heap.get?_push_size _ rfl,rfl,rfl⟩ hp (by omega) fun h₁ hit₁ hs₁ => ?_))
    have hall : List.take items.size (List.drop 0 items.toList) = items.toList := by
      rw [List.drop_zero]; exact List.take_of_length_le (by simp)
    rw [hall]
    rw [if_neg (by simp)]
    have ht₁ : h₁.IsList l items := hp.extBut hs₁.extBut hlt
    refine wpAny_bind (wpAny_holding (wpAny_pyNext_list_end hh hit₁ ht₁ (by simp) fun h₂ he₂ => ?_))
    simp only [Option.isSome_none,Bool.false_eq_true,if_false]
    refine wpAny_pure (hQ h₂ fun b o hb e => he₂ b o hb (hs₁.extBut b o hb (Heap.get?_push_of_some _ e)))
theorem assign_Tuple_listN {s : Shared} {env : Env} {elts : List Expr} {x1} {pos : Pos} {l : Addr} {items : Array Value} {Q : Unit → Shared → Prop} (hh : A.handled = none) (ht : s.heap.IsList l items)
    (hn : (assignEach elts env).length = items.size) (hstar : (assignEach elts env).findIdx? (·.1) = none)
    (h : ∀ h',Heap.ExtBut s.heap.objs.size s.heap h' → wpAny (model prog w) A (assignInOrder ((assignEach elts env).map (·.2)) items.toList) Q E { s with heap := h' }) :
    wpAny (model prog w) A (assign (.Tuple elts x1 pos) env (.ref l)) Q E s := by
  rw [assign_Tuple]
  refine wpAny_bind (wpAny_standAt ?_)
  unfold unpack
  rw [hn,hstar]
  exact wpAny_bind (wpAny_holding (unpackItems_listN hh ht h))
end
section
variable {X : Cx} {pos : Pos}
def gSeq (K : PySem.W.Frag) (n : Nat) (t : TGs) : TG := fun v σ H Q => ∃ a xs,v = .ref a ∧ (SqL K H a xs ∨ SqT K H a xs) ∧ xs.length = n ∧ t xs σ H Q
theorem pg_seq {es : List Expr} {k : Nat} {t : TGs} {n : Nat} (hc : X.calm = true) (h : PGs X es t)
    (hn : (assignEach es X.env).length = n := by rfl) (hst : (assignEach es X.env).findIdx? (·.1) = none := by rfl) : PG X (.Tuple es k pos) (gSeq X.K n t) := by
  intro pins s σ H v u Q I r hw
  obtain ⟨a,xs,e1,hq,hl,hw⟩ := hw
  rcases hq with hq | hq
  · subst e1
    cases r
    obtain ⟨its,rv,ht,hz⟩ := I.list hq
    refine assign_Tuple_listN (I.ok.hd hc) ht.isList (by simp [hn,← hl,rv.length]) hst fun h' hx => ?_
    have I1 : Inv X pins σ H { s with heap := h' } := I.kept (t' := s.toks) fun b o e => hx b o (Nat.ne_of_lt (Heap.lt_size e)) e
    exact h pins _ σ H xs _ Q I1 (by simpa using rv) hw
  · exact pg_tup hc h hn hst pins s σ H v u Q I r ⟨a,xs,e1,hq,hl,hw⟩
end
section
variable {X : Cx}
theorem Inv.turnedN {pins : List (Addr × Obj)} {σ : St} {H : Hp} {s : Shared} {h' : Heap} {t' : Nat} {ch : List Addr} (I : Inv X pins σ H s) (hf : ∀ b ∈ ch,FpOk X pins H b) (k : ∀ b o,b ∉ ch → s.heap.get? b = some o → h'.get? b = some o) : Inv X pins σ H { s with heap := h',toks := t' } := by
  have hLc : X.env.locals ∉ ch := fun z => (hf _ z).2.1 rfl
  have nt : ∀ b u,H b = some u → b ∉ ch := fun b u e z => by rw [(hf b z).1] at e; cases e
  refine I.step (g' := s.gens) (d' := s.drawn) (ch := ch) (fun b hb => ⟨(hf b hb).2.2.2.1,(hf b hb).2.1,(hf b hb).2.2.2.2.1,(hf b hb).2.2.2.2.2⟩) (fun b o _ _ hc e _ => k b o hc e) (fun b o _ _ hc e _ => ⟨o.slots,k b o hc e⟩) (fun _ _ _ _ n => n)
    (fun b o hc e => ⟨o,k b o hc e⟩) (fun _ _ e => e) (fun _ _ _ e => e) (fun b ps e => ⟨#[],by rw [e]; simp⟩) (fun m hm => ?_) (fun b u e => ?_) I.bare
  · obtain ⟨o,es,ep,ho,r⟩ := hm
    exact ⟨o,es,ep,k _ o hLc ho,r⟩
  · refine (I.hok b u e).stay (fun c v hc q => k c v ?_ q) (fun _ q => q) fun _ _ q => q
    rcases hc with z | z
    · rw [z]; exact nt b u e
    · exact nt c _ z
theorem Inv.track {pins : List (Addr × Obj)} {σ : St} {H : Hp} {s : Shared} {a : Addr} {o : HO} (I : Inv X pins σ H s) (hf : FpOk X pins H a) (fa : X.s₀.heap.objs.size ≤ a) (new : ObjOk X.prog X.w (upd H a o) s.heap a o) : Inv X pins σ (upd H a o) s := by
  obtain ⟨f0,f1,f2,f3,f4,f5⟩ := hf
  have s0 : ∀ b o,X.s₀.heap.get? b = some o → b ≠ a := fun b o e => Nat.ne_of_lt (Nat.lt_of_lt_of_le (Heap.lt_size e) fa)
  refine ⟨I.ok,I.os,I.bare,⟨I.base.keep,I.base.slot,fun b o e n hx => ?_,I.base.there,fun b xs e => ?_,fun b o u e => ?_,fun b ps e => ?_⟩,I.loc,I.cell,?_,fun x c e => ?_,fun p hp => ?_,I.hok.add f0 new,I.len⟩
  · rw [upd_ne (s0 b o e)]; exact I.base.free b o e n hx
  · have q := I.base.tups b xs e
    rw [upd_ne (ne_of_none q f0)]; exact q
  · have q := I.base.frzs b o u e
    rw [upd_ne (ne_of_none q f0)]; exact q
  · obtain ⟨more,q⟩ := I.base.tbls b ps e
    exact ⟨more,by rw [upd_ne (ne_of_none q f0)]; exact q⟩
  · rw [upd_ne (Ne.symm f1)]; exact I.free
  · rw [upd_ne (f4 x c e)]; exact I.freeC x c e
  · obtain ⟨e,n,r⟩ := I.pin p hp
    exact ⟨e,by rw [upd_ne (f5 p hp)]; exact n,r⟩
end
structure ZipAp (z TI TO i1 i2 : Addr) : Prop where
  nd : [z,TI,TO,i1,i2].Nodup
end L2
set_option Elab.async false
set_option linter.all false
set_option maxRecDepth 100000
namespace L2
open PySem PySem.Spec PyProof.Rows
def Dn (P : Program) (w : World) (K : PySem.W.Frag) (mg : Str → Option Value) (base : Heap) (x : Str) (ps : List Str) (k : Nat) (sp : Sp) : Prop :=
  ∃ (f : Addr) (fd : FuncData),FnOk P w K mg base CX0 k f fd ps sp ∧ Binds K fd ps [] ∧ PySem.W.keepIn K (.ref f) = true ∧ mg x = some (.ref f)
theorem pe_cD {X : Cx} {k : Nat} {ps : List Str} {sp : Sp} {x : Str} {p pos : Pos} {e : Expr} {es : List Expr} {t : TA} (D : Dn X.prog X.w X.K X.mg X.base x ps k sp) (hr : Room k X.A) (hg : Gl X x) (ha : PA X (e :: es) t)
    (hdb : (x == ("__debug__" : Str)) = false := by decide) (he : starEach (e :: es) X.env = (false,eval e X.env) :: starEach es X.env := by rfl) (hpl : (backTo pos (starEach es X.env)).any (·.1) = false := by rfl) :
    PE X (.Call (.Name x p) (e :: es) [] pos) (tCall sp [] E0 t) := by
  obtain ⟨f,fd,F,hb,hk,hm⟩ := D
  exact pe_call F hr hg hm hk hb .nil pass0 ha hdb he hpl
def compChk (sc : Scope) (N : List Str) (scope : Scope) (own cs : List Str) (cap : List Nat) : Bool :=
  decide (scope.kind = .function) && scope.names.all (fun y => decide (y.2 ≠ .cell)) && scope.names.all (fun y => decide (y.2 = .local → scope.names.lookup y.1 = some .local)) &&
  scope.names.all (fun y => decide (y.2 = .free → sc.names.lookup y.1 = some .cell ∨ sc.names.lookup y.1 = some .free)) && own.all (fun y => decide (scope.names.lookup y = some .local)) &&
  decide (cs.length = cap.length) && (cs.zip cap).all (fun y => decide (N[y.2]? = some y.1) && decide ((y.1,NameKind.free) ∈ scope.names)) && scope.names.all (fun y => decide (y.2 = .free → scope.names.lookup y.1 ≠ some .local))
theorem compOk_of {X : Cx} {sc : Scope} {N : List Str} {scope : Scope} {own cs : List Str} {cap : List Nat} (h1 : X.env.scope = sc) (h2 : X.N = N) (h : compChk sc N scope own cs cap = true) : CompOk X scope own cs cap := by
  subst h1 h2
  unfold compChk at h
  simp only [Bool.and_eq_true,List.all_eq_true,decide_eq_true_eq] at h
  obtain ⟨⟨⟨⟨⟨⟨⟨a1,a2⟩,a3⟩,a4⟩,a5⟩,a6⟩,a7⟩,a8⟩ := h
  refine ⟨a1,a2,a3,a4,fun i y e => ?_,a5,a6,fun y hy e => a8 _ hy rfl e⟩
  have hi : i < cs.length := (List.getElem?_eq_some_iff.mp e).1
  have hj : i < cap.length := by rw [← a6]; exact hi
  refine ⟨cap[i],List.getElem?_eq_getElem hj,?_⟩
  have hm : (y,cap[i]) ∈ cs.zip cap := by
    have : (cs.zip cap)[i]? = some (y,cap[i]) := by
      rw [List.getElem?_zip_eq_some]
      exact ⟨e,List.getElem?_eq_getElem hj⟩
    exact List.mem_of_getElem? this
  exact a7 _ hm
theorem tYes_ite {σ : St} {H : Hp} {A B : Hp → Prop} (h : A H) : tYes σ H (fun ok H3 => if ok = true then A H3 else B H3) := by
  show (if (true : Bool) = true then A H else B H)
  rw [if_pos rfl]
  exact h
section
variable {X : Cx} {tg : Expr}
def iSeq (K : PySem.W.Frag) (tl : TE) : TI := fun σ H R => iList K tl σ H R ∨ iTup K tl σ H R
theorem pi_seq {l : Expr} {tl : TE} (hl : PE X l tl) : PI X tg l (iSeq X.K tl) := by
  intro pins s σ H R I h
  rcases h with h | h
  · exact pi_list hl pins s σ H R I h
  · exact pi_tup hl pins s σ H R I h
end
def tyNames : List String := ["NoneType","bool","int","str","list","tuple","dict"]
theorem kit_int {K : PySem.W.Frag} : ∀ T ∈ tyNames,PySem.W.kitOne K (.type T) (.type "int") = some (T == "int" || T == "bool") := by
  intro T h
  simp only [tyNames,List.mem_cons,List.not_mem_nil,or_false] at h
  rcases h with rfl | rfl | rfl | rfl | rfl | rfl | rfl <;> kernel_rfl
theorem kit_bool {K : PySem.W.Frag} : ∀ T ∈ tyNames,PySem.W.kitOne K (.type T) (.type "bool") = some (T == "bool") := by
  intro T h
  simp only [tyNames,List.mem_cons,List.not_mem_nil,or_false] at h
  rcases h with rfl | rfl | rfl | rfl | rfl | rfl | rfl <;> kernel_rfl
theorem kit_list {K : PySem.W.Frag} : ∀ T ∈ tyNames,PySem.W.kitOne K (.type T) (.type "list") = some (T == "list") := by
  intro T h
  simp only [tyNames,List.mem_cons,List.not_mem_nil,or_false] at h
  rcases h with rfl | rfl | rfl | rfl | rfl | rfl | rfl <;> kernel_rfl
theorem kit_tuple {K : PySem.W.Frag} : ∀ T ∈ tyNames,PySem.W.kitOne K (.type T) (.type "tuple") = some (T == "tuple") := by
  intro T h
  simp only [tyNames,List.mem_cons,List.not_mem_nil,or_false] at h
  rcases h with rfl | rfl | rfl | rfl | rfl | rfl | rfl <;> kernel_rfl
theorem kit_row {K : PySem.W.Frag} : ∀ T ∈ tyNames,PySem.W.kitAny K (.type T) [.type "list",.type "tuple"] = some (T == "list" || T == "tuple") := by
  intro T h
  have h1 := kit_list (K := K) T h
  have h2 := kit_tuple (K := K) T h
  unfold PySem.W.kitAny
  rw [h1]
  cases e : (T == "list") with
  | true => rfl
  | false =>
    show PySem.W.kitAny K (.type T) [.type "tuple"] = _
    unfold PySem.W.kitAny
    rw [h2]
    cases e2 : (T == "tuple") <;> rfl
def Ty (K : PySem.W.Frag) (H : Hp) (x : V) (T : String) : Prop := T ∈ tyNames ∧ TyOf K H x (.type T)
theorem Ty.int {K : PySem.W.Frag} {H : Hp} {i : Int} : Ty K H (.int i) "int" := ⟨by simp [tyNames],.int i⟩
theorem Ty.bl {K : PySem.W.Frag} {H : Hp} {b : Bool} : Ty K H (.bl b) "bool" := ⟨by simp [tyNames],.bl b⟩
theorem Ty.lst {K : PySem.W.Frag} {H : Hp} {a : Addr} {xs : List V} (e : H a = some (.lst xs)) : Ty K H (.ref a) "list" := ⟨by simp [tyNames],.lst e⟩
theorem Ty.tup {K : PySem.W.Frag} {H : Hp} {a : Addr} {xs : List V} (e : H a = some (.tup xs)) : Ty K H (.ref a) "tuple" := ⟨by simp [tyNames],.tup e⟩
def whole : V → Int → Bool
  | .int i,l => decide (l ≤ i)
  | _,_ => false
def isBl : V → Bool
  | .bl _ => true
  | _ => false
theorem ty_int {K : PySem.W.Frag} {H : Hp} {x : V} {T : String} (t : TyOf K H x (.type T)) (h : T ∈ tyNames) : (T == "int") = true → ∃ i,x = .int i := by
  intro e
  have e' : T = "int" := by simpa using e
  subst e'
  generalize hv : Value.type "int" = tv at t
  cases t with
  | int i => exact ⟨i,rfl⟩
  | _ => exact absurd hv (by simp)
theorem ty_bool {K : PySem.W.Frag} {H : Hp} {x : V} {T : String} (t : TyOf K H x (.type T)) : (T == "bool") = isBl x := by
  generalize hv : Value.type T = tv at t
  cases t with
  | bl b => cases hv; rfl
  | non => cases hv; rfl
  | int i => cases hv; rfl
  | str i => cases hv; rfl
  | flt i => cases hv; rfl
  | lst i => cases hv; rfl
  | frz i => cases hv; rfl
  | tup i => cases hv; rfl
  | dK i => cases hv; rfl
  | dT i => cases hv; rfl
  | ins => cases hv
end L2
namespace Pc
open PySem L2
structure Pot (a b : Int) : Prop where
  a0 : 0 ≤ a
  b0 : 0 ≤ b
  b1 : b < 2147483629
def But (p : Addr) (H H' : Hp) : Prop := ∀ b o,b ≠ p → H b = some o → H' b = some o
theorem But.refl {p : Addr} {H : Hp} : But p H H := fun _ _ _ e => e
theorem But.trans {p : Addr} {H H1 H2 : Hp} (a : But p H H1) (b : But p H1 H2) : But p H H2 := fun c o n e => b c o n (a c o n e)
theorem But.upd {p : Addr} {H : Hp} {o : HO} : But p H (upd H p o) := fun b u n e => by rw [upd_ne n]; exact e
theorem But.new {p q : Addr} {H : Hp} {o : HO} (h : H q = none) : But p H (L2.upd H q o) := fun b u n e => by rw [upd_ne (ne_of_none e h)]; exact e
structure Kd where
  w : Int
  h : Int
  wo : Int
  wa : Int
  tu : Bool
def kdV (k : Kd) : List V := [.int k.w,.int k.h,.int k.wo,.int k.wa,.bl k.tu]
structure Good (k : Kd) : Prop where
  w : 1 ≤ k.w
  h : 1 ≤ k.h
  wo : 0 ≤ k.wo
  wa : 0 ≤ k.wa
  w' : k.w < 10 ^ 60
  h' : k.h < 10 ^ 60
  wo' : k.wo < 10 ^ 60
  wa' : k.wa < 10 ^ 60
def TupAt (H : Hp) (v : V) (k : Kd) : Prop := ∃ a,v = .ref a ∧ H a = some (.tup (kdV k))
def LstAt (H : Hp) (v : V) (k : Kd) : Prop := ∃ a,v = .ref a ∧ H a = some (.lst (kdV k))
def RowAt (H : Hp) (v : V) (k : Kd) : Prop := TupAt H v k ∨ LstAt H v k
abbrev Tups (H : Hp) : List V → List Kd → Prop := Paired (TupAt H)
theorem Tups.keep {H H' : Hp} (k : ∀ b xs,H b = some (.tup xs) → H' b = some (.tup xs)) : ∀ {xs : List V} {ks : List Kd},Tups H xs ks → Tups H' xs ks := fun r =>
  Paired.mapP r fun v kd ⟨a,e,h⟩ => ⟨a,e,k a _ h⟩
structure ToldAt (H : Hp) (t l : Addr) (bl : Int) (xs : List V) (ks : List Kd) : Prop where
  t : H t = some (.tup [.int bl,.ref l])
  l : H l = some (.lst xs)
  r : Tups H xs ks
  b0 : 0 ≤ bl
  b1 : bl < 10 ^ 60
  g : ∀ k ∈ ks,Good k
  n0 : 1 ≤ xs.length
  n1 : xs.length ≤ 8
def spWhole (K : PySem.W.Frag) : Sp := fun vs H Q _ => ∃ (x : V) (T : String) (l : Int),vs = [x,.int l] ∧ Ty K H x T ∧ Q (.bl (whole x l)) H
def spTruth (K : PySem.W.Frag) : Sp := fun vs H Q _ => ∃ (x : V) (T : String),vs = [x] ∧ Ty K H x T ∧ Q (.bl (isBl x)) H
def spRow (K : PySem.W.Frag) : Sp := fun vs H Q _ => ∃ (x : V) (T : String), vs = [x] ∧ Ty K H x T ∧ ∀ H', Same H H' → Q (.bl (T == "list" || T == "tuple")) H'
def kind5 : List V → Bool
  | [w,h,wo,wa,tu] => whole w 1 && whole h 1 && whole wo 0 && whole wa 0 && isBl tu
  | _ => false
def spIsKind (K : PySem.W.Frag) : Sp := fun vs H Q _ => ∃ (x : V) (T : String),vs = [x] ∧ Ty K H x T ∧ 
  ((T ≠ "list" ∧ T ≠ "tuple" ∧ ∀ H', Same H H' → Q (.bl false) H') ∨ ∃ (a : Addr) (xs : List V), x = .ref a ∧ (H a = some (.lst xs) ∨ H a = some (.tup xs)) ∧ (∀ y ∈ xs, ∃ U, Ty K H y U) ∧ ∀ H', Same H H' → Q (.bl (kind5 xs)) H')
theorem kind5_good {k : Kd} (g : Good k) : kind5 (kdV k) = true := by
  show (decide (1 ≤ k.w) && decide (1 ≤ k.h) && decide (0 ≤ k.wo) && decide (0 ≤ k.wa) && true) = true
  rw [decide_eq_true g.w,decide_eq_true g.h,decide_eq_true g.wo,decide_eq_true g.wa]
  rfl
theorem Ty.same {K : PySem.W.Frag} {H H' : Hp} {x : V} {T : String} (s : Same H H') (t : Ty K H x T) : Ty K H' x T := by
  refine ⟨t.1,?_⟩
  have t2 := t.2
  generalize hv : Value.type T = tv at t2 ⊢
  cases t2 with
  | non => exact .non
  | bl b => exact .bl b
  | int b => exact .int b
  | str b => exact .str b
  | flt b => exact .flt b
  | lst e => exact .lst (s _ _ e)
  | frz e => exact .frz (s _ _ e)
  | tup e => exact .tup (s _ _ e)
  | dK e => exact .dK (s _ _ e)
  | dT e => exact .dT (s _ _ e)
  | ins => cases hv
end Pc
set_option Elab.async false
set_option linter.all false
set_option maxRecDepth 100000
namespace L2
open PySem PySem.Spec PyProof.Rows
def rTupleOf (K : PySem.W.Frag) : List V → Hp → VK → Prop := fun xs H Q => ∃ p ys,xs = [V.ref p] ∧ ((SqL K H p ys ∧ ∀ l,H l = none → Q (.ref l) (upd H l (.tup ys))) ∨ (SqT K H p ys ∧ Q (.ref p) H))
theorem for_seqV {K : PySem.W.Frag} {j : Nat} {a : Addr} {xs : List V} {g : TG} {tb : TS} {D : Ends} {σ : St} {H : Hp} (hσ : σ[j]? = some (some (.ref a))) (hs : H a = some (.lst xs) ∨ H a = some (.tup xs)) (Pv : Nat → St → Hp → Prop) (h0 : Pv 0 σ H)
    (hk : ∀ i σ H',i ≤ xs.length → Pv i σ H' → ∀ o,H a = some o → H' a = some o)
    (ht : ∀ i x σ H,xs[i]? = some x → Pv i σ H → g x σ H fun σ2 H2 => tb { D with nx := Pv (i + 1),ct := Pv (i + 1),bk := D.nx } σ2 H2) (hd : ∀ σ H,Pv xs.length σ H → D.nx σ H) : tFor (iSeq K (tVar j)) g tb D σ H := by
  rcases hs with z | z
  · exact .inl ⟨_,hσ,a,rfl,⟨xs,SqL.of z⟩,for_list (xs := xs) Pv h0 (fun i σ H' hi p => SqL.of (hk i σ H' hi p _ z)) ht hd⟩
  · exact .inr ⟨_,hσ,a,rfl,⟨xs,SqT.of z⟩,for_tup (xs := xs) Pv h0 (fun i σ H' hi p => SqT.of (hk i σ H' hi p _ z)) ht hd⟩
def Nx (n : Nat) (Pv : Nat → List V → Hp → Prop) (i : Nat) (ys : List V) (H : Hp) : Prop := ∃ m',m' < n - i ∧ m' = n - (i + 1) ∧ i + 1 ≤ n ∧ Pv (i + 1) ys H
theorem Nx.of {n : Nat} {Pv : Nat → List V → Hp → Prop} {i : Nat} {ys : List V} {H : Hp} (h : i < n) (p : Pv (i + 1) ys H) : Nx n Pv i ys H := ⟨n - (i + 1),by omega,rfl,h,p⟩
theorem comp_seq {K : PySem.W.Frag} {a : Addr} {xs : List V} {σ : St} {cap : List Nat} {k : Nat} {g : TG} {tt : TT} {te : TE} {Q : List V → Hp → Prop} {H : Hp} (hs : H a = some (.lst xs) ∨ H a = some (.tup xs)) (Pv : Nat → List V → Hp → Prop)
    (hk : ∀ i ys H',i ≤ xs.length → Pv i ys H' → ∀ o,H a = some o → H' a = some o) (h0 : Pv 0 [] H)
    (ht : ∀ i x ys H',xs[i]? = some x → Pv i ys H' → ys.length < sizeLine ∧ g x (blkSt σ cap k) H' fun σ2 H2 => leS (blkSt σ cap k) σ2 ∧ tt σ2 H2 fun ok H3 => if ok = true then te σ2 H3 (fun v H4 => Nx xs.length Pv i (ys ++ [v]) H4) else Nx xs.length Pv i ys H3)
    (hd : ∀ ys H',Pv xs.length ys H' → ys.length ≤ sizeLine ∧ Q ys H') :
    (H a = some (.lst xs) → ∃ W,(∃ m,W 0 m [] H) ∧ CompW σ cap k (Itl K a) g tt te Q W) ∧ (H a = some (.tup xs) → ∃ W,(∃ m,W 0 m [] H) ∧ CompW σ cap k (Itt K a) g tt te Q W) := by
  refine ⟨fun z => ⟨fun i m ys H' => m = xs.length - i ∧ i ≤ xs.length ∧ Pv i ys H',⟨_,rfl,Nat.zero_le _,h0⟩,?_⟩,fun z => ⟨fun i m ys H' => m = xs.length - i ∧ i ≤ xs.length ∧ Pv i ys H',⟨_,rfl,Nat.zero_le _,h0⟩,?_⟩⟩
  · rintro i m ys H' ⟨rfl,hi,p⟩
    have z' := hk i ys H' hi p _ z
    by_cases hin : i < xs.length
    · obtain ⟨e,hg⟩ := ht i xs[i] ys H' (by simp [hin]) p
      refine .inr ⟨⟨xs,xs[i],SqL.of z',by simp [hin]⟩,e,fun x H2 yl => ?_⟩
      obtain ⟨e1,e2⟩ := yl
      have e3 := e2 xs (SqL.of z')
      have e4 : x = xs[i] := by simpa [hin] using e3.symm
      subst e1 e4
      exact hg
    · have e : i = xs.length := by omega
      subst e
      obtain ⟨a1,a2⟩ := hd ys H' p
      exact .inl ⟨⟨xs,SqL.of z',Nat.le_refl _⟩,a1,a2⟩
  · rintro i m ys H' ⟨rfl,hi,p⟩
    have z' := hk i ys H' hi p _ z
    by_cases hin : i < xs.length
    · obtain ⟨e,hg⟩ := ht i xs[i] ys H' (by simp [hin]) p
      refine .inr ⟨⟨xs,xs[i],SqT.of z',by simp [hin]⟩,e,fun x H2 yl => ?_⟩
      obtain ⟨e1,e2⟩ := yl
      have e3 := e2 xs (SqT.of z')
      have e4 : x = xs[i] := by simpa [hin] using e3.symm
      subst e1 e4
      exact hg
    · have e : i = xs.length := by omega
      subst e
      obtain ⟨a1,a2⟩ := hd ys H' p
      exact .inl ⟨⟨xs,SqT.of z',Nat.le_refl _⟩,a1,a2⟩
theorem comp_seqV {K : PySem.W.Frag} {j : Nat} {a : Addr} {xs : List V} {σ : St} {cap : List Nat} {k : Nat} {g : TG} {tt : TT} {te : TE} {Q : VK} {H : Hp} (hσ : σ[j]? = some (some (.ref a))) (hs : H a = some (.lst xs) ∨ H a = some (.tup xs)) (Pv : Nat → List V → Hp → Prop)
    (hk : ∀ i ys H',i ≤ xs.length → Pv i ys H' → ∀ o,H a = some o → H' a = some o) (h0 : Pv 0 [] H)
    (ht : ∀ i x ys H',xs[i]? = some x → Pv i ys H' → ys.length < sizeLine ∧ g x (blkSt σ cap k) H' fun σ2 H2 => leS (blkSt σ cap k) σ2 ∧ tt σ2 H2 fun ok H3 => if ok = true then te σ2 H3 (fun v H4 => Nx xs.length Pv i (ys ++ [v]) H4) else Nx xs.length Pv i ys H3)
    (hd : ∀ ys H',Pv xs.length ys H' → ys.length ≤ sizeLine ∧ ∀ p,H' p = none → Q (.ref p) (upd H' p (.lst ys))) : tComp (iSeq K (tVar j)) cap k g tt te σ H Q := by
  obtain ⟨c1,c2⟩ := comp_seq (K := K) (σ := σ) (cap := cap) (k := k) (g := g) (tt := tt) (te := te) hs Pv hk h0 ht hd
  rcases hs with z | z
  · exact .inl ⟨_,hσ,a,rfl,⟨xs,SqL.of z⟩,c1 z⟩
  · exact .inr ⟨_,hσ,a,rfl,⟨xs,SqT.of z⟩,c2 z⟩
end L2
namespace Pc
open PySem L2
def flds (b : Int) (r : Addr) : List (Str × V) := putF "kind_rows" (.ref r) (putF "blade_width" (.int b) [])
theorem kbw : ¬ (("blade_width" : Str) = "kind_rows") := by decide +kernel
theorem flds_blade (b : Int) (r : Addr) : (flds b r).lookup ("blade_width" : Str) = some (.int b) := by
  unfold flds
  rw [lookup_putF,if_neg kbw,lookup_putF,if_pos rfl]
theorem flds_rows (b : Int) (r : Addr) : (flds b r).lookup ("kind_rows" : Str) = some (.ref r) := by
  unfold flds
  rw [lookup_putF,if_pos rfl]
theorem flds_no (b : Int) (r : Addr) {m : Str} (h1 : ¬ m = "kind_rows") (h2 : ¬ m = "blade_width") : (flds b r).lookup m = none := by
  unfold flds
  rw [lookup_putF,if_neg h1,lookup_putF,if_neg h2]
  all_goals rfl
def ShopAt (C : Addr) (H : Hp) (x : Addr) (b : Int) (ks : List Kd) : Prop := ∃ dx r rs,H x = some (.ins C dx (flds b r)) ∧ H r = some (.tup rs) ∧ Tups H rs ks
theorem ShopAt.keep {C : Addr} {H H' : Hp} {x : Addr} {b : Int} {ks : List Kd} (s : ShopAt C H x b ks) (k1 : ∀ b xs,H b = some (.tup xs) → H' b = some (.tup xs)) (k2 : ∀ b C dx fs,H b = some (.ins C dx fs) → H' b = some (.ins C dx fs)) : ShopAt C H' x b ks := by
  obtain ⟨dx,r,rs,h1,h2,h3⟩ := s
  exact ⟨dx,r,rs,k2 _ _ _ _ h1,k1 _ _ h2,Tups.keep k1 h3⟩
def spInit (C : Addr) : Sp := fun vs H Q _ => ∃ (x dx ks : Addr) (b : Int) (rs : List V) (kds : List Kd),vs = [.ref x,.int b,.ref ks] ∧ H x = some (.ins C dx []) ∧ 0 ≤ b ∧ (H ks = some (.lst rs) ∨ H ks = some (.tup rs)) ∧ Paired (RowAt H) rs kds ∧ (∀ k ∈ kds,Good k) ∧ 1 ≤ rs.length ∧ rs.length ≤ 8 ∧
  ∀ H' : Hp,ShopAt C H' x b kds → (∀ c o,c ≠ x → H c = some o → H' c = some o) → Q .non H'
def spBlade (C : Addr) : Sp := fun vs H Q _ => ∃ (x : Addr) (b : Int) (ks : List Kd),vs = [.ref x] ∧ ShopAt C H x b ks ∧ Q (.int b) H
def spKinds (C : Addr) : Sp := fun vs H Q _ => ∃ (x : Addr) (b : Int) (ks : List Kd),vs = [.ref x] ∧ ShopAt C H x b ks ∧ ∀ (l : Addr) (rs : List V),H l = none → Tups H rs ks → Q (.ref l) (upd H l (.lst rs))
theorem rows_ty {K : PySem.W.Frag} {H : Hp} {k : Kd} : ∀ y ∈ kdV k,∃ U,Ty K H y U := by
  intro y hy
  simp only [kdV,List.mem_cons,List.not_mem_nil,or_false] at hy
  rcases hy with rfl | rfl | rfl | rfl | rfl
  · exact ⟨_,.int⟩
  · exact ⟨_,.int⟩
  · exact ⟨_,.int⟩
  · exact ⟨_,.int⟩
  · exact ⟨_,.bl⟩
theorem Paired.getR {α β : Type} {F : α → β → Prop} : ∀ {l₁ : List α} {l₂ : List β} {i : Nat} {x : α},Paired F l₁ l₂ → l₁[i]? = some x → ∃ y,l₂[i]? = some y ∧ F x y
  | _,_,_,_,.nil,e => by simp at e
  | _,_,0,_,.cons h _,e => by simp at e; subst e; exact ⟨_,rfl,h⟩
  | _,_,i + 1,x,.cons _ t,e => by
    obtain ⟨y,h1,h2⟩ := Paired.getR (i := i) (x := x) t (by simpa using e)
    exact ⟨y,by simpa using h1,h2⟩
theorem RowAt.same {H H' : Hp} {v : V} {k : Kd} (s : Same H H') (r : RowAt H v k) : RowAt H' v k := by
  rcases r with ⟨a,e,h⟩ | ⟨a,e,h⟩
  · exact .inl ⟨a,e,s _ _ h⟩
  · exact .inr ⟨a,e,s _ _ h⟩
theorem isKind_of {K : PySem.W.Frag} {H : Hp} {v : V} {k : Kd} {Q : VK} {E : XK} (r : RowAt H v k) (g : Good k) (q : ∀ H',Same H H' → Q (.bl true) H') : spIsKind K [v] H Q E := by
  rcases r with ⟨a,rfl,h⟩ | ⟨a,rfl,h⟩
  · exact ⟨_,_,rfl,.tup h,.inr ⟨a,_,rfl,.inr h,rows_ty,fun H' s => by rw [kind5_good g]; exact q H' s⟩⟩
  · exact ⟨_,_,rfl,.lst h,.inr ⟨a,_,rfl,.inl h,rows_ty,fun H' s => by rw [kind5_good g]; exact q H' s⟩⟩
structure ShopTxt (K : PySem.W.Frag) (C : Addr) : Prop where
  cl : Cls K C
  nB : NoAttr K C "blade_width"
  nK : NoAttr K C "kind_rows"
end Pc
set_option Elab.async false
set_option linter.all false
set_option maxRecDepth 100000
namespace L2
open PySem PySem.Spec PyProof.Rows
def Mn (P : Program) (w : World) (K : PySem.W.Frag) (mg : Str → Option Value) (base : Heap) (C : Addr) (m : Str) (ps : List Str) (k : Nat) (sp : Sp) : Prop :=
  ∃ (f : Addr) (fd : FuncData),FnOk P w K mg base CX0 k f fd ps sp ∧ Binds K fd ps [] ∧ Meth K C m f
theorem pe_mD0 {X : Cx} {k : Nat} {C : Addr} {ps : List Str} {sp : Sp} {m : Str} {o : Expr} {ta : TE} {apos pos : Pos} {pl : Sem Bool} (he : PE X o ta) (c : Cls X.K C) (D : Mn X.prog X.w X.K X.mg X.base C m ps k sp) (hr : Room k X.A)
    (ht : eval (.Call (.Attribute o m apos) [] [] pos) X.env = (do
      let ov ← eval o X.env
      standAt apos.atName
      let (f,first) ← holding [ov] (getMethod ov m pl)
      callWith pos f first (backTo pos (starEach [] X.env)) (backToKw pos (keywordEach [] X.env))) := by rfl) : PE X (.Call (.Attribute o m apos) [] [] pos) (tMeth C m sp [] E0 ta tNil) := by
  obtain ⟨f,fd,F,hb,hm⟩ := D
  exact pe_meth0 he c hm F hr hb .nil pass0 ht
def Kn (P : Program) (w : World) (K : PySem.W.Frag) (mg : Str → Option Value) (base : Heap) (x : Str) (C : Addr) (ps : List Str) (k : Nat) (sp : Sp) : Prop :=
  ∃ (f : Addr) (fd : FuncData),Mk K C f ∧ FnOk P w K mg base CX0 k f fd ps sp ∧ Binds K fd ps [] ∧ mg x = some (.ref C)
theorem pe_kD {X : Cx} {k : Nat} {C : Addr} {ps : List Str} {sp : Sp} {x : Str} {p pos : Pos} {e : Expr} {es : List Expr} {t : TA} (D : Kn X.prog X.w X.K X.mg X.base x C ps k sp) (hr : Room (k + 1) X.A) (hg : Gl X x) (ha : PA X (e :: es) t)
    (hdb : (x == ("__debug__" : Str)) = false := by decide) (he : starEach (e :: es) X.env = (false,eval e X.env) :: starEach es X.env := by rfl) (hpl : (backTo pos (starEach es X.env)).any (·.1) = false := by rfl) :
    PE X (.Call (.Name x p) (e :: es) [] pos) (tMake C sp [] E0 t) := by
  obtain ⟨f,fd,M,F,hb,hm⟩ := D
  exact pe_make M F hr hg hm hb .nil pass0 ha hdb he hpl
end L2
namespace Pc
open PySem L2
theorem Paired.app {α β : Type} {F : α → β → Prop} : ∀ {l₁ m₁ : List α} {l₂ m₂ : List β},Paired F l₁ l₂ → Paired F m₁ m₂ → Paired F (l₁ ++ m₁) (l₂ ++ m₂)
  | _,_,_,_,.nil,s => s
  | _,_,_,_,.cons r t,s => .cons r (Paired.app t s)
theorem Same.new {q : Addr} {H : Hp} {o : HO} (h : H q = none) : Same H (upd H q o) := fun b u e => by rw [upd_ne (ne_of_none e h)]; exact e
end Pc
set_option Elab.async false
set_option linter.all false
set_option maxRecDepth 100000
namespace L2
open PySem PySem.Spec PyProof.Rows
theorem runs_det {M : Model} {Γ : PySem.Ctx} {p : Pos} {t : Sem Fin} {fs : List Frame} {s s' : Shared} {e : End} (h : Runs M Γ p t fs s e s') : ∀ {e2 : End} {s2 : Shared},Runs M Γ p t fs s e2 s2 → e = e2 ∧ s' = s2 := by
  induction h with
  | done => intro e2 s2 h2; cases h2; exact ⟨rfl,rfl⟩
  | raise => intro e2 s2 h2; cases h2; exact ⟨rfl,rfl⟩
  | again _ _ ih => intro e2 s2 h2; cases h2; rename_i a b; exact ih b
  | rule _ ih => intro e2 s2 h2; cases h2; rename_i b; exact ih b
  | «at» _ ih => intro e2 s2 h2; cases h2; rename_i b; exact ih b
  | load he _ ih => intro e2 s2 h2; cases h2; rename_i b1 b2 b3; rw [he] at b2; cases b2; exact ih b3
  | update _ _ ih => intro e2 s2 h2; cases h2; rename_i b1 b; exact ih b
  | loadIfAlive _ ih => intro e2 s2 h2; cases h2; rename_i b; exact ih b
  | point _ ih => intro e2 s2 h2; cases h2; rename_i b; exact ih b
  | alloc _ ih => intro e2 s2 h2; cases h2; rename_i b; exact ih b
  | fresh _ ih => intro e2 s2 h2; cases h2; rename_i b; exact ih b
  | ask _ ih => intro e2 s2 h2; cases h2; rename_i b; exact ih b
  | choose _ _ ih => intro e2 s2 h2; cases h2; rename_i b1 b; exact ih b
  | os _ ih => intro e2 s2 h2; cases h2; rename_i b; exact ih b
  | handled _ ih => intro e2 s2 h2; cases h2; rename_i b; exact ih b
  | genState he _ ih => intro e2 s2 h2; cases h2; rename_i b1 b2 b3; rw [he] at b2; cases b2; exact ih b3
  | stack _ ih => intro e2 s2 h2; cases h2; rename_i b; exact ih b
  | thread _ ih => intro e2 s2 h2; cases h2; rename_i b; exact ih b
  | newGen _ ih => intro e2 s2 h2; cases h2; rename_i b; exact ih b
  | call _ _ ih1 ih2 =>
    intro e2 s2 h2
    cases h2 with
    | call a b => obtain ⟨q1,q2⟩ := ih1 a; cases q1; subst q2; exact ih2 b
    | callSusp a => obtain ⟨q1,_⟩ := ih1 a; cases q1
  | callSusp _ ih1 =>
    intro e2 s2 h2
    cases h2 with
    | call a b => obtain ⟨q1,_⟩ := ih1 a; cases q1
    | callSusp a => obtain ⟨q1,q2⟩ := ih1 a; cases q1; exact ⟨rfl,q2⟩
  | yield => intro e2 s2 h2; cases h2; exact ⟨rfl,rfl⟩
  | resumeFresh hg _ _ _ ih1 ih2 =>
    intro e2 s2 h2
    cases h2 with
    | resumeFresh hg' a _ b => rw [hg] at hg'; cases hg'; obtain ⟨q1,q2⟩ := ih1 a; subst q1 q2; exact ih2 b
    | resumeSuspended hg' => rw [hg] at hg'; cases hg'
    | resumeJustStarted hg' n => exact absurd rfl n
    | resumeRunning hg' => rw [hg] at hg'; cases hg'
    | resumeFinished hg' => rw [hg] at hg'; cases hg'
  | resumeSuspended hg _ _ _ ih1 ih2 =>
    intro e2 s2 h2
    cases h2 with
    | resumeFresh hg' => rw [hg] at hg'; cases hg'
    | resumeSuspended hg' a _ b => rw [hg] at hg'; cases hg'; obtain ⟨q1,q2⟩ := ih1 a; subst q1 q2; exact ih2 b
    | resumeJustStarted hg' => rw [hg] at hg'; cases hg'
    | resumeThrowFresh hg' => rw [hg] at hg'; cases hg'
    | resumeRunning hg' => rw [hg] at hg'; cases hg'
    | resumeFinished hg' => rw [hg] at hg'; cases hg'
  | resumeJustStarted hg n _ ih =>
    intro e2 s2 h2
    cases h2 with
    | resumeFresh hg' => exact absurd rfl n
    | resumeSuspended hg' => rw [hg] at hg'; cases hg'
    | resumeJustStarted hg' n b => exact ih b
    | resumeRunning hg' => rw [hg] at hg'; cases hg'
    | resumeFinished hg' => rw [hg] at hg'; cases hg'
  | resumeThrowFresh hg _ ih =>
    intro e2 s2 h2
    cases h2 with
    | resumeSuspended hg' => rw [hg] at hg'; cases hg'
    | resumeThrowFresh hg' b => exact ih b
    | resumeRunning hg' => rw [hg] at hg'; cases hg'
    | resumeFinished hg' => rw [hg] at hg'; cases hg'
  | resumeRunning hg _ ih =>
    intro e2 s2 h2
    cases h2 with
    | resumeFresh hg' => rw [hg] at hg'; cases hg'
    | resumeSuspended hg' => rw [hg] at hg'; cases hg'
    | resumeJustStarted hg' => rw [hg] at hg'; cases hg'
    | resumeThrowFresh hg' => rw [hg] at hg'; cases hg'
    | resumeRunning hg' b => exact ih b
    | resumeFinished hg' => rw [hg] at hg'; cases hg'
  | resumeFinished hg _ ih =>
    intro e2 s2 h2
    cases h2 with
    | resumeFresh hg' => rw [hg] at hg'; cases hg'
    | resumeSuspended hg' => rw [hg] at hg'; cases hg'
    | resumeJustStarted hg' => rw [hg] at hg'; cases hg'
    | resumeThrowFresh hg' => rw [hg] at hg'; cases hg'
    | resumeRunning hg' => rw [hg] at hg'; cases hg'
    | resumeFinished hg' b => exact ih b
  | segRet _ _ ih1 ih2 =>
    intro e2 s2 h2
    cases h2 with
    | segRet a b => obtain ⟨q1,q2⟩ := ih1 a; cases q1; subst q2; exact ih2 b
    | segSuspOut _ a => obtain ⟨q1,_⟩ := ih1 a; cases q1
    | segSuspGen _ a => obtain ⟨q1,_⟩ := ih1 a; cases q1
  | segGen _ _ ih1 ih2 =>
    intro e2 s2 h2
    cases h2 with
    | segGen a b => obtain ⟨q1,q2⟩ := ih1 a; cases q1; subst q2; exact ih2 b
    | segSuspOut _ a => obtain ⟨q1,_⟩ := ih1 a; cases q1
    | segSuspGen _ a => obtain ⟨q1,_⟩ := ih1 a; cases q1
  | segSuspOut hn _ ih1 =>
    intro e2 s2 h2
    cases h2 with
    | segRet a b => obtain ⟨q1,_⟩ := ih1 a; cases q1
    | segGen a b => obtain ⟨q1,_⟩ := ih1 a; cases q1
    | segSuspOut _ a => obtain ⟨q1,q2⟩ := ih1 a; cases q1; exact ⟨rfl,q2⟩
    | segSuspGen hs a => rw [hn] at hs; cases hs
  | segSuspGen hs _ _ _ ih1 ih2 =>
    intro e2 s2 h2
    cases h2 with
    | segRet a b => obtain ⟨q1,_⟩ := ih1 a; cases q1
    | segGen a b => obtain ⟨q1,_⟩ := ih1 a; cases q1
    | segSuspOut hn a => rw [hn] at hs; cases hs
    | segSuspGen hs' a _ b => rw [hs] at hs'; cases hs'; obtain ⟨q1,q2⟩ := ih1 a; cases q1; subst q2; exact ih2 b
theorem wp_conj {α : Type} (M : Model) (Γ : PySem.Ctx) (t : Sem α) : ∀ (Q Q' : α → Pos → Shared → Prop) (E E' : Value → Pos → Shared → Prop) (p : Pos) (s : Shared),Sem.wp M Γ t Q E p s → Sem.wp M Γ t Q' E' p s →
    Sem.wp M Γ t (fun a p' s' => Q a p' s' ∧ Q' a p' s') (fun e p' s' => E e p' s' ∧ E' e p' s') p s := by
  have det : ∀ {Δ : PySem.Ctx} {p : Pos} {s : Shared} {r r' : Result} {s1 s2 : Shared},Returns M Δ p s r s1 → Returns M Δ p s r' s2 → r = r' ∧ s1 = s2 := by
    intro Δ p s r r' s1 s2 h1 h2
    obtain ⟨q1,q2⟩ := runs_det h1 h2
    cases q1
    exact ⟨rfl,q2⟩
  have detW : ∀ {Δ : PySem.Ctx} {p : Pos} {g : Nat} {r : Resume} {s : Shared} {x x' : GenResult} {s1 s2 : Shared},Wakes M Δ p g r s x s1 → Wakes M Δ p g r s x' s2 → x = x' ∧ s1 = s2 := by
    intro Δ p g r s x x' s1 s2 h1 h2
    unfold Wakes at h1 h2
    split at h1
    · exact h1.elim
    · split at h1
      · obtain ⟨e1,t1,a1,_,rfl,rfl⟩ := h1
        rename_i hg _ _
        simp only [hg] at h2
        obtain ⟨e2,t2,a2,_,rfl,rfl⟩ := h2
        obtain ⟨q1,q2⟩ := runs_det a1 a2
        subst q1 q2
        exact ⟨rfl,rfl⟩
      · rename_i hg _ _ hn
        simp only [hg] at h2
        obtain ⟨rfl,rfl⟩ := h1
        obtain ⟨rfl,rfl⟩ := h2
        exact ⟨rfl,rfl⟩
      · rename_i hg _ _
        simp only [hg] at h2
        obtain ⟨rfl,rfl⟩ := h1
        obtain ⟨rfl,rfl⟩ := h2
        exact ⟨rfl,rfl⟩
    · rename_i hg
      simp only [hg] at h2
      obtain ⟨e1,t1,a1,_,rfl,rfl⟩ := h1
      obtain ⟨e2,t2,a2,_,rfl,rfl⟩ := h2
      obtain ⟨q1,q2⟩ := runs_det a1 a2
      subst q1 q2
      exact ⟨rfl,rfl⟩
    · rename_i hg
      simp only [hg] at h2
      obtain ⟨rfl,rfl⟩ := h1
      obtain ⟨rfl,rfl⟩ := h2
      exact ⟨rfl,rfl⟩
    · rename_i hg
      simp only [hg] at h2
      obtain ⟨rfl,rfl⟩ := h1
      obtain ⟨rfl,rfl⟩ := h2
      exact ⟨rfl,rfl⟩
  induction t with
  | pure a => intro Q Q' E E' p s h h'; exact ⟨h,h'⟩
  | raise e => intro Q Q' E E' p s h h'; exact ⟨h,h'⟩
  | unsupported _ => intro Q Q' E E' p s h _; exact h
  | finish _ => intro Q Q' E E' p s h _; exact h
  | rule _ k ih => intro Q Q' E E' p s h h'; exact ih () _ _ _ _ p s h h'
  | «at» p' k ih => intro Q Q' E E' p s h h'; exact ih () _ _ _ _ p' s h h'
  | load a _ k ih =>
    intro Q Q' E E' p s h h'; obtain ⟨o,ho,h⟩ := h; obtain ⟨o',ho',h'⟩ := h'
    rw [ho] at ho'; cases ho'; exact ⟨o,ho,ih o _ _ _ _ p s h h'⟩
  | update a _ f k ih => intro Q Q' E E' p s h h'; exact ⟨h.1,ih () _ _ _ _ p _ h.2 h'.2⟩
  | loadIfAlive a k ih => intro Q Q' E E' p s h h'; exact ih _ _ _ _ _ p s h h'
  | point _ k ih => intro Q Q' E E' p s h h'; exact ih () _ _ _ _ p s h h'
  | register _ _ => intro Q Q' E E' p s h _; exact h
  | alloc o k ih => intro Q Q' E E' p s h h'; exact ih _ _ _ _ _ p _ h h'
  | fresh k ih => intro Q Q' E E' p s h h'; exact ih _ _ _ _ _ p _ h h'
  | ask k ih => intro Q Q' E E' p s h h'; exact ih _ _ _ _ _ p s h h'
  | choose src m k ih => intro Q Q' E E' p s h h'; exact ⟨h.1,ih _ _ _ _ _ p _ h.2 h'.2⟩
  | os q _ k ih => intro Q Q' E E' p s h h'; exact ih _ _ _ _ _ p _ h h'
  | call c hd _ _ k ih =>
    intro Q Q' E E' p s h h'; obtain ⟨r,s',hr,h⟩ := h; obtain ⟨r',s'',hr',h'⟩ := h'
    obtain ⟨rfl,rfl⟩ := det hr hr'
    exact ⟨r,s',hr,ih r _ _ _ _ p s' h h'⟩
  | handled own k ih => intro Q Q' E E' p s h h'; exact ih _ _ _ _ _ p s h h'
  | genState g k ih =>
    intro Q Q' E E' p s h h'; obtain ⟨st,hs,h⟩ := h; obtain ⟨st',hs',h'⟩ := h'
    rw [hs] at hs'; cases hs'; exact ⟨st,hs,ih _ _ _ _ _ p s h h'⟩
  | newGen c k ih => intro Q Q' E E' p s h h'; exact ih _ _ _ _ _ p _ h h'
  | resume g r _ k ih =>
    intro Q Q' E E' p s h h'; obtain ⟨x,s',hw,h⟩ := h; obtain ⟨x',s'',hw',h'⟩ := h'
    obtain ⟨rfl,rfl⟩ := detW hw hw'
    exact ⟨x,s',hw,ih x _ _ _ _ p s' h h'⟩
  | yield _ _ _ _ => intro Q Q' E E' p s h _; exact h
  | stack k ih => intro Q Q' E E' p s h h'; exact ih _ _ _ _ _ p s h h'
  | fork _ _ => intro Q Q' E E' p s h _; exact h
  | thread k ih => intro Q Q' E E' p s h h'; exact ih _ _ _ _ _ p s h h'
  | await _ _ _ _ _ => intro Q Q' E E' p s h _; exact h
theorem wpAny_conj {α : Type} {M : Model} {A : Around} {t : Sem α} {Q Q' : α → Shared → Prop} {E E' : Value → Shared → Prop} {s : Shared} (h : wpAny M A t Q E s) (h' : wpAny M A t Q' E' s) :
    wpAny M A t (fun a s' => Q a s' ∧ Q' a s') (fun e s' => E e s' ∧ E' e s') s := fun Γ p hΓ => wp_conj M Γ t _ _ _ _ p s (h Γ p hΓ) (h' Γ p hΓ)
def Q2 (e : Addr) (h : Heap) : Prop := ∃ oe vs,h.get? e = some oe ∧ oe.data = .fields vs ∧ vs[2]? = some .none
section
variable {M : Model} {A : Around} {E : Value → Shared → Prop} {s : Shared} {base : Heap} {env : Env} {outer l : List Env} {L e : Addr} {cls a0 fl : Value} {Q : Unit → Shared → Prop}
theorem Q2.set {e c : Addr} {h : Heap} {i : Nat} {v : Value} (hi : i ≠ 2) (q : Q2 e h) : Q2 e (h.update c (Obj.mapFields (·.setIfInBounds i v))) := by
  obtain ⟨oe,vs,he,hd,h2⟩ := q
  by_cases z : c = e
  · subst z
    have hd' := Obj.data_mapFields hd (·.setIfInBounds i v)
    exact ⟨_,_,Heap.get?_update_self _ he (Obj.isFreed_of_fields hd'),hd',by rw [Array.getElem?_setIfInBounds_ne hi]; exact h2⟩
  · exact ⟨oe,vs,(Heap.get?_update_other _ _ z).trans he,hd,h2⟩
theorem Q2.push {e : Addr} {h : Heap} {o : Obj} (q : Q2 e h) : Q2 e (h.push o) := let ⟨oe,vs,he,r⟩ := q; ⟨oe,vs,Heap.get?_push_of_some _ he,r⟩
theorem entry2 {head : Value} {nx : Bool} (hfr : A.frames = some (env :: outer)) (hl : s.heap.FunFrames base (env :: outer)) (hf : env.frame = some L) (q : Q2 e s.heap)
    (h : ∀ h₁ o ts,Q2 e h₁ → o.data = .fields ts → 3 < ts.size → Q () { s with heap := (h₁.push o).update e (Obj.mapFields (·.setIfInBounds 1 (Value.ref h₁.objs.size))) }) :
    wpAny M A (do let a ← frameOf env; let pl ← entryPlaceOf L nx; let b ← EntryCells.newEntry head a .none (rawInt L) .none pl; setField (.ref e) 1 b) Q E s := by
  obtain ⟨oe,vs,he,hd,h2⟩ := q
  have hene : e ∉ (env :: outer).filterMap (·.frame) := fun hm => by
    obtain ⟨_,o,ho,hnf⟩ := hl.mem hm
    rw [he] at ho; injection ho with ho; subst ho; exact hnf vs hd
  refine wpAny_bind (wpAny_frameOf_fun hfr hl hf fun h₁ hs₁ => ?_)
  refine wpAny_bind (wpAny_entryPlaceOf fun pl hpl => ?_)
  unfold EntryCells.newEntry newFields
  refine wpAny_bind (wpAny_newObj_type ?_ (hpl.sizeOk5 _ _ _ _ _))
  have he₁ : h₁.get? e = some oe := (hs₁.2.1 e hene).trans he
  have h2s : 2 < vs.size := (Array.getElem?_eq_some_iff.mp h2).1
  exact wpAny_setField (Heap.get?_push_of_some _ he₁) hd (by omega) (h h₁ _ _ ⟨oe,vs,he₁,hd,h2⟩ rfl (by simp only [List.size_toArray,List.length_append,List.length_cons,List.length_nil]; omega))
theorem leave2 {h : Heap} {args : List Value} (hfr : A.frames = some (env :: outer)) (hf : env.frame = some L) (hl : h.FunFrames base (env :: outer)) (hx : Heap.MadeExcOf h s.heap e cls args) : wpAny M A (leaving env (.ref e)) (fun _ s' => Q2 e s'.heap) E s := by
  obtain ⟨t,he,htn,ht⟩ := hx.there
  have q : Q2 e s.heap := ⟨_,_,he,rfl,rfl⟩
  unfold leaving noteFrame
  simp only [hf]
  refine wpAny_bind (wpAny_bind (wpAny_field he rfl (x := .none) rfl ?_))
  rw [if_neg (by decide)]
  refine entry2 (base := base) hfr (hl.of_keeps fun b o hb _ => ⟨o,hx.keeps b o hb,rfl⟩) hf q fun h₁ o ts q1 ho h3 => ?_
  obtain ⟨oe1,vs1,he1,hd1,h21⟩ := q1
  have hTe : h₁.objs.size ≠ e := Nat.ne_of_gt (Heap.lt_size he1)
  have hd3 := Obj.data_mapFields hd1 (·.setIfInBounds 1 (Value.ref h₁.objs.size))
  have he3 := Heap.get?_update_self (Obj.mapFields (·.setIfInBounds 1 (Value.ref h₁.objs.size))) (Heap.get?_push_of_some o he1) (Obj.isFreed_of_fields hd3)
  have h2s : 2 < vs1.size := (Array.getElem?_eq_some_iff.mp h21).1
  have hT := (Heap.get?_update_other (h₁.push o) (Obj.mapFields (·.setIfInBounds 1 (Value.ref h₁.objs.size))) (Ne.symm hTe)).trans (Heap.get?_push_size h₁ (Obj.isFreed_of_fields ho))
  unfold setFlight
  refine wpAny_bind (wpAny_field he3 hd3 (x := .ref h₁.objs.size) (by rw [Array.getElem?_setIfInBounds_self_of_lt (by omega)]) ?_)
  rw [if_pos (show (Value.ref h₁.objs.size != Value.none) = true from by simp)]
  exact wpAny_setField hT ho h3 ((Q2.push (o := o) ⟨oe1,vs1,he1,hd1,h21⟩).set (i := 1) (by decide) |>.set (by decide))
end
section
variable {M : Model} {A : Around} {E : Value → Shared → Prop} {s : Shared} {base : Heap} {env : Env} {outer l : List Env} {L e : Addr} {cls a0 fl : Value} {Q : Unit → Shared → Prop}
theorem leaves_madeQ {h : Heap} {args : List Value} (hfr : A.frames = some (env :: outer)) (hf : env.frame = some L) (hkb : base.StaysIn h) (hl : h.FunFrames base (env :: outer)) (hx : Heap.MadeExcOf h s.heap e cls args)
    (hQ : ∀ h' t,Heap.FlyingW base outer e cls (.ref t) h' → h'.TupAt t args → base.get? t = none → s.heap.UpToSlots h' → Q2 e h' → Q () { s with heap := h' }) : wpAny M A (leaving env (.ref e)) Q E s :=
  wpAny_mono (wpAny_conj (leave2 (E := E) hfr hf hl hx) (wpAny_leaves_madeW (Q := fun _ s' => Q2 e s'.heap → Q () s') (E := E) hfr hf hkb hl hx fun h' t a b c d q => hQ h' t a b c d q)) (fun _ _ z => z.2 z.1) fun _ _ z => z.1
end
end L2
set_option Elab.async false
set_option linter.all false
set_option maxRecDepth 100000
namespace L2
open PySem PySem.Spec PyProof.Rows
theorem ObjOk.ex {P : Program} {w : World} {H : Hp} {h : Heap} {a : Addr} {o : HO} (x : ObjOk P w H h a o) : ∃ ob,h.get? a = some ob := by
  cases o with
  | lst xs => obtain ⟨_,_,_,_,e⟩ := x; exact ⟨_,e⟩
  | tup xs => obtain ⟨_,_,_,o,e,_⟩ := x; exact ⟨_,e⟩
  | dK kvs => obtain ⟨_,_,_,_,o,_,_,e,_⟩ := x; exact ⟨_,e⟩
  | dT kvs => obtain ⟨_,_,_,_,o,_,_,e,_⟩ := x; exact ⟨_,e⟩
  | set S n => obtain ⟨o,_,_,_,e,_⟩ := x; exact ⟨_,e⟩
  | ins C dx fs => obtain ⟨_,_,_,e,_⟩ := x; exact ⟨_,e⟩
  | own y => exact x
  | xd fs => obtain ⟨_,⟨_,_,_,e,_⟩,_⟩ := x; exact ⟨_,e⟩
  | rng lo hi => obtain ⟨_,_,_,e⟩ := x; exact ⟨_,e⟩
  | frz ob u => exact ⟨_,x.1⟩
  | tbl ps => exact ⟨_,(show h.get? a = some _ from x)⟩
  | met f y => exact ⟨_,(show h.get? a = some _ from x)⟩
  | ext φ => exact x.2.1
structure Flew (P : Program) (w : World) (outer : List Env) (H : Hp) (s : Shared) (ea : Addr) (C : Value) (H' : Hp) (B : Heap) (s' : Shared) : Prop where
  os : s'.os = s.os
  bare : AllBare s'.gens
  un : Un (frs outer) [] H H' s.heap s'.heap
  hok : HOk P w H' s'.heap
  fly : ∃ a0,Heap.FlyingW B outer ea C a0 s'.heap
  ctx : Q2 ea s'.heap
  cov : ∀ b o,b ∉ frs outer → (H' b ≠ none ∨ ∃ o',s.heap.get? b = some o') → s'.heap.get? b = some o → B.get? b = some o
  new : s.heap.get? ea = none ∧ H' ea = none
def CXx (P : Program) (w : World) : CXT := fun outer H s E e s' => ∃ ea C H' B,e = Value.ref ea ∧ Flew P w outer H s ea C H' B s' ∧ E C none H'
section
variable {X : Cx} {pins : List (Addr × Obj)} {σ : St} {H : Hp} {s : Shared}
theorem Inv.raised {h2 : Heap} {ea : Addr} {C : Value} {vs : List Value} {M : Model} {E : Value → Shared → Prop} {Q : Unit → Shared → Prop} (I : Inv X pins σ H s) (hst : X.stack = X.env :: X.outer) (hfr : X.env.frame = some X.env.locals) (hex : X.ex = [])
    (hx : Heap.MadeExcOf s.heap h2 ea C vs) (hQ : ∀ B h',Flew X.prog X.w X.outer X.H₀ X.s₀ ea C H B { s with heap := h' } → Q () { s with heap := h' }) :
    wpAny M X.A (leaving X.env (.ref ea)) Q E { s with heap := h2 } := by
  have fS : frs X.stack = X.env.locals :: X.fs := by rw [hst]; unfold frs; rw [List.filterMap_cons,hfr]; rfl
  have st : s.heap.FunFrames X.base (X.env :: X.outer) := by rw [← hst]; exact I.stack
  have hin : ∀ env ∈ (X.env :: X.outer),∀ b,env.frame = some b → b ∈ frs X.stack := fun env he b hb => by rw [hst]; exact List.mem_filterMap.mpr ⟨env,he,hb⟩
  have s0L : ∀ b o,X.s₀.heap.get? b = some o → b ≠ X.env.locals := fun b o e => Nat.ne_of_lt (Nat.lt_of_lt_of_le (Heap.lt_size e) I.ok.above)
  have Ubase : Un X.fs [] X.H₀ H X.s₀.heap s.heap := by have := I.base; rw [hex] at this; exact this
  have trk : ∀ b u,H b = some u → b ∉ frs X.stack := fun b u e hb => by rw [I.stkFree b hb] at e; cases e
  have ofd : ∀ b,b ∈ X.fs → ∃ o,s.heap.get? b = some o ∧ ∀ vs,o.data ≠ .fields vs := fun b hb => by
    obtain ⟨_,o,ho,hd⟩ := I.funs.mem hb
    exact ⟨o,ho,hd⟩
  refine leaves_madeQ (base := PySem.W.hideAll s.heap (frs X.stack)) (h := s.heap) (by rw [← hst]; exact I.ok.frames) hfr (fun b o q => PySem.W.of_hideAll _ q) (PySem.W.funFrames_hide st hin) hx fun h' t fl tup hbt sm q2 => hQ (PySem.W.hideAll s.heap (frs X.stack)) h' ?_
  have toB : ∀ b o,b ∉ frs X.stack → s.heap.get? b = some o → h'.get? b = some o := fun b o nb e => fl.1 _ _ (PySem.W.hideAll_get _ e nb)
  have nfs : ∀ b o,X.s₀.heap.get? b = some o → b ∉ X.fs → b ∉ frs X.stack := fun b o e nb z => by
    rw [fS] at z
    rcases List.mem_cons.mp z with q | q
    · exact s0L b o e q
    · exact nb q
  have slot1 : ∀ b o,b ∈ X.fs → s.heap.get? b = some o → ∃ sl,h'.get? b = some { o with slots := sl } := fun b o hb e => by
    obtain ⟨o',e',hd⟩ := ofd b hb
    rw [e] at e'; cases e'
    exact sm b o (hx.keeps _ _ e) hd
  refine ⟨I.os,I.bare,⟨fun b o e n hb _ => ?_,fun b o e n hb _ => ?_,fun b o e n _ => Ubase.free b o e n (by simp),fun b o e _ => ?_,Ubase.tups,Ubase.frzs,Ubase.tbls⟩,fun b u e => ?_,⟨_,fl⟩,q2,fun b o nb hh e => ?_,?_,?_⟩
  · exact toB b o (nfs b o e hb) (Ubase.keep b o e n hb (by simp))
  · obtain ⟨sl,e1⟩ := Ubase.slot b o e n hb (by simp)
    obtain ⟨sl',e2⟩ := slot1 b _ hb e1
    exact ⟨sl',e2⟩
  · obtain ⟨o',e1⟩ := Ubase.there b o e (by simp)
    by_cases hb : b ∈ X.fs
    · obtain ⟨sl,e2⟩ := slot1 b _ hb e1
      exact ⟨_,e2⟩
    · exact ⟨o',toB b o' (nfs b o e hb) e1⟩
  · refine (I.hok b u e).stay (fun c v hc q => toB c v ?_ q) (fun _ q => q) fun _ _ q => q
    rcases hc with z | z
    · rw [z]; exact trk b u e
    · exact trk c _ z
  · rcases hh with z | ⟨o',z⟩
    · cases q : H b with
      | none => exact absurd q z
      | some u =>
        obtain ⟨ob,eb⟩ := (I.hok b u q).ex
        have eB := PySem.W.hideAll_get _ eb (trk b u q)
        have := fl.1 _ _ eB
        rw [e] at this; cases this
        exact eB
    · obtain ⟨o'',e1⟩ := Ubase.there b o' z (by simp)
      have eB := PySem.W.hideAll_get _ e1 (nfs b o' z nb)
      have := fl.1 _ _ eB
      rw [e] at this; cases this
      exact eB
  · cases q : X.s₀.heap.get? ea with
    | none => rfl
    | some o =>
      obtain ⟨o',e1⟩ := Ubase.there ea o q (by simp)
      rw [hx.new] at e1; cases e1
  · cases q : H ea with
    | none => rfl
    | some u =>
      obtain ⟨ob,eb⟩ := (I.hok ea u q).ex
      rw [hx.new] at eb; cases eb
end
def bmVE : List Value := [.type "ValueError",.type "Exception",.type "BaseException",.type "object"]
def ExcC (K : PySem.W.Frag) (C : Addr) : Prop := PySem.W.excIn K C bmVE "ValueError.__new__" = true
theorem ExcC.obj {K : PySem.W.Frag} {C : Addr} {h : Heap} (X : K.In h) (q : ExcC K C) : ∃ bm N nm qn bs hdct sn sub ab col dd k0 k1 k2 k3 k5 mN,
    h.get? C = some (excClassObj nm qn C N bs bm hdct sn sub ab col dd k0 k1 k2 k3 k5 "ValueError.__new__") ∧ h.Ns N mN ∧ mN "__init__" = none ∧ OwnTail h bmVE bm := by
  unfold ExcC PySem.W.excIn at q
  split at q
  · rename_i dd cd sl ho
    split at q
    · rename_i C' bm k0 k1 k2 k3 n k5 hm hs
      simp only [Bool.and_eq_true,beq_iff_eq,Bool.not_eq_true'] at q
      obtain ⟨⟨⟨⟨⟨e1,e2⟩,e3⟩,e4⟩,e5⟩,e6⟩ := q
      obtain ⟨nm,bs,mro,ns,qn,hd,sn,sub,ab,col,del⟩ := cd
      dsimp only at hm e3 e5 e6
      subst e1 e2 hm e3
      obtain ⟨l⟩ := sl
      simp only at hs
      subst hs
      exact ⟨bm,ns,nm,qn,bs,hd,sn,sub,ab,col,dd,k0,k1,k2,k3,k5,_,X _ _ ho,.of_isNs (PySem.W.isNs_of_in X e5),PySem.W.nsMap_none_of_in X e5 e6,PySem.W.tail_of_in X e4⟩
    · cases q
  · cases q
section
variable {X : Cx} {x : Str} {C : Addr} {e0 : Expr} {np cpos pos : Pos} {t : TA}
def tRaise (R : Value → Hp → Prop) (C : Addr) (t : TA) : TS := fun _ σ H => t σ H fun vs H1 => vs.length ≤ sizeLine ∧ R (.ref C) H1
theorem ps_raise {R : Value → Hp → Prop} (hc : X.calm = true) (hg : Gl X x) (hm : X.mg x = some (.ref C)) (ec : ExcC X.K C) (ha : PA X [e0] t)
    (hR : ∀ pins σ H s h2 ea vs,Inv X pins σ H s → Heap.MadeExcOf s.heap h2 ea (.ref C) vs → R (.ref C) H → X.xe (.ref ea) { s with heap := h2 })
    (he : starEach [e0] X.env = [(false,eval e0 X.env)] := by rfl) (hd : (x == ("__debug__" : Str)) = false := by decide) :
    PS X (.Raise (some (.Call (.Name x np) [e0] [] cpos)) none pos) (tRaise R C t) := by
  intro pins s σ H D I h
  obtain ⟨bm,N,nm,qn,bs,hdct,sn,sub,ab,col,dd,k0,k1,k2,k3,k5,mN,hC,hN,hni,T⟩ := ec.obj I.ok.mod.kin
  refine wpAny_Raise_call_subT (C := C) (nm := nm) (q := qn) (N := N) (bs := bs) (bm := bm) (hdct := hdct) (sn := sn) (sub := sub) (ab := ab) (col := col) (dd := dd) (k0 := k0) (k1 := k1) (k2 := k2) (k3 := k3) (k5 := k5)
    PySem.F.excBase_ValueError (mN := mN) (T.hasType PySem.F.excBase_ValueError.hasBase) (I.ok.hd hc) (by rw [he]; rfl) hni (ld_glob I hg hm ⟨rfl,?_⟩ hd)
  have h2 := ha cpos pins s σ H _ I h
  rw [he] at h2 ⊢
  refine Calls.evalArgs_plain (thn h2 fun us s2 ⟨vs,H1,I1,rv,hl,q⟩ => ⟨rfl,by rw [← rv.length]; exact hl,I1.bk _ _ hC,hN.keeps I1.bk,T.keeps I1.bk,fun h' ea hx => ?_⟩)
  exact hR pins σ H1 s2 h' ea us I1 hx q
end
section
variable {P : Program} {w : World} {K : PySem.W.Frag} {mg : Str → Option Value} {base : Heap}
theorem raise_ends {N : List Str} {qual : Str} {scope : Scope} {f : Addr} {cd : Value} {A : Around} {outer : List Env} {s₀ : Shared} {H₀ : Hp} {E : XK} {C : Addr} :
    ∀ pins σ H s h2 ea vs,Inv (cxOf (CXx P w) P w K mg base N qual scope f cd A outer s₀ H₀ E) pins σ H s → Heap.MadeExcOf s.heap h2 ea (.ref C) vs → (fun c H => E c none H) (Value.ref C) H →
      (cxOf (CXx P w) P w K mg base N qual scope f cd A outer s₀ H₀ E).xe (.ref ea) { s with heap := h2 } := fun pins σ H s h2 ea vs I hx q =>
  I.raised (E := fun e' s'' => CXx P w outer H₀ s₀ E e' s'') rfl rfl rfl hx fun B h' f => ⟨ea,_,H,B,rfl,f,q⟩
theorem Fun.okX {x qual : Str} {st : Stmt} {f : Addr} {fd : FuncData} {N ps : List Str} {k : Nat} {sp : Sp} (F : Fun K x qual st f fd) (S : FnScope N ps (defScope st)) (len : ∀ vs H Q E,sp vs H Q E → vs.length = ps.length)
    (hbody : ∀ (cdv : Value) (A : Around) (outer : List Env) (s : Shared) (H : Hp) (vs : List V) (Q : VK) (E : XK),Room k (A.deeper (envOfC qual (defScope st) s.heap.objs.size f cdv)) → sp vs H Q E →
      ∃ t,PSs (cxOf (CXx P w) P w K mg base N qual (defScope st) f cdv A outer s H E) (defBody st) t ∧ t { nx := fun _ H' => Q .non H',rt := Q } (start N vs) H) : FnOk P w K mg base (CXx P w) (k + 1) f fd ps sp := by
  obtain ⟨oc,od,kV,doc,pm,an,cdv,ct,osl,rfl,lk,hcd⟩ := F.ex
  exact fn_of lk hcd S len fun A outer s H vs Q E hr hsp => hbody cdv A outer s H vs Q E hr hsp
end
def XP (X : Cx) (pins : List (Addr × Obj)) (σ : St) (E : XK) (v : Value) (s' : Shared) : Prop := ∃ ea C H H' B s0,v = Value.ref ea ∧ Inv X pins σ H s0 ∧ Flew X.prog X.w X.stack H s0 ea C H' B s' ∧ E C none H'
section
variable {X : Cx} {k : Nat} {f C : Addr} {fd : FuncData} {ps : List Str} {sp : Sp} {x m : Str} {p pos apos : Pos} {e o : Expr} {es : List Expr} {ta : TE} {t : TA}
end
end L2
set_option Elab.async false
set_option linter.all false
set_option maxRecDepth 100000
namespace PySem
open Sem (wp)
open AutoSeq1 (wpAny_loadPart')
section
variable {prog : Program} {w : World} {A : Around} {E : Value → Shared → Prop} {s : Shared}
theorem nextOf_tup_item {it t : Addr} {i : Nat} {items} {x : Value} {Q : Value → Shared → Prop} (hit : s.heap.IsTupleIter it t i)
    (ht : s.heap.IsTuple t items) (hx : items[i]? = some x)
    (hQ : ∀ h',h'.IsTupleIter it t (i + 1) → Heap.SameBut it s.heap h' → Q x { s with heap := h' }) :
    wpAny (model prog w) A (Builtin.SmallTypes.nextOf (.ref it)) Q E s := by
  obtain ⟨o,ho,hc,hd⟩ := id hit
  obtain ⟨ol,hol,_,nl,hdl⟩ := ht
  unfold Builtin.SmallTypes.nextOf
  refine wpAny_bind (wpAny_callSpecial?_slot (name := Str.ofString "__next__") hit.typeIs F.slot_tuple_iterator_next
    (wpAny_call_entry F.slot_tuple_iterator_next hit.typeIs F.entry_tuple_iterator_next ?_ (F.args_tuple_iterator_next_1 _)))
  show wpAny _ _ (field (.ref it) 0 >>= _) _ _ s
  refine wpAny_bind (wpAny_field ho hd (x := .ref t) rfl ?_)
  show wpAny _ _ (if (Value.ref t == Value.none) = true then _ else _) _ _ s
  rw [if_neg (show ¬ ((Value.ref t == Value.none) = true) from Bool.false_ne_true)]
  show wpAny _ _ (field (.ref it) 1 >>= _) _ _ s
  refine wpAny_bind (wpAny_field ho hd (x := .int i 0) rfl ?_)
  show wpAny _ _ (seqItems? (.ref t) >>= _) _ _ s
  refine wpAny_bind (wpAny_seqItems hol hdl ?_)
  simp only [Int.toNat_natCast,hx]
  refine wpAny_bind (wpAny_setField ho hd (by simp) (wpAny_pure ⟨x,rfl,wpAny_pure (hQ _ ?_ (Heap.SameBut.update ..))⟩))
  exact ⟨_,Heap.get?_update_self _ ho (Obj.isFreed_of_fields (Obj.data_mapFields hd _)),(Obj.cls_mapFields ..).trans hc,by
    rw [Obj.data_mapFields hd]; simp [rawInt]⟩
theorem nextOf_tup_end {it t : Addr} {i : Nat} {items} {Q : Value → Shared → Prop} (hh : A.handled = none)
    (hit : s.heap.IsTupleIter it t i) (ht : s.heap.IsTuple t items) (hx : items[i]? = none)
    (hE : ∀ h' e, Heap.ExtBut it s.heap h' → (∃ o, h'.get? e = some o ∧ o.cls = .type "StopIteration") → E (.ref e) { s with heap := h' }) :
    wpAny (model prog w) A (Builtin.SmallTypes.nextOf (.ref it)) Q E s := by
  obtain ⟨o,ho,hc,hd⟩ := id hit
  obtain ⟨ol,hol,_,nl,hdl⟩ := ht
  unfold Builtin.SmallTypes.nextOf
  refine wpAny_bind (wpAny_callSpecial?_slot (name := Str.ofString "__next__") hit.typeIs F.slot_tuple_iterator_next
    (wpAny_call_entry F.slot_tuple_iterator_next hit.typeIs F.entry_tuple_iterator_next ?_ (F.args_tuple_iterator_next_1 _)))
  show wpAny _ _ (field (.ref it) 0 >>= _) _ _ s
  refine wpAny_bind (wpAny_field ho hd (x := .ref t) rfl ?_)
  show wpAny _ _ (if (Value.ref t == Value.none) = true then _ else _) _ _ s
  rw [if_neg (show ¬ ((Value.ref t == Value.none) = true) from Bool.false_ne_true)]
  show wpAny _ _ (field (.ref it) 1 >>= _) _ _ s
  refine wpAny_bind (wpAny_field ho hd (x := .int i 0) rfl ?_)
  show wpAny _ _ (seqItems? (.ref t) >>= _) _ _ s
  refine wpAny_bind (wpAny_seqItems hol hdl ?_)
  simp only [Int.toNat_natCast,hx]
  refine wpAny_bind (wpAny_rule (wpAny_bind (wpAny_setField ho hd (by simp) ?_)))
  show wpAny _ _ (newExc (.type "StopIteration") [] >>= _) _ _ _
  refine wpAny_bind ?_
  simp only [newExc,newTuple]
  refine wpAny_bind (wpAny_newObj_type ?_ (by size_fits))
  refine wpAny_bind (m := firstArgMember _ _) (wpAny_of_eq (a := Value.none) (by first | rfl | (simp only [firstArgMember]; rfl)) ?_)
  refine wpAny_newObj_type ?_ (by size_fits)
  simp only [raiseNew]
  refine wpAny_bind (wpAny_handled ?_)
  first | rw [show A.in1.handled = none from hh] | rw [hh]
  refine wpAny_bind (wpAny_pure (wpAny_throw ?_))
  exact hE _ _ (((Heap.SameBut.update ..).extBut.push _).push _) ⟨_,Heap.get?_push_size _ rfl,rfl⟩
end
theorem drawsTup {prog : Program} {w : World} {A : Around} (hh : A.handled = none) (it l : Addr) (hne : l ≠ it) (items : Array Value) :
    Draws prog w A it [it,l] items.size (fun i v => items[i]? = some v) (fun i h => h.IsTupleIter it l i ∧ h.IsTuple l items) where
  live := fun _ _ st => let ⟨o,ho,_⟩ := st.1; ⟨o,ho⟩
  frame := fun _ _ _ st hk => ⟨st.1.at fun o e => hk it (by simp) o e,let ⟨o,ho,r⟩ := st.2; ⟨o,hk l (by simp) o ho,r⟩⟩
  item := fun i s Q E hi st hQ => by
    refine nextOf_tup_item st.1 st.2 (x := items[i]) (by simp [hi]) fun h' hit' hs' => ?_
    exact hQ _ h' s.toks (by simp [hi]) ⟨hit',st.2.extBut hs'.extBut hne⟩ hs'
  done := fun s Q E st hE => nextOf_tup_end hh st.1 st.2 (by simp) hE
theorem enumerate_newT (l : Addr) (items : Array Value) (n : Nat) (dct : Option Addr) (sl : Array (Option Value)) :
    Meets (Builtin.«enumerate.__new__» ⟨[.type "enumerate",.ref l],[]⟩) (fun _ R s => s.heap.get? l = some { cls := .type "tuple",dict := dct,data := .seq items n,slots := sl } ∧
      R (.ok (.ret (.ref (s.heap.push { cls := .type "tuple_iterator",data := .fields #[.ref l,.int 0 0] }).objs.size)))
        { s with heap := (s.heap.push { cls := .type "tuple_iterator",data := .fields #[.ref l,.int 0 0] }).push { cls := .type "enumerate",data := .fields #[.none,.bool false,.ref s.heap.objs.size,rawInt 0,.none,.none] } }) :=
  .of_wp fun prog w A R s h => by
    obtain ⟨hp,g,d,tk,os⟩ := s; obtain ⟨hl,h⟩ := h
    have hsub := sub_enumerate
    have hL : Heap.IsTuple (Shared.heap ⟨hp,g,d,tk,os⟩) l items := ⟨_,hl,rfl,n,rfl⟩
    wp_walk using wpAny_loadPart' hl
    refine wpAny_stack_any fun st => wpAny_pure ?_
    split
    · rename_i c _ _ _ _ _
      cases (c == Value.type "enumerate")
      · wp_walk using wpAny_loadPart' hl,wpAny_pyIter_tuple hL
        exact ⟨_,rfl,h⟩
      · wp_walk using wpAny_loadPart' hl,wpAny_pyIter_tuple hL
        exact ⟨_,rfl,h⟩
    · wp_walk using wpAny_loadPart' hl,wpAny_pyIter_tuple hL
      exact ⟨_,rfl,h⟩
section
variable {prog : Program} {w : World} {A : Around} {E : Value → Shared → Prop} {s : Shared}
theorem call_enumerate_tup {l : Addr} {items : Array Value} {Q : Value → Shared → Prop} (hL : s.heap.IsTuple l items)
    (h : ∀ h',IsEnum h' (s.heap.objs.size + 1) s.heap.objs.size 0 .none → h'.IsTupleIter s.heap.objs.size l 0 → h'.objs.size = s.heap.objs.size + 2 →
      (∀ b o,s.heap.get? b = some o → h'.get? b = some o) → Q (.ref (s.heap.objs.size + 1)) { s with heap := h' }) :
    wpAny (model prog w) A (call (.type "enumerate") [.ref l]) Q E s := by
  obtain ⟨⟨c,dct,dt,sl⟩,hl,hc,n,hd⟩ := hL
  replace hc : c = .type "tuple" := hc
  replace hd : dt = .seq items n := hd
  subst hc hd
  refine callType_new F.called_enumerate (by decide) (F.typeCall_enumerate_1 _) (F.newCall_enumerate_1 _) (fun obj => F.args_object_init_2 obj _) F.entry_enumerate_new
    (enumerate_newT l items n dct sl) ⟨hl,?_⟩
  have hz : (s.heap.push { cls := .type "tuple_iterator",data := .fields #[.ref l,.int 0 0] }).objs.size = s.heap.objs.size + 1 := Heap.size_push ..
  show _ ∧ _
  rw [hz]
  have he : IsEnum ((s.heap.push { cls := .type "tuple_iterator",data := .fields #[.ref l,.int 0 0] }).push
      { cls := .type "enumerate",data := .fields #[.none,.bool false,.ref s.heap.objs.size,rawInt 0,.none,.none] }) (s.heap.objs.size + 1) s.heap.objs.size 0 .none := by
    have := Heap.get?_push_size (s.heap.push { cls := .type "tuple_iterator",data := .fields #[.ref l,.int 0 0] })
      (o := { cls := .type "enumerate",data := .fields #[.none,.bool false,.ref s.heap.objs.size,rawInt 0,.none,.none] }) rfl
    rw [hz] at this; exact this
  refine ⟨⟨_,he,rfl⟩,h _ he ⟨_,Heap.get?_push_of_some _ (Heap.get?_push_size _ rfl),rfl,rfl⟩ (by rw [Heap.size_push,hz]) fun b o x => Heap.get?_push_of_some _ (Heap.get?_push_of_some _ x)⟩
end
end PySem
set_option Elab.async false
set_option linter.all false
set_option maxRecDepth 100000
namespace L2
open PySem PySem.Spec PyProof.Rows
def Ite (f : List V → HO) (l : Addr) : It :=
  ⟨fun i H => ∃ xs x,H l = some (f xs) ∧ xs[i]? = some x,
   fun i H v H' => ∃ p xs x,H p = none ∧ v = .ref p ∧ H' = upd H p (.tup [.int i,x]) ∧ H l = some (f xs) ∧ xs[i]? = some x,
   fun i H => ∃ xs,H l = some (f xs) ∧ xs.length ≤ i⟩
section
variable {X : Cx} {pins : List (Addr × Obj)} {σ : St} {H : Hp} {s : Shared}
theorem enum_step {f : List V → HO} {tn : Nat → Heap → Prop} {es : List Expr} {kk : Nat} {tp : Pos} {e it l : Addr} {i : Nat} {xs : List V} {x : V} {u : Value} {tk : Nat} {h' : Heap} {E : Value → Shared → Prop} (hne : e ≠ it) (I : Inv X pins σ H s) (hf : ∀ b ∈ [e,it],FpOk X pins H b) (hl : H l = some (f xs)) (hx : xs[i]? = some x)
    (ho : ∀ b ∈ [e, it], b < s.heap.objs.size) (r : RelV x u) (b1 : IsEnumOut h' e it ((i : Int) + 1) u s.heap.objs.size) (b3 : h'.get? s.heap.objs.size = some { cls := .type "tuple", data := .seq #[.int i tk, u] })
    (bk : ∀ b o,b ≠ e → b ≠ it → s.heap.get? b = some o → h'.get? b = some o) (hn : ∀ h'',IsEnum h'' e it ((i + 1 : Nat) : Int) u → Heap.SameBut e h' h'' → tn (i + 1) h'') :
    wpAny (model X.prog X.w) X.A (letOwnedTupleGo (.Tuple es kk tp) (.ref e) (.ref s.heap.objs.size)) (fun _ s2 => ∃ x H',Inv X pins σ H' s2 ∧ RelV x (.ref s.heap.objs.size) ∧ (Ite f l).yld i H x H' ∧ tn (i + 1) s2.heap ∧ ∀ b ∈ [e,it],H' b = none) E { s with heap := h',toks := tk + 1 } := by
  refine wpAny_letOwnedTupleGo_enum b1 fun h'' c1 cs => ?_
  have es' : e < s.heap.objs.size := ho e (by simp)
  have k2 : ∀ b o,b ∉ [e,it] → s.heap.get? b = some o → h''.get? b = some o := fun b o hb q => by
    simp only [List.mem_cons,List.not_mem_nil,or_false,not_or] at hb
    exact cs.extBut b o hb.1 (bk b o hb.1 hb.2 q)
  have I1 : Inv X pins σ H { s with heap := h'',toks := tk + 1 } := I.turnedN (t' := tk + 1) hf k2
  have hp : h''.get? s.heap.objs.size = some { cls := .type "tuple", data := .seq #[.int i tk, u] } := cs.extBut _ _ (Nat.ne_of_gt es') b3
  have hn0 : H s.heap.objs.size = none := I.hok.fresh (Nat.le_refl _)
  have fpk := I.fpOk (H' := H) (Nat.le_refl _) hn0
  have I2 : Inv X pins σ (upd H s.heap.objs.size (.tup [.int i,x])) { s with heap := h'',toks := tk + 1 } := I1.track fpk I.sz ⟨by show 2 ≤ sizeLine; decide,[.int i tk,u],.cons ⟨tk,rfl⟩ (.cons r .nil),_,hp,rfl,_,rfl⟩
  refine ⟨.ref s.heap.objs.size,_,I2,rfl,⟨_,xs,x,hn0,rfl,rfl,hl,hx⟩,hn h'' c1 cs,fun b hb => ?_⟩
  rw [upd_ne (Nat.ne_of_lt (ho b hb))]
  exact (hf b hb).1
end
theorem turn_enumL {P : Program} {w : World} {K : PySem.W.Frag} {es : List Expr} {kk : Nat} {tp : Pos} (l e it : Addr) (hne : e ≠ it) :
    Turn P w K (.Tuple es kk tp) (Ite .lst l) [e,it] e (fun i h => (∃ old,IsEnum h e it i old) ∧ h.IsListIter it l i) where
  mem := by simp
  obj := fun i h st b hb => by
    obtain ⟨⟨old,a1⟩,⟨o2,a2,_,d2⟩⟩ := st
    simp only [List.mem_cons,List.not_mem_nil,or_false] at hb
    rcases hb with rfl | rfl
    · exact ⟨_,a1,fun v q => by cases q⟩
    · exact ⟨_,a2,fun v q => by rw [d2] at q; cases q⟩
  keep := fun i h h' st k => by
    obtain ⟨⟨old,a1⟩,a2⟩ := st
    exact ⟨⟨old,k e (by simp) _ a1⟩,a2.at fun o q => k it (by simp) o q⟩
  item := by
    intro X hP hw hK hc i pins s σ H E I hf st hg
    subst hP hw hK
    obtain ⟨⟨old,a1⟩,a2⟩ := st
    obtain ⟨xs,x,e1,ex⟩ := hg
    obtain ⟨its,rv,p1,_⟩ := I.list (SqL.of e1)
    obtain ⟨u,hu,r⟩ := rv.get ex
    have ho : ∀ b ∈ [e,it],b < s.heap.objs.size := fun b hb => by
      obtain ⟨o2,a2',_⟩ := a2
      simp only [List.mem_cons,List.not_mem_nil,or_false] at hb
      rcases hb with rfl | rfl
      · exact Heap.lt_size a1
      · exact Heap.lt_size a2'
    refine wpAny_pyNext_enum_item a1 a2 p1.isList (x := u) (by simpa using hu) hne fun h' b1 b2 b3 b4 bk => ⟨_,rfl,?_⟩
    exact enum_step (tn := fun i h => (∃ old,IsEnum h e it i old) ∧ h.IsListIter it l i) hne I hf e1 ex ho r b1 b3 bk fun h'' c1 cs => ⟨⟨u,c1⟩,b2.extBut cs.extBut (Ne.symm hne)⟩
  done := by
    intro X hP hw hK hc i pins s σ H E I hf st hg
    subst hP hw hK
    obtain ⟨⟨old,a1⟩,a2⟩ := st
    obtain ⟨xs,e1,ex⟩ := hg
    obtain ⟨its,rv,p1,_⟩ := I.list (SqL.of e1)
    have lv := rv.length
    refine wpAny_pyNext_enum_end (I.ok.hd hc) a1 a2 p1.isList (by simp; omega) fun h' bk => ⟨rfl,?_⟩
    exact I.turnedN (t' := s.toks) hf fun b o hb q => by
      simp only [List.mem_cons,List.not_mem_nil,or_false,not_or] at hb
      exact bk b o hb.2 q
  self := fun _ _ _ _ _ st h => by obtain ⟨⟨old,a1⟩,_⟩ := st; exact wpAny_pyIter_enum a1 h
theorem turn_enumT {P : Program} {w : World} {K : PySem.W.Frag} {es : List Expr} {kk : Nat} {tp : Pos} (l e it : Addr) (hne : e ≠ it) :
    Turn P w K (.Tuple es kk tp) (Ite .tup l) [e,it] e (fun i h => (∃ old,IsEnum h e it i old) ∧ h.IsTupleIter it l i) where
  mem := by simp
  obj := fun i h st b hb => by
    obtain ⟨⟨old,a1⟩,⟨o2,a2,_,d2⟩⟩ := st
    simp only [List.mem_cons,List.not_mem_nil,or_false] at hb
    rcases hb with rfl | rfl
    · exact ⟨_,a1,fun v q => by cases q⟩
    · exact ⟨_,a2,fun v q => by rw [d2] at q; cases q⟩
  keep := fun i h h' st k => by
    obtain ⟨⟨old,a1⟩,a2⟩ := st
    exact ⟨⟨old,k e (by simp) _ a1⟩,a2.at fun o q => k it (by simp) o q⟩
  item := by
    intro X hP hw hK hc i pins s σ H E I hf st hg
    subst hP hw hK
    obtain ⟨⟨old,a1⟩,a2⟩ := st
    obtain ⟨xs,x,e1,ex⟩ := hg
    obtain ⟨its,rv,p1,_⟩ := I.tuple (SqT.of e1)
    obtain ⟨u,hu,r⟩ := rv.get ex
    have lt : i < its.toArray.size := by simp; exact (List.getElem?_eq_some_iff.mp hu).1
    have ho : ∀ b ∈ [e,it],b < s.heap.objs.size := fun b hb => by
      obtain ⟨o2,a2',_⟩ := a2
      simp only [List.mem_cons,List.not_mem_nil,or_false] at hb
      rcases hb with rfl | rfl
      · exact Heap.lt_size a1
      · exact Heap.lt_size a2'
    have nl : ∀ b ∈ [e,it],l ≠ b := fun b hb q => by rw [q,(hf b hb).1] at e1; cases e1
    have p1' : s.heap.IsTuple l its.toArray := p1
    have DD : Draws X.prog X.w X.A.in1 it [it,l] its.toArray.size (fun i v => its.toArray[i]? = some v) (fun i h => h.IsTupleIter it l i ∧ h.IsTuple l its.toArray) := drawsTup (show X.A.in1.handled = none from I.ok.hd hc) it l (nl it (by simp)) its.toArray
    refine wpAny_pyNext_enum_itemD DD a1 ⟨a2,p1'⟩ lt hne (by simp only [List.mem_cons,List.not_mem_nil,or_false,not_or]; exact ⟨hne,Ne.symm (nl e (by simp))⟩) fun x' h' tk px b1 b2 b3 b4 bk => ⟨_,rfl,?_⟩
    have hu' : its.toArray[i]? = some u := by simpa using hu
    have eu : u = x' := Option.some.inj (hu'.symm.trans px)
    subst eu
    exact enum_step (tn := fun i h => (∃ old,IsEnum h e it i old) ∧ h.IsTupleIter it l i) hne I hf e1 ex ho r b1 b3 bk fun h'' c1 cs => ⟨⟨u,c1⟩,b2.1.extBut cs.extBut (Ne.symm hne)⟩
  done := by
    intro X hP hw hK hc i pins s σ H E I hf st hg
    subst hP hw hK
    obtain ⟨⟨old,a1⟩,a2⟩ := st
    obtain ⟨xs,e1,ex⟩ := hg
    obtain ⟨its,rv,p1,_⟩ := I.tuple (SqT.of e1)
    have lv := rv.length
    have p1' : s.heap.IsTuple l its.toArray := p1
    have hT : s.TypeIs (.ref e) "enumerate" := ⟨_,a1,rfl⟩
    unfold pyNext
    refine wpAny_bind (wpAny_attempt (wpAny_callSpecial?_slot (name := Str.ofString "__next__") hT F.slot_enumerate_next
      (wpAny_call_entry F.slot_enumerate_next hT F.entry_enumerate_next ?_ (F.args_enumerate_next_1 _))))
    show wpAny _ _ (field (.ref e) 2 >>= _) _ _ _
    refine wpAny_bind (wpAny_field a1 rfl (x := .ref it) rfl ?_)
    refine wpAny_bind (nextOf_tup_end (I.ok.hd hc) a2 p1' (by simp; omega) fun h' x he' hx' => ?_)
    obtain ⟨o,ho,hc⟩ := hx'
    refine wpAny_bind (wpAny_isInstance (T := "StopIteration") (b := true) ⟨o,ho,hc⟩ isSubtype_stop ?_)
    refine wpAny_pure ⟨rfl,?_⟩
    exact I.turnedN (t' := s.toks) hf fun b o hb q => by
      simp only [List.mem_cons,List.not_mem_nil,or_false,not_or] at hb
      exact he' b o hb.2 q
  self := fun _ _ _ _ _ st h => by obtain ⟨⟨old,a1⟩,_⟩ := st; exact wpAny_pyIter_enum a1 h
def iEnum (ta : TA) : TI := fun σ H R => ta σ H fun vs H1 => ∃ l xs,vs = [.ref l] ∧ ((H1 l = some (.lst xs) ∧ R (Ite .lst l) H1) ∨ (H1 l = some (.tup xs) ∧ R (Ite .tup l) H1))
theorem pi_enum {X : Cx} {a : Expr} {ta : TA} {p pos tp : Pos} {es : List Expr} {kk : Nat} (hg : Gl X "enumerate") (hm : X.mg "enumerate" = none) (ha : PA X [a] ta)
    (hs : starEach [a] X.env = [(false,eval a X.env)] := by rfl) :
    PI X (.Tuple es kk tp) (.Call (.Name "enumerate" p) [a] [] pos) (iEnum ta) := by
  intro pins s σ H R I h
  refine Call_ (ld_blt I hg hm PyProof.Rows.boot_enumerate (PyProof.Rows.callWith_type1 (thn (ha pos pins s σ H _ I h) fun us s1 ⟨vs,H1,I1,r1,q1⟩ => ?_) (by rw [hs]; rfl) (by rfl)))
  obtain ⟨l,xs,rfl,q⟩ := q1
  cases r1 with
  | cons r rr =>
    cases rr
    cases r
    rcases q with ⟨e1,q⟩ | ⟨e1,q⟩
    · obtain ⟨its1,rv1,p1,_⟩ := I1.list (SqL.of e1)
      refine call_enumerate_list p1.isList fun h' z1 z2 sz keep => ?_
      have I2 : Inv X pins σ H1 { s1 with heap := h' } := I1.kept (t' := s1.toks) keep
      refine wpAny_pyIter_enum z1 ⟨s1.heap.objs.size + 1,[s1.heap.objs.size + 1,s1.heap.objs.size],_,_,H1,rfl,I2,turn_enumL l _ _ (Nat.succ_ne_self _),⟨⟨_,z1⟩,z2⟩,fun b hb => ?_,q⟩
      have hb' : s1.heap.objs.size ≤ b := by
        simp only [List.mem_cons,List.not_mem_nil,or_false] at hb
        rcases hb with rfl | rfl <;> omega
      exact I1.fpOk hb' (I1.hok.fresh hb')
    · obtain ⟨its1,rv1,p1,_⟩ := I1.tuple (SqT.of e1)
      have p1' : s1.heap.IsTuple l its1.toArray := p1
      refine call_enumerate_tup p1' fun h' z1 z2 sz keep => ?_
      have I2 : Inv X pins σ H1 { s1 with heap := h' } := I1.kept (t' := s1.toks) keep
      refine wpAny_pyIter_enum z1 ⟨s1.heap.objs.size + 1,[s1.heap.objs.size + 1,s1.heap.objs.size],_,_,H1,rfl,I2,turn_enumT l _ _ (Nat.succ_ne_self _),⟨⟨_,z1⟩,z2⟩,fun b hb => ?_,q⟩
      have hb' : s1.heap.objs.size ≤ b := by
        simp only [List.mem_cons,List.not_mem_nil,or_false] at hb
        rcases hb with rfl | rfl <;> omega
      exact I1.fpOk hb' (I1.hok.fresh hb')
theorem for_enum {f : List V → HO} (hf : ∀ xs ys,f xs = f ys → xs = ys) {l : Addr} {xs : List V} {g : TG} {tb : TS} {D : Ends} {σ : St} {H : Hp} (Pv : Nat → St → Hp → Prop) (h0 : Pv 0 σ H) (hk : ∀ i σ H',Pv i σ H' → H' l = some (f xs))
    (ht : ∀ i x p σ H,xs[i]? = some x → H p = none → Pv i σ H → g (.ref p) σ (upd H p (.tup [.int i,x])) fun σ2 H2 => tb { D with nx := Pv (i + 1),ct := Pv (i + 1),bk := D.nx } σ2 H2) (hd : ∀ σ H,Pv xs.length σ H → D.nx σ H) :
    ∃ W : Nat → Nat → St → Hp → Prop,(∃ m,W 0 m σ H) ∧ ∀ i m σ H,W i m σ H →
      ((Ite f l).stop i H ∧ D.nx σ H) ∨ ((Ite f l).go i H ∧ ∃ N : St → Hp → Prop,(∀ σ' H',N σ' H' → ∃ m',m' < m ∧ W (i + 1) m' σ' H') ∧ ∀ x H',(Ite f l).yld i H x H' → g x σ H' fun σ2 H2 => tb { D with nx := N,ct := N,bk := D.nx } σ2 H2) := by
  refine ⟨fun i m σ H => m = xs.length - i ∧ i ≤ xs.length ∧ Pv i σ H,⟨xs.length,by simp,Nat.zero_le _,h0⟩,?_⟩
  rintro i m σ H ⟨rfl,hi,p⟩
  have e1 := hk i σ H p
  by_cases hlt : i < xs.length
  · refine .inr ⟨⟨xs,xs[i],e1,by simp [hlt]⟩,Pv (i + 1),fun σ' H' p' => ⟨xs.length - (i + 1),by omega,rfl,hlt,p'⟩,fun v H' y => ?_⟩
    obtain ⟨q,xs',x,hq,rfl,rfl,e1',ex⟩ := y
    rw [e1] at e1'
    cases hf _ _ (Option.some.inj e1')
    exact ht i x q σ H ex hq p
  · have e : i = xs.length := by omega
    subst e
    exact .inl ⟨⟨xs,e1,Nat.le_refl _⟩,hd σ H p⟩
end L2
set_option Elab.async false
set_option linter.all false
set_option maxRecDepth 100000
namespace Pc
open PySem L2
def turnable (k : Kd) : Bool := k.tu && !decide (k.w = k.h)
def lyT (i : Nat) (k : Kd) : List (Nat × Bool) := (i,false) :: if turnable k = true then [(i,true)] else []
def lyK : List Kd → Nat → List (Nat × Bool)
  | [],_ => []
  | k :: r,i => lyT i k ++ lyK r (i + 1)
theorem lyK_snoc (k : Kd) : ∀ (ks : List Kd) (i : Nat),lyK (ks ++ [k]) i = lyK ks i ++ lyT (i + ks.length) k
  | [],i => by simp [lyK]
  | c :: r,i => by
    show lyT i c ++ lyK (r ++ [k]) (i + 1) = (lyT i c ++ lyK r (i + 1)) ++ _
    rw [lyK_snoc k r (i + 1),List.append_assoc]
    congr 2
    simp only [List.length_cons]
    congr 1
    omega
theorem lyT_len (i : Nat) (k : Kd) : (lyT i k).length ≤ 2 := by unfold lyT; split <;> simp
theorem lyK_len : ∀ (ks : List Kd) (i : Nat),(lyK ks i).length ≤ 2 * ks.length
  | [],i => by simp [lyK]
  | c :: r,i => by
    have := lyK_len r (i + 1)
    have := lyT_len i c
    simp only [lyK,List.length_append,List.length_cons]
    omega
def LyAt (H : Hp) (v : V) (p : Nat × Bool) : Prop := ∃ a,v = .ref a ∧ H a = some (.tup [.int p.1,.bl p.2])
abbrev Lys (H : Hp) : List V → List (Nat × Bool) → Prop := Paired (LyAt H)
theorem Lys.keep {H H' : Hp} (k : ∀ b xs,H b = some (.tup xs) → H' b = some (.tup xs)) {xs : List V} {ps : List (Nat × Bool)} (r : Lys H xs ps) : Lys H' xs ps :=
  Paired.mapP r fun v kd ⟨a,e,h⟩ => ⟨a,e,k a _ h⟩
theorem ly_put {H H3 : Hp} {l t : Addr} {ys : List V} {ps : List (Nat × Bool)} {i : Nat} {b : Bool} (hl : H l = none) (s3 : Same H H3) (l3 : H3 l = some (.lst ys)) (y3 : Lys H3 ys ps) (ht : H3 t = none) :
    Same H (upd (upd H3 t (.tup [.int (i : Int),.bl b])) l (.lst (ys ++ [.ref t]))) ∧ (upd (upd H3 t (.tup [.int (i : Int),.bl b])) l (.lst (ys ++ [.ref t]))) l = some (.lst (ys ++ [.ref t])) ∧
      Lys (upd (upd H3 t (.tup [.int (i : Int),.bl b])) l (.lst (ys ++ [.ref t]))) (ys ++ [.ref t]) (ps ++ [(i,b)]) := by
  have lt : l ≠ t := ne_of_none l3 ht
  refine ⟨fun c o e => ?_,upd_same,Paired.snoc (Lys.keep (fun c xs e => ?_) y3) ⟨t,rfl,by rw [upd_ne (Ne.symm lt),upd_same]⟩⟩
  · have e3 := s3 c o e
    rw [upd_ne (ne_of_none e hl),upd_ne (ne_of_none e3 ht)]; exact e3
  · have cl : c ≠ l := fun z => by rw [z,l3] at e; cases e
    rw [upd_ne cl,upd_ne (ne_of_none e ht)]; exact e
def spTurned (K : PySem.W.Frag) : Sp := fun vs H Q _ => ∃ (a : Addr) (k : Kd),vs = [.ref a] ∧ H a = some (.tup (kdV k)) ∧ Q (.bl (turnable k)) H
def spLyings (C : Addr) : Sp := fun vs H Q _ => ∃ (x : Addr) (b : Int) (ks : List Kd),vs = [.ref x] ∧ ShopAt C H x b ks ∧ ks.length ≤ 8 ∧
  ∀ (l : Addr) (ys : List V) (H' : Hp),H l = none → H' l = some (.lst ys) → Lys H' ys (lyK ks 0) → Same H H' → Q (.ref l) H'
def isLy (ks : List Kd) (x t : V) : Bool := match x,t with
  | .int i,.bl b => decide (0 ≤ i) && match ks[i.toNat]? with
    | some k => !b || turnable k
    | none => false
  | _,_ => false
def spIsLying (K : PySem.W.Frag) (C : Addr) : Sp := fun vs H Q _ => ∃ (s : Addr) (b : Int) (ks : List Kd) (x t : V) (T U : String),vs = [.ref s,x,t] ∧ ShopAt C H s b ks ∧ Ty K H x T ∧ Ty K H t U ∧ Q (.bl (isLy ks x t)) H
end Pc
set_option Elab.async false
set_option linter.all false
set_option maxRecDepth 100000
namespace L2
open PySem PySem.Spec PyProof.Rows
section
variable {X : Cx}
theorem pe_mD {k : Nat} {C : Addr} {ps : List Str} {sp : Sp} {m : Str} {o : Expr} {e : Expr} {es : List Expr} {ta : TE} {t : TA} {apos pos : Pos} {pl : Sem Bool} (he : PE X o ta) (c : Cls X.K C) (D : Mn X.prog X.w X.K X.mg X.base C m ps k sp) (hr : Room k X.A) (ha : PA X (e :: es) t)
    (hst : starEach (e :: es) X.env = (false,eval e X.env) :: starEach es X.env := by rfl) (hpl : (backTo pos (starEach es X.env)).any (·.1) = false := by rfl)
    (ht : eval (.Call (.Attribute o m apos) (e :: es) [] pos) X.env = (do
      let ov ← eval o X.env
      standAt apos.atName
      let (f,first) ← holding [ov] (getMethod ov m pl)
      callWith pos f first (backTo pos (starEach (e :: es) X.env)) (backToKw pos (keywordEach [] X.env))) := by rfl) : PE X (.Call (.Attribute o m apos) (e :: es) [] pos) (tMeth C m sp [] E0 ta t) := by
  obtain ⟨f,fd,F,hb,hm⟩ := D
  exact pe_meth he c hm F hr hb .nil pass0 ha hst hpl ht
def MnX (P : Program) (w : World) (K : PySem.W.Frag) (mg : Str → Option Value) (base : Heap) (C : Addr) (m : Str) (ps : List Str) (k : Nat) (sp : Sp) : Prop :=
  ∃ (f : Addr) (fd : FuncData),FnOk P w K mg base (CXx P w) k f fd ps sp ∧ Binds K fd ps [] ∧ Meth K C m f
end
end L2
set_option Elab.async false
set_option linter.all false
set_option maxRecDepth 100000
namespace L2
open PySem PySem.Spec PyProof.Rows
theorem passX {P : Program} {w : World} {X : Cx} : Passes (CXx P w) X E0 := fun _ _ _ _ _ _ _ ⟨_,_,_,_,_,_,h⟩ => h.elim
section
variable {X : Cx}
theorem pe_mDX {k : Nat} {C : Addr} {ps : List Str} {sp : Sp} {m : Str} {o : Expr} {e : Expr} {es : List Expr} {ta : TE} {t : TA} {apos pos : Pos} {pl : Sem Bool} (he : PE X o ta) (c : Cls X.K C) (D : MnX X.prog X.w X.K X.mg X.base C m ps k sp) (hr : Room k X.A) (ha : PA X (e :: es) t)
    (hst : starEach (e :: es) X.env = (false,eval e X.env) :: starEach es X.env := by rfl) (hpl : (backTo pos (starEach es X.env)).any (·.1) = false := by rfl)
    (ht : eval (.Call (.Attribute o m apos) (e :: es) [] pos) X.env = (do
      let ov ← eval o X.env
      standAt apos.atName
      let (f,first) ← holding [ov] (getMethod ov m pl)
      callWith pos f first (backTo pos (starEach (e :: es) X.env)) (backToKw pos (keywordEach [] X.env))) := by rfl) : PE X (.Call (.Attribute o m apos) (e :: es) [] pos) (tMeth C m sp [] E0 ta t) := by
  obtain ⟨f,fd,F,hb,hm⟩ := D
  exact pe_meth he c hm F hr hb .nil passX ha hst hpl ht
end
end L2
namespace Pc
open PySem L2
end Pc
namespace Pc
open PySem PySem.Spec L2
end Pc
set_option Elab.async false
set_option linter.all false
set_option maxRecDepth 100000
namespace L2
open PySem PySem.Spec PyProof.Rows
theorem ints_of : ∀ {ns : List Int} {its : List Value},Vals (ns.map V.int) its → IntsAre its ns
  | [],_,r => by cases r; exact .nil
  | n :: ns,_,r => by
    cases r with
    | cons r1 r2 =>
      obtain ⟨t,e⟩ := r1
      subst e
      exact .cons n t (ints_of r2)
section
variable {X : Cx}
theorem vals_bls : ∀ {bs : List Bool} {its : List Value},Vals (bs.map V.bl) its → its = bs.map Value.bool
  | [],_,r => by cases r; rfl
  | b :: bs,_,r => by
    cases r with
    | cons r1 r2 =>
      have e : _ = Value.bool b := r1
      subst e
      rw [List.map_cons,vals_bls r2]
theorem range_all (bs : List Bool) : (List.range bs.length).all (fun i => bs.getD i false) = bs.all id := by
  rw [Bool.eq_iff_iff,List.all_eq_true,List.all_eq_true]
  constructor
  · intro h b hb
    obtain ⟨i,hi,e⟩ := List.getElem_of_mem hb
    have := h i (List.mem_range.mpr hi)
    rw [List.getD_eq_getElem?_getD,List.getElem?_eq_getElem hi] at this
    simpa [e] using this
  · intro h i hi
    have hi' := List.mem_range.mp hi
    rw [List.getD_eq_getElem?_getD,List.getElem?_eq_getElem hi']
    exact h _ (List.getElem_mem hi')
theorem call_allB (hc : X.calm = true) : CallR X (.builtin "all") (fun xs H Q => ∃ (p : Addr) (bs : List Bool),xs = [.ref p] ∧ SqL X.K H p (bs.map V.bl) ∧ Q (.bl (bs.all id)) H) := by
  intro pins s σ H xs us Q I r h
  obtain ⟨p,bs,rfl,hs,q⟩ := h
  obtain ⟨u,rfl,rfl⟩ := vals1 r
  obtain ⟨its,rv,pl,_⟩ := I.list hs
  have e := vals_bls rv
  subst e
  have hlt : p < s.heap.objs.size := by obtain ⟨_,_,e,_⟩ := pl; exact Heap.lt_size e
  refine call_all_walk (wpAny_pyIter_list pl.isList ?_)
  refine ⟨_,_,_,_,_,_,fun i => bs.getD i false,rfl,Walks.list (A := X.A.in1) (I.ok.hd hc) _ p (Nat.ne_of_lt hlt) _,⟨⟨_,Heap.get?_push_size _ rfl,rfl,rfl⟩,pl.isList.push _⟩,fun i v s' Q' E' hP hQ' => ?_,fun h' tk hk => ?_⟩
  · have hP' : (bs.map Value.bool)[i]? = some v := by simpa using hP
    rw [List.getElem?_map] at hP'
    cases hb : bs[i]? with
    | none => rw [hb] at hP'; cases hP'
    | some b =>
      rw [hb] at hP'
      cases hP'
      have hQ2 : Q' (bs.getD i false) s' := hQ'
      rw [List.getD_eq_getElem?_getD,hb] at hQ2
      exact wpAny_truthy_bool hQ2
  · have e2 : ((bs.map Value.bool).toArray.size) = bs.length := by simp
    rw [e2,range_all]
    refine ⟨.bl (bs.all id),H,I.kept (h' := h') (t' := tk) (fun b o e => hk b o ?_ (Heap.get?_push_of_some _ e)),rfl,q⟩
    intro z
    rw [List.mem_singleton.mp z] at e
    exact absurd (Heap.lt_size e) (Nat.lt_irrefl _)
end
end L2
set_option Elab.async false
set_option linter.all false
set_option maxRecDepth 100000
namespace L2
open PySem PySem.Spec PyProof.Rows
section
variable {X : Cx}
end
theorem atI_int {α : Type} {xs : List α} {i : Int} {v : α} (h0 : 0 ≤ i) (h : xs[i.toNat]? = some v) : atI xs i = some v := by
  have e : i = ((i.toNat : Nat) : Int) := by omega
  have z : atI xs ((i.toNat : Nat) : Int) = some v := atI_nat h
  rw [← e] at z; exact z
end L2
namespace Pc
open PySem L2
def PotB (H : Hp) (p : Addr) : Prop := ∃ a b : Int,0 ≤ a ∧ 0 ≤ b ∧ b < 2147483648 ∧ H p = some (.lst [.int a,.int b])
theorem PotB.new {H : Hp} {p q : Addr} {o : HO} (x : PotB H p) (h : H q = none) : PotB (upd H q o) p := by
  obtain ⟨a,b,h1,h2,h3,e⟩ := x
  exact ⟨a,b,h1,h2,h3,by rw [upd_ne (ne_of_none e h)]; exact e⟩
theorem PotB.same {H H' : Hp} {p : Addr} (x : PotB H p) (s : Same H H') : PotB H' p := by
  obtain ⟨a,b,h1,h2,h3,e⟩ := x
  exact ⟨a,b,h1,h2,h3,s _ _ e⟩
theorem PotB.some {H : Hp} {p : Addr} (x : PotB H p) : H p ≠ none := by
  obtain ⟨a,b,h1,h2,h3,e⟩ := x
  rw [e]; exact fun z => by cases z
theorem PotB.ne {H : Hp} {p q : Addr} (x : PotB H p) (h : H q = none) : p ≠ q := fun z => x.some (z ▸ h)
def spPotB : Sp := fun vs H Q _ => ∃ (c : Int),vs = [.int c] ∧ ∀ (p : Addr) (H' : Hp),H p = none → PotB H' p → Same H H' → Q (.ref p) H'
def spDrawB : Sp := fun vs H Q _ => ∃ (p : Addr) (m : Int),vs = [.ref p,.int m] ∧ PotB H p ∧ 0 < m ∧ m ≤ 10 ^ 60 ∧ ∀ (r : Int) (H' : Hp),0 ≤ r → r < m → PotB H' p → But p H H' → Q (.int r) H'
end Pc
set_option Elab.async false
set_option linter.all false
set_option maxRecDepth 100000
namespace L2
open PySem PySem.Spec PyProof.Rows
section
variable {κ : Type} [DecidableEq κ]
def valV (kvs : List (κ × V)) (k : κ) : Option V := (kvs.find? fun kv => decide (kv.1 = k)).map (·.2)
def putK (kvs : List (κ × V)) (k : κ) (v : V) : List (κ × V) :=
  if (kvs.any fun kv => decide (kv.1 = k)) = true then kvs.map (fun kv => if kv.1 = k then (kv.1,v) else kv) else kvs ++ [(k,v)]
theorem valV_pos {p : κ × V} {r : List (κ × V)} {k : κ} (e : p.1 = k) : valV (p :: r) k = some p.2 := by simp [valV,List.find?_cons,e]
theorem valV_neg {p : κ × V} {r : List (κ × V)} {k : κ} (e : ¬ p.1 = k) : valV (p :: r) k = valV r k := by simp [valV,List.find?_cons,e]
theorem valV_any (k : κ) : ∀ kvs : List (κ × V),(kvs.any fun kv => decide (kv.1 = k)) = (valV kvs k).isSome
  | [] => rfl
  | p :: r => by
    rw [List.any_cons]
    by_cases e : p.1 = k
    · simp only [valV_pos e,decide_eq_true e,Bool.true_or,Option.isSome_some]
    · rw [valV_neg e,decide_eq_false e,Bool.false_or]; exact valV_any k r
theorem length_putK (kvs : List (κ × V)) (k : κ) (v : V) : (putK kvs k v).length ≤ kvs.length + 1 := by
  unfold putK
  split
  · rw [List.length_map]; omega
  · rw [List.length_append,List.length_cons,List.length_nil]; omega
theorem putK_new {kvs : List (κ × V)} {k : κ} (v : V) (h : valV kvs k = none) : putK kvs k v = kvs ++ [(k,v)] := by
  unfold putK
  rw [valV_any,h]
  exact if_neg (by decide)
theorem RelO.isSome_eq {o : Option V} {u : Option Value} (r : RelO o u) : o.isSome = u.isSome := by
  cases o with
  | none => cases u with
    | none => rfl
    | some _ => exact (show False from r).elim
  | some _ => cases u with
    | none => exact (show False from r).elim
    | some _ => rfl
theorem KV.val {kvs : List (κ × V)} {vs : List (κ × Value)} (r : KV kvs vs) (k : κ) : RelO (valV kvs k) (valueAt vs k) := by
  unfold KV at r
  induction r with
  | nil => exact True.intro
  | @cons p q ps qs h t ih =>
    obtain ⟨h1,h2⟩ := h
    by_cases e : p.1 = k
    · have e' : q.1 = k := h1.symm.trans e
      have b : valueAt (q :: qs) k = some q.2 := by simp [valueAt,List.find?_cons,e']
      rw [valV_pos e,b]; exact h2
    · have e' : ¬ q.1 = k := fun z => e (h1.trans z)
      have b : valueAt (q :: qs) k = valueAt qs k := by simp [valueAt,List.find?_cons,e']
      rw [valV_neg e,b]; exact ih
theorem KV.any {kvs : List (κ × V)} {vs : List (κ × Value)} (r : KV kvs vs) (k : κ) : (kvs.any fun kv => decide (kv.1 = k)) = vs.any fun kv => decide (kv.1 = k) := by
  unfold KV at r
  induction r with
  | nil => rfl
  | cons h t ih => rw [List.any_cons,List.any_cons,ih,h.1]
theorem KV.repl {kvs : List (κ × V)} {vs : List (κ × Value)} (r : KV kvs vs) (k : κ) {y : V} {u : Value} (ry : RelV y u) :
    KV (kvs.map fun kv => if kv.1 = k then (kv.1,y) else kv) (vs.map fun kv => if kv.1 = k then (kv.1,u) else kv) := by
  unfold KV at r ⊢
  induction r with
  | nil => exact .nil
  | @cons p q ps qs h t ih =>
    rw [List.map_cons,List.map_cons]
    refine .cons ?_ ih
    obtain ⟨h1,h2⟩ := h
    by_cases e : p.1 = k
    · rw [if_pos e,if_pos (h1.symm.trans e)]; exact ⟨h1,ry⟩
    · rw [if_neg e,if_neg (fun z => e (h1.trans z))]; exact ⟨h1,h2⟩
theorem KV.put {kvs : List (κ × V)} {vs : List (κ × Value)} (r : KV kvs vs) (k : κ) {y : V} {u : Value} (ry : RelV y u) : KV (putK kvs k y) (stored vs k u) := by
  unfold putK stored
  rw [r.any k]
  by_cases e : (vs.any fun kv => decide (kv.1 = k)) = true
  · rw [if_pos e,if_pos e]; exact r.repl k ry
  · rw [if_neg e,if_neg e]; exact Paired.snoc r ⟨rfl,ry⟩
theorem KV.length {kvs : List (κ × V)} {vs : List (κ × Value)} (r : KV kvs vs) : kvs.length = vs.length := Paired.length r
end
theorem kV_is {P : Program} {w : World} {k : Key} {u : Value} (r : RelV (kV k) u) : (mixKind P w).is k u = true := by
  cases k with
  | inl i => obtain ⟨t,e⟩ := (show ∃ t,u = Value.int i t from r); subst e; exact mixKind_int P w i t
  | inr x => obtain ⟨t,e⟩ := (show ∃ t,u = Value.str x t from r); subst e; exact mixKind_str P w x t
theorem items_are {P : Program} {w : World} : ∀ {ks : List Key} {us : List Value},Vals (ks.map kV) us → ItemsAre (mixKind P w) ks us
  | [],_,r => by rw [List.map_nil] at r; cases r; exact .nil
  | k :: ks,_,r => by
    rw [List.map_cons] at r
    cases r with
    | cons h t => exact .cons (kV_is h) (items_are t)
abbrev KT (H : Hp) : List (List Key × V) → List (List Key × Addr × Value) → Prop := Paired fun p q => p.1 = q.1 ∧ H q.2.1 = some (.tup (p.1.map kV)) ∧ RelV p.2 q.2.2
theorem KT.val {H : Hp} {kvs : List (List Key × V)} {xs : List (List Key × Addr × Value)} (r : KT H kvs xs) (k : List Key) : RelO (valV kvs k) ((atKey xs k).map (·.2)) := by
  induction r with
  | nil => exact True.intro
  | @cons p q ps qs h t ih =>
    obtain ⟨h1,_,h2⟩ := h
    by_cases e : p.1 = k
    · have e' : q.1 = k := h1.symm.trans e
      have b : atKey (q :: qs) k = some q.2 := by simp [atKey,List.find?_cons,e']
      rw [valV_pos e,b]; exact h2
    · have e' : ¬ q.1 = k := fun z => e (h1.trans z)
      have b : atKey (q :: qs) k = atKey qs k := by simp [atKey,List.find?_cons,e']
      rw [valV_neg e,b]; exact ih
theorem KT.repl {H : Hp} {kvs : List (List Key × V)} {xs : List (List Key × Addr × Value)} (r : KT H kvs xs) (k : List Key) {y : V} {u : Value} (ry : RelV y u) :
    KT H (kvs.map fun kv => if kv.1 = k then (kv.1,y) else kv) (xs.map (putAt k u)) := by
  induction r with
  | nil => exact .nil
  | @cons p q ps qs h t ih =>
    rw [List.map_cons,List.map_cons]
    refine .cons ?_ ih
    obtain ⟨h1,h2,h3⟩ := h
    unfold putAt
    by_cases e : p.1 = k
    · rw [if_pos e,if_pos (h1.symm.trans e)]; exact ⟨h1,h2,ry⟩
    · rw [if_neg e,if_neg (fun z => e (h1.trans z))]; exact ⟨h1,h2,h3⟩
theorem KT.put {H : Hp} {kvs : List (List Key × V)} {xs : List (List Key × Addr × Value)} (r : KT H kvs xs) (k : List Key) {b : Addr} {y : V} {u : Value} (hb : H b = some (.tup (k.map kV))) (ry : RelV y u) :
    KT H (putK kvs k y) (storedH xs k b u) := by
  have e : (kvs.any fun kv => decide (kv.1 = k)) = (atKey xs k).isSome := by
    rw [valV_any,(r.val k).isSome_eq,Option.isSome_map]
  unfold putK storedH
  rw [e]
  by_cases q : (atKey xs k).isSome = true
  · rw [if_pos q,if_pos q]; exact r.repl k ry
  · rw [if_neg q,if_neg q]; exact Paired.snoc r ⟨rfl,hb,ry⟩
theorem KT.keeps {H H' : Hp} {kvs : List (List Key × V)} {xs : List (List Key × Addr × Value)} (r : KT H kvs xs) (ht : ∀ b ys,H b = some (.tup ys) → H' b = some (.tup ys)) : KT H' kvs xs :=
  Paired.mapP r fun _ _ z => ⟨z.1,ht _ _ z.2.1,z.2.2⟩
section
variable {P : Program} {w : World} {H : Hp} {h : Heap} {a : Addr}
theorem rd_of {u : HO} (ok : HOk P w H h) (e : Rd H a u) : ObjOk P w H h a u := e.ok ok
theorem dk_rd {kvs : List (Key × V)} (ok : HOk P w H h) (e : Rd H a (.dK kvs)) : kvs.length ≤ sizeLine ∧ (a == sysModules) = false ∧ ∃ vs,KV kvs vs ∧ h.DictOf (mixKind P w) a vs :=
  show ObjOk P w H h a (.dK kvs) from rd_of ok e
theorem dk_of {kvs : List (Key × V)} (ok : HOk P w H h) (e : H a = some (.dK kvs)) : kvs.length ≤ sizeLine ∧ (a == sysModules) = false ∧ ∃ vs,KV kvs vs ∧ h.DictOf (mixKind P w) a vs := dk_rd ok (.inl e)
theorem key_of {ks : List Key} (ok : HOk P w H h) (e : H a = some (.tup (ks.map kV))) : (tupleKind (mixKind P w)).is h ks a := by
  obtain ⟨_,its,r,o,h1,h2,n,h3⟩ := (show ObjOk P w H h a (.tup (ks.map kV)) from ok a _ e)
  exact ⟨o,its.toArray,n,h1,h2,h3,by simpa using items_are r⟩
theorem dt_rd {kvs : List (List Key × V)} (ok : HOk P w H h) (e : Rd H a (.dT kvs)) : kvs.length ≤ sizeLine ∧ (a == sysModules) = false ∧
    ∃ xs,KT H kvs xs ∧ h.DictOfH (tupleKind (mixKind P w)) a xs := by
  obtain ⟨z,y,xs,r,o,es,ep,h1,h2,h3,h4,h5⟩ := (show ObjOk P w H h a (.dT kvs) from rd_of ok e)
  refine ⟨z,y,xs,r,o,es,ep,h1,h2,h3,h4,fun x hx => ?_,h5⟩
  have all : ∀ {l : List (List Key × V)} {m : List (List Key × Addr × Value)},KT H l m → ∀ x ∈ m,(tupleKind (mixKind P w)).is h x.1 x.2.1 := by
    intro l m q
    induction q with
    | nil => intro x hx; exact nomatch hx
    | @cons p q ps qs hq t ih =>
      intro x hx
      rcases List.mem_cons.mp hx with e | hx
      · subst e
        exact key_of ok (by rw [← hq.1]; exact hq.2.1)
      · exact ih x hx
  exact all r x hx
theorem dt_of {kvs : List (List Key × V)} (ok : HOk P w H h) (e : H a = some (.dT kvs)) : kvs.length ≤ sizeLine ∧ (a == sysModules) = false ∧
    ∃ xs,KT H kvs xs ∧ h.DictOfH (tupleKind (mixKind P w)) a xs := dt_rd ok (.inl e)
end
def DGet (H : Hp) (a : Addr) (y : V) (r : Option V) : Prop :=
  (∃ kvs k,Rd H a (.dK kvs) ∧ y = kV k ∧ r = valV kvs k) ∨ ∃ kvs k b,Rd H a (.dT kvs) ∧ y = .ref b ∧ H b = some (.tup (k.map kV)) ∧ r = valV kvs k
def DPut (H : Hp) (a : Addr) (y v : V) (H' : Hp) : Prop :=
  (∃ kvs k,H a = some (.dK kvs) ∧ y = kV k ∧ kvs.length < sizeLine ∧ H' = upd H a (.dK (putK kvs k v))) ∨
  ∃ kvs k b,H a = some (.dT kvs) ∧ y = .ref b ∧ H b = some (.tup (k.map kV)) ∧ kvs.length < sizeLine ∧ H' = upd H a (.dT (putK kvs k v))
section
variable {X : Cx} {pins : List (Addr × Obj)} {σ : St} {H : Hp} {s : Shared} {a : Addr} {y v : V} {u r : Value} {o : Option V} {A : Around} {E : Value → Shared → Prop}
theorem Inv.big (I : Inv X pins σ H s) : sysModules < s.heap.objs.size := by
  have h : mainGlobals < s.heap.objs.size := (I.mod.glob.keeps I.bk).lt
  exact Nat.lt_trans (by decide) h
theorem d_getItem {Q : Value → Shared → Prop} (hu : A.units + 1 < cLine) (I : Inv X pins σ H s) (g : DGet H a y (some v)) (ry : RelV y u) (h : ∀ w' s',Inv X pins σ H s' → RelV v w' → Q w' s') :
    wpAny (model X.prog X.w) A (getItem (.ref a) u) Q E s := by
  rcases g with ⟨kvs,k,e,ey,l⟩ | ⟨kvs,k,b,e,ey,eb,l⟩
  · subst ey
    obtain ⟨z,hd,vs,rel,dd⟩ := dk_rd I.hok e
    obtain ⟨w',hw,rw'⟩ := RelO.some_of (v := v) (o := valueAt vs k) (by rw [l]; exact rel.val k)
    exact wpAny_getItem_of (kV_is ry) dd.mapOf hw (h w' _ (I.tok _) rw')
  · subst ey
    cases (show u = Value.ref b from ry)
    obtain ⟨z,hd,xs,rel,dd⟩ := dt_rd I.hok e
    obtain ⟨w',hw,rw'⟩ := RelO.some_of (v := v) (o := (atKey xs k).map (·.2)) (by rw [l]; exact rel.val k)
    obtain ⟨p,hp,hp2⟩ := Option.map_eq_some_iff.mp hw
    refine wpAny_getItem_heap (tupleKind_room_in1 hu) (key_of I.hok eb) dd hp ?_
    rw [hp2]
    exact h w' _ (I.tok _) rw'
theorem d_write {h' : Heap} {t' : Nat} {ob : HO} (I : Inv X pins σ H s) (mu : Mut (H a)) (hs : Heap.SameBut a s.heap h') (he : ∃ q,h'.get? a = some q) (new : ObjOk X.prog X.w (upd H a ob) h' a ob) :
    Inv X pins σ (upd H a ob) { s with heap := h',toks := t' } :=
  I.write (x := a) (e := a) mu (.inl rfl) (fun b q hb z => (hs.2 b hb).trans z) he new
theorem dk_new {P : Program} {w : World} {H' : Hp} {h' : Heap} {kvs : List (Key × V)} {vs : List (Key × Value)} (z : kvs.length ≤ sizeLine) (hd : (a == sysModules) = false) (rel : KV kvs vs) (dd : h'.DictOf (mixKind P w) a vs) :
    ObjOk P w H' h' a (.dK kvs) := ⟨z,hd,vs,rel,dd⟩
theorem d_setItem {H' : Hp} {Q : Unit → Shared → Prop} (hu : A.units + 1 < cLine) (I : Inv X pins σ H s) (g : DPut H a y v H') (ry : RelV y u) (rv : RelV v r) (h : ∀ s',Inv X pins σ H' s' → Q () s') :
    wpAny (model X.prog X.w) A (setItem (.ref a) u r) Q E s := by
  rcases g with ⟨kvs,k,e,ey,l,eH⟩ | ⟨kvs,k,b,e,ey,eb,l,eH⟩
  · subst ey eH
    obtain ⟨z,hd,vs,rel,dd⟩ := dk_of I.hok e
    have hz : vs.length ≤ sizeLine := by rw [← rel.length]; exact z
    have hl : (putK kvs k v).length ≤ sizeLine := by have := length_putK kvs k v; omega
    refine wpAny_setItem_pairs (hsz := hz) (kV_is ry) dd fun h' dd' hs => h _ ?_
    have he : ∃ q,h'.get? a = some q := let ⟨q,_,_,hq,_⟩ := dd'; ⟨q,hq⟩
    exact d_write I (by rw [e]; exact True.intro) hs he (dk_new hl hd (rel.put k rv) dd')
  · subst ey eH
    cases (show u = Value.ref b from ry)
    obtain ⟨z,hd,xs,rel,dd⟩ := dt_of I.hok e
    have hz : xs.length ≤ sizeLine := by rw [← Paired.length rel]; exact z
    have hl : (putK kvs k v).length ≤ sizeLine := by have := length_putK kvs k v; omega
    refine wpAny_setItem_heap (hsz := hz) (tupleKind_room_in1 hu) (key_of I.hok eb) dd fun h' dd' hs => h _ ?_
    obtain ⟨q,es,ep,hq,h2,h3,h4,_,h5⟩ := dd'
    refine d_write I (by rw [e]; exact True.intro) hs ⟨q,hq⟩ ⟨hl,hd,_,(rel.put k eb rv).keeps fun c ys ec => ?_,q,es,ep,hq,h2,h3,h4,h5⟩
    rw [upd_ne (ne_of ec e (fun z => nomatch z))]
    exact ec
end
section
variable {X : Cx} {pins : List (Addr × Obj)} {σ : St} {H : Hp} {s : Shared} {a : Addr} {kvs : List (Key × V)} {k : Key} {u : Value} {A : Around} {E : Value → Shared → Prop}
end
def NoSl (i : Expr) : Prop := ∀ ov iv,subscripted i false ov iv = operate [ov,iv] (getItem ov iv)
theorem subD_of {prog : Program} {w : World} {A : Around} {E : Value → Shared → Prop} {s : Shared} {env : Env} {value slice : Expr} {pos : Pos} {T id : String} {Q : Value → Shared → Prop}
    (hl : typeLookup (.type T) "__getitem__" = pure (some (.builtin id))) (hs : NoSl slice)
    (h : wpAny (model prog w) A (eval value env) (fun o s₁ => wpAny (model prog w) A (eval slice env) (fun i s₂ => s₂.TypeIs o T ∧ wpAny (model prog w) A (getItem o i) Q E s₂) E s₁) E s) :
    wpAny (model prog w) A (eval (.Subscript value slice pos) env) Q E s := by
  refine Subscript_ (wpAny_mono h (fun o s₁ h₁ => wpAny_mono h₁ (fun i s₂ h₂ => ?_) fun _ _ x => x) fun _ _ x => x)
  obtain ⟨hT,h₂⟩ := h₂
  unfold subscriptTail
  refine wpAny_bind ?_
  rw [getitemInPython_of_ne hT.not_modules]
  refine wpAny_bind (wpAny_specialOf hT hl ?_)
  have fin : wpAny (model prog w) A (subscripted slice false o i) (fun r s₃ => wpAny (model prog w) A (letTemporaryGo value o r >>= fun _ => pure r) Q E s₃) E s₂ := by
    rw [hs o i]
    exact wpAny_operating (wpAny_mono h₂ (fun r s₃ h₃ => wpAny_bind (wpAny_letTemporaryGo (wpAny_pure h₃))) fun _ _ x => x)
  first
    | exact wpAny_pure (wpAny_bind fin)
    | exact wpAny_bind (wpAny_pure (wpAny_bind fin))
    | exact wpAny_bind fin
theorem dict_typeIs {X : Cx} {pins : List (Addr × Obj)} {σ : St} {H : Hp} {s : Shared} {a : Addr} {y : V} {o : Option V} (I : Inv X pins σ H s) (g : DGet H a y o) : s.TypeIs (.ref a) "dict" := by
  rcases g with ⟨kvs,k,e,_,_⟩ | ⟨kvs,k,b,e,_,_,_⟩
  · obtain ⟨_,_,vs,_,dd⟩ := dk_rd I.hok e
    exact dd.typeIs
  · obtain ⟨_,_,xs,_,dd⟩ := dt_rd I.hok e
    exact dd.typeIs
def tDGet (td ty : TE) : TE := fun σ H Q => td σ H fun x H1 => ty σ H1 fun y H2 => ∃ a v,x = .ref a ∧ DGet H2 a y (some v) ∧ Q v H2
def sDPut (td ty tv : TE) : TS := fun D σ H => tv σ H fun v H1 => td σ H1 fun x H2 => ty σ H2 fun y H3 => ∃ a H4,x = .ref a ∧ DPut H3 a y v H4 ∧ D.nx σ H4
section
variable {X : Cx} {o i e value : Expr} {pos pos' tpos : Pos} {td ty tv : TE}
theorem pe_dget (hu : X.A.units + 1 < cLine) (ho : PE X o td) (hi : PE X i ty) (hs : NoSl i) : PE X (.Subscript o i pos) (tDGet td ty) := by
  intro pins s σ H Q I h
  refine subD_of PySem.F.slot_dict_getitem.lookup hs (thn (ho pins s σ H _ I h) fun u s1 ⟨x,H1,I1,rx,q1⟩ => thn (hi pins s1 σ H1 _ I1 q1) fun iv s2 ⟨y,H2,I2,ry,a,v,ex,g,q2⟩ => ?_)
  subst ex
  obtain rfl : u = Value.ref a := rx
  exact ⟨dict_typeIs I2 g,d_getItem hu I2 g ry fun w' s3 I3 rw' => ⟨v,H2,I3,rw',q2⟩⟩
theorem ps_dput (hu : X.A.units + 1 < cLine) (ho : PE X o td) (hi : PE X i ty) (hv : PE X value tv) (hs : swapsWith value (some (.Subscript o i pos')) pos.line X.env = pure false) :
    PS X (.Assign [.Subscript o i pos'] value pos) (sDPut td ty tv) := by
  intro pins s σ H D I h
  refine wpAny_Assign_Subscript (thn (hv pins s σ H _ I h) fun r s1 ⟨v,H1,I1,rv,q1⟩ => thn (ho pins s1 σ H1 _ I1 q1) fun u s2 ⟨x,H2,I2,rx,q2⟩ => thn (hi pins s2 σ H2 _ I2 q2) fun iv s3 ⟨y,H3,I3,ry,a,H4,ex,g,q3⟩ => ?_) hs
  subst ex
  obtain rfl : u = Value.ref a := rx
  exact d_setItem hu I3 g ry rv fun s4 I4 => ⟨σ,H4,I4,q3⟩
end
theorem dt_empty {P : Program} {w : World} {H : Hp} (h : Heap) (hb : sysModules < h.objs.size) : ObjOk P w H (h.push { cls := .type "dict",data := .dict #[] }) h.objs.size (.dT []) :=
  ⟨Nat.zero_le _,beq_eq_false_iff_ne.mpr (Ne.symm (Nat.ne_of_lt hb)),[],.nil,_,#[],0,Heap.get?_push_size _ rfl,⟨rfl,rfl,rfl⟩,rfl,rfl,List.nodup_nil⟩
def tDNewT : TE := fun _ H Q => ∀ p,H p = none → Q (.ref p) (upd H p (.dT []))
section
variable {X : Cx} {pos : Pos}
theorem pe_dnewT : PE X (.Dict [] [] pos) tDNewT := fun pins s σ H Q I h =>
  wpAny_Dict_empty ⟨.ref s.heap.objs.size,_,I.laid (a := s.heap.objs.size) (o := .dT []) (t' := s.toks) (fun _ _ q => Heap.get?_push_of_some _ q) (Nat.le_refl _) (dt_empty s.heap I.big),rfl,h _ (I.hok.fresh (Nat.le_refl _))⟩
end
structure M1 (X : Cx) (o : Expr) (m : Str) (apos : Pos) (e : Expr) (cpos : Pos) : Prop where
  base : attributeBase o m X.env (eval o X.env) = eval o X.env
  few : ((backTo cpos (starEach [e] X.env)).all (fun x => !x.1) && (backToKw cpos (keywordEach [] X.env)).all (fun x => x.1.isSome)
    && decide (([e] : List Expr).length + ([] : List Keyword).length + (if ([] : List Keyword).isEmpty then 0 else 1) < 30)) = true
  line : (apos.endLine == cpos.line) = true
  trees : backTo cpos (starEach [e] X.env) = [(false,eval e X.env)]
structure M2 (X : Cx) (o : Expr) (m : Str) (apos : Pos) (e f : Expr) (cpos : Pos) : Prop where
  base : attributeBase o m X.env (eval o X.env) = eval o X.env
  few : ((backTo cpos (starEach [e,f] X.env)).all (fun x => !x.1) && (backToKw cpos (keywordEach [] X.env)).all (fun x => x.1.isSome)
    && decide (([e,f] : List Expr).length + ([] : List Keyword).length + (if ([] : List Keyword).isEmpty then 0 else 1) < 30)) = true
  line : (apos.endLine == cpos.line) = true
  trees : backTo cpos (starEach [e,f] X.env) = [(false,eval e X.env),(false,eval f X.env)]
section
variable {X : Cx} {pins : List (Addr × Obj)} {σ : St} {H : Hp} {s : Shared} {a : Addr} {y d : V} {u r : Value} {o : Option V} {A : Around} {E : Value → Shared → Prop}
end
section
variable {X : Cx} {o e f : Expr} {apos cpos : Pos} {td ty tx : TE}
end
section
variable {X : Cx} {pins : List (Addr × Obj)} {σ : St} {H : Hp} {s : Shared} {a : Addr} {kvs : List (Key × V)} {A : Around} {E : Value → Shared → Prop}
end
section
variable {X : Cx} {pins : List (Addr × Obj)} {σ : St} {H : Hp} {s : Shared} {a : Addr} {y : V} {u : Value} {A : Around} {E : Value → Shared → Prop}
end
end L2
namespace Att
open PySem PySem.W PySem.Calls PyProof.Rows
section
variable {prog : Program} {w : World} {A : Around} {E : Value → Shared → Prop} {s : Shared} {K : Frag}
end
end Att
namespace L2
open PySem PySem.Spec PyProof.Rows
end L2
namespace L2
open PySem PySem.Spec PyProof.Rows
end L2
/- THE LAST THEOREM (shape; LID,My.* are yours):
   My.Adr: a structure of the addresses that your layer names (classes,functions); My.Txt K t: a structure (Prop) of the equations over K;
   My.txt_mk : {K} {implicit addresses ..} (e1 : nsIn K mainGlobals "law" = some (some (.ref f))) (e2 : K.lookup f = some ⟨oc,od,.func (fnOf "law" "law" params body scope dV kV doc pm an cdv ct),sl⟩) (e3 : codeIn K cdv "law" = true) .. : ∃ t,My.Txt K t
(the tactic k_is has no namespace: write k_is) -/
namespace L2
open PySem PySem.Spec PyProof.Rows
section
variable {P : Program} {w : World} {K : PySem.W.Frag} {mg : Str → Option Value} {base : Heap}
end
section
variable {X : Cx}
end
section
variable {κ : Type} [DecidableEq κ]
theorem valV_in {kvs : List (κ × V)} {k : κ} {v : V} (h : valV kvs k = some v) : k ∈ kvs.map (·.1) := by
  have q : (kvs.any fun kv => decide (kv.1 = k)) = true := by
    rw [valV_any,h]
    all_goals rfl
  obtain ⟨p,hp,e⟩ := List.any_eq_true.mp q
  exact List.mem_map.mpr ⟨p,hp,of_decide_eq_true e⟩
end
end L2
set_option Elab.async false
set_option linter.all false
set_option maxRecDepth 100000
namespace L2
open PySem PySem.Spec PyProof.Rows
theorem pg_two {X : Cx} (K : PySem.W.Frag) {x y : Str} {px py pos : Pos} {k : Nat} (hK : X.K = K) (hc : X.calm = true) (hN : X.N.Nodup) (h0 : X.N[0]? = some x) (h1 : X.N[1]? = some y) (l0 : X.env.scope.names.lookup x = some .local) (l1 : X.env.scope.names.lookup y = some .local) :
    PG X (.Tuple [.Name x px,.Name y py] k pos) (gTup K 2 (gCons (gName 0) (gCons (gName 1) gNil))) :=
  hK ▸ pg_tup hc (pgs_cons (pg_name hN h0 (.inl l0) (.inr l0)) (pgs_cons (pg_name hN h1 (.inl l1) (.inr l1)) pgs_nil))
theorem pg_three {X : Cx} (K : PySem.W.Frag) {x y z : Str} {px py pz pos : Pos} {k : Nat} (hK : X.K = K) (hc : X.calm = true) (hN : X.N.Nodup) (h0 : X.N[0]? = some x) (h1 : X.N[1]? = some y) (h2 : X.N[2]? = some z) (l0 : X.env.scope.names.lookup x = some .local) (l1 : X.env.scope.names.lookup y = some .local) (l2 : X.env.scope.names.lookup z = some .local) :
    PG X (.Tuple [.Name x px,.Name y py,.Name z pz] k pos) (gTup K 3 (gCons (gName 0) (gCons (gName 1) (gCons (gName 2) gNil)))) :=
  hK ▸ pg_tup hc (pgs_cons (pg_name hN h0 (.inl l0) (.inr l0)) (pgs_cons (pg_name hN h1 (.inl l1) (.inr l1)) (pgs_cons (pg_name hN h2 (.inl l2) (.inr l2)) pgs_nil)))
end L2
namespace L2
open PySem PySem.Spec PyProof.Rows
theorem argBest_gt (val : Nat → Int) : ∀ k,argBest (fun i j => decide (val j < val i)) k ≤ k ∧ ∀ j,j ≤ k → val j ≤ val (argBest (fun i j => decide (val j < val i)) k)
  | 0 => ⟨Nat.le_refl _,fun j hj => by rw [Nat.le_zero.mp hj]; exact Int.le_refl _⟩
  | k + 1 => by
    obtain ⟨h1,h2⟩ := argBest_gt val k
    unfold argBest
    by_cases c : val (argBest (fun i j => decide (val j < val i)) k) < val (k + 1)
    · rw [if_pos (decide_eq_true c)]
      refine ⟨Nat.le_refl _,fun j hj => ?_⟩
      rcases Nat.lt_or_ge k j with z | z
      · rw [show j = k + 1 by omega]; exact Int.le_refl _
      · have := h2 j z; omega
    · rw [if_neg (fun z => c (of_decide_eq_true z))]
      refine ⟨by omega,fun j hj => ?_⟩
      rcases Nat.lt_or_ge k j with z | z
      · rw [show j = k + 1 by omega]; omega
      · exact h2 j z
section
variable {X : Cx}
theorem call_maxI (hc : X.calm = true) : CallR X (.builtin "max") (fun xs H Q => ∃ (p : Addr) (ns : List Int),xs = [.ref p] ∧ SqL X.K H p (ns.map V.int) ∧ ns ≠ [] ∧ ∀ m,m ∈ ns → (∀ x ∈ ns,x ≤ m) → Q (.int m) H) := by
  intro pins s σ H xs us Q I r h
  obtain ⟨p,ns,rfl,hs,hne,q⟩ := h
  obtain ⟨u,rfl,rfl⟩ := vals1 r
  obtain ⟨its,rv,pl,_⟩ := I.list hs
  have hi := ints_of rv
  obtain ⟨xs,e⟩ := hi.allInts.items
  have pl' := pl.isList
  rw [e] at pl'
  have en : (xs.toList.map (·.1)) = ns := by
    have h1 := hi.numsOf
    have h2 := nums_intItems (xs := xs)
    rw [← e,show its.toArray.toList = its from rfl] at h2
    rw [← h1,h2]
  have sz : xs.size = ns.length := by rw [← en,List.length_map]; rfl
  have hn : 0 < xs.size := by rw [sz]; exact List.length_pos_iff.mpr hne
  have nat : ∀ i,i < xs.size → numAt xs i ∈ ns := fun i h => by
    unfold numAt
    rw [← en,Array.getElem?_eq_getElem h]
    exact List.mem_map.mpr ⟨xs[i],by simp,rfl⟩
  have all : ∀ x ∈ ns,∃ i,i < xs.size ∧ numAt xs i = x := fun x hx => by
    rw [← en] at hx
    obtain ⟨y,hy,rfl⟩ := List.mem_map.mp hx
    obtain ⟨i,hi',e'⟩ := List.getElem_of_mem hy
    refine ⟨i,by simpa using hi',?_⟩
    unfold numAt
    rw [Array.getElem?_eq_getElem (by simpa using hi')]
    simpa using congrArg Prod.fst e'
  obtain ⟨g1,g2⟩ := argBest_gt (numAt xs) (xs.size - 1)
  refine max_intList (I.ok.hd hc) pl' hn fun v h' tk hv hk => ?_
  obtain ⟨t,rfl⟩ := intItems_at hv
  refine ⟨.int _,H,I.kept hk,⟨t,rfl⟩,q _ (nat _ (by have : argBest (fun i j => decide (numAt xs i > numAt xs j)) (xs.size - 1) ≤ xs.size - 1 := g1; omega)) fun x hx => ?_⟩
  obtain ⟨i,h1,h2⟩ := all x hx
  rw [← h2]
  exact g2 i (by omega)
end
end L2
set_option Elab.async false
set_option linter.all false
set_option maxRecDepth 100000
namespace PySem
open Spec
section
variable {prog : Program} {w : World} {A : Around} {E : Value → Shared → Prop} {s : Shared} {l : Addr} {xs : Array (Int × Tok)}
end
end PySem
namespace L2
open PySem PySem.Spec PyProof.Rows
section
variable {X : Cx}
theorem comp_rng {lo : Int} {n : Nat} {σ : St} {cap : List Nat} {k : Nat} {g : TG} {tt : TT} {te : TE} {Q : List V → Hp → Prop} {H : Hp} (Pv : Nat → List V → Hp → Prop) (h0 : Pv 0 [] H)
    (ht : ∀ i ys H',i < n → Pv i ys H' → ys.length < sizeLine ∧ g (.int (lo + i)) (blkSt σ cap k) H' fun σ2 H2 => leS (blkSt σ cap k) σ2 ∧ tt σ2 H2 fun ok H3 => if ok = true then te σ2 H3 (fun v H4 => Nx n Pv i (ys ++ [v]) H4) else Nx n Pv i ys H3)
    (hd : ∀ ys H',Pv n ys H' → ys.length ≤ sizeLine ∧ Q ys H') : ∃ W,(∃ m,W 0 m [] H) ∧ CompW σ cap k (Itr lo n) g tt te Q W := by
  refine ⟨fun i m ys H' => m = n - i ∧ i ≤ n ∧ Pv i ys H',⟨_,rfl,Nat.zero_le _,h0⟩,?_⟩
  rintro i m ys H' ⟨rfl,hi,p⟩
  by_cases hin : i < n
  · obtain ⟨e,hg⟩ := ht i ys H' hin p
    refine .inr ⟨hin,e,fun x H2 yl => ?_⟩
    obtain ⟨e1,e2⟩ := yl
    subst e1 e2
    exact hg
  · have e : i = n := by omega
    subst e
    obtain ⟨a1,a2⟩ := hd ys H' p
    exact .inl ⟨Nat.le_refl _,a1,a2⟩
end
end L2
namespace PySem
theorem Paired.getL {α β : Type} {F : α → β → Prop} : ∀ {l₁ : List α} {l₂ : List β} {i : Nat} {y : β},Paired F l₁ l₂ → l₂[i]? = some y → ∃ x,l₁[i]? = some x ∧ F x y
  | _,_,_,_,.nil,e => by simp at e
  | _,_,0,_,.cons h _,e => by simp at e; subst e; exact ⟨_,rfl,h⟩
  | _,_,i + 1,y,.cons _ t,e => by
    obtain ⟨x,h1,h2⟩ := Paired.getL (i := i) t (by simpa using e)
    exact ⟨x,by simpa using h1,h2⟩
end PySem
set_option Elab.async false
set_option linter.all false
set_option maxRecDepth 100000
namespace PySem
section
variable {prog : Program} {w : World} {K : Type} [DecidableEq K] {knd : HeapKind prog w K} {A : Around} {E : Value → Shared → Prop} {s : Shared} {d : Addr}
theorem meetsH_len (hd : (d == sysModules) = false) :
    MeetsIn prog w (Builtin.«dict.__len__» ⟨[.ref d],[]⟩) (fun _ R s => ∃ xs,s.heap.DictOfH knd d xs ∧ R (.ok (.ret (.int xs.length s.toks))) { s with toks := s.toks + 1 }) :=
  .of_wp fun A R s ⟨xs,hm,hR⟩ => by
    obtain ⟨o,es,ep,ho,hc,hda,hes,_⟩ := hm
    show wpAny _ _ (dictSize d >>= _) _ _ s
    unfold dictSize
    refine wpAny_bind (wpAny_bind (wpAny_dictEntries ho hda (wpAny_pure ?_)))
    show wpAny _ _ (Builtin.Dict.pendingCount d >>= _) _ _ s
    refine wpAny_bind (wpAny_pendingCount_other hd (wpAny_ret_mkInt ?_))
    rw [Nat.add_zero,size_of_entries hes]
    exact hR
theorem lenH {xs : List (K × Addr × Value)} {Q : Value → Shared → Prop} (hd : (d == sysModules) = false) (hm : s.heap.DictOfH knd d xs) (hfit : (xs.length : Int) < 2 ^ 63)
    (h : Q (.int xs.length (s.toks + 1)) { s with toks := s.toks + 1 + 1 }) : wpAny (model prog w) A (call (.builtin "len") [.ref d]) Q E s := by
  have ht : s.TypeIs (.ref d) "dict" := let ⟨o,_,_,ho,hc,_⟩ := hm; ⟨o,ho,hc.1⟩
  refine Calls.call_function_entry kind_len plain_len entry_len (args_len1 _) ?_
  unfold Builtin.«len»
  refine wpAny_bind (m := oneArg "len" _) (wpAny_pure ?_)
  refine wpAny_bind (m := callSpecial? (.ref d) (Str.ofString "__len__")) (wpAny_callSpecial?_slot (name := Str.ofString "__len__") ht F.slot_dict_len (call_meetsIn F.slot_dict_len ht F.entry_dict_len (F.args_dict_len_1 _) (meetsH_len (knd := knd) hd) ⟨xs,hm,?_⟩))
  show wpAny _ _ _ _ _ { s with toks := s.toks + 1 }
  refine wpAny_bind (wpAny_holding (wpAny_pure (wpAny_bind (wpAny_letGo ?_))))
  show wpAny _ _ (if ((xs.length : Nat) : Int) < 0 then _ else _) _ _ _
  rw [if_neg (by omega)]
  show wpAny _ _ (if ((xs.length : Nat) : Int) ≥ 2 ^ 63 then _ else _) _ _ _
  rw [if_neg (by omega)]
  exact wpAny_bind (wpAny_mkInt (wpAny_pure ⟨_,rfl,h⟩))
end
section
variable {prog : Program} {w : World} {A : Around} {E : Value → Shared → Prop} {s : Shared} {l : Addr} {xs : Array (Int × Tok)}
end
end PySem
namespace L2
open PySem PySem.Spec PyProof.Rows
section
variable {X : Cx}
theorem call_lenDT : CallR X (.builtin "len") (fun xs H Q => ∃ a kvs,xs = [V.ref a] ∧ H a = some (.dT kvs) ∧ Q (.int kvs.length) H) := by
  intro pins s σ H xs us Q I r h
  obtain ⟨a,kvs,rfl,ha,q⟩ := h
  obtain ⟨u,rfl,ru⟩ := vals1 r
  cases ru
  obtain ⟨z,hd,ys,rel,dd⟩ := dt_rd I.hok (.inl ha)
  have hl : kvs.length = ys.length := Paired.length rel
  refine lenH hd dd (by rw [← hl]; rw [sizeLine_eq] at z; omega) ?_
  rw [← hl]
  exact ⟨.int kvs.length,H,I.tok _,⟨_,rfl⟩,q⟩
end
end L2
set_option Elab.async false
set_option linter.all false
set_option maxRecDepth 100000
namespace L2
open PySem PySem.Spec PyProof.Rows
section
variable {X : Cx}
def rCatS (K : PySem.W.Frag) : R2 := fun x y H Q => ∃ l b xs zs,x = .ref l ∧ y = .ref b ∧ SqL K H l xs ∧ SqL K H b zs ∧ xs.length + zs.length ≤ sizeLine ∧ ∀ p,H p = none → Q (.ref p) (upd H p (.lst (xs ++ zs)))
theorem op_catS : OpR X (binaryOp .Add) (rCatS X.K) := by
  intro pins s σ H x y v u Q I rx ry h
  obtain ⟨l,b,xs,zs,rfl,rfl,hl,hb,hz,q⟩ := h
  cases rx
  cases ry
  obtain ⟨its,r,pl,z⟩ := I.list hl
  obtain ⟨its2,r2,pl2,z2⟩ := I.list hb
  have hl1 := r.length
  have hl2 := r2.length
  obtain ⟨⟨cls,dd,data,sl⟩,n,ho,hc,_,hd⟩ := pl
  obtain ⟨⟨cls2,dd2,data2,sl2⟩,n2,ho2,hc2,_,hd2⟩ := pl2
  simp only at hc hd hc2 hd2
  subst hc hd hc2 hd2
  have e : its.toArray ++ its2.toArray = (its ++ its2).toArray := by simp
  refine concat_meets ⟨_,ho,rfl⟩ ⟨_,ho2,rfl⟩ noFill_list_add seq_list_add PySem.F.slot_list_add PySem.F.entry_list_add (PySem.F.args_list_add_2 _ _) (list_addW l b its.toArray its2.toArray n n2 dd dd2 sl sl2 (by rw [List.size_toArray,List.size_toArray]; omega)) ⟨ho,ho2,?_⟩
  rw [e]
  exact ⟨.ref _,_,I.lnew (t' := s.toks) (r.append r2) (by rw [List.length_append]; omega),rfl,q _ I.fresh⟩
end
end L2
set_option Elab.async false
set_option linter.all false
set_option maxRecDepth 100000
namespace L2
open PySem PySem.Spec PyProof.Rows
theorem compTurn_two (elt tg iter : Expr) (ifs : List Expr) (tg2 iter2 : Expr) (ifs2 : List Expr) (scope : Scope) (pos : Pos) (it acc : Value) (env : Env) :
    compTurn (.ListComp elt [⟨tg,iter,ifs,0⟩,⟨tg2,iter2,ifs2,0⟩] scope pos) 0 it acc env = (do
      standAt iter.pos
      match ← pyNext it with
      | none => pure (.done .next)
      | some v =>
        letOwnedTupleGo tg it v
        assign tg env v
        let mut ok := true
        for c in ifs do
          if ok then ok ← isTrue c env (eval c env)
        if ok then
          let x ← eval iter2 env
          standAt iter2.pos
          let x ← foldedSetIterable iter2 env x
          let i2 ← holding [x] (pyIter x)
          let _ ← runOwn (.compStart (.ListComp elt [⟨tg,iter,ifs,0⟩,⟨tg2,iter2,ifs2,0⟩] scope pos) 1 i2 acc env) env
        again (.compLoop (.ListComp elt [⟨tg,iter,ifs,0⟩,⟨tg2,iter2,ifs2,0⟩] scope pos) 0 it acc env)) := by rfl
theorem compTurn_in (elt tg iter : Expr) (ifs : List Expr) (tg2 iter2 : Expr) (ifs2 : List Expr) (scope : Scope) (pos : Pos) (it acc : Value) (env : Env) :
    compTurn (.ListComp elt [⟨tg,iter,ifs,0⟩,⟨tg2,iter2,ifs2,0⟩] scope pos) 1 it acc env = (do
      standAt iter2.pos
      match ← pyNext it with
      | none => pure (.done .next)
      | some v =>
        letOwnedTupleGo tg2 it v
        assign tg2 env v
        let mut ok := true
        for c in ifs2 do
          if ok then ok ← isTrue c env (eval c env)
        if ok then
          (do let _ ← call (.builtin "list.append") [acc,← eval elt env])
        again (.compLoop (.ListComp elt [⟨tg,iter,ifs,0⟩,⟨tg2,iter2,ifs2,0⟩] scope pos) 1 it acc env)) := by rfl
theorem codeAny_compStart_two {prog : Program} {w : World} {A : Around} {R : Result → Shared → Prop} {s : Shared} {elt tg iter tg2 iter2 : Expr} {ifs ifs2 : List Expr} {scope : Scope} {pos : Pos} {it acc : Value} {env : Env}
    (h0 : codeAny (model prog w) A (.compLoop (.ListComp elt [⟨tg,iter,ifs,0⟩,⟨tg2,iter2,ifs2,0⟩] scope pos) 1 it acc env) R s)
    (h : wpAny (model prog w) A (pyIter it) (fun it' s' => codeAny (model prog w) A (.compLoop (.ListComp elt [⟨tg,iter,ifs,0⟩,⟨tg2,iter2,ifs2,0⟩] scope pos) 1 it' acc env) R s')
      (notedBy (model prog w) A env fun x s' => R (.error x) s') s) :
    codeAny (model prog w) A (.compStart (.ListComp elt [⟨tg,iter,ifs,0⟩,⟨tg2,iter2,ifs2,0⟩] scope pos) 1 it acc env) R s := by
  refine codeAny_of_tree ?_
  show wpAny _ _ ((compStart (.ListComp elt [⟨tg,iter,ifs,0⟩,⟨tg2,iter2,ifs2,0⟩] scope pos) 1 it acc env).onRaise (fun x => do noteFrame x env; standAt theWindowsPlace)) _ _ s
  refine wpAny_notedAt ?_
  unfold compStart
  show wpAny _ _ (ask >>= _) _ _ s
  refine wpAny_bind (wpAny_askSetting (wpAny_ite ?_))
  split
  · first
      | exact wpAny_bind (wpAny_pure (wpAny_pure (And.intro rfl h0)))
      | exact wpAny_pure (And.intro rfl h0)
  · first
      | exact wpAny_bind (wpAny_rule (wpAny_bind (wpAny_standAt (wpAny_bind (wpAny_mono h (fun it' s' h' => wpAny_pure (And.intro rfl h')) fun _ _ x => x)))))
      | (refine wpAny_bind (wpAny_rule ?_); show wpAny _ _ (standAt iter2.pos >>= _) _ _ s; exact wpAny_bind (wpAny_standAt (wpAny_bind (wpAny_mono h (fun it' s' h' => wpAny_pure (And.intro rfl h')) fun _ _ x => x))))
def CompIn (σ2 : St) (J : It) (g : TG) (tt : TT) (te : TE) (N : List V → Hp → Prop) (W : Nat → Nat → List V → Hp → Prop) : Prop :=
  ∀ i m ys H,W i m ys H → (J.stop i H ∧ N ys H) ∨
    (J.go i H ∧ ys.length < sizeLine ∧ ∀ x H',J.yld i H x H' → g x σ2 H' fun σ3 H2 => leS σ2 σ3 ∧ tt σ3 H2 fun ok H3 =>
      if ok = true then te σ3 H3 (fun v H4 => ∃ m',m' < m ∧ W (i + 1) m' (ys ++ [v]) H4) else ∃ m',m' < m ∧ W (i + 1) m' ys H3)
def CompW2 (σ : St) (cap : List Nat) (k : Nat) (J : It) (g : TG) (tt : TT) (wi2 : TI) (g2 : TG) (tt2 : TT) (te : TE) (Q : List V → Hp → Prop) (W : Nat → Nat → List V → Hp → Prop) : Prop :=
  ∀ i m ys H,W i m ys H → (J.stop i H ∧ ys.length ≤ sizeLine ∧ Q ys H) ∨
    (J.go i H ∧ ∀ x H',J.yld i H x H' → g x (blkSt σ cap k) H' fun σ2 H2 => leS (blkSt σ cap k) σ2 ∧ tt σ2 H2 fun ok H3 =>
      if ok = true then wi2 σ2 H3 (fun J2 H4 => ∃ W2 : Nat → Nat → List V → Hp → Prop,(∃ m2,W2 0 m2 ys H4) ∧ CompIn σ2 J2 g2 tt2 te (fun zs H5 => ∃ m',m' < m ∧ W (i + 1) m' zs H5) W2) else ∃ m',m' < m ∧ W (i + 1) m' ys H3)
section
variable {X : Cx} {pins : List (Addr × Obj)} {σ : St} {H2 : Hp} {s2 : Shared} {scope : Scope} {own cs : List Str} {cap : List Nat} {fp : List Addr} {it : Addr} {tn : Nat → Heap → Prop}
  {elt tg iter tg2 iter2 : Expr} {ifs ifs2 : List Expr} {pos : Pos} {J : It} {g g2 : TG} {tt tt2 : TT} {te : TE} {wi2 : TI} {E : Value → Shared → Prop} {W : Nat → Nat → List V → Hp → Prop} {Qf : List V → Hp → Prop}
theorem comp_run2 {RR : Value → Addr → Result → Shared → Prop} (I : Inv X pins σ H2 s2) (ok : CompOk X scope own cs cap) (hc : X.calm = true) (T : Turn X.prog X.w X.K tg J fp it tn) (st : tn 0 s2.heap) (hf : ∀ b ∈ fp,FpOk X pins H2 b)
    (hg : ∀ C,PG (blkCx X pins s2 H2 scope C (own ++ cs) fp) tg g) (hi : ∀ C,PIfs (blkCx X pins s2 H2 scope C (own ++ cs) fp) ifs tt) (hit2 : ∀ C,PI (blkCx X pins s2 H2 scope C (own ++ cs) fp) tg2 iter2 wi2) (hs2 : ∀ C x,foldedSetIterable iter2 (compEnvC scope (clAdd X.env scope.names []) C X.env) x = pure x) (hg2 : ∀ C,PG (blkCx X pins s2 H2 scope C (own ++ cs) fp) tg2 g2) (hi2 : ∀ C,PIfs (blkCx X pins s2 H2 scope C (own ++ cs) fp) ifs2 tt2) (he : ∀ C,PE (blkCx X pins s2 H2 scope C (own ++ cs) fp) elt te)
    (w0 : ∃ m,W 0 m [] H2) (turn : CompW2 σ cap own.length J g tt wi2 g2 tt2 te Qf W)
    (hRR : ∀ D C s',BlkEnd X pins σ Qf D C s' → RR (.ref D) C (.ok .next) s') :
    wpAny (model X.prog X.w) X.A (newList []) (fun acc s₃ => wpAny (model X.prog X.w) X.A (newFunctionEnv scope X.env.globals (clAdd X.env scope.names []) [] X.env.qual none .none (some X.env)) (fun cenv s₄ =>
      codeAny (model X.prog X.w) X.A (.compStart (.ListComp elt [⟨tg,iter,ifs,0⟩,⟨tg2,iter2,ifs2,0⟩] scope pos) 0 (.ref it) acc { cenv with scope := relabel scope X.env }) (RR acc cenv.locals) s₄) E s₃) E s2 := by
  refine wpAny_newObj_type (wpAny_newFunctionEnv ok.cell (by intro y hy; simp at hy) (fun h₁ hns₁ hsb₁ => ?_) ok.kind)
  dsimp only at hns₁ hsb₁ ⊢
  generalize hHH : s2.heap.push { cls := .type "list",dict := none,data := .seq ([] : List Value).toArray } = HH at hns₁ hsb₁ ⊢
  have hCs : HH.objs.size = s2.heap.objs.size + 1 := by rw [← hHH,Heap.size_push]
  have hDC : s2.heap.objs.size ≠ HH.objs.size := by rw [hCs]; exact Nat.ne_of_lt (Nat.lt_succ_self _)
  have hCle : s2.heap.objs.size ≤ HH.objs.size := by rw [hCs]; exact Nat.le_succ _
  have hfl : ∀ b ∈ fp,b < s2.heap.objs.size := fun b hb => by
    obtain ⟨o,e,_⟩ := T.obj 0 _ st b hb
    exact Heap.lt_size e
  have old : ∀ b o,s2.heap.get? b = some o → h₁.get? b = some o := fun b o e => hsb₁.extBut b o (by rw [hCs]; exact Nat.ne_of_lt (Nat.lt_succ_of_lt (Heap.lt_size e))) (Heap.get?_push_of_some _ (hHH ▸ Heap.get?_push_of_some _ e))
  have hacc : h₁.PlainList s2.heap.objs.size #[] := ⟨_,hsb₁.extBut _ _ hDC (Heap.get?_push_of_some _ (hHH ▸ Heap.get?_push_size _ rfl))⟩
  generalize hD : s2.heap.objs.size = D at *
  generalize hCC : HH.objs.size = C at *
  have hns₁' : h₁.Ns C (fun _ => none) := hns₁
  have I0 : Inv (blkCx X pins s2 H2 scope C (own ++ cs) fp) [] (blkSt σ cap own.length) H2 { s2 with heap := h₁,toks := s2.toks + ([] : List (Str × Value)).length } :=
    blk_start I ok hf (fun b hb => by rw [hD]; exact hfl b hb) (by rw [hD]; exact hCle) hns₁' old
  have Dfs : D ∉ frs X.stack := fun hb => by
    obtain ⟨_,o,ho,_⟩ := I.stack.mem hb
    exact absurd (Heap.lt_size ho) (by rw [hD]; exact Nat.lt_irrefl _)
  have Dfp : ∀ b ∈ fp,D ≠ b := fun b hb z => absurd (hfl b hb) (by rw [← z]; exact Nat.lt_irrefl _)
  have clt : ∀ x c,(clAdd X.env scope.names []).lookup x = some c → c < D := fun x c e => by
    have e' := clAdd_lookup X.env scope.names [] x c (fun y hy e => I.ok.has y.1 (ok.free y hy e)) (fun _ _ z => by simp at z) e
    obtain ⟨v,o,ho,_⟩ := I.cell x c e'
    have := Heap.lt_size ho
    rw [hD] at this; exact this
  have plt : ∀ p ∈ X.pn ++ pins,p.1 < D := fun p hp => by
    have := Heap.lt_size (I.pin p hp).1
    rw [hD] at this; exact this
  have stat : ∀ {H' : Hp} {ob : Obj},(∀ b ∈ fp,H' b = none) → ∀ b ∈ fp,FpOk (blkCx X pins s2 H2 scope C (own ++ cs) fp) [(D,ob)] H' b := fun {H' ob} hn b hb => by
    have q := I0.ok.exf b hb
    refine ⟨hn b hb,q.1,I0.ok.exfs b hb,.inl hb,q.2,fun p hp => ?_⟩
    rcases List.mem_append.mp hp with z | z
    · exact (hf b hb).2.2.2.2.2 p z
    · have : p = (D,ob) := by simpa using z
      subst this
      exact Dfp b hb
  have loop : codeAny (model X.prog X.w) X.A (.compLoop (.ListComp elt [⟨tg,iter,ifs,0⟩,⟨tg2,iter2,ifs2,0⟩] scope pos) 0 (.ref it) (.ref D) (compEnvC scope (clAdd X.env scope.names []) C X.env)) (RR (.ref D) C)
      { s2 with heap := h₁,toks := s2.toks + ([] : List (Str × Value)).length } := by
    obtain ⟨m0,w0⟩ := w0
    refine codeAny_loop rfl (fun n s' => ∃ i H' its ys,Inv (blkCx X pins s2 H2 scope C (own ++ cs) fp) [] (blkSt σ cap own.length) H' s' ∧ tn i s'.heap ∧ (∀ b ∈ fp,H' b = none) ∧ s'.heap.PlainList D its.toArray ∧ Vals ys its ∧ H' D = none ∧ W i n ys H') ?_ m0
      ⟨0,H2,[],[],I0,T.keep 0 _ _ st fun b _ o e => old b o e,fun b hb => (hf b hb).1,hacc,.nil,I.hok.fresh (by rw [hD]; exact Nat.le_refl _),w0⟩
    rintro n s3 ⟨i,H3,its,ys,I3,st3,fr3,⟨nn,pl3⟩,rv3,hD3,w3⟩
    show wpAny _ X.A ((compTurn (.ListComp elt [⟨tg,iter,ifs,0⟩,⟨tg2,iter2,ifs2,0⟩] scope pos) 0 (.ref it) (.ref D) (compEnvC scope (clAdd X.env scope.names []) C X.env)).onRaise (fun x => do noteFrame x (compEnvC scope (clAdd X.env scope.names []) C X.env); theTreesLotGoes x)) _ _ s3
    refine wpAny_noted ?_
    rw [compTurn_two]
    refine wpAny_bind (wpAny_standAt (wpAny_bind ?_))
    have I3' : Inv (blkCx X pins s2 H2 scope C (own ++ cs) fp) [(D, { cls := .type "list", data := .seq its.toArray nn })] (blkSt σ cap own.length) H3 s3 :=
      I3.pins_of fun p hp => by
        have : p = (D,{ cls := .type "list",data := .seq its.toArray nn }) := by simpa using hp
        subst this
        exact ⟨pl3,hD3,hDC,Dfs,fun v z => by cases z⟩
    rcases turn i n ys H3 w3 with ⟨stop,hz,qf⟩ | ⟨go,step⟩
    · refine thn (T.done (blkCx X pins s2 H2 scope C (own ++ cs) fp) rfl rfl rfl hc i _ s3 _ H3 _ I3' (stat fr3) st3 stop) fun r s4 ⟨hr,I4⟩ => ?_
      subst hr
      refine wpAny_pure (hRR D C s4 ⟨⟨ys,H3,hD3,qf,?_,?_⟩,?_⟩)
      · have pl4 := (I4.pin (D,_) (List.mem_append_right _ (List.mem_singleton.mpr rfl))).1
        have u4 := I4.base
        have Ds2 : s2.heap.get? D = none := Heap.get?_none_of_le (by rw [hD]; exact Nat.le_refl _)
        refine I.call' (s' := s4) (ch := fp) I4.os ⟨u4.keep,u4.slot,fun b o e n hx => ?_,u4.there,fun b xs e => ?_,fun b o u e => ?_,fun b ps e => ?_⟩ ?_ I4.bare fun b hb => ⟨(hf b hb).2.2.2.1,(hf b hb).2.1,(hf b hb).2.2.2.2.1,(hf b hb).2.2.2.2.2⟩
        · rw [upd_ne (fun z => by rw [z,Ds2] at e; cases e)]
          exact u4.free b o e n hx
        · have := u4.tups b xs e
          rw [upd_ne (ne_of_none this hD3)]; exact this
        · have := u4.frzs b o u e
          rw [upd_ne (ne_of_none this hD3)]; exact this
        · obtain ⟨more,e'⟩ := u4.tbls b ps e
          exact ⟨more,by rw [upd_ne (ne_of_none e' hD3)]; exact e'⟩
        · exact I4.hok.add hD3 ⟨hz,its,nn,rv3,pl4⟩
      · have CH : (upd H3 D (.lst ys)) C = none := by rw [upd_ne (Ne.symm hDC)]; exact I4.free
        exact I.fpOk (H' := upd H3 D (.lst ys)) (by rw [hD]; exact hCle) CH
      · obtain ⟨m,hn,_⟩ := I4.loc
        exact ⟨m,hn⟩
    · refine thn (T.item (blkCx X pins s2 H2 scope C (own ++ cs) fp) rfl rfl rfl hc i _ s3 _ H3 _ I3' (stat fr3) st3 go) fun r s4 ⟨u,hr,h4⟩ => ?_
      subst hr
      refine wpAny_bind (thn h4 fun _ s5 ⟨x,H5,I5,r5,y5,st5,fr5⟩ => ?_)
      have I5' := I5.pinned (stat fr5) (T.obj _ _ st5)
      refine wpAny_bind (wpAny_mono (hg C _ s5 _ H5 x u _ I5' r5 (step x H5 y5)) (fun _ s6 ⟨σ6,H6,I6,le6,q6⟩ => ?_) fun _ _ z => False.elim z)
      refine wpAny_bind (wpAny_mono (hi C _ s6 σ6 H6 _ I6 q6) (fun b s7 ⟨H7,I7,q7⟩ => ?_) fun _ _ z => False.elim z)
      have back : ∀ {pins' : List (Addr × Obj)} {H8 : Hp} {s8 : Shared},Inv (blkCx X pins s2 H2 scope C (own ++ cs) fp) pins' σ6 H8 s8 → Inv (blkCx X pins s2 H2 scope C (own ++ cs) fp) [] (blkSt σ cap own.length) H8 s8 := fun I8 =>
        I8.bareP.weak le6.1.symm fun i v e => le6.2 i v e
      cases b with
      | false =>
        rw [if_neg Bool.false_ne_true] at q7
        obtain ⟨m',hm,w7⟩ := q7
        refine wpAny_pure ⟨rfl,m',hm,i + 1,H7,its,ys,back I7,T.keep _ _ _ st5 fun b hb o e => ?_,fun b hb => ?_,⟨nn,?_⟩,rv3,?_,w7⟩
        · exact (I7.pin (b,o) (List.mem_append_right _ (List.mem_append_right _ (mem_pinsAt hb e)))).1
        · obtain ⟨o,e,d⟩ := T.obj _ _ st5 b hb
          exact (I7.pin (b,o) (List.mem_append_right _ (List.mem_append_right _ (mem_pinsAt hb e)))).2.1
        · exact (I7.pin (D,_) (List.mem_append_right _ (List.mem_append_left _ (List.mem_singleton.mpr rfl)))).1
        · exact (I7.pin (D,_) (List.mem_append_right _ (List.mem_append_left _ (List.mem_singleton.mpr rfl)))).2.1
      | true =>
        rw [if_pos rfl] at q7
        obtain ⟨P5,hP5⟩ : ∃ P5,pinsAt fp s5.heap = P5 := ⟨_,rfl⟩
        have P5f : ∀ p ∈ P5,p.1 ∈ fp := fun p hp => by rw [← hP5] at hp; exact (of_pinsAt hp).1
        refine wpAny_bind (wpAny_mono (hit2 C _ s7 σ6 H7 _ I7 q7) (fun xv s8 h8 => ?_) fun _ _ z => False.elim z)
        refine wpAny_bind (wpAny_standAt (wpAny_bind (wpAny_of_eq (hs2 C xv) ?_)))
        refine wpAny_bind (wpAny_holding (wpAny_mono h8 (fun itv s9 h9 => ?_) fun _ _ z => False.elim z))
        obtain ⟨it2,fp2,tn2,J2,H9,e9,I9,T2,st9,f9,W2,⟨m2,w20⟩,turn2⟩ := h9
        subst e9
        have D2 : ∀ b ∈ fp2,D ≠ b := fun b hb => (f9 b hb).2.2.2.2.2 (D,{ cls := .type "list",data := .seq its.toArray nn }) (List.mem_append_right _ (List.mem_append_left _ (List.mem_singleton.mpr rfl)))
        have p2 : ∀ b ∈ fp2,∀ p ∈ P5,p.1 ≠ b := fun b hb p hp => (f9 b hb).2.2.2.2.2 p (List.mem_append_right _ (List.mem_append_right _ (by rw [hP5]; exact hp)))
        have stat2 : ∀ {H' : Hp} {ob : Obj},(∀ b ∈ fp2,H' b = none) → ∀ b ∈ fp2,FpOk (blkCx X pins s2 H2 scope C (own ++ cs) fp) (P5 ++ [(D,ob)]) H' b := fun {H' ob} hn b hb => by
          have q := f9 b hb
          refine ⟨hn b hb,q.2.1,q.2.2.1,q.2.2.2.1,q.2.2.2.2.1,fun p hp => ?_⟩
          rcases List.mem_append.mp hp with z | z
          · exact q.2.2.2.2.2 p (List.mem_append_left _ z)
          · rcases List.mem_append.mp z with z | z
            · exact p2 b hb p z
            · have : p = (D,ob) := by simpa using z
              subst this
              exact D2 b hb
        have pD9 := I9.pin (D,{ cls := .type "list",data := .seq its.toArray nn }) (List.mem_append_right _ (List.mem_append_left _ (List.mem_singleton.mpr rfl)))
        have I9' : Inv (blkCx X pins s2 H2 scope C (own ++ cs) fp) P5 σ6 H9 s9 := I9.pins_of fun p hp => I9.pin p (List.mem_append_right _ (List.mem_append_right _ (by rw [hP5]; exact hp)))
        have inner : ∀ (R2 : Result → Shared → Prop),(∀ s',(∃ m' G its ys,m' < n ∧ Inv (blkCx X pins s2 H2 scope C (own ++ cs) fp) [] (blkSt σ cap own.length) G s' ∧ tn (i + 1) s'.heap ∧ (∀ b ∈ fp,G b = none) ∧ s'.heap.PlainList D its.toArray ∧ Vals ys its ∧ G D = none ∧ W (i + 1) m' ys G) → R2 (.ok .next) s') → ∀ (s' : Shared),(∃ i H' its ys,Inv (blkCx X pins s2 H2 scope C (own ++ cs) fp) P5 σ6 H' s' ∧ tn2 i s'.heap ∧ (∀ b ∈ fp2,H' b = none) ∧ s'.heap.PlainList D its.toArray ∧ Vals ys its ∧ H' D = none ∧ ∃ m,W2 i m ys H') → codeAny (model X.prog X.w) X.A (.compLoop (.ListComp elt [⟨tg,iter,ifs,0⟩,⟨tg2,iter2,ifs2,0⟩] scope pos) 1 (.ref it2) (.ref D) (compEnvC scope (clAdd X.env scope.names []) C X.env)) R2 s' := by
          rintro R2 hR2 s' ⟨i',H',its',ys',J1,J2',J3,J4,J5,J6,m',J7⟩
          refine codeAny_loop rfl (fun n s' => ∃ i H' its ys,Inv (blkCx X pins s2 H2 scope C (own ++ cs) fp) P5 σ6 H' s' ∧ tn2 i s'.heap ∧ (∀ b ∈ fp2,H' b = none) ∧ s'.heap.PlainList D its.toArray ∧ Vals ys its ∧ H' D = none ∧ W2 i n ys H') ?_ m' ⟨i',H',its',ys',J1,J2',J3,J4,J5,J6,J7⟩
          clear J1 J2' J3 J4 J5 J6 J7
          clear i' H' its' ys' m' s'
          rintro n2 t3 ⟨j,G3,jts,zs,J3,tt3,fr3',⟨mm,pl3'⟩,rv3',hD3',w3'⟩
          show wpAny _ X.A ((compTurn (.ListComp elt [⟨tg,iter,ifs,0⟩,⟨tg2,iter2,ifs2,0⟩] scope pos) 1 (.ref it2) (.ref D) (compEnvC scope (clAdd X.env scope.names []) C X.env)).onRaise (fun x => do noteFrame x (compEnvC scope (clAdd X.env scope.names []) C X.env); theTreesLotGoes x)) _ _ t3
          refine wpAny_noted ?_
          rw [compTurn_in]
          refine wpAny_bind (wpAny_standAt (wpAny_bind ?_))
          have J3' : Inv (blkCx X pins s2 H2 scope C (own ++ cs) fp) (P5 ++ [(D, { cls := .type "list", data := .seq jts.toArray mm })]) σ6 G3 t3 :=
            J3.pins_of fun p hp => by
              rcases List.mem_append.mp hp with z | z
              · exact J3.pin p (List.mem_append_right _ z)
              · have : p = (D,{ cls := .type "list",data := .seq jts.toArray mm }) := by simpa using z
                subst this
                exact ⟨pl3',hD3',hDC,Dfs,fun v z => by cases z⟩
          rcases turn2 j n2 zs G3 w3' with ⟨stop2,qf2⟩ | ⟨go2,hz2,step2⟩
          · refine thn (T2.done (blkCx X pins s2 H2 scope C (own ++ cs) fp) rfl rfl rfl hc j _ t3 _ G3 _ J3' (stat2 fr3') tt3 stop2) fun r t4 ⟨hr,J4⟩ => ?_
            subst hr
            obtain ⟨mo,hmo,wo⟩ := qf2
            have pD4 := J4.pin (D,{ cls := .type "list",data := .seq jts.toArray mm }) (List.mem_append_right _ (List.mem_append_right _ (List.mem_singleton.mpr rfl)))
            refine wpAny_pure (hR2 _ ⟨mo,G3,jts,zs,hmo,back J4,T.keep _ _ _ st5 fun b hb o e => ?_,fun b hb => ?_,⟨mm,pD4.1⟩,rv3',pD4.2.1,wo⟩)
            · exact (J4.pin (b,o) (List.mem_append_right _ (List.mem_append_left _ (by rw [← hP5]; exact mem_pinsAt hb e)))).1
            · obtain ⟨o,e,d⟩ := T.obj _ _ st5 b hb
              exact (J4.pin (b,o) (List.mem_append_right _ (List.mem_append_left _ (by rw [← hP5]; exact mem_pinsAt hb e)))).2.1
          · refine thn (T2.item (blkCx X pins s2 H2 scope C (own ++ cs) fp) rfl rfl rfl hc j _ t3 _ G3 _ J3' (stat2 fr3') tt3 go2) fun r t4 ⟨u2,hr,h4'⟩ => ?_
            subst hr
            refine wpAny_bind (thn h4' fun _ t5 ⟨x2,G5,J5,r5',y5',st5',fr5'⟩ => ?_)
            have J5' := J5.pinned (stat2 fr5') (T2.obj _ _ st5')
            refine wpAny_bind (wpAny_mono (hg2 C _ t5 _ G5 x2 u2 _ J5' r5' (step2 x2 G5 y5')) (fun _ t6 ⟨σ7,G6,J6,le7,q7'⟩ => ?_) fun _ _ z => False.elim z)
            refine wpAny_bind (wpAny_mono (hi2 C _ t6 σ7 G6 _ J6 q7') (fun b2 t7 ⟨G7,J7,q8'⟩ => ?_) fun _ _ z => False.elim z)
            have back2 : ∀ {pins' : List (Addr × Obj)} {G8 : Hp} {t8 : Shared},Inv (blkCx X pins s2 H2 scope C (own ++ cs) fp) (P5 ++ pins') σ7 G8 t8 → Inv (blkCx X pins s2 H2 scope C (own ++ cs) fp) P5 σ6 G8 t8 := fun J8 =>
              (J8.pins_of fun p hp => J8.pin p (List.mem_append_right _ (List.mem_append_left _ hp))).weak le7.1.symm fun i v e => le7.2 i v e
            cases b2 with
            | false =>
              rw [if_neg Bool.false_ne_true] at q8'
              obtain ⟨m',hm,w7⟩ := q8'
              rw [List.append_assoc] at J7
              refine wpAny_pure ⟨rfl,m',hm,j + 1,G7,jts,zs,back2 J7,T2.keep _ _ _ st5' fun b hb o e => ?_,fun b hb => ?_,⟨mm,?_⟩,rv3',?_,w7⟩
              · exact (J7.pin (b,o) (List.mem_append_right _ (List.mem_append_right _ (List.mem_append_right _ (mem_pinsAt hb e))))).1
              · obtain ⟨o,e,d⟩ := T2.obj _ _ st5' b hb
                exact (J7.pin (b,o) (List.mem_append_right _ (List.mem_append_right _ (List.mem_append_right _ (mem_pinsAt hb e))))).2.1
              · exact (J7.pin (D,_) (List.mem_append_right _ (List.mem_append_right _ (List.mem_append_left _ (List.mem_singleton.mpr rfl))))).1
              · exact (J7.pin (D,_) (List.mem_append_right _ (List.mem_append_right _ (List.mem_append_left _ (List.mem_singleton.mpr rfl))))).2.1
            | true =>
              rw [if_pos rfl] at q8'
              refine wpAny_bind (wpAny_bind (wpAny_mono (he C _ t7 σ7 G7 _ J7 q8') (fun y2 t8 ⟨v2,G8,J8,r8',m',hm,w8⟩ => ?_) fun _ _ z => False.elim z))
              rw [List.append_assoc] at J8
              have pD := J8.pin (D,{ cls := .type "list",data := .seq jts.toArray mm }) (List.mem_append_right _ (List.mem_append_right _ (List.mem_append_left _ (List.mem_singleton.mpr rfl))))
              have hlen := rv3'.length
              refine wpAny_bind (wpAny_list_append_plain (hsz := by rw [List.size_toArray]; omega) ⟨mm,pD.1⟩ fun h9 pl9 sb9 => wpAny_pure (wpAny_pure ?_))
              have J8' := back2 J8
              refine ⟨rfl,m',hm,j + 1,G8,jts ++ [y2],zs ++ [v2],?_,T2.keep _ _ _ st5' fun b hb o e => ?_,fun b hb => ?_,?_,rv3'.append (.cons r8' .nil),pD.2.1,w8⟩
              · exact J8'.turned (t' := t8.toks) (fun b o hb e => sb9.extBut b o hb e) pD.2.1 hDC (.inr (by show s2.heap.objs.size ≤ D; rw [hD]; exact Nat.le_refl _)) (fun x c e => Nat.ne_of_lt (clt x c e)) fun p hp => by
                  have hp' : p ∈ (X.pn ++ pins) ++ P5 := hp
                  rcases List.mem_append.mp hp' with z | z
                  · exact Nat.ne_of_lt (plt p z)
                  · exact Ne.symm (Dfp p.1 (P5f p z))
              · exact sb9.extBut b o (Ne.symm (D2 b hb)) (J8.pin (b,o) (List.mem_append_right _ (List.mem_append_right _ (List.mem_append_right _ (mem_pinsAt hb e))))).1
              · obtain ⟨o,e,d⟩ := T2.obj _ _ st5' b hb
                exact (J8.pin (b,o) (List.mem_append_right _ (List.mem_append_right _ (List.mem_append_right _ (mem_pinsAt hb e))))).2.1
              · have e : jts.toArray.push y2 = (jts ++ [y2]).toArray := by simp
                rw [← e]; exact pl9
        have stt : ∃ i H' its ys,Inv (blkCx X pins s2 H2 scope C (own ++ cs) fp) P5 σ6 H' s9 ∧ tn2 i s9.heap ∧ (∀ b ∈ fp2,H' b = none) ∧ s9.heap.PlainList D its.toArray ∧ Vals ys its ∧ H' D = none ∧ ∃ m,W2 i m ys H' := ⟨0,H9,its,ys,I9',st9,fun b hb => (f9 b hb).1,⟨nn,pD9.1⟩,rv3,pD9.2.1,m2,w20⟩
        have start : ∀ (R2 : Result → Shared → Prop),(∀ s',(∃ m' G its ys,m' < n ∧ Inv (blkCx X pins s2 H2 scope C (own ++ cs) fp) [] (blkSt σ cap own.length) G s' ∧ tn (i + 1) s'.heap ∧ (∀ b ∈ fp,G b = none) ∧ s'.heap.PlainList D its.toArray ∧ Vals ys its ∧ G D = none ∧ W (i + 1) m' ys G) → R2 (.ok .next) s') → codeAny (model X.prog X.w) X.A (.compStart (.ListComp elt [⟨tg,iter,ifs,0⟩,⟨tg2,iter2,ifs2,0⟩] scope pos) 1 (.ref it2) (.ref D) (compEnvC scope (clAdd X.env scope.names []) C X.env)) R2 s9 := fun R2 hR2 =>
          codeAny_compStart_two (inner R2 hR2 s9 stt) (T2.self _ 0 _ _ _ st9 (inner R2 hR2 s9 stt))
        refine wpAny_bind (wpAny_runOwn (start _ ?_))
        rintro s' ⟨m',G,its,ys,hm,c1,c2,c3,c4,c5,c6,c7⟩
        exact wpAny_pure ⟨rfl,m',hm,i + 1,G,its,ys,c1,c2,c3,c4,c5,c6,c7⟩
  exact codeAny_compStart_list loop (T.self _ 0 _ _ _ (T.keep 0 _ _ st fun b _ o e => old b o e) loop)
def tComp2 (wi : TI) (cap : List Nat) (k : Nat) (g : TG) (tt : TT) (wi2 : TI) (g2 : TG) (tt2 : TT) (te : TE) : TE := fun σ H Q => wi σ H fun J H1 =>
  ∃ W : Nat → Nat → List V → Hp → Prop,(∃ m,W 0 m [] H1) ∧ CompW2 σ cap k J g tt wi2 g2 tt2 te (fun ys H' => ∀ p,H' p = none → Q (.ref p) (upd H' p (.lst ys))) W
theorem pe_comp2 {wi : TI} (hc : X.calm = true) (hit : PI X tg iter wi) (ok : CompOk X scope own cs cap)
    (hg : ∀ pins s2 H2 C fp,PG (blkCx X pins s2 H2 scope C (own ++ cs) fp) tg g) (hi : ∀ pins s2 H2 C fp,PIfs (blkCx X pins s2 H2 scope C (own ++ cs) fp) ifs tt)
    (hit2 : ∀ pins s2 H2 C fp,PI (blkCx X pins s2 H2 scope C (own ++ cs) fp) tg2 iter2 wi2) (hg2 : ∀ pins s2 H2 C fp,PG (blkCx X pins s2 H2 scope C (own ++ cs) fp) tg2 g2) (hi2 : ∀ pins s2 H2 C fp,PIfs (blkCx X pins s2 H2 scope C (own ++ cs) fp) ifs2 tt2)
    (he : ∀ pins s2 H2 C fp,PE (blkCx X pins s2 H2 scope C (own ++ cs) fp) elt te)
    (hs : ∀ x,foldedSetIterable iter X.env x = pure x := by intro _; rfl) (hs2 : ∀ C x,foldedSetIterable iter2 (compEnvC scope (clAdd X.env scope.names []) C X.env) x = pure x := by intro _ _; rfl) : PE X (.ListComp elt [⟨tg,iter,ifs,0⟩,⟨tg2,iter2,ifs2,0⟩] scope pos) (tComp2 wi cap own.length g tt wi2 g2 tt2 te) := by
  intro pins s σ H Q I h
  rw [eval_ListComp]
  refine wpAny_comprehension_free (use := none) rfl hs (closure_eq fun y hy e => I.ok.has y.1 (ok.free y hy e)) ok.kind ok.names (thn (hit pins s σ H _ I h) fun v s1 h1 => thn h1 fun itv s2 h2 => ?_)
  obtain ⟨it,fp,tn,J,H2,e,I2,T,st2,f2,W,w0,turn⟩ := h2
  subst e
  refine comp_run2 (RR := fun acc C => compPost (model X.prog X.w) X.A X.xe none (EP X pins σ Q) acc C) I2 ok hc T st2 f2 (fun C => hg _ _ _ _ _) (fun C => hi _ _ _ _ _) (fun C => hit2 _ _ _ _ _) hs2 (fun C => hg2 _ _ _ _ _) (fun C => hi2 _ _ _ _ _) (fun C => he _ _ _ _ _) w0 turn fun D C s' B => ?_
  obtain ⟨⟨ys,H',hD,q,I',fp'⟩,m,hn⟩ := B
  obtain ⟨f0,f1,f2',f3,f4,f5⟩ := fp'
  exact ⟨m,hn,fun h' sb => ⟨.ref D,_,I'.turned (t' := s'.toks) (fun b o hb e => sb.extBut b o hb e) f0 f1 f3 f4 f5,rfl,q D hD⟩⟩
end
end L2
set_option Elab.async false
set_option linter.all false
set_option maxRecDepth 100000
namespace PySem
open Sem (wp)
section
variable {prog : Program} {w : World} {A : Around} {E : Value → Shared → Prop} {s : Shared}
theorem wpAny_pyIter_dictE {d : Addr} {es : Array DictEntry} {ep : Nat} {Q : Value → Shared → Prop} (hd : (d == sysModules) = false) (hm : (∃ o,s.heap.get? d = some o ∧ o.ExactDict ∧ o.data = .dict es ep))
    (hQ : Q (.ref s.heap.objs.size) { s with heap := s.heap.push { cls := .type "dict_keyiterator",data := .fields #[.ref d,.int 0 0,.int es.size 0,.int ep 0] } }) :
    wpAny (model prog w) A (pyIter (.ref d)) Q E s := by
  obtain ⟨o,ho,hc,hdat⟩ := id hm
  have hT : s.TypeIs (.ref d) "dict" := ⟨_,ho,hc.1⟩
  refine wpAny_pyIter_slot hT F.slot_dict_iter (wpAny_call_entry F.slot_dict_iter hT F.entry_dict_iter ?_ (F.args_dict_iter_1 _))
  unfold Builtin.«dict.__iter__»
  refine wpAny_bind ?_
  unfold Builtin.Dict.dictSlotNone
  refine wpAny_bind (wpAny_notOrdered_dict hT ?_)
  show wpAny _ _ (pure (Value.ref d)) _ _ s
  refine wpAny_pure ?_
  show wpAny _ _ (Builtin.Dict.showsAll d >>= _) _ _ s
  unfold Builtin.Dict.showsAll
  rw [if_neg (by rw [hd]; exact Bool.false_ne_true)]
  refine wpAny_bind (wpAny_pure ?_)
  refine wpAny_bind (wpAny_dictEntries ho hdat ?_)
  refine wpAny_bind (wpAny_dictEpoch ho hdat ?_)
  have hsz : es.size = es.size := rfl
  refine wpAny_bind (wpAny_newObj_type (wpAny_pure ⟨_,rfl,"dict_keyiterator",_,⟨_,Heap.get?_push_size _ rfl,rfl⟩,F.slot_dict_keyiterator_next.lookup,?_⟩))
  simpa [rawInt,hsz] using hQ
theorem wpAny_pyNext_dictE_item {it d : Addr} {i ep : Nat} {es : Array DictEntry} {en : DictEntry} {Q : Option Value → Shared → Prop} (hit : s.heap.IsKeyIter it d i es.size ep)
    (hm : (∃ o,s.heap.get? d = some o ∧ o.ExactDict ∧ o.data = .dict es ep)) (hx : es[i]? = some en)
    (hQ : ∀ h',h'.IsKeyIter it d (i + 1) es.size ep → Heap.SameBut it s.heap h' → Q (some en.key) { s with heap := h' }) :
    wpAny (model prog w) A (pyNext (.ref it)) Q E s := by
  obtain ⟨o,ho,hc,hd⟩ := id hit
  obtain ⟨od,hod,hcd,hdd⟩ := id hm
  unfold pyNext
  refine wpAny_bind (wpAny_attempt (wpAny_callSpecial?_slot (name := Str.ofString "__next__") hit.typeIs F.slot_dict_keyiterator_next
    (wpAny_call_entry F.slot_dict_keyiterator_next hit.typeIs F.entry_dict_keyiterator_next ?_ (F.args_dict_keyiterator_next_1 _))))
  refine wpAny_bind (wpAny_pure ?_)
  refine wpAny_bind ?_
  refine wpAny_bind ?_
  first | refine wpAny_bind (wpAny_typeNameOfWhole_keyiter hit.typeIs (wpAny_pure ?_)) | refine wpAny_bind (wpAny_typeNameOf_keyiter hit.typeIs (wpAny_pure ?_))
  refine wpAny_bind (wpAny_fieldsOf ho hd ?_)
  have hown : Builtin.Dict_items.ownsTuple "dict_keyiterator" = false := by decide
  simp only [hown,Bool.false_eq_true,if_false]
  show wpAny _ _ (if (Value.ref d == Value.none) = true then _ else _) _ _ s
  rw [if_neg (show ¬ ((Value.ref d == Value.none) = true) from Bool.false_ne_true)]
  refine wpAny_bind (wpAny_pure ?_)
  refine wpAny_bind (wpAny_dictEntries hod hdd ?_)
  have hsz : es.size = es.size := rfl
  rw [if_neg (by simp)]
  refine wpAny_bind (wpAny_pure ?_)
  refine wpAny_bind (wpAny_dictEpoch hod hdd ?_)
  rw [if_neg (by simp)]
  refine wpAny_pure ?_
  have hlt : i < es.size := by
    rcases Nat.lt_or_ge i es.size with h | h
    · exact h
    · rw [Array.getElem?_eq_none h] at hx; cases hx
  have hlt' : i < es.size := by rw [hsz]; exact hlt
  have hkey : es[i] = en := by rw [Array.getElem?_eq_getElem hlt'] at hx; exact Option.some.inj hx
  simp only [show ¬ ((i : Int) < 0) from by omega,if_false,Int.toNat_natCast,Array.getElem?_eq_getElem hlt']
  refine wpAny_bind ?_
  first | refine wpAny_bind (wpAny_typeNameOfWhole_keyiter hit.typeIs (wpAny_pure ?_)) | refine wpAny_bind (wpAny_typeNameOf_keyiter hit.typeIs (wpAny_pure ?_))
  refine wpAny_bind (wpAny_isOneOf_keyiter hit.typeIs ?_)
  show wpAny _ _ (setField (.ref it) 1 (rawInt ((i : Int) + 1)) >>= _) _ _ s
  refine wpAny_bind (wpAny_setField ho hd (by simp) ?_)
  have hit' : (s.heap.update it (Obj.mapFields (·.setIfInBounds 1 (rawInt ((i : Int) + 1))))).IsKeyIter it d (i + 1) es.size ep :=
    ⟨_,Heap.get?_update_self _ ho (Obj.isFreed_of_fields (Obj.data_mapFields hd _)),(Obj.cls_mapFields ..).trans hc,by rw [Obj.data_mapFields hd]; simp [rawInt]⟩
  refine wpAny_bind (wpAny_holding ?_)
  refine wpAny_bind (wpAny_isOneOf_keyiter (s := { s with heap := s.heap.update it (Obj.mapFields (·.setIfInBounds 1 (rawInt ((i : Int) + 1)))) }) hit'.typeIs ?_)
  show wpAny _ _ (pure es[i].key) _ _ _
  exact wpAny_pure (wpAny_pure ⟨_,rfl,wpAny_pure (by rw [hkey]; exact hQ _ hit' (Heap.SameBut.update ..))⟩)
theorem wpAny_pyNext_dictE_end {it d : Addr} {i ep : Nat} {es : Array DictEntry} {Q : Option Value → Shared → Prop} (hh : A.handled = none) (hit : s.heap.IsKeyIter it d i es.size ep)
    (hm : (∃ o,s.heap.get? d = some o ∧ o.ExactDict ∧ o.data = .dict es ep)) (hx : es[i]? = none)
    (hQ : ∀ h',Heap.ExtBut it s.heap h' → Q none { s with heap := h' }) : wpAny (model prog w) A (pyNext (.ref it)) Q E s := by
  obtain ⟨o,ho,hc,hd⟩ := id hit
  obtain ⟨od,hod,hcd,hdd⟩ := id hm
  unfold pyNext
  refine wpAny_bind (wpAny_attempt (wpAny_callSpecial?_slot (name := Str.ofString "__next__") hit.typeIs F.slot_dict_keyiterator_next
    (wpAny_call_entry F.slot_dict_keyiterator_next hit.typeIs F.entry_dict_keyiterator_next ?_ (F.args_dict_keyiterator_next_1 _))))
  refine wpAny_bind (wpAny_pure ?_)
  refine wpAny_bind ?_
  refine wpAny_bind ?_
  first | refine wpAny_bind (wpAny_typeNameOfWhole_keyiter hit.typeIs (wpAny_pure ?_)) | refine wpAny_bind (wpAny_typeNameOf_keyiter hit.typeIs (wpAny_pure ?_))
  refine wpAny_bind (wpAny_fieldsOf ho hd ?_)
  have hown : Builtin.Dict_items.ownsTuple "dict_keyiterator" = false := by decide
  simp only [hown,Bool.false_eq_true,if_false]
  show wpAny _ _ (if (Value.ref d == Value.none) = true then _ else _) _ _ s
  rw [if_neg (show ¬ ((Value.ref d == Value.none) = true) from Bool.false_ne_true)]
  refine wpAny_bind (wpAny_pure ?_)
  refine wpAny_bind (wpAny_dictEntries hod hdd ?_)
  have hsz : es.size = es.size := rfl
  rw [if_neg (by simp)]
  refine wpAny_bind (wpAny_pure ?_)
  refine wpAny_bind (wpAny_dictEpoch hod hdd ?_)
  rw [if_neg (by simp)]
  refine wpAny_pure ?_
  have hge : es.size ≤ i := by simpa using hx
  simp only [show ¬ ((i : Int) < 0) from by omega,if_false,Int.toNat_natCast,Array.getElem?_eq_none hge]
  refine wpAny_bind ?_
  first | refine wpAny_bind (wpAny_typeNameOfWhole_keyiter hit.typeIs (wpAny_pure ?_)) | refine wpAny_bind (wpAny_typeNameOf_keyiter hit.typeIs (wpAny_pure ?_))
  show wpAny _ _ (setField (.ref it) 0 .none >>= _) _ _ s
  refine wpAny_bind (wpAny_setField ho hd (by simp) ?_)
  show wpAny _ _ (newExc (.type "StopIteration") [] >>= _) _ _ _
  refine wpAny_bind ?_
  simp only [newExc,newTuple]
  refine wpAny_bind (wpAny_newObj_type ?_ (by size_fits))
  refine wpAny_bind (m := firstArgMember _ _) (wpAny_of_eq (a := Value.none) (by first | rfl | (simp only [firstArgMember]; rfl)) ?_)
  refine wpAny_newObj_type ?_ (by size_fits)
  simp only [raiseNew]
  refine wpAny_bind (wpAny_handled ?_)
  rw [show A.in1.handled = none from hh]
  refine wpAny_bind (wpAny_pure (wpAny_throw ?_))
  refine wpAny_bind (wpAny_isInstance (T := "StopIteration") (b := true) ⟨_,Heap.get?_push_size _ rfl,rfl⟩ isSubtype_stop ?_)
  exact wpAny_pure (hQ _ (((Heap.SameBut.update ..).extBut.push _).push _))
end
end PySem
namespace L2
open PySem PySem.Spec PyProof.Rows
def Itd (a : Addr) (ob : Obj) (kvs : List (List Key × V)) : It :=
  ⟨fun i H => i < kvs.length ∧ H a = some (.frz ob (.dT kvs)),fun i H x H' => H' = H ∧ ∃ q k v,kvs[i]? = some (k,v) ∧ x = .ref q ∧ H q = some (.tup (k.map kV)),fun i H => i = kvs.length ∧ H a = some (.frz ob (.dT kvs))⟩
theorem pairG {α β : Type} {F : α → β → Prop} : ∀ {l₁ : List α} {l₂ : List β} {i : Nat} {x : α},Paired F l₁ l₂ → l₁[i]? = some x → ∃ y,l₂[i]? = some y ∧ F x y
  | _,_,0,_,.cons h _,e => ⟨_,rfl,by cases e; exact h⟩
  | _,_,i + 1,_,.cons _ r,e => pairG (i := i) r (by simpa using e)
  | _,_,_,_,.nil,e => by simp at e
theorem pairM {α β : Type} {F G : α → β → Prop} : ∀ {l₁ : List α} {l₂ : List β},Paired F l₁ l₂ → (∀ x y,F x y → G x y) → Paired G l₁ l₂
  | _,_,.nil,_ => .nil
  | _,_,.cons h r,f => .cons (f _ _ h) (pairM r f)
theorem pairL {α β : Type} {F : α → β → Prop} : ∀ {l₁ : List α} {l₂ : List β},Paired F l₁ l₂ → l₁.length = l₂.length
  | _,_,.nil => rfl
  | _,_,.cons _ r => by rw [List.length_cons,List.length_cons,pairL r]
theorem turn_dictT {P : Program} {w : World} {K : PySem.W.Frag} {tg : Expr} (a it : Addr) (ob : Obj) (kvs : List (List Key × V)) (es : Array DictEntry) (ep : Nat) (hx : ob.ExactDict) (hd : ob.data = .dict es ep) (hn : es.size = kvs.length) :
    Turn P w K tg (Itd a ob kvs) [it] it (fun i h => h.IsKeyIter it a i es.size ep) where
  mem := by simp
  obj := fun i h st b hb => by
    have e : b = it := by simpa using hb
    subst e
    obtain ⟨o,e,c,d⟩ := st
    exact ⟨o,e,fun v z => by rw [d] at z; cases z⟩
  keep := fun i h h' st k => st.at fun o e => k it (by simp) o e
  item := by
    intro X hP hw hK hc i pins s σ H E I hf st hg
    subst hP hw hK
    obtain ⟨hi,hH⟩ := hg
    obtain ⟨h1,_,_,xs,pr,o,es',ep',h2,_,h3,h4,_⟩ := (show ObjOk X.prog X.w H s.heap a (.frz ob (.dT kvs)) from I.hok a _ hH)
    rw [h1] at h2
    cases h2
    rw [hd] at h3
    cases h3
    have hk : kvs[i]? = some kvs[i] := List.getElem?_eq_getElem hi
    obtain ⟨⟨k',q,v'⟩,hy,e1,e2,e3⟩ := pairG pr hk
    have hen : es[i]? = some (entryOfKey (tupleKind (mixKind X.prog X.w)) (k',q,v')) := by
      rw [← Array.getElem?_toList,h4,List.getElem?_map,hy]; rfl
    obtain ⟨f0,f1,f2,f3,f4,f5⟩ := hf it (by simp)
    refine wpAny_pyNext_dictE_item st ⟨ob,h1,hx,hd⟩ hen fun h' st' sb => ?_
    have I1 : Inv X pins σ H { s with heap := h' } := I.turned (t' := s.toks) (fun b o hb e => (sb.2 b hb).trans e) f0 f1 f3 f4 f5
    obtain ⟨o,e,c,d⟩ := id st'
    exact ⟨_,rfl,go_of (s := { s with heap := h' }) e c d (by decide) ⟨.ref q,H,I1,rfl,⟨rfl,q,kvs[i].1,kvs[i].2,hk,rfl,e2⟩,st',fun b hb => (hf b hb).1⟩⟩
  done := by
    intro X hP hw hK hc i pins s σ H E I hf st hg
    subst hP hw hK
    obtain ⟨hi,hH⟩ := hg
    obtain ⟨h1,_⟩ := (show ObjOk X.prog X.w H s.heap a (.frz ob (.dT kvs)) from I.hok a _ hH)
    obtain ⟨f0,f1,f2,f3,f4,f5⟩ := hf it (by simp)
    exact wpAny_pyNext_dictE_end (I.ok.hd hc) st ⟨ob,h1,hx,hd⟩ (by rw [Array.getElem?_eq_none]; omega) fun h' eb => ⟨rfl,I.turned (t' := s.toks) (fun b o hb e => eb b o hb e) f0 f1 f3 f4 f5⟩
  self := fun _ _ _ _ _ st h => wpAny_pyIter_keyiter st h
section
variable {X : Cx} {tg : Expr}
def iDictT (tl : TE) : TI := fun σ H R => tl σ H fun x H1 => ∃ a kvs,x = .ref a ∧ H1 a = some (.dT kvs) ∧ ∀ ob,R (Itd a ob kvs) (upd H1 a (.frz ob (.dT kvs)))
theorem pi_dictT {l : Expr} {tl : TE} (hl : PE X l tl) : PI X tg l (iDictT tl) := by
  intro pins s σ H R I h
  refine thn (hl pins s σ H _ I h) fun v s1 ⟨x,H1,I1,r1,q1⟩ => ?_
  obtain ⟨a,kvs,e,hH,q⟩ := q1
  subst e
  cases r1
  obtain ⟨hz,hs,xs,pr,o,es,ep,h1,h2,h3,h4,h5⟩ := (show ObjOk X.prog X.w H1 s1.heap a (.dT kvs) from I1.hok a _ hH)
  have hn : es.size = kvs.length := by
    rw [pairL pr,← Array.length_toList,h4,List.length_map]
  have I2 : Inv X pins σ (upd H1 a (.frz o (.dT kvs))) s1 := by
    have := I1.write (x := a) (e := a) (o := .frz o (.dT kvs)) (h' := s1.heap) (t' := s1.toks) (by rw [hH]; trivial) (.inl rfl) (fun b u _ e => e) ⟨o,h1⟩ ⟨h1,hz,hs,xs,?_,o,es,ep,h1,h2,h3,h4,h5⟩
    · exact this
    · refine pairM pr fun p q ⟨e1,e2,e3⟩ => ⟨e1,?_,e3⟩
      rw [upd_ne (fun z => by rw [z,hH] at e2; cases e2)]
      exact e2
  refine wpAny_pyIter_dictE hs ⟨o,h1,h2,h3⟩ ?_
  refine ⟨s1.heap.objs.size,[s1.heap.objs.size],_,_,_,rfl,I2.kept (t' := s1.toks) fun b o e => Heap.get?_push_of_some _ e,turn_dictT a _ o kvs es ep h2 h3 hn,⟨_,Heap.get?_push_size _ rfl,rfl,rfl⟩,fun b hb => ?_,q o⟩
  have e : b = s1.heap.objs.size := by simpa using hb
  subst e
  exact I2.fpOk (Nat.le_refl _) (I2.hok.fresh (Nat.le_refl _))
end
end L2
set_option Elab.async false
set_option linter.all false
set_option maxRecDepth 100000
namespace L2
open PySem PySem.Spec PyProof.Rows
theorem comp2_rng {lo : Int} {n : Nat} {σ : St} {cap : List Nat} {k : Nat} {g g2 : TG} {tt tt2 : TT} {te : TE} {wi2 : TI} {Q : List V → Hp → Prop} {H : Hp} (Pv : Nat → List V → Hp → Prop) (h0 : Pv 0 [] H)
    (ht : ∀ i ys H',i < n → Pv i ys H' → g (.int (lo + i)) (blkSt σ cap k) H' fun σ2 H2 => leS (blkSt σ cap k) σ2 ∧ tt σ2 H2 fun ok H3 => if ok = true then wi2 σ2 H3 (fun J2 H4 => ∃ W2 : Nat → Nat → List V → Hp → Prop,(∃ m2,W2 0 m2 ys H4) ∧ CompIn σ2 J2 g2 tt2 te (fun zs H5 => Nx n Pv i zs H5) W2) else Nx n Pv i ys H3)
    (hd : ∀ ys H',Pv n ys H' → ys.length ≤ sizeLine ∧ Q ys H') : ∃ W,(∃ m,W 0 m [] H) ∧ CompW2 σ cap k (Itr lo n) g tt wi2 g2 tt2 te Q W := by
  refine ⟨fun i m ys H' => m = n - i ∧ i ≤ n ∧ Pv i ys H',⟨_,rfl,Nat.zero_le _,h0⟩,?_⟩
  rintro i m ys H' ⟨rfl,hi,p⟩
  by_cases hin : i < n
  · refine .inr ⟨hin,fun x H2 yl => ?_⟩
    obtain ⟨e1,e2⟩ := yl
    subst e1 e2
    exact ht i ys _ hin p
  · have e : i = n := by omega
    subst e
    obtain ⟨a1,a2⟩ := hd ys H' p
    exact .inl ⟨Nat.le_refl _,a1,a2⟩
theorem in_rng {lo : Int} {n : Nat} {σ2 : St} {g2 : TG} {tt2 : TT} {te : TE} {N : List V → Hp → Prop} {H : Hp} {ys : List V} (Pv : Nat → List V → Hp → Prop) (h0 : Pv 0 ys H)
    (ht : ∀ i zs H',i < n → Pv i zs H' → zs.length < sizeLine ∧ g2 (.int (lo + i)) σ2 H' fun σ3 H2 => leS σ2 σ3 ∧ tt2 σ3 H2 fun ok H3 => if ok = true then te σ3 H3 (fun v H4 => Nx n Pv i (zs ++ [v]) H4) else Nx n Pv i zs H3)
    (hd : ∀ zs H',Pv n zs H' → N zs H') : ∃ W2 : Nat → Nat → List V → Hp → Prop,(∃ m2,W2 0 m2 ys H) ∧ CompIn σ2 (Itr lo n) g2 tt2 te N W2 := by
  refine ⟨fun i m zs H' => m = n - i ∧ i ≤ n ∧ Pv i zs H',⟨_,rfl,Nat.zero_le _,h0⟩,?_⟩
  rintro i m zs H' ⟨rfl,hi,p⟩
  by_cases hin : i < n
  · obtain ⟨e,hg⟩ := ht i zs H' hin p
    refine .inr ⟨hin,e,fun x H2 yl => ?_⟩
    obtain ⟨e1,e2⟩ := yl
    subst e1 e2
    exact hg
  · have e : i = n := by omega
    subst e
    exact .inl ⟨Nat.le_refl _,hd zs H' p⟩
theorem turn_long0 {P : Program} {w : World} {K : PySem.W.Frag} {tg : Expr} (it : Addr) (lo left : Int) (h0 : left ≤ 0) : Turn P w K tg (Itr lo 0) [it] it (fun i h => IsLongIter h it lo left 1) where
  mem := by simp
  obj := fun i h st b hb => by
    have e : b = it := by simpa using hb
    subst e
    exact ⟨_,st,fun v z => by
      have z' : Data.fields _ = Data.cell v := z
      cases z'⟩
  keep := fun i h h' st k => k it (by simp) _ st
  item := by
    intro X hP hw hK hc i pins s σ H E I hf st hg
    exact absurd hg (Nat.not_lt_zero _)
  done := by
    intro X hP hw hK hc i pins s σ H E I hf st hg
    subst hP hw hK
    obtain ⟨f0,f1,f2,f3,f4,f5⟩ := hf it (by simp)
    exact wpAny_pyNext_long_end (I.ok.hd hc) st h0 fun h' eb => ⟨rfl,I.turned (t' := s.toks) (fun b o hb e => eb b o hb e) f0 f1 f3 f4 f5⟩
  self := fun _ _ _ _ _ st h => wpAny_pyIter_longiter st h
section
variable {X : Cx} {tg : Expr}
def iRng2N (ta : TA) : TI := fun σ H R => ta σ H fun vs H1 => ∃ i j : Int,vs = [.int i,.int j] ∧ (-(2 ^ 62) ≤ i ∧ i < 2 ^ 62 ∧ j < 2 ^ 62) ∧ R (Itr i (j - i).toNat) H1
theorem pi_range2N {a b : Expr} {ta : TA} {p pos : Pos} (hg : Gl X "range") (hm : X.mg "range" = none) (ha : PA X [a,b] ta) (hs : starEach [a,b] X.env = [(false,eval a X.env),(false,eval b X.env)] := by rfl) (hs2 : starEach [b] X.env = [(false,eval b X.env)] := by rfl) :
    PI X tg (.Call (.Name "range" p) [a,b] [] pos) (iRng2N ta) := by
  intro pins s σ H R I h
  refine Call_ (ld_blt I hg hm boot_range (PyProof.Rows.callWith_type1 (thn (ha pos pins s σ H _ I h) fun us s1 ⟨vs,H1,I1,r1,q1⟩ => ?_) (by rw [hs,hs2]) (by rw [hs2]; rfl)))
  obtain ⟨i,j,e,⟨q1,q2,q4⟩,q⟩ := q1
  subst e
  cases r1 with
  | cons r rr =>
    cases rr with
    | cons r' rr =>
      cases rr
      obtain ⟨t,rfl⟩ := r
      obtain ⟨t',rfl⟩ := r'
      by_cases q3 : -(2 ^ 62) ≤ j
      · exact call_range_2 (range_it I1 q1 q2 q3 q4 q)
      refine call_range_2 ?_
      have z0 : (j - i).toNat = 0 := by omega
      rw [z0] at q
      have I2 : Inv X pins σ H1 { s1 with heap := s1.heap.push { cls := .type "range", data := .fields #[.int i t, .int j t', .int 1 s1.toks] }, toks := s1.toks + 1 } := I1.kept fun b o e => Heap.get?_push_of_some _ e
      have rs0 : Builtin.Range.rangeSize i j 1 = 0 := by rw [rangeSize_one,if_neg (by omega)]
      cases hsm : Builtin.Range.small i j 1 with
      | false =>
        refine wpAny_pyIter_longrange (IsRange.new ..) hsm ?_
        refine ⟨_, [(s1.heap.push { cls := .type "range", data := .fields #[.int i t, .int j t', .int 1 s1.toks] }).objs.size], _, _, H1, rfl, I2.kept (t' := s1.toks + 1) fun b o e => Heap.get?_push_of_some _ e, turn_long0 _ i 0 (Int.le_refl _), ?_, fun b hb => ?_, q⟩
        · rw [rs0]
          exact Heap.get?_push_size _ rfl
        · have e : b = (s1.heap.push { cls := .type "range", data := .fields #[.int i t, .int j t', .int 1 s1.toks] }).objs.size := by simpa using hb
          subst e
          exact I2.fpOk (Nat.le_refl _) (I2.hok.fresh (Nat.le_refl _))
      | true =>
        refine wpAny_pyIter_range (IsRange.new ..) hsm ?_
        refine ⟨_, [(s1.heap.push { cls := .type "range", data := .fields #[.int i t, .int j t', .int 1 s1.toks] }).objs.size], _, _, H1, rfl, I2.kept (t' := s1.toks + 1) fun b o e => Heap.get?_push_of_some _ e, turn_range _ i 0, ?_, fun b hb => ?_, q⟩
        · rw [rs0]
          show IsRangeIter _ _ (i + ((0 : Nat) : Int) * 1) (((0 : Nat) : Int) - ((0 : Nat) : Int)) 1
          have e1 : i + ((0 : Nat) : Int) * 1 = i := by simp
          have e2 : ((0 : Nat) : Int) - ((0 : Nat) : Int) = 0 := rfl
          rw [e1,e2]
          exact Heap.get?_push_size _ rfl
        · have e : b = (s1.heap.push { cls := .type "range", data := .fields #[.int i t, .int j t', .int 1 s1.toks] }).objs.size := by simpa using hb
          subst e
          exact I2.fpOk (Nat.le_refl _) (I2.hok.fresh (Nat.le_refl _))
end
end L2
set_option Elab.async false
set_option linter.all false
set_option maxRecDepth 100000
namespace PySem
open PySem.W
section
variable {prog : Program} {w : World} {K : Type} [DecidableEq K] {knd : HeapKind prog w K} {A : Around} {E : Value → Shared → Prop} {s : Shared} {xs ys : List (K × Addr × Value)} {a b : Addr}
theorem samePairsH {nm : String} {Q : Bool → Shared → Prop} (ha : (a == sysModules) = false) (hb : (b == sysModules) = false) (da : s.heap.DictOfH knd a xs) (db : s.heap.DictOfH knd b ys) (hr : knd.room A) (hl : xs.length = ys.length)
    (al : ∀ (i : Nat) (k : K) (p : Addr) (v : Value),xs[i]? = some (k,p,v) → ∃ (j : Nat) (p' : Addr) (v' : Value),ys[j]? = some (k,p',v') ∧ ∃ n t u,v = .int n t ∧ v' = .int n u) (h : Q true s) :
    wpAny (model prog w) A (Builtin.Dict.samePairs nm a b) Q E s := by
  obtain ⟨oa,es,ep,hoa,_,hda,hea,hisa,hna⟩ := da
  obtain ⟨ob,es',ep',hob,_,hdb,heb,hisb,hnb⟩ := db
  have sza : es.size = xs.length := size_of_entries hea
  have szb : es'.size = ys.length := size_of_entries heb
  unfold Builtin.Dict.samePairs Builtin.Dict.showsAll
  rw [if_neg (show ¬ (a == sysModules) = true by rw [ha]; exact Bool.false_ne_true),if_neg (show ¬ (b == sysModules) = true by rw [hb]; exact Bool.false_ne_true)]
  refine wpAny_bind (wpAny_pure (wpAny_bind (wpAny_pure ?_)))
  refine wpAny_bind (wpAny_dictEntries hoa hda ?_)
  dsimp only
  refine wpAny_bind (wpAny_dictEntries hob hdb ?_)
  rw [if_neg (by rw [sza,szb,hl]; simp)]
  refine wpAny_bind (wpAny_dictEpoch hoa hda ?_)
  refine wpAny_bind ?_
  rw [Std.Legacy.Range.forIn_eq_forIn_range']
  simp only [Std.Legacy.Range.size,Nat.sub_zero,Nat.add_sub_cancel,Nat.div_one]
  refine wpAny_forIn_list _ (fun rest q s' => s' = s ∧ q = (none,()) ∧ ∃ i,rest = List.range' i (es.size - i) ∧ i ≤ es.size) _ ?_ ?_ _ _ ⟨rfl,rfl,0,by simp,Nat.zero_le _⟩
  · rintro x rest q s' ⟨rfl,rfl,i,hrr,hi⟩
    have hlt : i < es.size := by
      rcases Nat.lt_or_ge i es.size with h | h
      · exact h
      · rw [Nat.sub_eq_zero_of_le h] at hrr; simp at hrr
    obtain ⟨rfl,hrest⟩ : x = i ∧ rest = List.range' (i + 1) (es.size - (i + 1)) := by
      have e : es.size - i = (es.size - (i + 1)) + 1 := by omega
      rw [e,List.range'_succ] at hrr
      injection hrr with h1 h2
      exact ⟨h1,h2⟩
    refine wpAny_bind (wpAny_dictEntries hoa hda ?_)
    have hlt' : x < xs.length := by omega
    obtain ⟨k,p,v,hkv⟩ : ∃ k p v,xs[x]? = some (k,p,v) := ⟨_,_,_,List.getElem?_eq_getElem hlt'⟩
    have hent : es[x]? = some ⟨knd.hash k,.ref p,v⟩ := by rw [entry_at hea x,hkv]; rfl
    rw [hent]
    obtain ⟨j,p',v',hj,nn,t,u,rfl,rfl⟩ := al x k p v hkv
    have hk := hisa _ (List.mem_of_getElem? hkv)
    show wpAny _ _ (holding _ _ >>= _) _ _ _
    refine wpAny_bind (wpAny_holding (wpAny_bind (wpAny_dictFind_heap hr hk hob hdb heb hisb hnb (fun hno => absurd hj (hno j _)) fun j' p2 hj' => ?_)))
    have ejj : j' = j := idxH_unique hnb hj' hj
    subst ejj
    rw [hj] at hj'
    cases hj'
    refine wpAny_bind (wpAny_dictEntries hob hdb ?_)
    have hent2 : es'[j']? = some ⟨knd.hash k,.ref p',.int nn u⟩ := by rw [entry_at heb j',hj]; rfl
    rw [hent2]
    refine wpAny_holding (wpAny_eqBool_int ?_)
    rw [beq_self_eq_true]
    show wpAny _ _ (if (!true) = true then _ else _) _ _ _
    rw [if_neg (by decide)]
    refine wpAny_bind (wpAny_dictEpoch hoa hda ?_)
    rw [if_neg (by simp)]
    exact wpAny_pure ⟨rfl,rfl,x + 1,hrest,hlt⟩
  · rintro q s' ⟨rfl,rfl,i,hrr,hi⟩
    exact wpAny_pure h
theorem eqH {Q : Value → Shared → Prop} (ha : (a == sysModules) = false) (hb : (b == sysModules) = false) (da : s.heap.DictOfH knd a xs) (db : s.heap.DictOfH knd b ys) (hu : A.units < cLine) (hr : knd.room A.in1) (hl : xs.length = ys.length) (al : ∀ (i : Nat) (k : K) (p : Addr) (v : Value),xs[i]? = some (k,p,v) → ∃ (j : Nat) (p' : Addr) (v' : Value),ys[j]? = some (k,p',v') ∧ ∃ n t u,v = .int n t ∧ v' = .int n u) (h : Q (.bool true) s) :
    wpAny (model prog w) A (compareOp .Eq (.ref a) (.ref b)) Q E s := by
  refine wpAny_richCompare_same_room (op := .Eq) da.typeIs db.typeIs PySem.F.slot_dict_eq (wpAny_call_entry PySem.F.slot_dict_eq da.typeIs PySem.F.entry_dict_eq ?_ (PySem.F.args_dict_eq_2 _ _)) hu
  show wpAny _ _ (Builtin.Dict.dictSlotArgs "__eq__" ⟨[.ref a,.ref b],[]⟩ >>= _) _ _ s
  refine wpAny_bind ?_
  unfold Builtin.Dict.dictSlotArgs
  refine wpAny_bind (wpAny_notOrdered_dict da.typeIs ?_)
  show wpAny _ _ (pure (Value.ref a,Value.ref b)) _ _ s
  refine wpAny_pure ?_
  refine wpAny_bind (wpAny_isInstance (T := "dict") db.typeIs PySem.F.sub_dict_dict ?_)
  simp only [Bool.not_true,Bool.false_eq_true,if_false]
  refine wpAny_bind (wpAny_pure (wpAny_bind (wpAny_pure ?_)))
  refine wpAny_bind (samePairsH ha hb da db hr hl al ?_)
  refine wpAny_pure ⟨_,rfl,?_,?_⟩
  · exact fun x => nomatch x
  · exact h
end
end PySem
namespace L2
open PySem PySem.Spec PyProof.Rows
def SameD (kvs kws : List (List Key × V)) : Prop := kvs.length = kws.length ∧ ∀ k v,(k,v) ∈ kvs → ∃ n : Int,v = .int n ∧ (k,V.int n) ∈ kws
section
variable {X : Cx}
theorem sameD_al {H : Hp} {P : Program} {w : World} {kvs kws : List (List Key × V)} {xs ys : List (List Key × Addr × Value)} (s : SameD kvs kws) (rx : KT H kvs xs) (ry : KT H kws ys) :
    xs.length = ys.length ∧ ∀ (i : Nat) (k : List Key) (p : Addr) (v : Value),xs[i]? = some (k,p,v) → ∃ (j : Nat) (p' : Addr) (v' : Value),ys[j]? = some (k,p',v') ∧ ∃ n t u,v = .int n t ∧ v' = .int n u := by
  have lx : kvs.length = xs.length := pairL rx
  have ly : kws.length = ys.length := pairL ry
  refine ⟨by have := s.1; omega,fun i k p v hi => ?_⟩
  have il : i < xs.length := (List.getElem?_eq_some_iff.mp hi).1
  have hk : kvs[i]? = some kvs[i] := List.getElem?_eq_getElem (by omega)
  obtain ⟨⟨k',p2,v2⟩,hy,e1,e2,e3⟩ := pairG rx hk
  rw [hi] at hy
  cases hy
  obtain ⟨n,en,hm⟩ := s.2 kvs[i].1 kvs[i].2 (List.mem_of_getElem? hk)
  obtain ⟨j,hj⟩ := List.mem_iff_getElem?.mp hm
  obtain ⟨⟨k3,p3,v3⟩,hy3,f1,f2,f3⟩ := pairG ry hj
  have f1 : kvs[i].1 = k3 := f1
  have e1 : kvs[i].1 = k := e1
  rw [en] at e3
  obtain ⟨t,et⟩ := e3
  obtain ⟨u,eu⟩ := f3
  refine ⟨j,p3,v3,by rw [hy3,← f1,e1],n,t,u,et,eu⟩
theorem op_eqDT (hu : X.A.units + 64 < cLine) : OpR X (compareOp .Eq) (fun x y H Q => ∃ a b kvs kws,x = .ref a ∧ y = .ref b ∧ Rd H a (.dT kvs) ∧ Rd H b (.dT kws) ∧ SameD kvs kws ∧ Q (.bl true) H) := by
  intro pins s σ H x y v u Q I rx ry h
  obtain ⟨a,b,kvs,kws,rfl,rfl,ha,hb,sd,q⟩ := h
  cases rx
  cases ry
  obtain ⟨_,sa,xs,ka,da⟩ := dt_rd I.hok ha
  obtain ⟨_,sb,ys,kb,db⟩ := dt_rd I.hok hb
  obtain ⟨hl,al⟩ := sameD_al (P := X.prog) (w := X.w) sd ka kb
  exact eqH sa sb da db (by omega) (by show X.A.units + 1 < cLine; omega) hl al ⟨.bl true,H,I,rfl,q⟩
end
end L2
set_option Elab.async false
set_option linter.all false
set_option maxRecDepth 100000
namespace L2
open PySem PySem.Spec PyProof.Rows
section
variable {X : Cx} {tg : Expr}
end
theorem comp_dict {a : Addr} {ob : Obj} {kvs : List (List Key × V)} {σ : St} {cap : List Nat} {k : Nat} {g : TG} {tt : TT} {te : TE} {Q : List V → Hp → Prop} {H : Hp} (Pv : Nat → List V → Hp → Prop) (h0 : Pv 0 [] H)
    (hl : ∀ i ys H',i ≤ kvs.length → Pv i ys H' → H' a = some (.frz ob (.dT kvs)))
    (ht : ∀ i kk v q ys H',kvs[i]? = some (kk,v) → H' q = some (.tup (kk.map kV)) → Pv i ys H' → g (.ref q) (blkSt σ cap k) H' fun σ2 H2 => leS (blkSt σ cap k) σ2 ∧ tt σ2 H2 fun ok H3 => if ok = true then te σ2 H3 (fun v H4 => Nx kvs.length Pv i (ys ++ [v]) H4) else Nx kvs.length Pv i ys H3)
    (hz : ∀ i ys H',i < kvs.length → Pv i ys H' → ys.length < sizeLine) (hd : ∀ ys H',Pv kvs.length ys H' → ys.length ≤ sizeLine ∧ Q ys H') : ∃ W,(∃ m,W 0 m [] H) ∧ CompW σ cap k (Itd a ob kvs) g tt te Q W := by
  refine ⟨fun i m ys H' => m = kvs.length - i ∧ i ≤ kvs.length ∧ Pv i ys H',⟨_,rfl,Nat.zero_le _,h0⟩,?_⟩
  rintro i m ys H' ⟨rfl,hi,p⟩
  have q := hl i ys H' hi p
  by_cases hin : i < kvs.length
  · refine .inr ⟨⟨hin,q⟩,hz i ys H' hin p,fun x H2 yl => ?_⟩
    obtain ⟨e,qa,k',v',e1,e2,e3⟩ := yl
    subst e e2
    exact ht i k' v' qa ys _ e1 e3 p
  · have e : i = kvs.length := by omega
    subst e
    obtain ⟨a1,a2⟩ := hd ys H' p
    exact .inl ⟨⟨rfl,q⟩,a1,a2⟩
end L2
set_option Elab.async false
set_option linter.all false
set_option maxRecDepth 100000
namespace PySem
open PySem.W
section
variable {prog : Program} {w : World} {A : Around} {E : Value → Shared → Prop} {s : Shared} {d : Addr} {o : Obj} {es : Array DictEntry} {ep : Nat}
end
end PySem
namespace PySem
open PySem.W
section
variable {prog : Program} {w : World} {A : Around} {E : Value → Shared → Prop} {s : Shared} {d : Addr} {o : Obj} {es : Array DictEntry} {ep : Nat}
theorem filter_one {α : Type} {f : α → Int} : ∀ {l : List α},(l.map f).Nodup → ∀ a ∈ l,(l.filter (fun x => f x == f a)).length ≤ 1
  | [],_,a,h => by simp at h
  | b :: l,hn,a,h => by
    have hn' := List.nodup_cons.mp hn
    rw [List.filter_cons]
    by_cases e : (f b == f a) = true
    · rw [if_pos e]
      have e' : f b = f a := by simpa using e
      have : l.filter (fun x => f x == f a) = [] := by
        rw [List.filter_eq_nil_iff]
        intro x hx z
        have z : f x = f a := by simpa using z
        exact hn'.1 (by rw [e',← z]; exact List.mem_map.mpr ⟨x,hx,rfl⟩)
      rw [this]; exact Nat.le_refl _
    · rw [if_neg e]
      rcases List.mem_cons.mp h with rfl | h
      · exact absurd (by simp) e
      · exact filter_one hn'.2 a h
theorem copyE {Q : Value → Shared → Prop} (hS : (d == sysModules) = false) (ho : s.heap.get? d = some o) (hc : o.ExactDict) (hd : o.data = .dict es ep) (hne : es ≠ #[]) (hes : es.size ≤ sizeLine)
    (ht : ∀ e ∈ es.toList,∃ p,e.key = .ref p ∧ s.TypeIs (.ref p) "tuple") (hcol : (es.toList.map (·.hash)).Nodup)
    (h : ∀ h' o' ep',h'.get? s.heap.objs.size = some o' → o'.ExactDict → o'.data = .dict es ep' → (∀ b u,s.heap.get? b = some u → h'.get? b = some u) → Q (.ref s.heap.objs.size) { s with heap := h' }) :
    wpAny (model prog w) A (call (.type "dict") [.ref d]) Q E s := by
  refine callType_codes (Q₁ := fun obj s₁ => obj = .ref s.heap.objs.size ∧ s₁ = { s with heap := s.heap.push { cls := .type "dict",data := .dict #[] } }) F.kt_called_dict (F.kt_typeCall_dict_1 _) F.entry_dict_init (kt_code_dict_new _ ⟨rfl,rfl⟩) ?_
  rintro obj s₁ ⟨rfl,rfl⟩
  have hlt := Heap.lt_size ho
  have hnd : s.heap.objs.size ≠ d := fun e => by rw [← e] at hlt; exact Nat.lt_irrefl _ hlt
  have ho' : (s.heap.push { cls := .type "dict", data := .dict #[] }).get? d = some o := Heap.get?_push_of_some _ ho
  have hn0 : (s.heap.push { cls := .type "dict",data := .dict #[] }).get? s.heap.objs.size = some { cls := .type "dict",data := .dict #[] } := Heap.get?_push_size _ rfl
  have tyn : Shared.TypeIs { s with heap := s.heap.push { cls := .type "dict",data := .dict #[] } } (.ref s.heap.objs.size) "dict" := ⟨_,hn0,rfl⟩
  have tyo : Shared.TypeIs { s with heap := s.heap.push { cls := .type "dict", data := .dict #[] } } (.ref d) "dict" := ⟨o, ho', hc.1⟩
  refine ⟨tyn,F.args_dict_init_2 _ _,?_⟩
  unfold Builtin.«dict.__init__»
  refine wpAny_bind ?_
  unfold Builtin.Dict.selfAndRest
  refine wpAny_bind (wpAny_notOrdered_dict tyn ?_)
  show wpAny _ _ (pure (s.heap.objs.size,[Value.ref d])) _ _ _
  refine wpAny_pure ?_
  show wpAny _ _ (Builtin.Dict.updateFrom "dict.__init__" s.heap.objs.size (.ref d) [] .none) _ _ _
  unfold Builtin.Dict.updateFrom
  refine wpAny_bind (wpAny_typeOf tyo ?_)
  rw [if_neg (by decide)]
  refine wpAny_bind ?_
  unfold Builtin.Dict.merge
  refine wpAny_bind ?_
  unfold Builtin.Dict.readDirectly
  refine wpAny_bind (wpAny_isInstance tyo isSubtype_dict_dict ?_)
  simp only [Bool.not_true,Bool.false_eq_true,if_false]
  refine wpAny_bind (wpAny_specialOf tyo F.slot_dict_iter.lookup (wpAny_pure ?_))
  simp only [beq_self_eq_true,if_true]
  refine wpAny_bind (wpAny_pure ?_)
  unfold Builtin.Dict.mergeDict
  rw [if_neg (by simpa using hnd)]
  unfold Builtin.Dict.showsAll
  rw [if_neg (by rw [hS]; exact Bool.false_ne_true)]
  refine wpAny_bind (wpAny_pure ?_)
  refine wpAny_bind (wpAny_dictEntries ho' hd ?_)
  have few : (decide (es.size ≤ 8) && es.all fun e => (keyPart e.key).isSome) = false := by
    cases q : es.all fun e => (keyPart e.key).isSome with
    | false => rw [Bool.and_false]
    | true =>
      exfalso
      have hpos : 0 < es.size := Nat.pos_of_ne_zero fun z => hne (Array.eq_empty_of_size_eq_zero z)
      have := (Array.all_eq_true.mp q) 0 hpos
      obtain ⟨p,e1,_⟩ := ht es[0] (by rw [Array.mem_toList_iff]; exact Array.getElem_mem hpos)
      rw [e1] at this
      cases this
  dsimp only
  rw [few]
  simp only [Bool.not_false,if_true]
  refine wpAny_bind (wpAny_dictEntries hn0 rfl ?_)
  rw [if_pos (by rfl)]
  refine wpAny_bind ?_
  unfold Builtin.Dict.entriesForEmpty
  refine wpAny_bind (wpAny_dictEntries ho' hd ?_)
  refine wpAny_bind ?_
  rw [← Array.forIn_toList]
  refine wpAny_forIn_list _ (fun rest _ s' => s' = { s with heap := s.heap.push { cls := .type "dict", data := .dict #[] } } ∧ ∀ e ∈ rest, e ∈ es.toList) _ ?_ ?_ _ _ ⟨rfl, fun e he => he⟩
  · rintro e rest _ s' ⟨rfl,hr⟩
    have hm := hr e List.mem_cons_self
    obtain ⟨p,e1,t1⟩ := ht e hm
    have t2 : Shared.TypeIs { s with heap := s.heap.push { cls := .type "dict",data := .dict #[] } } (.ref p) "tuple" := by
      obtain ⟨q,h1,h2⟩ := t1
      exact ⟨q,Heap.get?_push_of_some _ h1,h2⟩
    rw [e1]
    unfold Builtin.Dict.quietEq
    refine wpAny_bind (wpAny_bind (wpAny_specialOf (name := "__eq__") t2 F.slot_tuple_eq.lookup (wpAny_pure ?_)))
    have c : (some (Value.builtin "tuple.__eq__") == some (Value.builtin "object.__eq__")) = false := by decide +kernel
    rw [c]
    simp only [Bool.not_false,if_true]
    have f1 := filter_one hcol e hm
    have f2 : ¬ (es.filter (·.hash == e.hash)).size > 1 := by
      rw [← Array.length_toList,Array.toList_filter]; omega
    rw [if_neg f2]
    exact wpAny_pure ⟨rfl,fun x hx => hr x (List.mem_cons_of_mem _ hx)⟩
  · rintro _ s' ⟨rfl,_⟩
    refine wpAny_pure ?_
    have emp : es.isEmpty = false := by
      cases q : es.isEmpty with
      | false => rfl
      | true => exact absurd (Array.isEmpty_iff.mp q) hne
    rw [emp]
    simp only [Bool.not_false,if_true]
    refine wpAny_bind (wpAny_updateDictKeysTo hn0 rfl (wpAny_pure ?_) (by show es.size ≤ _; omega))
    show wpAny _ _ (Builtin.Dict.addKeywords s.heap.objs.size [] >>= _) _ _ _
    have q1 := Heap.get?_update_self (h := s.heap.push { cls := .type "dict",data := .dict #[] }) (Obj.mapDictKeys fun _ => es) hn0 (Obj.isFreed_of_dict (Obj.data_mapDictKeys (o := { cls := .type "dict",data := .dict #[] }) rfl _))
    refine wpAny_bind (wpAny_pure (wpAny_pure ⟨rfl,h _ _ 1 q1 (Obj.ExactDict.mapDictKeys ⟨rfl,rfl,rfl⟩ _) (Obj.data_mapDictKeys rfl _) fun b u e => ?_⟩))
    have sb := Heap.SameBut.update (s.heap.push { cls := .type "dict",data := .dict #[] }) s.heap.objs.size (f := Obj.mapDictKeys fun _ => es)
    exact (sb.2 b (Nat.ne_of_lt (Heap.lt_size e))).trans (Heap.get?_push_of_some _ e)
end
end PySem
namespace L2
open PySem PySem.Spec PyProof.Rows
section
variable {X : Cx} {pins : List (Addr × Obj)} {σ : St} {H : Hp} {s : Shared} {a : Addr} {ob : Obj} {u : HO}
theorem Inv.thaw (I : Inv X pins σ H s) (e : H a = some (.frz ob u)) (h0 : ∀ o u',X.H₀ a ≠ some (.frz o u')) : Inv X pins σ (upd H a u) s := by
  have ne : ∀ {b : Addr},H b = none → b ≠ a := fun h z => by rw [z,e] at h; cases h
  have al : ∀ {b : Addr},H b = none → (upd H a u) b = none := fun {b} h => by rw [upd_ne (ne h)]; exact h
  refine ⟨I.ok,I.os,I.bare,⟨I.base.keep,I.base.slot,fun b o q n x => al (I.base.free b o q n x),I.base.there,fun b xs q => ?_,fun b o v q => ?_,fun b ps q => ?_⟩,I.loc,I.cell,al I.free,fun x c q => al (I.freeC x c q),fun p hp => ?_,fun b o q => ?_,I.len⟩
  · have h := I.base.tups b xs q
    rw [upd_ne (fun z => by rw [z,e] at h; cases h)]; exact h
  · have h := I.base.frzs b o v q
    rw [upd_ne (fun z => h0 _ _ (z ▸ q))]; exact h
  · obtain ⟨more,h⟩ := I.base.tbls b ps q
    exact ⟨more,by rw [upd_ne (fun z => by rw [z,e] at h; cases h)]; exact h⟩
  · obtain ⟨h1,h2,h3⟩ := I.pin p hp
    exact ⟨h1,al h2,h3⟩
  · have own : ∀ c y,H c = some (.own y) → (upd H a u) c = some (.own y) := fun c y h => by rw [upd_ne (fun z => by rw [z,e] at h; cases h)]; exact h
    have tup : ∀ c xs,H c = some (.tup xs) → (upd H a u) c = some (.tup xs) := fun c xs h => by rw [upd_ne (fun z => by rw [z,e] at h; cases h)]; exact h
    by_cases z : b = a
    · subst z
      rw [upd_same] at q
      cases q
      have := (show ObjOk X.prog X.w H s.heap b (.frz ob u) from I.hok b _ e).2
      exact ObjOk.stay this (fun _ _ _ h => h) (fun c h => own c _ h) tup
    · rw [upd_ne z] at q
      exact (I.hok b o q).stay (fun _ _ _ h => h) (fun c h => own c _ h) tup
end
section
variable {X : Cx}
def teThaw (H0 : Hp) (t : TE) : TE := fun σ H Q => t σ H fun v H1 => ∃ a ob u,H1 a = some (.frz ob u) ∧ (∀ o u',H0 a ≠ some (.frz o u')) ∧ Q v (upd H1 a u)
theorem pe_thaw {e : Expr} {t : TE} (h : PE X e t) : PE X e (teThaw X.H₀ t) := fun pins s σ H Q I q =>
  thn (h pins s σ H _ I q) fun v s1 ⟨x,H1,I1,r1,_,_,_,e,h0,q1⟩ => ⟨x,_,I1.thaw e h0,r1,q1⟩
theorem call_dictT : CallR X (.type "dict") (fun xs H Q => ∃ a kvs,xs = [V.ref a] ∧ Rd H a (.dT kvs) ∧ kvs ≠ [] ∧ (kvs.map fun x => tupleKeyHash (mixKind X.prog X.w) x.1).Nodup ∧ ∀ p,H p = none → Q (.ref p) (upd H p (.dT kvs))) := by
  intro pins s σ H xs us Q I r h
  obtain ⟨a,kvs,rfl,ha,hne,hcol,q⟩ := h
  obtain ⟨u,rfl,ru⟩ := vals1 r
  cases ru
  obtain ⟨hz,hs,xs,pr,o,es,ep,h1,h2,h3,h4,h5⟩ := (show ObjOk X.prog X.w H s.heap a (.dT kvs) from rd_of I.hok ha)
  have hl := pairL pr
  have hn : es.size = kvs.length := by
    rw [hl,← Array.length_toList,h4,List.length_map]
  have keyOf : ∀ e ∈ es.toList,∃ p ks,e.key = .ref p ∧ H p = some (.tup ks) := fun e he => by
    rw [h4] at he
    obtain ⟨x,hx,rfl⟩ := List.mem_map.mp he
    obtain ⟨i,hi⟩ := List.mem_iff_getElem?.mp hx
    have il : i < xs.length := (List.getElem?_eq_some_iff.mp hi).1
    have hk : kvs[i]? = some kvs[i] := List.getElem?_eq_getElem (by omega)
    obtain ⟨y,hy,e1,e2,_⟩ := pairG pr hk
    rw [hi] at hy
    cases hy
    exact ⟨_,_,rfl,e2⟩
  refine copyE hs h1 h2 h3 (fun z => ?_) (by omega) (fun e he => ?_) ?_ fun h' o' ep' q1 q2 q3 sb => ?_
  · rw [z] at hn
    exact hne (List.length_eq_zero_iff.mp hn.symm)
  · obtain ⟨p,ks,e1,e2⟩ := keyOf e he
    obtain ⟨its,_,p1,_⟩ := I.tuple (SqT.of (K := X.K) e2)
    obtain ⟨ob,h1,h2,_⟩ := p1
    exact ⟨p,e1,ob,h1,h2⟩
  · have e : es.toList.map (·.hash) = kvs.map fun x => tupleKeyHash (mixKind X.prog X.w) x.1 := by
      rw [h4,List.map_map]
      have all : ∀ {l : List (List Key × V)} {m : List (List Key × Addr × Value)},KT H l m → m.map ((fun x => x.hash) ∘ entryOfKey (tupleKind (mixKind X.prog X.w))) = l.map fun x => tupleKeyHash (mixKind X.prog X.w) x.1 := by
        intro l m r
        induction r with
        | nil => rfl
        | cons h _ ih => rw [List.map_cons,List.map_cons,ih,h.1]; rfl
      exact all pr
    rw [e]
    exact hcol
  · have hf := I.hok.fresh (Nat.le_refl s.heap.objs.size)
    refine ⟨.ref s.heap.objs.size,_,I.laid (a := s.heap.objs.size) (o := .dT kvs) (t' := s.toks) sb (Nat.le_refl _) ⟨hz,beq_eq_false_iff_ne.mpr (Ne.symm (Nat.ne_of_lt I.big)),xs,?_,o',es,ep',q1,q2,q3,h4,h5⟩,rfl,q _ hf⟩
    exact pairM pr fun p q ⟨e1,e2,e3⟩ => ⟨e1,by rw [upd_ne (ne_of_none e2 hf)]; exact e2,e3⟩
end
end L2
set_option Elab.async false
set_option linter.all false
set_option maxRecDepth 100000
namespace PySem
open Sem (wp)
section
variable {prog : Program} {w : World} {A : Around} {E : Value → Shared → Prop} {s : Shared}
theorem wpAny_pyIter_itemsE {v d : Addr} {es : Array DictEntry} {ep : Nat} {Q : Value → Shared → Prop} (hv : s.heap.IsItemsView v d) (hm : (∃ o,s.heap.get? d = some o ∧ o.ExactDict ∧ o.data = .dict es ep))
    (hQ : Q (.ref s.heap.objs.size) { s with heap := s.heap.push { cls := .type "dict_itemiterator",data := .fields #[.none,.bool false,.ref d,.int 0 0,.int es.size 0,.int ep 0,.none,.none] } }) :
    wpAny (model prog w) A (pyIter (.ref v)) Q E s := by
  obtain ⟨ov,hov,hcv,hdv⟩ := id hv
  obtain ⟨o,ho,hc,hdat⟩ := id hm
  refine wpAny_pyIter_slot hv.typeIs F.slot_dict_items_iter (wpAny_call_entry F.slot_dict_items_iter hv.typeIs F.entry_dict_items_iter ?_ (F.args_dict_items_iter_1 _))
  unfold Builtin.«dict_items.__iter__»
  refine wpAny_bind (wpAny_pure ?_)
  refine wpAny_bind ?_
  unfold Builtin.Dict_items.dictOf
  refine wpAny_bind (wpAny_field hov hdv (x := .ref d) rfl (wpAny_pure ?_))
  refine wpAny_bind ?_
  unfold Builtin.Dict_items.newIterator
  refine wpAny_bind (wpAny_dictEntries ho hdat ?_)
  refine wpAny_bind (wpAny_dictEpoch ho hdat ?_)
  have hsz : es.size = es.size := rfl
  have hown : Builtin.Dict_items.ownsTuple "dict_itemiterator" = true := by decide
  simp only [hown,if_true]
  refine wpAny_newObj_type (wpAny_pure ⟨_,rfl,"dict_itemiterator",_,⟨_,Heap.get?_push_size _ rfl,rfl⟩,F.slot_dict_itemiterator_next.lookup,?_⟩)
    (by simp only [sizeOk,Builtin.Dict_items.ownedTupleFields,List.size_toArray,List.length_append,List.length_cons,List.length_nil,sizeLine_eq]; omega)
  simpa [rawInt,hsz,Builtin.Dict_items.ownedTupleFields] using hQ
theorem wpAny_pyNext_itemsE_item {it d : Addr} {i ep : Nat} {es : Array DictEntry} {en : DictEntry} {ok ov : Value} {Q : Option Value → Shared → Prop} (hit : IsItemIter s.heap it d i es.size ep ok ov)
    (hm : (∃ o,s.heap.get? d = some o ∧ o.ExactDict ∧ o.data = .dict es ep)) (hx : es[i]? = some en)
    (hQ : ∀ h',IsItemIterOut h' it d (i + 1) es.size ep en.key en.val s.heap.objs.size →
      h'.get? s.heap.objs.size = some { cls := .type "tuple", data := .seq #[en.key, en.val] } → h'.objs.size = s.heap.objs.size + 1 →
      (∀ b o,b ≠ it → s.heap.get? b = some o → h'.get? b = some o) → Q (some (.ref s.heap.objs.size)) { s with heap := h' }) :
    wpAny (model prog w) A (pyNext (.ref it)) Q E s := by
  obtain ⟨hp,g,dr,tk,os⟩ := s
  obtain ⟨od,hod,hcd,hdd⟩ := id hm
  have hT : Shared.TypeIs ⟨hp,g,dr,tk,os⟩ (.ref it) "dict_itemiterator" := ⟨_,hit,rfl⟩
  unfold pyNext
  refine wpAny_bind (wpAny_attempt (wpAny_callSpecial?_slot (name := Str.ofString "__next__") hT F.slot_dict_itemiterator_next
    (wpAny_call_entry F.slot_dict_itemiterator_next hT F.entry_dict_itemiterator_next ?_ (F.args_dict_itemiterator_next_1 _))))
  refine wpAny_bind (wpAny_pure ?_)
  refine wpAny_bind ?_
  refine wpAny_bind ?_
  first | refine wpAny_bind (wpAny_typeNameOfWhole_itemiter hT (wpAny_pure ?_)) | refine wpAny_bind (wpAny_typeNameOf_itemiter hT (wpAny_pure ?_))
  refine wpAny_bind (wpAny_fieldsOf hit rfl ?_)
  have hown : Builtin.Dict_items.ownsTuple "dict_itemiterator" = true := by decide
  simp only [hown,if_true]
  show wpAny _ _ (if (Value.ref d == Value.none) = true then _ else _) _ _ _
  rw [if_neg (show ¬ ((Value.ref d == Value.none) = true) from Bool.false_ne_true)]
  refine wpAny_bind (wpAny_pure ?_)
  refine wpAny_bind (wpAny_dictEntries hod hdd ?_)
  have hsz : es.size = es.size := rfl
  rw [if_neg (by simp)]
  refine wpAny_bind (wpAny_pure ?_)
  refine wpAny_bind (wpAny_dictEpoch hod hdd ?_)
  rw [if_neg (by simp)]
  refine wpAny_pure ?_
  have hlt : i < es.size := by
    rcases Nat.lt_or_ge i es.size with h | h
    · exact h
    · rw [Array.getElem?_eq_none h] at hx; cases hx
  have hlt' : i < es.size := hlt
  have hkey : es[i] = en := by rw [Array.getElem?_eq_getElem hlt'] at hx; exact Option.some.inj hx
  subst hkey
  simp only [show ¬ ((i : Int) < 0) from by omega,if_false,Int.toNat_natCast,Array.getElem?_eq_getElem hlt']
  refine wpAny_bind ?_
  first | refine wpAny_bind (wpAny_typeNameOfWhole_itemiter hT (wpAny_pure ?_)) | refine wpAny_bind (wpAny_typeNameOf_itemiter hT (wpAny_pure ?_))
  refine wpAny_bind (wpAny_isOneOf_itemiter hT ?_)
  show wpAny _ _ (setField (.ref it) 3 (rawInt ((i : Int) + 1)) >>= _) _ _ ⟨hp,g,dr,tk,os⟩
  refine wpAny_bind (wpAny_setField_rec hit (by simp) fun h₁ he₁ hs₁ => ?_)
  replace hs₁ : Heap.SameBut it hp h₁ := hs₁
  replace he₁ : IsItemIter h₁ it d (i + 1) es.size ep ok ov := by
    have e : ((i + 1 : Nat) : Int) = (i : Int) + 1 := by omega
    unfold IsItemIter; rw [e]; simpa [rawInt] using he₁
  have hT₁ : Shared.TypeIs ⟨h₁,g,dr,tk,os⟩ (.ref it) "dict_itemiterator" := ⟨_,he₁,rfl⟩
  refine wpAny_bind (wpAny_holding ?_)
  refine wpAny_bind (wpAny_isOneOf_itemiter hT₁ ?_)
  refine wpAny_bind (wpAny_isOneOf_itemiter hT₁ ?_)
  show wpAny _ _ (Builtin.Dict_items.pairFromOwner (.ref it) 6 es[i].key es[i].val) _ _ ⟨h₁,g,dr,tk,os⟩
  unfold Builtin.Dict_items.pairFromOwner
  refine wpAny_bind (wpAny_newTuple ?_)
  have he₂ : IsItemIter (h₁.push { cls := .type "tuple",data := .seq #[es[i].key,es[i].val] }) it d (i + 1) es.size ep ok ov := Heap.get?_push_of_some _ he₁
  generalize hh₂ : h₁.push { cls := .type "tuple",data := .seq #[es[i].key,es[i].val] } = h₂ at he₂
  have hz₁ : h₁.objs.size = hp.objs.size := hs₁.1
  have hil : it < hp.objs.size := Heap.lt_size hit
  have ht₂ : h₂.get? hp.objs.size = some { cls := .type "tuple",data := .seq #[es[i].key,es[i].val] } := by rw [← hh₂,← hz₁]; exact Heap.get?_push_size _ rfl
  have hz₂ : h₂.objs.size = hp.objs.size + 1 := by rw [← hh₂,Heap.size_push,hz₁]
  have hk₂ : ∀ b o,b ≠ it → hp.get? b = some o → h₂.get? b = some o := fun b o hb e => by rw [← hh₂]; exact Heap.get?_push_of_some _ (hs₁.extBut b o hb e)
  show wpAny _ _ (Builtin.Dict_items.ownedTupleIsFree (.ref it) >>= _) _ _ ⟨h₂,g,dr,tk,os⟩
  rw [hz₁]
  clear hh₂ he₁ hs₁ hT₁ hz₁ h₁
  refine wpAny_bind ?_
  unfold Builtin.Dict_items.ownedTupleIsFree
  refine wpAny_bind (wpAny_field he₂ rfl (x := .none) rfl (wpAny_pure ?_))
  simp only [if_true]
  refine wpAny_bind (wpAny_field he₂ rfl (x := ok) rfl ?_)
  refine wpAny_bind (wpAny_field he₂ rfl (x := ov) rfl ?_)
  refine wpAny_bind (wpAny_setField_rec he₂ (by simp) fun h₃ he₃ hs₃ => ?_)
  replace hs₃ : Heap.SameBut it h₂ h₃ := hs₃
  replace he₃ : IsItemIter h₃ it d (i + 1) es.size ep es[i].key ov := he₃
  refine wpAny_bind (wpAny_setField_rec he₃ (by simp) fun h₄ he₄ hs₄ => ?_)
  replace hs₄ : Heap.SameBut it h₃ h₄ := hs₄
  replace he₄ : IsItemIter h₄ it d (i + 1) es.size ep es[i].key es[i].val := he₄
  refine wpAny_bind (wpAny_setField_rec he₄ (by simp) fun h₅ he₅ hs₅ => ?_)
  replace hs₅ : Heap.SameBut it h₄ h₅ := hs₅
  replace he₅ : IsItemIterOut h₅ it d (i + 1) es.size ep es[i].key es[i].val hp.objs.size := he₅
  refine wpAny_bind (wpAny_setField_rec he₅ (by simp) fun h₆ he₆ hs₆ => ?_)
  replace hs₆ : Heap.SameBut it h₅ h₆ := hs₆
  replace he₆ : IsItemIterOut h₆ it d (i + 1) es.size ep es[i].key es[i].val hp.objs.size := he₆
  refine wpAny_bind (wpAny_letGo (wpAny_pure (wpAny_pure ⟨_,rfl,wpAny_pure (hQ h₆ he₆ ?_ ?_ ?_)⟩)))
  · exact hs₆.extBut _ _ (Nat.ne_of_gt hil) (hs₅.extBut _ _ (Nat.ne_of_gt hil) (hs₄.extBut _ _ (Nat.ne_of_gt hil) (hs₃.extBut _ _ (Nat.ne_of_gt hil) ht₂)))
  · show h₆.objs.size = hp.objs.size + 1
    rw [hs₆.1,hs₅.1,hs₄.1,hs₃.1,hz₂]
  · exact fun b o hb e => hs₆.extBut b o hb (hs₅.extBut b o hb (hs₄.extBut b o hb (hs₃.extBut b o hb (hk₂ b o hb e))))
theorem wpAny_pyNext_itemsE_end {it d : Addr} {i ep : Nat} {es : Array DictEntry} {ok ov : Value} {Q : Option Value → Shared → Prop} (hh : A.handled = none) (hit : IsItemIter s.heap it d i es.size ep ok ov)
    (hm : (∃ o,s.heap.get? d = some o ∧ o.ExactDict ∧ o.data = .dict es ep)) (hx : es[i]? = none)
    (hQ : ∀ h',Heap.ExtBut it s.heap h' → Q none { s with heap := h' }) : wpAny (model prog w) A (pyNext (.ref it)) Q E s := by
  obtain ⟨od,hod,hcd,hdd⟩ := id hm
  have hT : s.TypeIs (.ref it) "dict_itemiterator" := ⟨_,hit,rfl⟩
  unfold pyNext
  refine wpAny_bind (wpAny_attempt (wpAny_callSpecial?_slot (name := Str.ofString "__next__") hT F.slot_dict_itemiterator_next
    (wpAny_call_entry F.slot_dict_itemiterator_next hT F.entry_dict_itemiterator_next ?_ (F.args_dict_itemiterator_next_1 _))))
  refine wpAny_bind (wpAny_pure ?_)
  refine wpAny_bind ?_
  refine wpAny_bind ?_
  first | refine wpAny_bind (wpAny_typeNameOfWhole_itemiter hT (wpAny_pure ?_)) | refine wpAny_bind (wpAny_typeNameOf_itemiter hT (wpAny_pure ?_))
  refine wpAny_bind (wpAny_fieldsOf hit rfl ?_)
  have hown : Builtin.Dict_items.ownsTuple "dict_itemiterator" = true := by decide
  simp only [hown,if_true]
  show wpAny _ _ (if (Value.ref d == Value.none) = true then _ else _) _ _ s
  rw [if_neg (show ¬ ((Value.ref d == Value.none) = true) from Bool.false_ne_true)]
  refine wpAny_bind (wpAny_pure ?_)
  refine wpAny_bind (wpAny_dictEntries hod hdd ?_)
  have hsz : es.size = es.size := rfl
  rw [if_neg (by simp)]
  refine wpAny_bind (wpAny_pure ?_)
  refine wpAny_bind (wpAny_dictEpoch hod hdd ?_)
  rw [if_neg (by simp)]
  refine wpAny_pure ?_
  have hge : es.size ≤ i := by simpa using hx
  simp only [show ¬ ((i : Int) < 0) from by omega,if_false,Int.toNat_natCast,Array.getElem?_eq_none hge]
  refine wpAny_bind ?_
  first | refine wpAny_bind (wpAny_typeNameOfWhole_itemiter hT (wpAny_pure ?_)) | refine wpAny_bind (wpAny_typeNameOf_itemiter hT (wpAny_pure ?_))
  show wpAny _ _ (setField (.ref it) 2 .none >>= _) _ _ s
  refine wpAny_bind (wpAny_setField hit rfl (by simp) ?_)
  show wpAny _ _ (newExc (.type "StopIteration") [] >>= _) _ _ _
  refine wpAny_bind ?_
  simp only [newExc,newTuple]
  refine wpAny_bind (wpAny_newObj_type ?_ (by size_fits))
  refine wpAny_bind (m := firstArgMember _ _) (wpAny_of_eq (a := Value.none) (by first | rfl | (simp only [firstArgMember]; rfl)) ?_)
  refine wpAny_newObj_type ?_ (by size_fits)
  simp only [raiseNew]
  refine wpAny_bind (wpAny_handled ?_)
  rw [show A.in1.handled = none from hh]
  refine wpAny_bind (wpAny_pure (wpAny_throw ?_))
  refine wpAny_bind (wpAny_isInstance (T := "StopIteration") (b := true) ⟨_,Heap.get?_push_size _ rfl,rfl⟩ isSubtype_stop ?_)
  exact wpAny_pure (hQ _ (((Heap.SameBut.update ..).extBut.push _).push _))
theorem entry_itemiter : entryFor table "dict_itemiterator.__iter__" = some Builtin.«dict_keyiterator.__iter__» :=
  entryFor_alias (id' := "dict_keyiterator.__iter__") (by kernel_rfl) rfl (by decide +kernel) (by kernel_rfl)
theorem wpAny_pyIter_itemiterE {it d : Addr} {i n ep : Nat} {ok ov : Value} {Q : Value → Shared → Prop} (hit : IsItemIter s.heap it d i n ep ok ov) (h : Q (.ref it) s) : wpAny (model prog w) A (pyIter (.ref it)) Q E s := by
  have hT : s.TypeIs (.ref it) "dict_itemiterator" := ⟨_,hit,rfl⟩
  refine wpAny_pyIter_slot hT F.slot_dict_itemiterator_iter (wpAny_call_entry F.slot_dict_itemiterator_iter hT entry_itemiter ?_ (F.args_dict_itemiterator_iter_1 _))
  show wpAny _ _ (ret (.ref it)) _ _ s
  exact wpAny_pure ⟨_,rfl,"dict_itemiterator",_,hT,F.slot_dict_itemiterator_next.lookup,h⟩
theorem itemsE {d : Addr} {o : Obj} {Q : Value → Shared → Prop} (ho : s.heap.get? d = some o) (hc : o.ExactDict) (hz : (d == sysModules) = false) (h : Q (.ref s.heap.objs.size) { s with heap := s.heap.push { cls := .type "dict_items",data := .fields #[.ref d] } }) :
    wpAny (model prog w) A (call (.builtin "dict.items") [.ref d]) Q E s := by
  have ty : s.TypeIs (.ref d) "dict" := ⟨o,ho,hc.1⟩
  refine call_meetsIn (S := fun _ R s' => s' = s ∧ R (.ok (.ret (.ref s.heap.objs.size))) { s with heap := s.heap.push { cls := .type "dict_items", data := .fields #[.ref d] } }) PySem.F.slot_dict_items ty PySem.F.entry_dict_items (PySem.F.args_dict_items_1 _) (.of_wp fun A R s' ⟨e, h⟩ => ?_) ⟨rfl, h⟩
  subst e
  unfold Builtin.«dict.items»
  refine wpAny_bind ?_
  unfold Builtin.Dict.noArgs
  refine wpAny_bind (wpAny_notOrdered_dict ty ?_)
  show wpAny _ _ (pure d) _ _ s'
  refine wpAny_pure ?_
  show wpAny _ _ (Builtin.Dict.showsAll d >>= _) _ _ s'
  unfold Builtin.Dict.showsAll
  rw [if_neg (by rw [hz]; exact Bool.false_ne_true)]
  refine wpAny_bind (wpAny_pure ?_)
  exact wpAny_bind (wpAny_newObj_type (wpAny_pure ⟨_,rfl,h⟩))
end
end PySem
namespace L2
open PySem PySem.Spec PyProof.Rows
def Iti (a : Addr) (ob : Obj) (kvs : List (List Key × V)) : It :=
  ⟨fun i H => i < kvs.length ∧ H a = some (.frz ob (.dT kvs)),fun i H x H' => ∃ p q k v,kvs[i]? = some (k,v) ∧ H p = none ∧ H q = some (.tup (k.map kV)) ∧ x = .ref p ∧ H' = upd H p (.tup [.ref q,v]),fun i H => i = kvs.length ∧ H a = some (.frz ob (.dT kvs))⟩
theorem turn_items {P : Program} {w : World} {K : PySem.W.Frag} {el : List Expr} {kk : Nat} {tp : Pos} (a it : Addr) (ob : Obj) (kvs : List (List Key × V)) (es : Array DictEntry) (ep : Nat) (hx : ob.ExactDict) (hd : ob.data = .dict es ep) (hn : es.size = kvs.length) :
    Turn P w K (.Tuple el kk tp) (Iti a ob kvs) [it] it (fun i h => ∃ ok ov,IsItemIter h it a i es.size ep ok ov) where
  mem := by simp
  obj := fun i h st b hb => by
    have e : b = it := by simpa using hb
    subst e
    obtain ⟨ok,ov,st⟩ := st
    exact ⟨_,st,fun v z => by cases z⟩
  keep := fun i h h' ⟨ok,ov,st⟩ k => ⟨ok,ov,k it (by simp) _ st⟩
  item := by
    intro X hP hw hK hc i pins s σ H E I hf st hg
    subst hP hw hK
    obtain ⟨hi,hH⟩ := hg
    obtain ⟨ok,ov,st⟩ := st
    obtain ⟨h1,_,_,xs,pr,o,es',ep',h2,_,h3,h4,_⟩ := (show ObjOk X.prog X.w H s.heap a (.frz ob (.dT kvs)) from I.hok a _ hH)
    rw [h1] at h2
    cases h2
    rw [hd] at h3
    cases h3
    have hk : kvs[i]? = some kvs[i] := List.getElem?_eq_getElem hi
    obtain ⟨⟨k',q,v'⟩,hy,e1,e2,e3⟩ := pairG pr hk
    have hen : es[i]? = some (entryOfKey (tupleKind (mixKind X.prog X.w)) (k',q,v')) := by
      rw [← Array.getElem?_toList,h4,List.getElem?_map,hy]; rfl
    have il : it < s.heap.objs.size := Heap.lt_size st
    refine wpAny_pyNext_itemsE_item st ⟨ob,h1,hx,hd⟩ hen fun h' b1 b2 b3 bk => ⟨_,rfl,?_⟩
    refine wpAny_letOwnedTupleGo_items (s := { s with heap := h' }) b1 fun h'' c1 cs => ?_
    have cs : Heap.SameBut it h' h'' := cs
    have k2 : ∀ b o,b ∉ [it] → s.heap.get? b = some o → h''.get? b = some o := fun b o hb q => by
      have hb : b ≠ it := by simpa using hb
      exact cs.extBut b o hb (bk b o hb q)
    have I1 : Inv X pins σ H { s with heap := h'' } := I.turnedN (t' := s.toks) hf k2
    have hp := cs.extBut _ _ (Nat.ne_of_gt il) b2
    have hn0 : H s.heap.objs.size = none := I.hok.fresh (Nat.le_refl _)
    have fpk := I.fpOk (H' := H) (Nat.le_refl _) hn0
    have I2 : Inv X pins σ (upd H s.heap.objs.size (.tup [.ref q,kvs[i].2])) { s with heap := h'' } := I1.track fpk I.sz ⟨by show 2 ≤ sizeLine; decide,[.ref q,v'],.cons rfl (.cons e3 .nil),_,hp,rfl,_,rfl⟩
    refine ⟨.ref s.heap.objs.size,_,I2,rfl,⟨_,q,_,_,hk,hn0,e2,rfl,rfl⟩,⟨_,_,c1⟩,fun b hb => ?_⟩
    have e : b = it := by simpa using hb
    subst e
    rw [upd_ne (Nat.ne_of_lt il)]
    exact (hf b hb).1
  done := by
    intro X hP hw hK hc i pins s σ H E I hf st hg
    subst hP hw hK
    obtain ⟨hi,hH⟩ := hg
    obtain ⟨ok,ov,st⟩ := st
    obtain ⟨h1,_⟩ := (show ObjOk X.prog X.w H s.heap a (.frz ob (.dT kvs)) from I.hok a _ hH)
    obtain ⟨f0,f1,f2,f3,f4,f5⟩ := hf it (by simp)
    exact wpAny_pyNext_itemsE_end (I.ok.hd hc) st ⟨ob,h1,hx,hd⟩ (by rw [Array.getElem?_eq_none]; omega) fun h' eb => ⟨rfl,I.turned (t' := s.toks) (fun b o hb e => eb b o hb e) f0 f1 f3 f4 f5⟩
  self := fun A i s Q E ⟨ok,ov,st⟩ h => wpAny_pyIter_itemiterE st h
section
variable {X : Cx}
def iItems (tl : TE) : TI := fun σ H R => tl σ H fun x H1 => ∃ a kvs,x = .ref a ∧ H1 a = some (.dT kvs) ∧ ∀ ob,R (Iti a ob kvs) (upd H1 a (.frz ob (.dT kvs)))
theorem pi_items {l : Expr} {tl : TE} {apos cpos tp : Pos} {el : List Expr} {kk : Nat} (hl : PE X l tl)
    (hbase : attributeBase l "items" X.env (eval l X.env) = eval l X.env := by rfl) (hline : (apos.endLine == cpos.line) = true := by rfl) : PI X (.Tuple el kk tp) (.Call (.Attribute l "items" apos) [] [] cpos) (iItems tl) := by
  intro pins s σ H R I h
  refine wpAny_Call_method0_late hbase hline (thn (hl pins s σ H _ I h) fun v s1 ⟨x,H1,I1,r1,a,kvs,e,hH,q⟩ => ?_)
  subst e
  cases r1
  obtain ⟨hz,hs,xs,pr,o,es,ep,h1,h2,h3,h4,h5⟩ := (show ObjOk X.prog X.w H1 s1.heap a (.dT kvs) from I1.hok a _ hH)
  have hn : es.size = kvs.length := by
    rw [pairL pr,← Array.length_toList,h4,List.length_map]
  have I2 : Inv X pins σ (upd H1 a (.frz o (.dT kvs))) s1 := by
    have := I1.write (x := a) (e := a) (o := .frz o (.dT kvs)) (h' := s1.heap) (t' := s1.toks) (by rw [hH]; trivial) (.inl rfl) (fun b u _ e => e) ⟨o,h1⟩ ⟨h1,hz,hs,xs,?_,o,es,ep,h1,h2,h3,h4,h5⟩
    · exact this
    · refine pairM pr fun p q ⟨e1,e2,e3⟩ => ⟨e1,?_,e3⟩
      rw [upd_ne (fun z => by rw [z,hH] at e2; cases e2)]
      exact e2
  refine ⟨"dict","dict.items",PySem.F.plainAttrs_dict,PySem.F.slot_dict_items,PySem.F.type_dict_items,⟨o,h1,h2.1⟩,(fun b e2 => by cases e2; exact ⟨o,h1,h2.2.1⟩),Calls.callWith_builtin rfl (PySem.evalArgs_none (itemsE h1 h2 hs ?_))⟩
  have h1' : (s1.heap.push { cls := .type "dict_items", data := .fields #[.ref a] }).get? a = some o := Heap.get?_push_of_some _ h1
  refine wpAny_pyIter_itemsE (d := a) (es := es) (ep := ep) ⟨_,Heap.get?_push_size _ rfl,rfl,rfl⟩ ⟨o,h1',h2,h3⟩ ?_
  refine ⟨_,[_],_,_,_,rfl,I2.kept (t' := s1.toks) fun b o e => Heap.get?_push_of_some _ (Heap.get?_push_of_some _ e),turn_items a _ o kvs es ep h2 h3 hn,⟨_,_,Heap.get?_push_size _ rfl⟩,fun b hb => ?_,q o⟩
  have e : b = (s1.heap.push { cls := .type "dict_items",data := .fields #[.ref a] }).objs.size := by simpa using hb
  have hb' : s1.heap.objs.size ≤ b := by rw [e,Heap.size_push]; omega
  exact I2.fpOk hb' (I2.hok.fresh hb')
end
theorem comp_items {a : Addr} {ob : Obj} {kvs : List (List Key × V)} {σ : St} {cap : List Nat} {k : Nat} {g : TG} {tt : TT} {te : TE} {Q : List V → Hp → Prop} {H : Hp} (Pv : Nat → List V → Hp → Prop) (h0 : Pv 0 [] H)
    (hl : ∀ i ys H',i ≤ kvs.length → Pv i ys H' → H' a = some (.frz ob (.dT kvs)))
    (ht : ∀ i kk v p q ys H',kvs[i]? = some (kk,v) → H' p = none → H' q = some (.tup (kk.map kV)) → Pv i ys H' → g (.ref p) (blkSt σ cap k) (upd H' p (.tup [.ref q,v])) fun σ2 H2 => leS (blkSt σ cap k) σ2 ∧ tt σ2 H2 fun ok H3 => if ok = true then te σ2 H3 (fun v H4 => Nx kvs.length Pv i (ys ++ [v]) H4) else Nx kvs.length Pv i ys H3)
    (hz : ∀ i ys H',i < kvs.length → Pv i ys H' → ys.length < sizeLine) (hd : ∀ ys H',Pv kvs.length ys H' → ys.length ≤ sizeLine ∧ Q ys H') : ∃ W,(∃ m,W 0 m [] H) ∧ CompW σ cap k (Iti a ob kvs) g tt te Q W := by
  refine ⟨fun i m ys H' => m = kvs.length - i ∧ i ≤ kvs.length ∧ Pv i ys H',⟨_,rfl,Nat.zero_le _,h0⟩,?_⟩
  rintro i m ys H' ⟨rfl,hi,p⟩
  have q := hl i ys H' hi p
  by_cases hin : i < kvs.length
  · refine .inr ⟨⟨hin,q⟩,hz i ys H' hin p,fun x H2 yl => ?_⟩
    obtain ⟨pa,qa,k',v',e1,e2,e3,e4,e5⟩ := yl
    subst e4 e5
    exact ht i k' v' pa qa ys _ e1 e2 e3 p
  · have e : i = kvs.length := by omega
    subst e
    obtain ⟨a1,a2⟩ := hd ys H' p
    exact .inl ⟨⟨rfl,q⟩,a1,a2⟩
end L2
set_option Elab.async false
set_option linter.all false
set_option maxRecDepth 100000
namespace PySem
open Sem (wp)
theorem lk_list_keys : typeLookup (.type "list") "keys" = pure none := by rw [typeLookup_type,builtinLookup_eq_fast]; kernel_rfl
theorem plain_dul : plainId "dict.update.loop" = true := by decide +kernel
theorem entry_dul : entryFor table "dict.update.loop" = some Builtin.«dict.update.loop» := entryFor_of_fast (by kernel_rfl)
theorem keysQ_list {prog : Program} {w : World} {A : Around} {E : Value → Shared → Prop} {s : Shared} {a : Addr} {o : Obj} {xs : Array Value} {k : Nat} {Q : Option Value → Shared → Prop}
    (hx : s.heap.get? a = some o) (hc : o.cls = .type "list") (hdat : o.data = .seq xs k) (hd : o.dict = none) (hA : A.handled = none)
    (h : ∀ h' tk,(∀ b u,s.heap.get? b = some u → h'.get? b = some u) → Q none { s with heap := h',toks := tk }) :
    wpAny (model prog w) A (getAttr? (.ref a) "keys") Q E s := by
  obtain ⟨c,dct,dat,sl⟩ := o
  simp only at hc hdat hd
  subst hc hdat hd
  obtain ⟨hp,g,d,tk,os⟩ := s
  have hT : ∀ tk', (⟨hp, g, d, tk', os⟩ : Shared).TypeIs (.ref a) "list" := fun _ => ⟨_, hx, rfl⟩
  have f1 := sub_AttributeError
  have f3 := F.slot_list_getattribute.lookup
  have f4 := F.slot_list_getattribute.bind (.ref a)
  have f5 := am_list_getattr_none
  unfold getAttr? getAttrBy? getAttrBy
  repeat (any_goals (first | assumption | exact hT _ | ((with_reducible show wpAny _ _ (call (Value.builtin "list.__getattribute__") _ _) _ _ _); refine call_meets F.slot_list_getattribute (hT _) am_entry_list_getattribute (F.args_list_getattribute_2 _ _) (meets_getattribute_miss_list a xs k sl "keys" _ lk_list_keys (by decide +kernel) (by decide +kernel)) ⟨hx, hA, fun h' tk' e hx' => ?_⟩) | wp_step))
  obtain ⟨t',u',he⟩ := hx'.there
  show wpAny _ _ (getattributeRaised _ _ _ _ _ _ _) _ _ _
  unfold getattributeRaised
  repeat (any_goals (first | assumption | wp_step))
  exact h _ _ hx'.keeps
end PySem
namespace L2
open PySem PySem.Spec PyProof.Rows
section
variable {X : Cx} {pins : List (Addr × Obj)} {σ : St} {H : Hp} {s : Shared} {a b : Addr} {A : Around} {E : Value → Shared → Prop}
theorem d_dictSet {kvs : List (List Key × V)} {k : List Key} {v : V} {r : Value} {Q : Unit → Shared → Prop} (hu : (tupleKind (mixKind X.prog X.w)).room A) (I : Inv X pins σ H s) (e : H a = some (.dT kvs)) (eb : H b = some (.tup (k.map kV))) (l : kvs.length < sizeLine) (rv : RelV v r)
    (h : ∀ h' t',Inv X pins σ (upd H a (.dT (putK kvs k v))) { s with heap := h',toks := t' } → Heap.SameBut a s.heap h' → Q () { s with heap := h',toks := t' }) :
    wpAny (model X.prog X.w) A (dictSet a (.ref b) r) Q E s := by
  obtain ⟨z,hd,xs,rel,dd⟩ := dt_of I.hok e
  have hz : xs.length ≤ sizeLine := by rw [← Paired.length rel]; exact z
  have hl : (putK kvs k v).length ≤ sizeLine := by have := length_putK kvs k v; omega
  refine wpAny_dictSet_heap (hsz := hz) hu (key_of I.hok eb) dd fun h' dd' hs => h _ _ ?_ hs
  obtain ⟨q,es,ep,hq,h2,h3,h4,_,h5⟩ := dd'
  refine d_write I (by rw [e]; exact True.intro) hs ⟨q,hq⟩ ⟨hl,hd,_,(rel.put k eb rv).keeps fun c ys ec => ?_,q,es,ep,hq,h2,h3,h4,h5⟩
  rw [upd_ne (ne_of ec e (fun z => nomatch z))]
  exact ec
def PrAt (H : Hp) (v : V) (x : List Key × V) : Prop := ∃ p q,v = .ref p ∧ H p = some (.tup [.ref q,x.2]) ∧ H q = some (.tup (x.1.map kV))
def putAll (acc : List (List Key × V)) (kvs : List (List Key × V)) : List (List Key × V) := kvs.foldl (fun a x => putK a x.1 x.2) acc
theorem pairs_loop {l d it : Addr} {ps : List V} {kvs : List (List Key × V)} {R : Result → Shared → Prop} (hh : A.in1.handled = none) (hu : (tupleKind (mixKind X.prog X.w)).room A.in1) (hl : H l = some (.lst ps)) (hp : Paired (PrAt H) ps kvs) (hdn : H d = none) (hne : it ≠ d)
    (hf : FpOk X pins H it) (hR : ∀ s',Inv X pins σ (upd H d (.dT (putAll [] kvs))) s' → R (.ok (.ret .none)) s') :
    ∀ (n i : Nat) (s : Shared) (acc : List (List Key × V)),n + i = kvs.length → acc.length ≤ i → putAll acc (kvs.drop i) = putAll [] kvs → Inv X pins σ (upd H d (.dT acc)) s → s.heap.IsListIter it l i →
    codeAny (model X.prog X.w) A (.builtin "dict.update.loop" ⟨[.ref d,.ref it,rawInt i,.none],[]⟩) R s := by
  have up : ∀ {acc c o},H c = some o → (upd H d (.dT acc)) c = some o := fun {acc c o} e => by rw [upd_ne (fun z => by rw [z,hdn] at e; cases e)]; exact e
  have lp := Paired.length hp
  have fp : ∀ acc,FpOk X pins (upd H d (.dT acc)) it := fun acc => ⟨by rw [upd_ne hne]; exact hf.1,hf.2⟩
  intro n
  induction n with
  | zero =>
    intro i s acc hk hac hfold I hit
    obtain ⟨its,rv,p1,_⟩ := I.list (SqL.of (up hl))
    have lv := rv.length
    refine codeAny_builtin entry_dul ?_
    rw [Around.under_plainId plain_dul _]
    show wpAny _ A.in1 (pyNext (.ref it) >>= _) _ _ s
    obtain ⟨f0,f1,f2,f3,f4,f5⟩ := fp acc
    refine wpAny_bind (wpAny_pyNext_list_end hh hit p1.isList (by rw [Array.getElem?_eq_none]; simp; omega) fun h' eb => ?_)
    show wpAny _ A.in1 (Builtin.Dict.addKeywords d [] >>= _) _ _ _
    have I1 : Inv X pins σ (upd H d (.dT acc)) { s with heap := h' } := I.turned (t' := s.toks) (fun b o hb e => eb b o hb e) f0 f1 f3 f4 f5
    have e : putAll [] kvs = acc := by
      rw [← hfold,List.drop_eq_nil_of_le (by omega)]; rfl
    rw [e] at hR
    exact wpAny_bind (wpAny_pure (wpAny_pure (hR _ I1)))
  | succ n ih =>
    intro i s acc hk hac hfold I hit
    have il : i < kvs.length := by omega
    obtain ⟨its,rv,p1,_⟩ := I.list (SqL.of (up hl))
    have hki : kvs[i]? = some kvs[i] := List.getElem?_eq_getElem il
    obtain ⟨v,hv,p,q,rfl,hpq,hq⟩ := Paired.getL hp hki
    obtain ⟨u,hu',r⟩ := rv.get hv
    cases r
    obtain ⟨f0,f1,f2,f3,f4,f5⟩ := fp acc
    refine codeAny_builtin entry_dul ?_
    rw [Around.under_plainId plain_dul _]
    show wpAny _ A.in1 (pyNext (.ref it) >>= _) _ _ s
    refine wpAny_bind (wpAny_pyNext_list_item hit p1.isList (x := .ref p) (by simpa using hu') fun h' hit' sb => ?_)
    have I1 : Inv X pins σ (upd H d (.dT acc)) { s with heap := h' } := I.turned (t' := s.toks) (fun b o hb e => (sb.2 b hb).trans e) f0 f1 f3 f4 f5
    obtain ⟨its2,rv2,⟨ot,ht1,ht2,nt,ht3⟩,_⟩ := I1.tuple (SqT.of (up hpq))
    obtain ⟨u1,u2,rfl,r1,r2⟩ := vals2 rv2
    cases r1
    refine wpAny_bind (wpAny_holding ?_)
    refine wpAny_bind (wpAny_tryCatch ?_)
    unfold Builtin.Dict.pairItems
    refine wpAny_bind (wpAny_typeOf ⟨ot,ht1,ht2⟩ ?_)
    rw [if_pos (by decide)]
    refine wpAny_bind (wpAny_seqItems ht1 ht3 (wpAny_pure ?_))
    show wpAny _ _ (holding [Value.ref q,u2] (dictSet d (.ref q) u2)) _ _ _
    refine wpAny_holding (d_dictSet hu I1 upd_same (up hq) (by have z : ps.length ≤ sizeLine := (show ObjOk X.prog X.w _ s.heap l (.lst ps) from I.hok l _ (up hl)).1; omega) r2 fun h2 t2 I2 sb2 => ?_)
    have eq : upd (upd H d (.dT acc)) d (.dT (putK acc kvs[i].1 kvs[i].2)) = upd H d (.dT (putK acc kvs[i].1 kvs[i].2)) := upd_upd
    rw [eq] at I2
    refine wpAny_pure ⟨plainId_quiet plain_dul _,?_⟩
    rw [show rawInt ((i : Int) + 1) = rawInt ((i + 1 : Nat) : Int) by rw [Int.natCast_add]; rfl]
    refine ih (i + 1) _ _ (by omega) (by have := length_putK acc kvs[i].1 kvs[i].2; omega) ?_ I2 (hit'.at fun o e => (sb2.2 it hne).trans e)
    rw [← hfold,List.drop_eq_getElem_cons il]
    rfl
theorem call_dictP (hc : X.calm = true) (hu : X.A.units + 2 < cLine) : CallR X (.type "dict") (fun xs H Q => ∃ l ps kvs,xs = [V.ref l] ∧ H l = some (.lst ps) ∧ Paired (PrAt H) ps kvs ∧ ∀ p,H p = none → Q (.ref p) (upd H p (.dT (putAll [] kvs)))) := by
  intro pins s σ H xs us Q I r h
  obtain ⟨l,ps,kvs,rfl,hl,hp,q⟩ := h
  obtain ⟨u,rfl,ru⟩ := vals1 r
  cases ru
  refine callType_codes (Q₁ := fun obj s₁ => obj = .ref s.heap.objs.size ∧ s₁ = { s with heap := s.heap.push { cls := .type "dict",data := .dict #[] } }) F.kt_called_dict (F.kt_typeCall_dict_1 _) F.entry_dict_init (kt_code_dict_new _ ⟨rfl,rfl⟩) ?_
  rintro obj s₁ ⟨rfl,rfl⟩
  have hf := I.hok.fresh (Nat.le_refl s.heap.objs.size)
  have hn0 : (s.heap.push { cls := .type "dict",data := .dict #[] }).get? s.heap.objs.size = some { cls := .type "dict",data := .dict #[] } := Heap.get?_push_size _ rfl
  have tyn : Shared.TypeIs { s with heap := s.heap.push { cls := .type "dict",data := .dict #[] } } (.ref s.heap.objs.size) "dict" := ⟨_,hn0,rfl⟩
  have I1 : Inv X pins σ (upd H s.heap.objs.size (.dT [])) { s with heap := s.heap.push { cls := .type "dict", data := .dict #[] } } := I.laid (a := s.heap.objs.size) (o := .dT []) (t' := s.toks) (fun b u e => Heap.get?_push_of_some _ e) (Nat.le_refl _) ⟨Nat.zero_le _, beq_eq_false_iff_ne.mpr (Ne.symm (Nat.ne_of_lt I.big)), [], .nil, _, #[], 0, hn0, ⟨rfl, rfl, rfl⟩, rfl, rfl, .nil⟩
  have up : ∀ {c o},H c = some o → (upd H s.heap.objs.size (.dT [])) c = some o := fun {c o} e => by rw [upd_ne (fun z => by rw [z,hf] at e; cases e)]; exact e
  obtain ⟨z0,its,cn,rv,hlo⟩ := (show ObjOk X.prog X.w _ _ l (.lst ps) from I1.hok l _ (up hl))
  refine ⟨tyn,F.args_dict_init_2 _ _,?_⟩
  unfold Builtin.«dict.__init__»
  refine wpAny_bind ?_
  unfold Builtin.Dict.selfAndRest
  refine wpAny_bind (wpAny_notOrdered_dict tyn ?_)
  show wpAny _ _ (pure (s.heap.objs.size,[Value.ref l])) _ _ _
  refine wpAny_pure ?_
  show wpAny _ _ (Builtin.Dict.updateFrom "dict.__init__" s.heap.objs.size (.ref l) [] .none) _ _ _
  unfold Builtin.Dict.updateFrom
  refine wpAny_bind (wpAny_typeOf ⟨_,hlo,rfl⟩ ?_)
  rw [if_pos (by decide)]
  refine wpAny_bind (keysQ_list hlo rfl rfl rfl (I.ok.hd hc) fun h2 t2 k2 => ?_)
  rw [if_pos (by rfl)]
  have I2 : Inv X pins σ (upd H s.heap.objs.size (.dT [])) { s with heap := h2,toks := t2 } := I1.kept (t' := t2) k2
  refine wpAny_bind (wpAny_rule ?_)
  refine wpAny_bind (wpAny_pyIter_list (l := l) (items := its.toArray) (s := { s with heap := h2,toks := t2 }) ⟨_,k2 _ _ hlo,rfl,_,rfl⟩ ?_)
  have I3 : Inv X pins σ (upd H s.heap.objs.size (.dT [])) { s with heap := h2.push { cls := .type "list_iterator", data := .fields #[.ref l, .int 0 0] }, toks := t2 } := I2.kept (t' := t2) fun b u e => Heap.get?_push_of_some _ e
  have big : s.heap.objs.size < h2.objs.size := by
    have := Heap.lt_size (k2 _ _ hn0)
    exact this
  refine wpAny_pure ⟨plainId_quiet plain_dul _,?_⟩
  refine pairs_loop (X := X) (A := X.A.in1) (I.ok.hd hc) (show X.A.units + 1 + 1 < cLine from hu) hl hp hf (Nat.ne_of_gt big) (I2.fpOk (H' := H) (Nat.le_refl _) (I.hok.fresh (Nat.le_of_lt big))) (fun s' I' => ?_) kvs.length 0 _ [] (by omega) (Nat.le_refl _) rfl I3 ⟨_,Heap.get?_push_size _ rfl,rfl,rfl⟩
  exact ⟨rfl,.ref s.heap.objs.size,_,I',rfl,q _ hf⟩
theorem putAll_nodup : ∀ (kvs acc : List (List Key × V)),(∀ x ∈ kvs,x.1 ∉ acc.map (·.1)) → (kvs.map (·.1)).Nodup → putAll acc kvs = acc ++ kvs
  | [],acc,_,_ => (List.append_nil acc).symm
  | x :: kvs,acc,h,hn => by
    have hn' := List.nodup_cons.mp hn
    have e : putK acc x.1 x.2 = acc ++ [x] := by
      refine putK_new x.2 ?_
      cases ev : valV acc x.1 with
      | none => rfl
      | some v =>
        exact absurd (valV_in ev) (h x List.mem_cons_self)
    show putAll (putK acc x.1 x.2) kvs = acc ++ x :: kvs
    rw [e,putAll_nodup kvs (acc ++ [x]) (fun y hy => ?_) hn'.2,List.append_assoc]
    · rfl
    · rw [List.map_append]
      intro z
      rcases List.mem_append.mp z with z | z
      · exact h y (List.mem_cons_of_mem _ hy) z
      · have z : y.1 = x.1 := by simpa using z
        exact hn'.1 (List.mem_map.mpr ⟨y,hy,z⟩)
end
end L2
set_option Elab.async false
set_option linter.all false
set_option maxRecDepth 100000
namespace Pc
open PySem L2
def top (i : Nat) : Stmt := PySem.Challenge.pw_platecuts_k44_tables_that_bear.main.body.getD i (.Pass ⟨0,0,0,0⟩)
abbrev sWhole : Stmt := top 10
abbrev sTruth : Stmt := top 11
abbrev sRow : Stmt := top 12
abbrev sCheckPlate : Stmt := top 13
abbrev sCheckSides : Stmt := top 14
abbrev sLiesIn : Stmt := top 18
abbrev sLyingsIn : Stmt := top 19
abbrev sCutParts : Stmt := top 20
abbrev sCutsOf : Stmt := top 21
abbrev sPartsUpTo : Stmt := top 22
abbrev sIsKey : Stmt := top 25
abbrev sIsTable : Stmt := top 26
abbrev sBearsPart : Stmt := top 27
abbrev sBears : Stmt := top 28
abbrev sIsKind : Stmt := top 32
abbrev sTurned : Stmt := top 33
abbrev sShopInit : Stmt := inClass (top 34) 0
abbrev sShopBlade : Stmt := inClass (top 34) 1
abbrev sShopKinds : Stmt := inClass (top 34) 2
abbrev sShopWanted : Stmt := inClass (top 34) 3
abbrev sShopLyings : Stmt := inClass (top 34) 4
abbrev sShopIsLying : Stmt := inClass (top 34) 5
abbrev sShopSides : Stmt := inClass (top 34) 6
abbrev sPot : Stmt := top 36
abbrev sDraw : Stmt := top 37
abbrev sGreat : Stmt := top 38
abbrev sBlade : Stmt := top 39
abbrev sSide : Stmt := top 40
abbrev sNumber : Stmt := top 41
abbrev sKinds : Stmt := top 42
abbrev sPlate : Stmt := top 43
abbrev sFitting : Stmt := top 44
abbrev sDue : Stmt := top 45
abbrev sParts : Stmt := top 46
abbrev sTable : Stmt := top 47
abbrev sLBears : Stmt := top 48
abbrev sRight : Stmt := top 49
abbrev sAsked : Stmt := top 50
abbrev sLaw : Stmt := top 51
section
variable {P : Program} {w : World} {K : PySem.W.Frag} {mg : Str → Option Value} {base : Heap}
structure Blt (mg : Str → Option Value) : Prop where
  isi : mg "isinstance" = none
  int : mg "int" = none
  bool : mg "bool" = none
  list : mg "list" = none
  tuple : mg "tuple" = none
  len : mg "len" = none
  range : mg "range" = none
  max : mg "max" = none
  min : mg "min" = none
  abs : mg "abs" = none
  divmod : mg "divmod" = none
  sum : mg "sum" = none
  sorted : mg "sorted" = none
  all : mg "all" = none
  repr : mg "repr" = none
  zip : mg "zip" = none
  enumerate : mg "enumerate" = none
  mostk : ∃ t,mg "MOST_KINDS" = some (.int 8 t)
  fivek : ∃ t,mg "THINGS_OF_A_KIND" = some (.int 5 t)
end
theorem put1 {p c : Addr} {H0 H : Hp} {o : HO} (b : But p H0 H) (pt : PotB H p) (h : H c = none) : ∃ H',upd H c o = H' ∧ H' c = some o ∧ c ≠ p ∧ Same H H' ∧ But p H0 H' ∧ PotB H' p :=
  ⟨_,rfl,upd_same,Ne.symm (pt.ne h),Same.new h,b.trans (But.new h),pt.new h⟩
theorem seqCut {t u : TS} {D : Ends} {σ : St} {H : Hp} (J : St → Hp → Prop) (h1 : ∀ R : St → Hp → Prop,(∀ σ' H',J σ' H' → R σ' H') → t { D with nx := R } σ H) (h2 : ∀ σ' H',J σ' H' → u D σ' H') : tSeq t u D σ H := h1 _ h2
section
variable {P : Program} {w : World} {K : PySem.W.Frag} {mg : Str → Option Value} {base : Heap}
theorem scWhole : FnScope ["thing","least"] ["thing","least"] (defScope sWhole) := ⟨rfl,rfl,rfl,by decide +kernel,rfl,by decide +kernel,by decide +kernel⟩
theorem ok_whole {f : Addr} {fd : FuncData} (F : Fun K "is_whole" "is_whole" sWhole f fd) (B : Blt mg) : FnOk P w K mg base CX0 1 f fd ["thing","least"] (spWhole K) := by
  refine F.ok scWhole (fun vs H Q E h => ?_) (fun cdv A outer s H vs Q E hr h => ?_)
  · obtain ⟨x,T,l,rfl,_⟩ := h
    rfl
  obtain ⟨x,T,l,rfl,⟨tn,ty⟩,q⟩ := h
  refine ⟨_,pss_one (ps_ret (pe_and (pe_callB call_isinst rfl B.isi PyProof.Rows.boot_isinstance (pa_cons (pv 0) (pa_cons (pe_bltn (v := .ty "int") rfl B.int PyProof.Rows.boot_int rfl) pa_nil)))
    (pe_and (pe_not (pe_callB call_isinst rfl B.isi PyProof.Rows.boot_isinstance (pa_cons (pv 0) (pa_cons (pe_bltn (v := .ty "bool") rfl B.bool PyProof.Rows.boot_bool rfl) pa_nil))))
    (pe_one (pe_cmpR op_ge (pv 0) (pv 1) (nomark _)))))),?_⟩
  refine ⟨_,rfl,x,_,_,_,_,rfl,ty,rfl,kit_int T tn,_,rfl,?_⟩
  have tb := ty_bool ty
  refine ite2 (fun c => ?_) (fun c => ?_)
  · refine ⟨_,rfl,x,_,_,_,_,rfl,ty,rfl,kit_bool T tn,_,rfl,_,rfl,?_⟩
    refine ite2 (fun c2 => ?_) (fun c2 => ?_)
    · have hT : (T == "int") = true := by
        have : (T == "bool") = false := by simpa using c2
        rw [this,Bool.or_false] at c; exact c
      obtain ⟨i,rfl⟩ := ty_int ty tn hT
      exact ⟨_,rfl,_,rfl,_,_,rfl,rfl,q⟩
    · have hT : isBl x = true := by
        rw [← tb]
        cases e : (T == "bool") with
        | true => rfl
        | false => rw [e] at c2; exact absurd rfl c2
      cases x <;> first | exact q | (exact absurd hT Bool.false_ne_true)
  · have hx : whole x l = false := by
      cases x with
      | int i =>
        exfalso
        have ty' := ty
        generalize hv : Value.type T = tv at ty'
        cases ty' with
        | int => cases hv; exact c rfl
      | _ => rfl
    rw [hx] at q
    exact q
theorem scTruth : FnScope ["thing"] ["thing"] (defScope sTruth) := ⟨rfl,rfl,rfl,by decide +kernel,rfl,by decide +kernel,by decide +kernel⟩
theorem ok_truth {f : Addr} {fd : FuncData} (F : Fun K "is_truth" "is_truth" sTruth f fd) (B : Blt mg) : FnOk P w K mg base CX0 1 f fd ["thing"] (spTruth K) := by
  refine F.ok scTruth (fun vs H Q E h => ?_) (fun cdv A outer s H vs Q E hr h => ?_)
  · obtain ⟨x,T,rfl,_⟩ := h
    rfl
  obtain ⟨x,T,rfl,⟨tn,ty⟩,q⟩ := h
  refine ⟨_,pss_one (ps_ret (pe_callB call_isinst rfl B.isi PyProof.Rows.boot_isinstance (pa_cons (pv 0) (pa_cons (pe_bltn (v := .ty "bool") rfl B.bool PyProof.Rows.boot_bool rfl) pa_nil)))),?_⟩
  refine ⟨_,rfl,x,_,_,_,_,rfl,ty,rfl,kit_bool T tn,?_⟩
  rw [ty_bool ty]
  exact q
theorem scRow : FnScope ["thing"] ["thing"] (defScope sRow) := ⟨rfl,rfl,rfl,by decide +kernel,rfl,by decide +kernel,by decide +kernel⟩
theorem ok_row {f : Addr} {fd : FuncData} (F : Fun K "is_row" "is_row" sRow f fd) (B : Blt mg) : FnOk P w K mg base CX0 1 f fd ["thing"] (spRow K) := by
  refine F.ok scRow (fun vs H Q E h => ?_) (fun cdv A outer s H vs Q E hr h => ?_)
  · obtain ⟨x,T,rfl,_⟩ := h
    rfl
  obtain ⟨x,T,rfl,ty,q⟩ := h
  refine ⟨_,pss_one (ps_ret (pe_callB call_isinstT rfl B.isi PyProof.Rows.boot_isinstance (pa_cons (pv 0) (pa_cons (pe_tup (pa_cons (pe_bltn (v := .ty "list") rfl B.list PyProof.Rows.boot_list rfl) (pa_cons (pe_bltn (v := .ty "tuple") rfl B.tuple PyProof.Rows.boot_tuple rfl) pa_nil))) pa_nil)))),?_⟩
  refine ⟨_,rfl,(by show 2 ≤ sizeLine; decide),fun p hp => ?_⟩
  have s1 : Same H (upd H p (.tup [.ty "list",.ty "tuple"])) := fun b o e => by rw [upd_ne (ne_of_none e hp)]; exact e
  have t2 := Ty.same s1 ty
  exact ⟨x,p,_,_,_,_,rfl,t2.2,upd_same,rfl,kit_row T ty.1,q _ s1⟩
theorem scIsKind : FnScope ["thing","wide","high","worth","wanted","turns"] ["thing"] (defScope sIsKind) := ⟨rfl,rfl,rfl,by decide +kernel,rfl,by decide +kernel,by decide +kernel⟩
theorem ok_iskind {f : Addr} {fd : FuncData} (F : Fun K "is_kind" "is_kind" sIsKind f fd) (B : Blt mg) (DW : Dn P w K mg base "is_whole" ["thing","least"] 1 (spWhole K)) (DT : Dn P w K mg base "is_truth" ["thing"] 1 (spTruth K)) (DR : Dn P w K mg base "is_row" ["thing"] 1 (spRow K)) :
    FnOk P w K mg base CX0 2 f fd ["thing"] (spIsKind K) := by
  refine F.ok scIsKind (fun vs H Q E h => ?_) (fun cdv A outer s H vs Q E hr h => ?_)
  · obtain ⟨x,T,rfl,_⟩ := h
    rfl
  obtain ⟨x,T,rfl,ty,q⟩ := h
  obtain ⟨tk,htk⟩ := B.fivek
  have nd := scIsKind.nd
  refine ⟨_,pss_cons (ps_if (PW.pt (pw_or (pt_not (pt_val (pe_cD DR hr rfl (pa_cons (pv 0) pa_nil)))) (pw_or1 (pt_cmpR op_ne (pe_callB call_len_seq rfl B.len PySem.boot_len (pa_cons (pv 0) pa_nil)) (pe_glob (v := .int 5) rfl htk ⟨tk,rfl⟩) (nomark _))))) (pss_one (ps_ret pe_bl)) pss_nil)
    (pss_cons (ps_asg (pv 0) (pg_seq rfl (pgs_cons (pg_name (i := 1) nd rfl (Or.inl rfl)) (pgs_cons (pg_name (i := 2) nd rfl (Or.inl rfl)) (pgs_cons (pg_name (i := 3) nd rfl (Or.inl rfl)) (pgs_cons (pg_name (i := 4) nd rfl (Or.inl rfl)) (pgs_cons (pg_name (i := 5) nd rfl (Or.inl rfl)) pgs_nil)))))))
    (pss_cons (ps_if (PW.pt (pw_or (pt_not (pt_val (pe_cD DW hr rfl (pa_cons (pv 1) (pa_cons pe_int pa_nil))))) (pw_or1 (pt_not (pt_val (pe_cD DW hr rfl (pa_cons (pv 2) (pa_cons pe_int pa_nil)))))))) (pss_one (ps_ret pe_bl)) pss_nil)
    (pss_one (ps_ret (pe_and (pe_cD DW hr rfl (pa_cons (pv 3) (pa_cons pe_int pa_nil))) (pe_and (pe_cD DW hr rfl (pa_cons (pv 4) (pa_cons pe_int pa_nil))) (pe_one (pe_cD DT hr rfl (pa_cons (pv 5) pa_nil))))))))),?_⟩
  refine ⟨_,rfl,x,T,rfl,ty,fun H1 s1 => ⟨_,rfl,?_⟩⟩
  rcases q with ⟨n1,n2,q⟩ | ⟨a,xs,rfl,hx,its,q⟩
  · have e : (T == "list" || T == "tuple") = false := by simp [n1,n2]
    rw [e]
    refine iteT (iteT ?_)
    exact q H1 s1
  · have e : (T == "list" || T == "tuple") = true := by
      have t2 := ty.2
      generalize hv : Value.type T = tv at t2
      generalize hr : V.ref a = rv at t2
      cases t2 with
      | lst _ => cases hv; rfl
      | frz _ => cases hv; rfl
      | tup _ => cases hv; rfl
      | dK e => cases hr; rcases hx with z | z <;> (rw [z] at e; cases e)
      | dT e => cases hr; rcases hx with z | z <;> (rw [z] at e; cases e)
      | ins => cases hv
      | _ => cases hr
    rw [e]
    have sq : SqL K H1 a xs ∨ SqT K H1 a xs := by
      rcases hx with z | z
      · exact .inl (SqL.of (s1 _ _ z))
      · exact .inr (SqT.of (s1 _ _ z))
    refine iteF ⟨_,rfl,a,xs,rfl,sq,rfl,_,rfl,?_⟩
    refine ite2 (fun c => ?_) (fun c => ?_)
    · have hl : xs.length ≠ 5 := fun z => by rw [z] at c; exact absurd c (by decide)
      have : kind5 xs = false := by
        unfold kind5
        split
        · exact absurd rfl hl
        · rfl
      rw [this] at q
      exact q H1 s1
    · have hl : xs.length = 5 := by
        by_cases z : xs.length = 5
        · exact z
        · exfalso
          apply c
          have : ¬ (V.int (xs.length : Int) = V.int 5) := fun h => z (by have := V.int.inj h; omega)
          rw [decide_eq_false this]; rfl
      obtain ⟨x1,x2,x3,x4,x5,rfl⟩ : ∃ x1 x2 x3 x4 x5,xs = [x1,x2,x3,x4,x5] := by
        match xs,hl with
        | [a,b,c,d,e],_ => exact ⟨a,b,c,d,e,rfl⟩
      obtain ⟨T1,t1⟩ := its x1 (by simp)
      obtain ⟨T2,t2⟩ := its x2 (by simp)
      obtain ⟨T3,t3⟩ := its x3 (by simp)
      obtain ⟨T4,t4⟩ := its x4 (by simp)
      obtain ⟨T5,t5⟩ := its x5 (by simp)
      refine ⟨_,rfl,a,_,rfl,sq,rfl,x1,_,rfl,x2,_,rfl,x3,_,rfl,x4,_,rfl,x5,_,rfl,rfl,?_⟩
      refine ⟨_,rfl,x1,T1,1,rfl,Ty.same s1 t1,_,rfl,?_⟩
      have q' : ∀ b,kind5 [x1,x2,x3,x4,x5] = b → Q (.bl b) H1 := fun b e => by rw [← e]; exact q H1 s1
      have k5 : kind5 [x1,x2,x3,x4,x5] = (whole x1 1 && whole x2 1 && whole x3 0 && whole x4 0 && isBl x5) := rfl
      cases w1 : whole x1 1 with
      | false =>
        refine iteT (iteT ?_)
        exact q' false (by rw [k5,w1]; rfl)
      | true =>
        refine iteF ⟨_,rfl,x2,T2,1,rfl,Ty.same s1 t2,_,rfl,?_⟩
        cases w2 : whole x2 1 with
        | false =>
          refine iteT ?_
          exact q' false (by rw [k5,w1,w2]; rfl)
        | true =>
          refine iteF ⟨_,rfl,x3,T3,0,rfl,Ty.same s1 t3,_,rfl,?_⟩
          cases w3 : whole x3 0 with
          | false =>
            refine iteF ?_
            exact q' false (by rw [k5,w1,w2,w3]; rfl)
          | true =>
            refine iteT ⟨_,rfl,x4,T4,0,rfl,Ty.same s1 t4,_,rfl,?_⟩
            cases w4 : whole x4 0 with
            | false =>
              refine iteF ?_
              exact q' false (by rw [k5,w1,w2,w3,w4]; rfl)
            | true =>
              refine iteT ⟨_,rfl,x5,T5,rfl,Ty.same s1 t5,?_⟩
              exact q' _ (by rw [k5,w1,w2,w3,w4]; rfl)
end
section
variable {P : Program} {w : World} {K : PySem.W.Frag} {mg : Str → Option Value} {base : Heap}
theorem scInit : FnScope ["self","blade","kinds","kind"] ["self","blade","kinds"] (defScope sShopInit) := ⟨rfl,rfl,rfl,by decide +kernel,rfl,by decide +kernel,by decide +kernel⟩
theorem ok_init {f C : Addr} {fd : FuncData} (F : Fun K "__init__" "Shop.__init__" sShopInit f fd) (B : Blt mg) (T : ShopTxt K C) (DW : Dn P w K mg base "is_whole" ["thing","least"] 1 (spWhole K)) (DR : Dn P w K mg base "is_row" ["thing"] 1 (spRow K))
    (DK : Dn P w K mg base "is_kind" ["thing"] 2 (spIsKind K)) : FnOk P w K mg base CX0 3 f fd ["self","blade","kinds"] (spInit C) := by
  refine F.ok scInit (fun vs H Q E h => ?_) (fun cdv A outer s H vs Q E hr h => ?_)
  · obtain ⟨x,dx,ks,b,rs,kds,rfl,_⟩ := h
    rfl
  obtain ⟨x,dx,ks,b,rs,kds,rfl,hx,b0,hks,hrs,hgd,n1,n8,q⟩ := h
  have hr1 := hr.mono (show 1 ≤ 2 by decide)
  obtain ⟨tk,htk⟩ := B.mostk
  have nd := scInit.nd
  have n8' : (8 : Nat) < sizeLine := by decide
  refine ⟨_,pss_cons (ps_if (pt_not (pt_val (pe_cD DW hr1 rfl (pa_cons (pv 1) (pa_cons pe_int pa_nil))))) pss_never pss_nil)
    (pss_cons (ps_if (PW.pt (pw_or (pt_not (pt_val (pe_cD DR hr1 rfl (pa_cons (pv 2) pa_nil)))) (pw_or1 (pt_not (pt_chain op_le op_le pe_int (pe_callB call_len_seq rfl B.len PySem.boot_len (pa_cons (pv 2) pa_nil)) (pe_glob (v := .int 8) rfl htk ⟨tk,rfl⟩)))))) pss_never pss_nil)
    (pss_cons (ps_for PassesOwn.never rfl (pi_seq (pv 2)) (pg_name (i := 3) nd rfl (Or.inl rfl)) (pss_one (ps_if (pt_not (pt_val (pe_cD DK hr rfl (pa_cons (pv 3) pa_nil)))) pss_never pss_nil)))
    (pss_cons (ps_fld (pv 0) (pv 1) rfl)
    (pss_one (ps_fld (pv 0) (pe_callTy call_tuple_of rfl B.tuple PyProof.Rows.boot_tuple (pa_cons (pe_comp (own := ["kind"]) (cs := []) (cap := []) rfl (pi_seq (pv 2))
      (compOk_of (sc := defScope sShopInit) (N := ["self","blade","kinds","kind"]) rfl rfl (by decide +kernel))
      (fun _ _ _ _ _ => pg_name (i := 0) (by show List.Nodup (["kind"] : List Str); decide +kernel) rfl (Or.inl rfl) (Or.inr rfl)) (fun _ _ _ _ _ => pifs_nil)
      (fun _ _ _ _ _ => pe_callTy (r := rTupleOf K) call_tuple_of rfl B.tuple PyProof.Rows.boot_tuple (pa_cons (pv 0) pa_nil))) pa_nil)) rfl))))),?_⟩
  refine ⟨_,rfl,.int b,_,0,rfl,.int,_,rfl,?_⟩
  have wb : whole (.int b) 0 = true := decide_eq_true b0
  rw [wb]
  refine iteF ?_
  have tyk : ∃ T,Ty K H (.ref ks) T ∧ (T == "list" || T == "tuple") = true := by
    rcases hks with e | e
    · exact ⟨_,.lst e,rfl⟩
    · exact ⟨_,.tup e,rfl⟩
  obtain ⟨T0,ty0,te0⟩ := tyk
  refine ⟨_,rfl,.ref ks,T0,rfl,ty0,fun H1 s1 => ⟨_,rfl,?_⟩⟩
  rw [te0]
  have sq : ∀ {H2 : Hp},Same H H2 → SqL K H2 ks rs ∨ SqT K H2 ks rs := fun s2 => by
    rcases hks with z | z
    · exact .inl (SqL.of (s2 _ _ z))
    · exact .inr (SqT.of (s2 _ _ z))
  refine iteF ⟨_,rfl,ks,rs,rfl,sq s1,_,_,rfl,rfl,_,rfl,?_⟩
  rw [decide_eq_true (show (1 : Int) ≤ (rs.length : Int) by omega)]
  refine iteT ⟨_,_,rfl,rfl,_,rfl,?_⟩
  rw [decide_eq_true (show (rs.length : Int) ≤ 8 by omega)]
  refine iteF ?_
  have len2 := Paired.length hrs
  refine for_seqV (j := 2) (a := ks) (xs := rs) rfl (hks.imp (fun z => s1 _ _ z) fun z => s1 _ _ z) (fun i σ H2 => ∃ v,σ = [some (.ref x),some (.int b),some (.ref ks),v] ∧ Same H1 H2) ⟨none,rfl,Same.refl _⟩ (fun i σ H2 _ ⟨_,_,s2⟩ o e => s2 _ _ e) ?_ ?_
  · rintro i y σ H2 hi ⟨v,rfl,s2⟩
    obtain ⟨k,hk,rk⟩ := Paired.getR hrs hi
    refine ⟨_,rfl,?_⟩
    simp only [tNil,List.append_nil]
    refine isKind_of ((rk.same s1).same s2) (hgd k (List.mem_of_getElem? hk)) fun H3 s3 => ⟨_,rfl,iteF ?_⟩
    exact ⟨_,rfl,s2.trans s3⟩
  rintro σ H2 ⟨v,rfl,s12⟩
  have s2 : Same H H2 := s1.trans s12
  refine ⟨_,rfl,_,rfl,x,C,dx,[],rfl,s2 _ _ hx,T.cl,T.nB,(by show 0 < 1000; decide),?_⟩
  have k3 : ∀ c o,c ≠ x → H c = some o → (upd H2 x (.ins C dx (putF "blade_width" (.int b) []))) c = some o := fun c o n e => by rw [upd_ne n]; exact s2 c o e
  have x3 : (upd H2 x (.ins C dx (putF "blade_width" (.int b) []))) x = some (.ins C dx (putF "blade_width" (.int b) [])) := upd_same
  generalize upd H2 x (.ins C dx (putF "blade_width" (.int b) [])) = H3 at k3 x3 ⊢
  have rx : ∀ c xs,H c = some (.lst xs) ∨ H c = some (.tup xs) → c ≠ x := fun c xs e z => by
    subst z
    rcases e with e | e <;> (rw [hx] at e; cases e)
  dsimp only [sFld,tCB,tCons]
  refine comp_seqV (j := 2) (a := ks) (xs := rs) rfl (hks.imp (fun z => k3 _ _ (rx _ _ (.inl z)) z) fun z => k3 _ _ (rx _ _ (.inr z)) z) (fun i ys H4 => ys.length = i ∧ Same H3 H4 ∧ Tups H4 ys (kds.take i)) (fun i ys H4 _ ⟨_,s4,_⟩ o e => s4 _ _ e) ⟨rfl,Same.refl _,.nil⟩ ?_ ?_
  · rintro i y ys H4 hi ⟨hy,s4,ty4⟩
    have hin : i < rs.length := (List.getElem?_eq_some_iff.mp hi).1
    obtain ⟨k,hk,rk⟩ := Paired.getR hrs hi
    have tk1 : kds.take (i + 1) = kds.take i ++ [k] := by rw [List.take_add_one,hk]; rfl
    refine ⟨by omega,leS.set rfl,tYes_ite ?_⟩
    rcases rk with ⟨a,rfl,h⟩ | ⟨a,rfl,h⟩
    · have h4 := s4 _ _ (k3 _ _ (rx _ _ (.inr h)) h)
      exact ⟨_,rfl,a,_,rfl,.inr ⟨SqT.of h4,Nx.of hin ⟨by rw [List.length_append,hy]; rfl,s4,by rw [tk1]; exact Paired.snoc ty4 ⟨a,rfl,h4⟩⟩⟩⟩
    · have h4 := s4 _ _ (k3 _ _ (rx _ _ (.inl h)) h)
      refine ⟨_,rfl,a,_,rfl,.inl ⟨SqL.of h4,fun l hl => Nx.of hin ⟨by rw [List.length_append,hy]; rfl,fun c o e => ?_,?_⟩⟩⟩
      · have e4 := s4 c o e
        rw [upd_ne (ne_of_none e4 hl)]; exact e4
      · rw [tk1]
        exact Paired.snoc (Tups.keep (fun c xs e => by rw [upd_ne (ne_of_none e hl)]; exact e) ty4) ⟨l,rfl,upd_same⟩
  rintro ys H4 ⟨hy,s4,ty4⟩
  refine ⟨by omega,fun p hp => ?_⟩
  refine ⟨p,ys,rfl,.inl ⟨SqL.of upd_same,fun r hr' => ?_⟩⟩
  have hpr : r ≠ p := fun z => by rw [z,upd_same] at hr'; cases hr'
  have hr4 : H4 r = none := by rw [upd_ne hpr] at hr'; exact hr'
  have x4 := s4 _ _ x3
  have xp : x ≠ p := ne_of_none x4 hp
  have xr : x ≠ r := ne_of_none x4 hr4
  refine ⟨_,rfl,x,C,dx,_,rfl,(by rw [upd_ne xr,upd_ne xp]; exact x4),T.cl,T.nK,(Nat.lt_of_le_of_lt (length_putF _ _ _) (by decide)),?_⟩
  rw [len2,List.take_length] at ty4
  refine q _ ⟨dx,r,ys,upd_same,by rw [upd_ne (Ne.symm xr),upd_same],?_⟩ fun c o n e => ?_
  · refine Tups.keep (fun c xs e => ?_) ty4
    rw [upd_ne (fun z => by rw [z,x4] at e; cases e),upd_ne (ne_of_none e hr4),upd_ne (ne_of_none e hp)]
    exact e
  · have e4 := s4 _ _ (k3 c o n e)
    rw [upd_ne n,upd_ne (ne_of_none e4 hr4),upd_ne (ne_of_none e4 hp)]
    exact e4
theorem scBlade : FnScope ["self"] ["self"] (defScope sShopBlade) := ⟨rfl,rfl,rfl,by decide +kernel,rfl,by decide +kernel,by decide +kernel⟩
theorem ok_blade {f C : Addr} {fd : FuncData} (F : Fun K "blade" "Shop.blade" sShopBlade f fd) (T : ShopTxt K C) : FnOk P w K mg base CX0 1 f fd ["self"] (spBlade C) := by
  refine F.ok scBlade (fun vs H Q E h => ?_) (fun cdv A outer s H vs Q E hr h => ?_)
  · obtain ⟨x,b,ks,rfl,_⟩ := h
    rfl
  obtain ⟨x,b,ks,rfl,⟨dx,r,rs,h1,h2,h3⟩,q⟩ := h
  exact ⟨_,pss_one (ps_ret (pe_fld (pv 0) rfl)),_,rfl,x,C,dx,_,_,rfl,h1,T.cl,T.nB,flds_blade _ _,q⟩
theorem scKinds : FnScope ["self"] ["self"] (defScope sShopKinds) := ⟨rfl,rfl,rfl,by decide +kernel,rfl,by decide +kernel,by decide +kernel⟩
theorem ok_kinds {f C : Addr} {fd : FuncData} (F : Fun K "kinds" "Shop.kinds" sShopKinds f fd) (T : ShopTxt K C) (ml : mg "list" = none) : FnOk P w K mg base CX0 1 f fd ["self"] (spKinds C) := by
  refine F.ok scKinds (fun vs H Q E h => ?_) (fun cdv A outer s H vs Q E hr h => ?_)
  · obtain ⟨x,b,ks,rfl,_⟩ := h
    rfl
  obtain ⟨x,b,ks,rfl,⟨dx,r,rs,h1,h2,h3⟩,q⟩ := h
  refine ⟨_,pss_one (ps_ret (pe_callTy call_list_of rfl ml PyProof.Rows.boot_list (pa_cons (pe_fld (pv 0) rfl) pa_nil))),?_⟩
  exact ⟨_,rfl,x,C,dx,_,_,rfl,h1,T.cl,T.nK,flds_rows _ _,r,rs,rfl,.inr (SqT.of h2),fun l hl => q l rs hl h3⟩
end
section
variable {P : Program} {w : World} {K : PySem.W.Frag} {mg : Str → Option Value} {base : Heap}
theorem scTurned : FnScope ["kind"] ["kind"] (defScope sTurned) := ⟨rfl,rfl,rfl,by decide +kernel,rfl,by decide +kernel,by decide +kernel⟩
theorem ok_turned {f : Addr} {fd : FuncData} (F : Fun K "can_lie_turned" "can_lie_turned" sTurned f fd) : FnOk P w K mg base CX0 1 f fd ["kind"] (spTurned K) := by
  refine F.ok scTurned (fun vs H Q E h => ?_) (fun cdv A outer s H vs Q E hr h => ?_)
  · obtain ⟨a,k,rfl,_⟩ := h
    rfl
  obtain ⟨a,k,rfl,ha,q⟩ := h
  refine ⟨_,pss_one (ps_ret (pe_and (pe_ix ix_tup (pv 0) pe_int (fun _ _ => rfl)) (pe_one (pe_cmpR op_ne (pe_ix ix_tup (pv 0) pe_int (fun _ _ => rfl)) (pe_ix ix_tup (pv 0) pe_int (fun _ _ => rfl)) (nomark _))))),?_⟩
  refine ⟨_,rfl,a,_,4,_,rfl,rfl,SqT.of ha,rfl,_,rfl,?_⟩
  unfold turnable at q
  refine ite2 (fun c => ?_) (fun c => ?_)
  · rw [c,Bool.true_and] at q
    refine ⟨_,rfl,a,_,0,_,rfl,rfl,SqT.of ha,rfl,_,rfl,a,_,1,_,rfl,rfl,SqT.of ha,rfl,rfl,?_⟩
    rw [dec_int]
    rw [show (decide (k.w = k.h)) = (k.w == k.h) from rfl] at q
    exact q
  · have c' : k.tu = false := by simpa using c
    rw [c',Bool.false_and] at q
    exact q
theorem scLyings : FnScope ["self","told","number","kind"] ["self"] (defScope sShopLyings) := ⟨rfl,rfl,rfl,by decide +kernel,rfl,by decide +kernel,by decide +kernel⟩
theorem ok_lyings {f C : Addr} {fd : FuncData} (F : Fun K "lyings" "Shop.lyings" sShopLyings f fd) (T : ShopTxt K C) (me : mg "enumerate" = none) (DT : Dn P w K mg base "can_lie_turned" ["kind"] 1 (spTurned K)) :
    FnOk P w K mg base CX0 2 f fd ["self"] (spLyings C) := by
  refine F.ok scLyings (fun vs H Q E h => ?_) (fun cdv A outer s H vs Q E hr h => ?_)
  · obtain ⟨x,b,ks,rfl,_⟩ := h
    rfl
  obtain ⟨x,b,ks,rfl,⟨dx,r,rs,h1,h2,h3⟩,n8,q⟩ := h
  have nd := scLyings.nd
  refine ⟨_,pss_cons (ps_set (i := 1) nd rfl (Or.inl rfl) (pe_lst pa_nil))
    (pss_cons (ps_for PassesOwn.never rfl (pi_enum rfl me (pa_cons (pe_fld (pv 0) rfl) pa_nil)) (pg_tup rfl (pgs_cons (pg_name (i := 2) nd rfl (Or.inl rfl)) (pgs_cons (pg_name (i := 3) nd rfl (Or.inl rfl)) pgs_nil)))
      (pss_cons (ps_expr (pe_bm PySem.F.plainAttrs_list PySem.F.slot_list_append PySem.F.type_list_append mt_append (pv 1) (pa_cons (pe_tup (pa_cons (pv 2) (pa_cons pe_bl pa_nil))) pa_nil)))
      (pss_one (ps_if (pt_val (pe_cD DT hr rfl (pa_cons (pv 3) pa_nil)))
        (pss_one (ps_expr (pe_bm PySem.F.plainAttrs_list PySem.F.slot_list_append PySem.F.type_list_append mt_append (pv 1) (pa_cons (pe_tup (pa_cons (pv 2) (pa_cons pe_bl pa_nil))) pa_nil)))) pss_nil))))
    (pss_one (ps_ret (pv 1)))),?_⟩
  refine ⟨by decide,fun l hl => ?_⟩
  have s1 : Same H (upd H l (.lst [])) := Same.new hl
  have l1 : (upd H l (.lst ([] : List V))) l = some (.lst []) := upd_same
  generalize upd H l (.lst ([] : List V)) = H1 at s1 l1 ⊢
  have len3 := Paired.length h3
  have n8' : (100 : Nat) < sizeLine := by decide
  refine ⟨_,rfl,x,C,dx,_,_,rfl,s1 _ _ h1,T.cl,T.nK,flds_rows _ _,r,rs,rfl,.inr ⟨s1 _ _ h2,?_⟩⟩
  refine for_enum (f := HO.tup) (fun _ _ e => HO.tup.inj e) (xs := rs) (fun i σ H2 => ∃ v2 v3 ys,σ = [some (.ref x),some (.ref l),v2,v3] ∧ Same H H2 ∧ H2 l = some (.lst ys) ∧ Lys H2 ys (lyK (ks.take i) 0)) ⟨none,none,[],rfl,s1,l1,.nil⟩
    (fun i σ H2 ⟨_,_,_,_,s2,_⟩ => s2 _ _ h2) ?_ ?_
  · rintro i y p σ H2 hi hp ⟨v2,v3,ys,rfl,s2,l2,y2⟩
    obtain ⟨k,hk,a,rfl,ha⟩ := Paired.getR h3 hi
    have s3 : Same H (upd H2 p (.tup [.int i,.ref a])) := s2.trans (Same.new hp)
    have l3 : (upd H2 p (.tup [.int (i : Int),.ref a])) l = some (.lst ys) := by rw [upd_ne (ne_of_none l2 hp)]; exact l2
    have y3 : Lys (upd H2 p (.tup [.int (i : Int),.ref a])) ys (lyK (ks.take i) 0) := Lys.keep (fun c xs e => by rw [upd_ne (ne_of_none e hp)]; exact e) y2
    have p3 : (upd H2 p (.tup [.int (i : Int),.ref a])) p = some (.tup [.int (i : Int),.ref a]) := upd_same
    generalize upd H2 p (.tup [.int (i : Int),.ref a]) = H3 at s3 l3 y3 p3 ⊢
    have hli : i < ks.length := (List.getElem?_eq_some_iff.mp hk).1
    have ylen : ys.length ≤ 16 := by
      have e1 := Paired.length y2
      have e2 := lyK_len (ks.take i) 0
      rw [List.length_take] at e2
      omega
    have tk1 : lyK (ks.take (i + 1)) 0 = lyK (ks.take i) 0 ++ lyT i k := by
      rw [List.take_add_one,hk]
      show lyK (ks.take i ++ [k]) 0 = _
      rw [lyK_snoc,List.length_take,Nat.zero_add,Nat.min_eq_left (Nat.le_of_lt hli)]
    refine ⟨p,_,rfl,SqT.of p3,rfl,_,_,rfl,_,_,rfl,rfl,?_⟩
    refine ⟨_,rfl,.inl ⟨rfl,_,SqL.of l3⟩,_,rfl,(by show 2 ≤ sizeLine; decide),fun t ht => ?_⟩
    have lt : l ≠ t := ne_of_none l3 ht
    refine ⟨l,ys,_,rfl,rfl,(by rw [upd_ne lt]; exact l3),(by omega),?_⟩
    obtain ⟨s4,l4,y4⟩ := ly_put (b := false) hl s3 l3 y3 ht
    generalize upd (upd H3 t (.tup [.int (i : Int),.bl false])) l (.lst (ys ++ [.ref t])) = H4 at s4 l4 y4 ⊢
    refine ⟨_,rfl,a,k,rfl,s4 _ _ ha,_,rfl,?_⟩
    refine ite2 (fun c => ?_) (fun c => ?_)
    · refine ⟨_,rfl,.inl ⟨rfl,_,SqL.of l4⟩,_,rfl,(by show 2 ≤ sizeLine; decide),fun t' ht' => ?_⟩
      have lt' : l ≠ t' := ne_of_none l4 ht'
      refine ⟨l,_,_,rfl,rfl,(by rw [upd_ne lt']; exact l4),(by rw [List.length_append]; show ys.length + 1 < sizeLine; omega),?_⟩
      obtain ⟨s5,l5,y5⟩ := ly_put (b := true) hl s4 l4 y4 ht'
      refine ⟨_,_,_,rfl,s5,l5,?_⟩
      rw [tk1]
      unfold lyT
      rw [if_pos c]
      rw [show lyK (ks.take i) 0 ++ [(i,false),(i,true)] = lyK (ks.take i) 0 ++ [(i,false)] ++ [(i,true)] by simp]
      exact y5
    · refine ⟨_,_,_,rfl,s4,l4,?_⟩
      rw [tk1]
      unfold lyT
      rw [if_neg c]
      exact y4
  · rintro σ H2 ⟨v2,v3,ys,rfl,s2,l2,y2⟩
    rw [len3,List.take_length] at y2
    exact ⟨_,rfl,q l ys H2 hl l2 y2 s2⟩
theorem scIsLying : FnScope ["self","kind","turned"] ["self","kind","turned"] (defScope sShopIsLying) := ⟨rfl,rfl,rfl,by decide +kernel,rfl,by decide +kernel,by decide +kernel⟩
theorem ok_islying {f C : Addr} {fd : FuncData} (F : Fun K "is_lying" "Shop.is_lying" sShopIsLying f fd) (B : Blt mg) (T : ShopTxt K C) (DW : Dn P w K mg base "is_whole" ["thing","least"] 1 (spWhole K)) (DU : Dn P w K mg base "is_truth" ["thing"] 1 (spTruth K)) (DT : Dn P w K mg base "can_lie_turned" ["kind"] 1 (spTurned K)) :
    FnOk P w K mg base CX0 2 f fd ["self","kind","turned"] (spIsLying K C) := by
  refine F.ok scIsLying (fun vs H Q E h => ?_) (fun cdv A outer s H vs Q E hr h => ?_)
  · obtain ⟨s,b,ks,x,t,T0,U,rfl,_⟩ := h
    rfl
  obtain ⟨s,b,ks,x,t,T0,U,rfl,⟨dx,r,rs,h1,h2,h3⟩,tx,tt,q⟩ := h
  have len3 := Paired.length h3
  refine ⟨_,pss_cons (ps_if (PW.pt (pw_or (pt_not (pt_val (pe_cD DW hr rfl (pa_cons (pv 1) (pa_cons pe_int pa_nil))))) (pw_or (pt_cmpR op_ge (pv 1) (pe_callB call_len_seq rfl B.len PySem.boot_len (pa_cons (pe_fld (pv 0) rfl) pa_nil)) (nomark _))
      (pw_or1 (pt_not (pt_val (pe_cD DU hr rfl (pa_cons (pv 2) pa_nil)))))))) (pss_one (ps_ret pe_bl)) pss_nil)
    (pss_one (ps_ret (pe_or (pe_not (pv 2)) (pe_one (pe_cD DT hr rfl (pa_cons (pe_ix ix_tup (pe_fld (pv 0) rfl) (pv 1) (fun _ _ => rfl)) pa_nil)))))),?_⟩
  refine ⟨_,rfl,x,_,0,rfl,tx,_,rfl,?_⟩
  cases hw : whole x 0 with
  | false =>
    have e : isLy ks x t = false := by
      cases x with
      | int i =>
        have h0 : decide (0 ≤ i) = false := hw
        cases t <;> first | rfl | (show (decide (0 ≤ i) && _) = false; rw [h0,Bool.false_and])
      | _ => rfl
    rw [e] at q
    exact iteT (iteT q)
  | true =>
    have ex : ∃ i,x = .int i ∧ 0 ≤ i := by
      cases x with
      | int i => exact ⟨i,rfl,of_decide_eq_true hw⟩
      | _ => cases hw
    obtain ⟨i,rfl,i0⟩ := ex
    refine iteF ⟨_,rfl,_,rfl,s,C,dx,_,_,rfl,h1,T.cl,T.nK,flds_rows _ _,r,rs,rfl,.inr (SqT.of h2),i,_,rfl,rfl,_,rfl,?_⟩
    by_cases hi : (rs.length : Int) ≤ i
    · rw [decide_eq_true hi]
      have e : isLy ks (.int i) t = false := by
        have hn : ks[i.toNat]? = none := List.getElem?_eq_none (by omega)
        cases t <;> first | rfl | (show (decide (0 ≤ i) && match ks[i.toNat]? with | some k => _ | none => false) = false; rw [hn,Bool.and_false])
      rw [e] at q
      exact iteT (iteT q)
    · rw [decide_eq_false hi]
      refine iteF ⟨_,rfl,t,_,rfl,tt,_,rfl,?_⟩
      have hlt : i.toNat < ks.length := by omega
      cases hb : isBl t with
      | false =>
        have e : isLy ks (.int i) t = false := by cases t <;> first | rfl | cases hb
        rw [e] at q
        exact iteT q
      | true =>
        have ex : ∃ c,t = .bl c := by cases t <;> first | exact ⟨_,rfl⟩ | cases hb
        obtain ⟨c,rfl⟩ := ex
        obtain ⟨y,hy⟩ : ∃ y,rs[i.toNat]? = some y := ⟨rs[i.toNat]'(by omega),by simp [show i.toNat < rs.length by omega]⟩
        obtain ⟨k,hk,a,rfl,ha⟩ := Paired.getR h3 hy
        have e : isLy ks (.int i) (.bl c) = (!c || turnable k) := by
          show (decide (0 ≤ i) && match ks[i.toNat]? with | some k => (!c || turnable k) | none => false) = _
          rw [hk,decide_eq_true i0,Bool.true_and]
        rw [e] at q
        refine iteF ⟨_,rfl,c,rfl,_,rfl,?_⟩
        refine ite2 (fun d => ?_) (fun d => ?_)
        · rw [d,Bool.true_or] at q
          exact q
        · have d' : (!c) = false := by simpa using d
          rw [d',Bool.false_or] at q
          have at' : atI rs i = some (.ref a) := by
            have en : ixN rs.length i = some i.toNat := by
              unfold ixN
              rw [if_pos i0,if_pos (by omega)]
            unfold atI
            rw [en]
            exact hy
          exact ⟨_,rfl,s,C,dx,_,_,rfl,h1,T.cl,T.nK,flds_rows _ _,_,rfl,r,rs,i,_,rfl,rfl,SqT.of h2,at',a,k,rfl,ha,q⟩
end
def sidesV (k : Kd) (c : Bool) : List V := if c = true then [.int k.h,.int k.w] else [.int k.w,.int k.h]
def spSides (K : PySem.W.Frag) (C NL : Addr) : Sp := fun vs H Q E => ∃ (s : Addr) (b : Int) (ks : List Kd) (x t : V) (T U : String),vs = [.ref s,x,t] ∧ ShopAt C H s b ks ∧ Ty K H x T ∧ Ty K H t U ∧
  (isLy ks x t = false → E (.ref NL) none H) ∧ ∀ (i : Int) (c : Bool) (k : Kd) (p : Addr),x = .int i → t = .bl c → ks[i.toNat]? = some k → isLy ks x t = true → H p = none → Q (.ref p) (upd H p (.tup (sidesV k c)))
theorem isLy_true {ks : List Kd} {x t : V} (h : isLy ks x t = true) : ∃ (i : Int) (c : Bool) (k : Kd),x = .int i ∧ t = .bl c ∧ 0 ≤ i ∧ ks[i.toNat]? = some k := by
  unfold isLy at h
  split at h
  · rename_i i c
    rw [Bool.and_eq_true] at h
    obtain ⟨h1,h2⟩ := h
    split at h2
    · rename_i k hk
      exact ⟨i,c,k,rfl,rfl,of_decide_eq_true h1,hk⟩
    · cases h2
  · cases h
theorem atI_of {rs : List V} {i : Int} {v : V} (i0 : 0 ≤ i) (h : rs[i.toNat]? = some v) : atI rs i = some v := by
  have en : ixN rs.length i = some i.toNat := by
    unfold ixN
    have := (List.getElem?_eq_some_iff.mp h).1
    rw [if_pos i0,if_pos (by omega)]
  unfold atI
  rw [en]
  exact h
section
variable {P : Program} {w : World} {K : PySem.W.Frag} {mg : Str → Option Value} {base : Heap}
theorem scSides : FnScope ["self","kind","turned","row"] ["self","kind","turned"] (defScope sShopSides) := ⟨rfl,rfl,rfl,by decide +kernel,rfl,by decide +kernel,by decide +kernel⟩
theorem ok_sides {f C NL : Addr} {fd : FuncData} (F : Fun K "sides" "Shop.sides" sShopSides f fd) (T : ShopTxt K C) (ML : Mn P w K mg base C "is_lying" ["self","kind","turned"] 2 (spIsLying K C)) (mn : mg "NoLying" = some (.ref NL)) (ec : ExcC K NL) :
    FnOk P w K mg base (CXx P w) 3 f fd ["self","kind","turned"] (spSides K C NL) := by
  refine F.okX scSides (fun vs H Q E h => ?_) (fun cdv A outer s H vs Q E hr h => ?_)
  · obtain ⟨s,b,ks,x,t,T0,U,rfl,_⟩ := h
    rfl
  obtain ⟨s,b,ks,x,t,T0,U,rfl,S,tx,tt,he,hq⟩ := h
  have nd := scSides.nd
  refine ⟨_,pss_cons (ps_if (pt_not (pt_val (pe_mD (pv 0) T.cl ML hr (pa_cons (pv 1) (pa_cons (pv 2) pa_nil))))) (pss_one (ps_raise (R := fun c H => E c none H) rfl rfl mn ec (pa_cons pe_str pa_nil) raise_ends)) pss_nil)
    (pss_cons (ps_set (i := 3) nd rfl (Or.inl rfl) (pe_ix ix_tup (pe_fld (pv 0) rfl) (pv 1) (fun _ _ => rfl)))
    (pss_cons (ps_if (pt_val (pv 2)) (pss_one (ps_ret (pe_tup (pa_cons (pe_ix ix_tup (pv 3) pe_int (fun _ _ => rfl)) (pa_cons (pe_ix ix_tup (pv 3) pe_int (fun _ _ => rfl)) pa_nil))))) pss_nil)
    (pss_one (ps_ret (pe_tup (pa_cons (pe_ix ix_tup (pv 3) pe_int (fun _ _ => rfl)) (pa_cons (pe_ix ix_tup (pv 3) pe_int (fun _ _ => rfl)) pa_nil))))))),?_⟩
  obtain ⟨dx,r,rs,h1,h2,h3⟩ := id S
  refine ⟨_,rfl,s,dx,_,rfl,h1,flds_no _ _ (by decide +kernel) (by decide +kernel),_,rfl,_,rfl,s,b,ks,x,t,T0,U,rfl,S,tx,tt,_,rfl,?_⟩
  cases hl : isLy ks x t with
  | false =>
    refine iteT ?_
    exact ⟨(by show 1 ≤ sizeLine; decide),he hl⟩
  | true =>
    obtain ⟨i,c,k,rfl,rfl,i0,hk⟩ := isLy_true hl
    have len3 := Paired.length h3
    have hik := (List.getElem?_eq_some_iff.mp hk).1
    obtain ⟨y,hy⟩ : ∃ y,rs[i.toNat]? = some y := ⟨rs[i.toNat]'(by omega),by simp [show i.toNat < rs.length by omega]⟩
    obtain ⟨k',hk',a,rfl,ha⟩ := Paired.getR h3 hy
    rw [hk] at hk'
    obtain rfl := Option.some.inj hk'
    refine iteF ?_
    refine ⟨_,rfl,s,C,dx,_,_,rfl,h1,T.cl,T.nK,flds_rows _ _,_,rfl,r,rs,i,_,rfl,rfl,SqT.of h2,atI_of i0 hy,?_⟩
    refine ⟨_,rfl,_,rfl,?_⟩
    cases c with
    | true =>
      refine iteT ?_
      refine ⟨_,rfl,a,_,1,_,rfl,rfl,SqT.of ha,rfl,_,rfl,a,_,0,_,rfl,rfl,SqT.of ha,rfl,(by show 2 ≤ sizeLine; decide),fun p hp => ?_⟩
      exact hq i true k p rfl rfl hk hl hp
    | false =>
      refine iteF ?_
      refine ⟨_,rfl,a,_,0,_,rfl,rfl,SqT.of ha,rfl,_,rfl,a,_,1,_,rfl,rfl,SqT.of ha,rfl,(by show 2 ≤ sizeLine; decide),fun p hp => ?_⟩
      exact hq i false k p rfl rfl hk hl hp
end
section
variable {P : Program} {w : World} {K : PySem.W.Frag} {mg : Str → Option Value} {base : Heap}
def sd1 (k : Kd) (c : Bool) : Int := if c = true then k.h else k.w
def sd2 (k : Kd) (c : Bool) : Int := if c = true then k.w else k.h
theorem sides_eq (k : Kd) (c : Bool) : sidesV k c = [.int (sd1 k c),.int (sd2 k c)] := by cases c <;> rfl
def fits (k : Kd) (c : Bool) (w h : Int) : Bool := decide (sd1 k c ≤ w) && decide (sd2 k c ≤ h)
def spCP : Sp := fun vs H Q _ => ∃ (w h : Int),vs = [.int w,.int h] ∧ 1 ≤ w ∧ 1 ≤ h ∧ Q .non H
def spCS : Sp := fun vs H Q _ => ∃ (w h m : Int),vs = [.int w,.int h,.int m] ∧ w ≤ m ∧ h ≤ m ∧ Q .non H
def spLies (C : Addr) : Sp := fun vs H Q _ => ∃ (s : Addr) (b : Int) (ks : List Kd) (w h i : Int) (c : Bool) (k : Kd),vs = [.ref s,.int w,.int h,.int i,.bl c,.int 0,.int 0] ∧ ShopAt C H s b ks ∧ isLy ks (.int i) (.bl c) = true ∧ ks[i.toNat]? = some k ∧ ∀ H',Same H H' → Q (.bl (fits k c w h)) H'
theorem sccplate : FnScope ["wide","high"] ["wide","high"] (defScope sCheckPlate) := ⟨rfl,rfl,rfl,by decide +kernel,rfl,by decide +kernel,by decide +kernel⟩
theorem ok_cplate {f : Addr} {fd : FuncData} (F : Fun K "check_plate" "check_plate" sCheckPlate f fd) (DW : Dn P w K mg base "is_whole" ["thing","least"] 1 (spWhole K)) : FnOk P w K mg base CX0 2 f fd ["wide","high"] (spCP) := by
  refine F.ok sccplate (fun vs H Q E h => ?_) (fun cdv A outer s H vs Q E hr h => ?_)
  · obtain ⟨w1,h1,rfl,_⟩ := h
    rfl
  obtain ⟨w1,h1,rfl,hw,hh,q⟩ := h
  have nd := sccplate.nd
  refine ⟨_,(@pss_one _ _ _ (@ps_if _ _ _ _ _ _ _ _ (PW.pt (pw_or (@pt_not _ _ _ _ (@pt_val _ _ _ (@pe_cD _ _ _ _ _ _ _ _ _ _ DW hr rfl (@pa_cons _ _ _ _ _ (pv 0) (@pa_cons _ _ _ _ _ pe_int pa_nil rfl) rfl) (by decide) rfl rfl) (by intro _; rfl))) (pw_or1 (@pt_not _ _ _ _ (@pt_val _ _ _ (@pe_cD _ _ _ _ _ _ _ _ _ _ DW hr rfl (@pa_cons _ _ _ _ _ (pv 1) (@pa_cons _ _ _ _ _ pe_int pa_nil rfl) rfl) (by decide) rfl rfl) (by intro _; rfl)))))) (@pss_one _ _ _ ps_never) pss_nil)),?_⟩
  refine ⟨_,rfl,.int w1,"int",1,rfl,Ty.int,_,rfl,?_⟩
  rw [show whole (.int w1) 1 = true from decide_eq_true hw]
  refine iteF ⟨_,rfl,.int h1,"int",1,rfl,Ty.int,_,rfl,?_⟩
  rw [show whole (.int h1) 1 = true from decide_eq_true hh]
  exact iteF q
theorem sccsides : FnScope ["wide","high","most"] ["wide","high","most"] (defScope sCheckSides) := ⟨rfl,rfl,rfl,by decide +kernel,rfl,by decide +kernel,by decide +kernel⟩
theorem ok_csides {f : Addr} {fd : FuncData} (F : Fun K "check_sides" "check_sides" sCheckSides f fd)  : FnOk P w K mg base CX0 1 f fd ["wide","high","most"] (spCS) := by
  refine F.ok sccsides (fun vs H Q E h => ?_) (fun cdv A outer s H vs Q E hr h => ?_)
  · obtain ⟨w1,h1,m,rfl,_⟩ := h
    rfl
  obtain ⟨w1,h1,m,rfl,hw,hh,q⟩ := h
  have nd := sccsides.nd
  refine ⟨_,(@pss_one _ _ _ (@ps_if _ _ _ _ _ _ _ _ (PW.pt (pw_or (@pt_cmpR _ _ _ _ _ _ _ _ op_gt (pv 0) (pv 2) (nomark _)) (pw_or1 (@pt_cmpR _ _ _ _ _ _ _ _ op_gt (pv 1) (pv 2) (nomark _))))) (@pss_one _ _ _ ps_never) pss_nil)),?_⟩
  refine ⟨_,rfl,_,rfl,_,_,rfl,rfl,_,rfl,?_⟩
  rw [decide_eq_false (show ¬ m < w1 by omega)]
  refine iteF ⟨_,rfl,_,rfl,_,_,rfl,rfl,_,rfl,?_⟩
  rw [decide_eq_false (show ¬ m < h1 by omega)]
  exact iteF q
theorem sclies : FnScope ["shop","wide","high","kind","turned","x","y","piece_wide","piece_high"] ["shop","wide","high","kind","turned","x","y"] (defScope sLiesIn) := ⟨rfl,rfl,rfl,by decide +kernel,rfl,by decide +kernel,by decide +kernel⟩
theorem ok_lies {f C NL : Addr} {fd : FuncData} (F : Fun K "lies_in" "lies_in" sLiesIn f fd) (T : ShopTxt K C) (DW : Dn P w K mg base "is_whole" ["thing","least"] 1 (spWhole K)) (MI : Mn P w K mg base C "is_lying" ["self","kind","turned"] 2 (spIsLying K C)) (MS : MnX P w K mg base C "sides" ["self","kind","turned"] 3 (spSides K C NL)) : FnOk P w K mg base CX0 4 f fd ["shop","wide","high","kind","turned","x","y"] (spLies C) := by
  refine F.ok sclies (fun vs H Q E h => ?_) (fun cdv A outer s H vs Q E hr h => ?_)
  · obtain ⟨s,b,ks,w,h,i,c,k,rfl,_⟩ := h
    rfl
  obtain ⟨s,b,ks,w,h,i,c,k,rfl,S,ly,hk,q⟩ := h
  have nd := sclies.nd
  have hr1 := hr.mono (show 1 ≤ 3 by decide)
  have hr2 := hr.mono (show 2 ≤ 3 by decide)
  refine ⟨_,(@pss_cons _ _ _ _ _ (@ps_if _ _ _ _ _ _ _ _ (PW.pt (pw_or (@pt_not _ _ _ _ (@pt_val _ _ _ (pe_mD (pv 0) T.cl MI hr2 (@pa_cons _ _ _ _ _ (pv 3) (@pa_cons _ _ _ _ _ (pv 4) pa_nil rfl) rfl)) (by intro _; rfl))) (pw_or (@pt_not _ _ _ _ (@pt_val _ _ _ (@pe_cD _ _ _ _ _ _ _ _ _ _ DW hr1 rfl (@pa_cons _ _ _ _ _ (pv 5) (@pa_cons _ _ _ _ _ pe_int pa_nil rfl) rfl) (by decide) rfl rfl) (by intro _; rfl))) (pw_or1 (@pt_not _ _ _ _ (@pt_val _ _ _ (@pe_cD _ _ _ _ _ _ _ _ _ _ DW hr1 rfl (@pa_cons _ _ _ _ _ (pv 6) (@pa_cons _ _ _ _ _ pe_int pa_nil rfl) rfl) (by decide) rfl rfl) (by intro _; rfl))))))) (@pss_one _ _ _ (@ps_ret _ _ _ _ pe_bl)) pss_nil) (@pss_cons _ _ _ _ _ (@ps_asg _ _ _ _ _ _ (pe_mDX (pv 0) T.cl MS hr (@pa_cons _ _ _ _ _ (pv 3) (@pa_cons _ _ _ _ _ (pv 4) pa_nil rfl) rfl)) (pg_tup rfl (pgs_cons (pg_name (i := 7) nd rfl (Or.inl rfl)) (pgs_cons (pg_name (i := 8) nd rfl (Or.inl rfl)) pgs_nil))) rfl rfl rfl) (@pss_one _ _ _ (@ps_ret _ _ _ _ (pe_and (@pe_cmpR _ _ _ _ _ _ _ _ op_le (@pe_op _ _ _ _ _ _ _ _ op_add (pv 5) (pv 7)) (pv 1) (nomark _)) (pe_one (@pe_cmpR _ _ _ _ _ _ _ _ op_le (@pe_op _ _ _ _ _ _ _ _ op_add (pv 6) (pv 8)) (pv 2) (nomark _)))))))),?_⟩
  obtain ⟨dx,r,rs,h1,h2,h3⟩ := id S
  refine ⟨_,rfl,s,dx,_,rfl,h1,flds_no _ _ (by decide +kernel) (by decide +kernel),_,rfl,_,rfl,s,b,ks,.int i,.bl c,"int","bool",rfl,S,Ty.int,Ty.bl,_,rfl,?_⟩
  rw [ly]
  refine iteF ⟨_,rfl,.int 0,"int",0,rfl,Ty.int,_,rfl,iteF ⟨_,rfl,.int 0,"int",0,rfl,Ty.int,_,rfl,iteF ?_⟩⟩
  refine ⟨_, rfl, s, dx, _, rfl, h1, flds_no _ _ (by decide +kernel) (by decide +kernel), _, rfl, _, rfl, s, b, ks, .int i, .bl c, "int", "bool", rfl, S, Ty.int, Ty.bl, fun z => absurd z (by rw [ly]; decide), fun i' c' k' p e1 e2 hk' _ hp => ?_⟩
  cases e1
  cases e2
  rw [hk] at hk'
  cases hk'
  rw [sides_eq]
  have q1 := q _ (Same.new hp (o := .tup [.int (sd1 k c),.int (sd2 k c)]))
  refine ⟨p,_,rfl,SqT.of upd_same,rfl,_,_,rfl,_,_,rfl,rfl,?_⟩
  refine ⟨_,rfl,_,rfl,_,_,rfl,rfl,_,rfl,_,_,rfl,rfl,_,rfl,?_⟩
  unfold fits at q1
  refine ite2 (fun cc => ?_) (fun cc => ?_)
  · refine ⟨_,rfl,_,rfl,_,_,rfl,rfl,_,rfl,_,_,rfl,rfl,?_⟩
    rw [Int.zero_add] at cc ⊢
    rw [cc] at q1
    exact q1
  · rw [Int.zero_add] at cc
    rw [show decide (sd1 k c ≤ w) = false by simpa using cc] at q1
    exact q1
end
section
variable {P : Program} {w : World} {K : PySem.W.Frag} {mg : Str → Option Value} {base : Heap}
theorem leS2 {a b c : St} (h1 : leS a b) (h2 : leS b c) : leS a c := ⟨h2.1.trans h1.1,fun i v e => h2.2 i v (h1.2 i v e)⟩
theorem lyT_mem {i : Nat} {k : Kd} {q : Nat × Bool} (h : q ∈ lyT i k) : q.1 = i ∧ (q.2 = false ∨ turnable k = true) := by
  unfold lyT at h
  rcases List.mem_cons.mp h with rfl | h
  · exact ⟨rfl,.inl rfl⟩
  · by_cases c : turnable k = true
    · rw [if_pos c] at h
      rw [List.mem_singleton.mp h]
      exact ⟨rfl,.inr c⟩
    · rw [if_neg c] at h
      simp at h
theorem lyK_mem : ∀ {ks : List Kd} {i : Nat} {q : Nat × Bool},q ∈ lyK ks i → i ≤ q.1 ∧ ∃ k,ks[q.1 - i]? = some k ∧ (q.2 = false ∨ turnable k = true)
  | [],_,_,h => by simp [lyK] at h
  | k :: r,i,q,h => by
    rcases List.mem_append.mp h with h | h
    · obtain ⟨h1,h2⟩ := lyT_mem h
      exact ⟨by omega,k,by rw [h1,Nat.sub_self]; rfl,h2⟩
    · obtain ⟨h1,k',h2,h3⟩ := lyK_mem h
      refine ⟨by omega,k',?_,h3⟩
      rw [show q.1 - i = (q.1 - (i + 1)) + 1 by omega]
      exact h2
theorem ly_true {ks : List Kd} {q : Nat × Bool} (h : q ∈ lyK ks 0) : isLy ks (.int q.1) (.bl q.2) = true ∧ ∃ k,ks[q.1]? = some k := by
  obtain ⟨_,k,h2,h3⟩ := lyK_mem h
  rw [Nat.sub_zero] at h2
  refine ⟨?_,k,h2⟩
  unfold isLy
  simp only [Int.toNat_natCast,h2,Bool.and_eq_true]
  refine ⟨decide_eq_true (by omega),?_⟩
  rcases h3 with e | e
  · rw [e]; rfl
  · rw [e,Bool.or_true]
def fitP (ks : List Kd) (w h : Int) (q : Nat × Bool) : Bool := match ks[q.1]? with
  | some k => fits k q.2 w h
  | none => false
def spLyIn (C : Addr) : Sp := fun vs H Q _ => ∃ (s t : Addr) (b : Int) (ks : List Kd) (w h : Int),vs = [.ref s,.ref t] ∧ ShopAt C H s b ks ∧ ks.length ≤ 8 ∧ H t = some (.tup [.int w,.int h]) ∧
  ∀ (l : Addr) (ys : List V) (H' : Hp),H l = none → H' l = some (.lst ys) → Lys H' ys ((lyK ks 0).filter (fitP ks w h)) → Same H H' → Q (.ref l) H'
theorem sclyin : FnScope ["shop","part","wide","high"] ["shop","part"] (defScope sLyingsIn) := ⟨rfl,rfl,rfl,by decide +kernel,rfl,by decide +kernel,by decide +kernel⟩
theorem ok_lyin {f C : Addr} {fd : FuncData} (F : Fun K "lyings_in" "lyings_in" sLyingsIn f fd) (T : ShopTxt K C) (ML : Mn P w K mg base C "lyings" ["self"] 2 (spLyings C)) (DLI : Dn P w K mg base "lies_in" ["shop","wide","high","kind","turned","x","y"] 4 (spLies C)) : FnOk P w K mg base CX0 5 f fd ["shop","part"] (spLyIn C) := by
  refine F.ok sclyin (fun vs H Q E h => ?_) (fun cdv A outer s H vs Q E hr h => ?_)
  · obtain ⟨s,t,b,ks,w,h,rfl,_⟩ := h
    rfl
  obtain ⟨s,t,b,ks,w,h,rfl,S,k8,ht,q⟩ := h
  have nd := sclyin.nd
  have hr2 := hr.mono (show 2 ≤ 4 by decide)
  refine ⟨_,(@pss_cons _ _ _ _ _ (@ps_asg _ _ _ _ _ _ (pv 1) (pg_tup rfl (pgs_cons (pg_name (i := 2) nd rfl (Or.inr rfl)) (pgs_cons (pg_name (i := 3) nd rfl (Or.inr rfl)) pgs_nil))) rfl rfl rfl) (@pss_one _ _ _ (@ps_ret _ _ _ _ (pe_comp (own := ["kind","turned"]) (cs := ["shop","wide","high"]) (cap := [0,2,3]) rfl (pi_list (pe_mD0 (pv 0) T.cl ML hr2)) (compOk_of (sc := defScope sLyingsIn) (N := ["shop","part","wide","high"]) rfl rfl (by decide +kernel)) (fun _ _ _ _ _ => pg_two K rfl rfl (by show List.Nodup (["kind","turned","shop","wide","high"] : List Str) ; decide +kernel) rfl rfl rfl rfl) (fun _ _ _ _ _ => (pifs_one (@pt_val _ _ _ (@pe_cD _ _ _ _ _ _ _ _ _ _ DLI hr rfl (@pa_cons _ _ _ _ _ (pv 2) (@pa_cons _ _ _ _ _ (pv 3) (@pa_cons _ _ _ _ _ (pv 4) (@pa_cons _ _ _ _ _ (pv 0) (@pa_cons _ _ _ _ _ (pv 1) (@pa_cons _ _ _ _ _ pe_int (@pa_cons _ _ _ _ _ pe_int pa_nil rfl) rfl) rfl) rfl) rfl) rfl) rfl) (by decide) rfl rfl) (by intro _; rfl)))) (fun _ _ _ _ _ => (@pe_tup _ _ _ _ _ (@pa_cons _ _ _ _ _ (pv 0) (@pa_cons _ _ _ _ _ (pv 1) pa_nil rfl) rfl))))))),?_⟩
  have sz : (100 : Nat) < sizeLine := by decide
  obtain ⟨dx,r,rs,h1,h2,h3⟩ := id S
  refine ⟨_,rfl,t,_,rfl,SqT.of ht,rfl,_,_,rfl,_,_,rfl,rfl,?_⟩
  refine ⟨_,rfl,s,dx,_,rfl,h1,flds_no _ _ (by decide +kernel) (by decide +kernel),s,b,ks,rfl,S,k8,fun l1 ys H1 hl1 l1' ly s1 => ?_⟩
  have lyl := lyK_len ks 0
  have ylen := Paired.length ly
  refine ⟨l1,rfl,⟨_,SqL.of l1'⟩,(comp_seq (K := K) (.inl l1') (fun i zs H4 => Same H1 H4 ∧ zs.length ≤ i ∧ Lys H4 zs (((lyK ks 0).take i).filter (fitP ks w h))) (fun i zs H4 _ ⟨s4,_⟩ o e => s4 _ _ e) ⟨Same.refl _,Nat.le_refl _,.nil⟩ ?_ ?_).1 l1'⟩
  · rintro i y zs H4 hi ⟨s4,zl,lz⟩
    have hin : i < ys.length := (List.getElem?_eq_some_iff.mp hi).1
    obtain ⟨qq,hq,a,rfl,ha⟩ := Paired.getR ly hi
    obtain ⟨li,k,hk⟩ := ly_true (List.mem_of_getElem? hq)
    refine ⟨by omega,a,_,rfl,SqT.of (s4 _ _ ha),rfl,_,_,rfl,_,_,rfl,rfl,?_⟩
    refine ⟨leS2 (leS.set rfl) (leS.set rfl),?_⟩
    have S4 : ShopAt C H4 s b ks := S.keep (fun c o e => s4 _ _ (s1 _ _ e)) (fun c C' d fs e => s4 _ _ (s1 _ _ e))
    refine ⟨_,rfl,_,rfl,_,rfl,_,rfl,_,rfl,s,b,ks,w,h,(qq.1 : Int),qq.2,k,rfl,S4,li,(by rw [Int.toNat_natCast]; exact hk),fun H5 s5 => ⟨_,rfl,?_⟩⟩
    have st : ((lyK ks 0).take (i + 1)).filter (fitP ks w h) = ((lyK ks 0).take i).filter (fitP ks w h) ++ (if fits k qq.2 w h = true then [qq] else []) := by
      rw [List.take_add_one,hq,List.filter_append]
      simp only [Option.toList_some,List.filter_cons,List.filter_nil]
      rw [show fitP ks w h qq = fits k qq.2 w h by unfold fitP; rw [hk]]
    dsimp only
    refine ite2 (fun cc => ?_) (fun cc => ?_)
    · rw [cc,if_pos rfl] at st
      refine ⟨_,rfl,_,rfl,(by show 2 ≤ sizeLine; decide),fun p hp => Nx.of hin ⟨(s4.trans s5).trans (Same.new hp),by rw [List.length_append]; show _ + 1 ≤ _; omega,?_⟩⟩
      rw [st]
      refine Paired.snoc (Lys.keep (fun c o e => ?_) lz) ⟨p,rfl,upd_same⟩
      have e5 := s5 _ _ e
      rw [upd_ne (ne_of_none e5 hp)]; exact e5
    · rw [if_neg cc,List.append_nil] at st
      refine Nx.of hin ⟨s4.trans s5,by omega,?_⟩
      rw [st]
      exact Lys.keep (fun c o e => s5 _ _ e) lz
  · rintro zs H4 ⟨s4,zl,lz⟩
    rw [ylen,List.take_length] at lz
    refine ⟨by omega,fun p hp => q p zs _ ((s1.trans s4).free hp) upd_same (Lys.keep (fun c o e => ?_) lz) ((s1.trans s4).trans (Same.new hp))⟩
    rw [upd_ne (ne_of_none e hp)]; exact e
end
def PtAt (H : Hp) (v : V) (p : Int × Int) : Prop := ∃ q,v = .ref q ∧ H q = some (.tup [.int p.1,.int p.2])
theorem PtAt.keep {H H' : Hp} (s : Same H H') {v : V} {p : Int × Int} (h : PtAt H v p) : PtAt H' v p := by
  obtain ⟨q,e,h⟩ := h
  exact ⟨q,e,s _ _ h⟩
def rowP (a : Int) (n : Nat) : List (Int × Int) := (List.range n).map fun (c : Nat) => (a,1 + (c : Int))
def partsL (m n : Nat) : List (Int × Int) := (List.range m).flatMap fun (a : Nat) => rowP (1 + (a : Int)) n
theorem rowP_len (a : Int) (n : Nat) : (rowP a n).length = n := by unfold rowP; rw [List.length_map,List.length_range]
theorem partsL_succ (m n : Nat) : partsL (m + 1) n = partsL m n ++ rowP (1 + (m : Int)) n := by
  unfold partsL
  rw [List.range_succ,List.flatMap_append]
  simp
theorem rowP_succ (a : Int) (n : Nat) : rowP a (n + 1) = rowP a n ++ [(a,1 + (n : Int))] := by
  unfold rowP
  rw [List.range_succ,List.map_append]
  rfl
theorem partsL_len (m n : Nat) : (partsL m n).length = m * n := by
  induction m with
  | zero => simp [partsL]
  | succ m ih => rw [partsL_succ,List.length_append,ih,rowP_len,Nat.succ_mul]
section
variable {P : Program} {w : World} {K : PySem.W.Frag} {mg : Str → Option Value} {base : Heap}
def spParts : Sp := fun vs H Q _ => ∃ (m n : Nat),vs = [.int m,.int n] ∧ m ≤ 16 ∧ n ≤ 16 ∧ ∀ (l : Addr) (ys : List V) (H' : Hp),H' l = some (.lst ys) → Paired (PtAt H') ys (partsL m n) → Same H H' → Q (.ref l) H'
theorem scparts : FnScope ["wide","high"] ["wide","high"] (defScope sPartsUpTo) := ⟨rfl,rfl,rfl,by decide +kernel,rfl,by decide +kernel,by decide +kernel⟩
theorem ok_parts {f : Addr} {fd : FuncData} (F : Fun K "parts_up_to" "parts_up_to" sPartsUpTo f fd) (B : Blt mg) : FnOk P w K mg base CX0 1 f fd ["wide","high"] (spParts) := by
  refine F.ok scparts (fun vs H Q E h => ?_) (fun cdv A outer s H vs Q E hr h => ?_)
  · obtain ⟨m,n,rfl,_⟩ := h
    rfl
  obtain ⟨m,n,rfl,m16,n16,q⟩ := h
  have nd := scparts.nd
  refine ⟨_,(@pss_one _ _ _ (@ps_ret _ _ _ _ (pe_comp2 (own := ["a","b"]) (cs := ["high"]) (cap := [1]) rfl (pi_range2 rfl B.range (@pa_cons _ _ _ _ _ pe_int (@pa_cons _ _ _ _ _ (@pe_op _ _ _ _ _ _ _ _ op_add (pv 0) pe_int) pa_nil rfl) rfl)) (compOk_of (sc := defScope sPartsUpTo) (N := ["wide","high"]) rfl rfl (by decide +kernel)) (fun _ _ _ _ _ => pg_name (i := 0) (by show List.Nodup (["a","b","high"] : List Str) ; decide +kernel) rfl (Or.inl rfl) (Or.inr rfl)) (fun _ _ _ _ _ => pifs_nil) (fun _ _ _ _ _ => (pi_range2 rfl B.range (@pa_cons _ _ _ _ _ pe_int (@pa_cons _ _ _ _ _ (@pe_op _ _ _ _ _ _ _ _ op_add (pv 2) pe_int) pa_nil rfl) rfl))) (fun _ _ _ _ _ => pg_name (i := 1) (by show List.Nodup (["a","b","high"] : List Str) ; decide +kernel) rfl (Or.inl rfl) (Or.inr rfl)) (fun _ _ _ _ _ => pifs_nil) (fun _ _ _ _ _ => (@pe_tup _ _ _ _ _ (@pa_cons _ _ _ _ _ (pv 0) (@pa_cons _ _ _ _ _ (pv 1) pa_nil rfl) rfl)))))),?_⟩
  have z4 : 4096 ≤ sizeLine := by decide
  refine ⟨_,rfl,_,_,rfl,rfl,1,_,rfl,⟨by decide,by decide,by show -(2 ^ 62) ≤ (m : Int) + 1; omega,by show (m : Int) + 1 < 2 ^ 62; omega⟩,?_⟩
  have em : ((m : Int) + 1 - 1).toNat = m := by omega
  show ∃ W,_ ∧ CompW2 _ _ _ (Itr 1 ((m : Int) + 1 - 1).toNat) _ _ _ _ _ _ _ W
  rw [em]
  refine comp2_rng (lo := 1) (n := m) (fun i ys Hx => Same H Hx ∧ Paired (PtAt Hx) ys (partsL i n)) ⟨Same.refl _,.nil⟩ ?_ ?_
  · rintro i ys Hx hi ⟨sx,py⟩
    refine ⟨leS.set rfl,tYes_ite ?_⟩
    refine ⟨_,rfl,_,_,rfl,rfl,1,_,rfl,⟨by decide,by decide,by show -(2 ^ 62) ≤ (n : Int) + 1; omega,by show (n : Int) + 1 < 2 ^ 62; omega⟩,?_⟩
    have en : ((n : Int) + 1 - 1).toNat = n := by omega
    show ∃ W2,_ ∧ CompIn _ (Itr 1 ((n : Int) + 1 - 1).toNat) _ _ _ _ W2
    rw [en]
    refine in_rng (lo := 1) (n := n) (fun j zs Hy => Same H Hy ∧ Paired (PtAt Hy) zs (partsL i n ++ rowP (1 + (i : Int)) j)) ⟨sx,by show Paired _ _ (_ ++ []); rw [List.append_nil]; exact py⟩ ?_ ?_
    · rintro j zs Hy hj ⟨sy,pz⟩
      have pl := Paired.length pz
      rw [List.length_append,partsL_len,rowP_len] at pl
      have : i * n ≤ 16 * 16 := Nat.mul_le_mul (by omega) (by omega)
      refine ⟨by omega,leS.set rfl,tYes_ite ?_⟩
      refine ⟨_,rfl,_,rfl,(by show 2 ≤ sizeLine; decide),fun t ht => ?_⟩
      obtain ⟨Hz,e1,k1,s1⟩ : ∃ H',upd Hy t (.tup [.int (1 + i),.int (1 + j)]) = H' ∧ H' t = some (.tup [.int (1 + i),.int (1 + j)]) ∧ Same Hy H' := ⟨_,rfl,upd_same,Same.new ht⟩
      rw [show upd Hy t _ = Hz from e1]
      refine Nx.of hj ⟨sy.trans s1,?_⟩
      rw [rowP_succ,← List.append_assoc]
      exact Paired.app (Paired.mapP pz fun v p h => h.keep s1) (.cons ⟨t,rfl,k1⟩ .nil)
    · rintro zs Hy ⟨sy,pz⟩
      refine Nx.of hi ⟨sy,?_⟩
      rw [partsL_succ]
      exact pz
  · rintro ys Hx ⟨sx,py⟩
    have pl := Paired.length py
    rw [partsL_len] at pl
    have : m * n ≤ 16 * 16 := Nat.mul_le_mul (by omega) (by omega)
    refine ⟨by omega,fun l hl => ?_⟩
    obtain ⟨Hz,e2,k2,s2⟩ : ∃ H',upd Hx l (.lst ys) = H' ∧ H' l = some (.lst ys) ∧ Same Hx H' := ⟨_,rfl,upd_same,Same.new hl⟩
    rw [show upd Hx l _ = Hz from e2]
    exact q l ys Hz k2 (Paired.mapP py fun v p h => h.keep s2) (sx.trans s2)
end
structure BeC (K : PySem.W.Frag) (mg : Str → Option Value) (wa : Addr) : Prop where
  dn : ∃ t,mg "DOWN" = some (.str "down" t)
  ac : ∃ t,mg "ACROSS" = some (.str "across" t)
  ms : ∃ t,mg "MOST_SIDE" = some (.int 16 t)
abbrev wv (dn : Bool) : V := .str (if dn = true then "down" else "across")
def WpAt (H : Hp) (v : V) (x : Bool × Int) : Prop := ∃ q,v = .ref q ∧ H q = some (.tup [wv x.1,.int x.2])
theorem WpAt.keep {H H' : Hp} (s : Same H H') {v : V} {x : Bool × Int} (h : WpAt H v x) : WpAt H' v x := by
  obtain ⟨q,e,h⟩ := h
  exact ⟨q,e,s _ _ h⟩
def wpL (dn : Bool) (n : Nat) : List (Bool × Int) := (List.range n).map fun (j : Nat) => (dn,1 + (j : Int))
theorem wpL_len (dn : Bool) (n : Nat) : (wpL dn n).length = n := by unfold wpL; rw [List.length_map,List.length_range]
theorem wpL_succ (dn : Bool) (n : Nat) : wpL dn (n + 1) = wpL dn n ++ [(dn,1 + (n : Int))] := by
  unfold wpL
  rw [List.range_succ,List.map_append]
  rfl
def cutsL (b w h : Int) : List (Bool × Int) := wpL true (w - b - 1).toNat ++ wpL false (h - b - 1).toNat
def fstP (w h : Int) (x : Bool × Int) : Int × Int := if x.1 = true then (x.2,h) else (w,x.2)
def sndP (b w h : Int) (x : Bool × Int) : Int × Int := if x.1 = true then (w - x.2 - b,h) else (w,h - x.2 - b)
def CutAt (b w h : Int) (H : Hp) (v : V) (x : Bool × Int) : Prop := ∃ q t1 t2,v = .ref q ∧ H q = some (.tup [wv x.1,.int x.2,.ref t1,.ref t2]) ∧ H t1 = some (.tup [.int (fstP w h x).1,.int (fstP w h x).2]) ∧ H t2 = some (.tup [.int (sndP b w h x).1,.int (sndP b w h x).2])
theorem CutAt.keep {b w h : Int} {H H' : Hp} (s : Same H H') {v : V} {x : Bool × Int} (c : CutAt b w h H v x) : CutAt b w h H' v x := by
  obtain ⟨q,t1,t2,e,h1,h2,h3⟩ := c
  exact ⟨q,t1,t2,e,s _ _ h1,s _ _ h2,s _ _ h3⟩
section
variable {P : Program} {w : World} {K : PySem.W.Frag} {mg : Str → Option Value} {base : Heap}
def spParts2 : Sp := fun vs H Q _ => ∃ (b w h p : Int) (t : Addr) (dn : Bool),vs = [.int b,.ref t,.str (if dn = true then "down" else "across"),.int p] ∧ H t = some (.tup [.int w,.int h]) ∧
  ∀ (u t1 t2 : Addr) (H' : Hp),H' u = some (.tup [.ref t1,.ref t2]) → H' t1 = some (.tup (if dn = true then [.int p,.int h] else [.int w,.int p])) → H' t2 = some (.tup (if dn = true then [.int (w - p - b),.int h] else [.int w,.int (h - p - b)])) → Same H H' → Q (.ref u) H'
def spCuts : Sp := fun vs H Q _ => ∃ (b w h : Int) (t : Addr),vs = [.int b,.ref t] ∧ H t = some (.tup [.int w,.int h]) ∧ w ≤ 16 ∧ h ≤ 16 ∧ 0 ≤ b ∧ ∀ (l : Addr) (ys : List V) (H' : Hp),H' l = some (.lst ys) → Paired (CutAt b w h H') ys (cutsL b w h) → Same H H' → Q (.ref l) H'
theorem scparts2 : FnScope ["blade","part","way","p","wide","high"] ["blade","part","way","p"] (defScope sCutParts) := ⟨rfl,rfl,rfl,by decide +kernel,rfl,by decide +kernel,by decide +kernel⟩
theorem ok_parts2 {f wa : Addr} {fd : FuncData} (F : Fun K "cut_parts" "cut_parts" sCutParts f fd) (Z : BeC K mg wa) : FnOk P w K mg base CX0 1 f fd ["blade","part","way","p"] (spParts2) := by
  refine F.ok scparts2 (fun vs H Q E h => ?_) (fun cdv A outer s H vs Q E hr h => ?_)
  · obtain ⟨b,w1,h1,p1,t,dn,rfl,_⟩ := h
    rfl
  obtain ⟨b,w1,h1,p1,t,dn,rfl,ht,q⟩ := h
  have nd := scparts2.nd
  obtain ⟨tdn,hdn⟩ := Z.dn
  refine ⟨_,(@pss_cons _ _ _ _ _ (@ps_asg _ _ _ _ _ _ (pv 1) (pg_tup rfl (pgs_cons (pg_name (i := 4) nd rfl (Or.inl rfl)) (pgs_cons (pg_name (i := 5) nd rfl (Or.inl rfl)) pgs_nil))) rfl rfl rfl) (@pss_cons _ _ _ _ _ (@ps_if _ _ _ _ _ _ _ _ (@pt_cmpR _ _ _ _ _ _ _ _ op_eq (pv 2) (pe_glob (v := .str "down") rfl hdn ⟨tdn,rfl⟩) (nomark _)) (@pss_one _ _ _ (@ps_ret _ _ _ _ (@pe_tup _ _ _ _ _ (@pa_cons _ _ _ _ _ (@pe_tup _ _ _ _ _ (@pa_cons _ _ _ _ _ (pv 3) (@pa_cons _ _ _ _ _ (pv 5) pa_nil rfl) rfl)) (@pa_cons _ _ _ _ _ (@pe_tup _ _ _ _ _ (@pa_cons _ _ _ _ _ (@pe_op _ _ _ _ _ _ _ _ op_sub (@pe_op _ _ _ _ _ _ _ _ op_sub (pv 4) (pv 3)) (pv 0)) (@pa_cons _ _ _ _ _ (pv 5) pa_nil rfl) rfl)) pa_nil rfl) rfl)))) pss_nil) (@pss_one _ _ _ (@ps_ret _ _ _ _ (@pe_tup _ _ _ _ _ (@pa_cons _ _ _ _ _ (@pe_tup _ _ _ _ _ (@pa_cons _ _ _ _ _ (pv 4) (@pa_cons _ _ _ _ _ (pv 3) pa_nil rfl) rfl)) (@pa_cons _ _ _ _ _ (@pe_tup _ _ _ _ _ (@pa_cons _ _ _ _ _ (pv 4) (@pa_cons _ _ _ _ _ (@pe_op _ _ _ _ _ _ _ _ op_sub (@pe_op _ _ _ _ _ _ _ _ op_sub (pv 5) (pv 3)) (pv 0)) pa_nil rfl) rfl)) pa_nil rfl) rfl)))))),?_⟩
  refine ⟨_,rfl,t,_,rfl,SqT.of ht,rfl,_,_,rfl,_,_,rfl,rfl,?_⟩
  cases dn with
  | true =>
    refine ⟨_,rfl,rfl,_,rfl,iteT ?_⟩
    refine ⟨_,rfl,_,rfl,(by show 2 ≤ sizeLine; decide),fun t1 h1' => ?_⟩
    have sa : Same H (upd H t1 (.tup [.int p1,.int h1])) := Same.new h1'
    have ka : (upd H t1 (.tup [.int p1,.int h1])) t1 = some (.tup [.int p1,.int h1]) := upd_same
    generalize upd H t1 (.tup [.int p1,.int h1]) = Ha at sa ka ⊢
    refine ⟨_,rfl,_,rfl,_,_,rfl,rfl,_,rfl,_,_,rfl,rfl,_,rfl,(by show 2 ≤ sizeLine; decide),fun t2 h2' => ?_⟩
    have sb : Same Ha (upd Ha t2 (.tup [.int (w1 - p1 - b),.int h1])) := Same.new h2'
    have kb : (upd Ha t2 (.tup [.int (w1 - p1 - b),.int h1])) t2 = some (.tup [.int (w1 - p1 - b),.int h1]) := upd_same
    generalize upd Ha t2 (.tup [.int (w1 - p1 - b),.int h1]) = Hb at sb kb ⊢
    refine ⟨(by show 2 ≤ sizeLine; decide),fun u hu => ?_⟩
    have sc : Same Hb (upd Hb u (.tup [.ref t1,.ref t2])) := Same.new hu
    have kc : (upd Hb u (.tup [.ref t1,.ref t2])) u = some (.tup [.ref t1,.ref t2]) := upd_same
    generalize upd Hb u (.tup [.ref t1,.ref t2]) = Hc at sc kc ⊢
    exact q u t1 t2 Hc kc (sc _ _ (sb _ _ ka)) (sc _ _ kb) ((sa.trans sb).trans sc)
  | false =>
    refine ⟨_,rfl,rfl,_,rfl,iteF ?_⟩
    refine ⟨_,rfl,_,rfl,(by show 2 ≤ sizeLine; decide),fun t1 h1' => ?_⟩
    have sa : Same H (upd H t1 (.tup [.int w1,.int p1])) := Same.new h1'
    have ka : (upd H t1 (.tup [.int w1,.int p1])) t1 = some (.tup [.int w1,.int p1]) := upd_same
    generalize upd H t1 (.tup [.int w1,.int p1]) = Ha at sa ka ⊢
    refine ⟨_,rfl,_,rfl,_,rfl,_,_,rfl,rfl,_,rfl,_,_,rfl,rfl,(by show 2 ≤ sizeLine; decide),fun t2 h2' => ?_⟩
    have sb : Same Ha (upd Ha t2 (.tup [.int w1,.int (h1 - p1 - b)])) := Same.new h2'
    have kb : (upd Ha t2 (.tup [.int w1,.int (h1 - p1 - b)])) t2 = some (.tup [.int w1,.int (h1 - p1 - b)]) := upd_same
    generalize upd Ha t2 (.tup [.int w1,.int (h1 - p1 - b)]) = Hb at sb kb ⊢
    refine ⟨(by show 2 ≤ sizeLine; decide),fun u hu => ?_⟩
    have sc : Same Hb (upd Hb u (.tup [.ref t1,.ref t2])) := Same.new hu
    have kc : (upd Hb u (.tup [.ref t1,.ref t2])) u = some (.tup [.ref t1,.ref t2]) := upd_same
    generalize upd Hb u (.tup [.ref t1,.ref t2]) = Hc at sc kc ⊢
    exact q u t1 t2 Hc kc (sc _ _ (sb _ _ ka)) (sc _ _ kb) ((sa.trans sb).trans sc)
theorem sccuts : FnScope ["blade","part","down","across"] ["blade","part"] (defScope sCutsOf) := ⟨rfl,rfl,rfl,by decide +kernel,rfl,by decide +kernel,by decide +kernel⟩
theorem ok_cuts {f wa : Addr} {fd : FuncData} (F : Fun K "cuts_of" "cuts_of" sCutsOf f fd) (B : Blt mg) (Z : BeC K mg wa) (DP : Dn P w K mg base "cut_parts" ["blade","part","way","p"] 1 (spParts2)) : FnOk P w K mg base CX0 2 f fd ["blade","part"] (spCuts) := by
  refine F.ok sccuts (fun vs H Q E h => ?_) (fun cdv A outer s H vs Q E hr h => ?_)
  · obtain ⟨b,w1,h1,t,rfl,_⟩ := h
    rfl
  obtain ⟨b,w1,h1,t,rfl,ht,w16,h16,b0,q⟩ := h
  have nd := sccuts.nd
  obtain ⟨tdn,hdn⟩ := Z.dn
  obtain ⟨tac,hac⟩ := Z.ac
  refine ⟨_,(@pss_cons _ _ _ _ _ (ps_comp (i := 2) (own := ["p"]) (cs := []) (cap := []) rfl nd rfl rfl rfl (pi_range2N rfl B.range (@pa_cons _ _ _ _ _ pe_int (@pa_cons _ _ _ _ _ (@pe_op _ _ _ _ _ _ _ _ op_sub (@pe_ix _ _ _ _ _ _ _ ix_tup (pv 1) pe_int (fun _ _ => rfl)) (pv 0)) pa_nil rfl) rfl)) (compOk_of (sc := defScope sCutsOf) (N := ["blade","part","down","across"]) rfl rfl (by decide +kernel)) (fun _ _ _ _ _ => pg_name (i := 0) (by show List.Nodup (["p"] : List Str) ; decide +kernel) rfl (Or.inl rfl) (Or.inr rfl)) (fun _ _ _ _ _ => pifs_nil) (fun _ _ _ _ _ => (@pe_tup _ _ _ _ _ (@pa_cons _ _ _ _ _ (pe_glob (v := .str "down") rfl hdn ⟨tdn,rfl⟩) (@pa_cons _ _ _ _ _ (pv 0) pa_nil rfl) rfl)))) (@pss_cons _ _ _ _ _ (ps_comp (i := 3) (own := ["p"]) (cs := []) (cap := []) rfl nd rfl rfl rfl (pi_range2N rfl B.range (@pa_cons _ _ _ _ _ pe_int (@pa_cons _ _ _ _ _ (@pe_op _ _ _ _ _ _ _ _ op_sub (@pe_ix _ _ _ _ _ _ _ ix_tup (pv 1) pe_int (fun _ _ => rfl)) (pv 0)) pa_nil rfl) rfl)) (compOk_of (sc := defScope sCutsOf) (N := ["blade","part","down","across"]) rfl rfl (by decide +kernel)) (fun _ _ _ _ _ => pg_name (i := 0) (by show List.Nodup (["p"] : List Str) ; decide +kernel) rfl (Or.inl rfl) (Or.inr rfl)) (fun _ _ _ _ _ => pifs_nil) (fun _ _ _ _ _ => (@pe_tup _ _ _ _ _ (@pa_cons _ _ _ _ _ (pe_glob (v := .str "across") rfl hac ⟨tac,rfl⟩) (@pa_cons _ _ _ _ _ (pv 0) pa_nil rfl) rfl)))) (@pss_one _ _ _ (@ps_ret _ _ _ _ (pe_comp (own := ["way","p"]) (cs := ["blade","part"]) (cap := [0,1]) rfl (pi_list (@pe_op _ _ _ _ _ _ _ _ op_cat (pv 2) (pv 3))) (compOk_of (sc := defScope sCutsOf) (N := ["blade","part","down","across"]) rfl rfl (by decide +kernel)) (fun _ _ _ _ _ => pg_two K rfl rfl (by show List.Nodup (["way","p","blade","part"] : List Str) ; decide +kernel) rfl rfl rfl rfl) (fun _ _ _ _ _ => pifs_nil) (fun _ _ _ _ _ => (pe_op (r := rCatT K) op_catT (@pe_tup _ _ _ _ _ (@pa_cons _ _ _ _ _ (pv 0) (@pa_cons _ _ _ _ _ (pv 1) pa_nil rfl) rfl)) (@pe_cD _ _ _ _ _ _ _ _ _ _ DP hr rfl (@pa_cons _ _ _ _ _ (pv 2) (@pa_cons _ _ _ _ _ (pv 3) (@pa_cons _ _ _ _ _ (pv 0) (@pa_cons _ _ _ _ _ (pv 1) pa_nil rfl) rfl) rfl) rfl) (by decide) rfl rfl)))))))),?_⟩
  have z4 : 4096 ≤ sizeLine := by decide
  have wn : (w1 - b - 1).toNat ≤ 16 := by omega
  have hn : (h1 - b - 1).toNat ≤ 16 := by omega
  refine seqCut (fun σ' H' => ∃ (dl : Addr) (ys : List V),σ' = [some (.int b),some (.ref t),some (.ref dl),none] ∧ H' dl = some (.lst ys) ∧ Paired (WpAt H') ys (wpL true (w1 - b - 1).toNat) ∧ Same H H') (fun R hR => ?_) ?_
  · refine ⟨_,rfl,t,_,0,_,rfl,rfl,SqT.of ht,rfl,_,rfl,_,_,rfl,rfl,1,_,rfl,⟨by decide,by decide,by show w1 - b < 2 ^ 62; omega⟩,?_⟩
    show ∃ W,_ ∧ CompW _ _ _ (Itr 1 (w1 - b - 1).toNat) _ _ _ _ W
    generalize (w1 - b - 1).toNat = n at *
    refine comp_rng (lo := 1) (n := n) (fun i ys Hx => Same H Hx ∧ Paired (WpAt Hx) ys (wpL true i)) ⟨Same.refl _,.nil⟩ ?_ ?_
    · rintro i ys Hx hi ⟨sx,py⟩
      have pl := Paired.length py
      rw [wpL_len] at pl
      refine ⟨by omega,leS.set rfl,tYes_ite ?_⟩
      refine ⟨_,rfl,(by show 2 ≤ sizeLine; decide),fun q' hq => ?_⟩
      obtain ⟨Hy, e9, k9, s9⟩ : ∃ H', upd Hx q' (.tup [.str "down", .int (1 + i)]) = H' ∧ H' q' = some (.tup [.str "down", .int (1 + i)]) ∧ Same Hx H' := ⟨_, rfl, upd_same, Same.new hq⟩
      rw [show upd Hx q' _ = Hy from e9]
      refine Nx.of hi ⟨sx.trans s9,?_⟩
      rw [wpL_succ]
      exact Paired.app (Paired.mapP py fun v p h => h.keep s9) (.cons ⟨q',rfl,k9⟩ .nil)
    · rintro ys Hx ⟨sx,py⟩
      have pl := Paired.length py
      rw [wpL_len] at pl
      refine ⟨by omega,fun l hl => ?_⟩
      obtain ⟨Hy,e9,k9,s9⟩ : ∃ H',upd Hx l (.lst ys) = H' ∧ H' l = some (.lst ys) ∧ Same Hx H' := ⟨_,rfl,upd_same,Same.new hl⟩
      rw [show upd Hx l _ = Hy from e9]
      exact hR _ _ ⟨l,ys,rfl,k9,Paired.mapP py fun v p h => h.keep s9,sx.trans s9⟩
  rintro _ H1 ⟨dl,ys,rfl,kd,pd,s1⟩
  refine seqCut (fun σ' H' => ∃ (al : Addr) (zs : List V),σ' = [some (.int b),some (.ref t),some (.ref dl),some (.ref al)] ∧ H' al = some (.lst zs) ∧ Paired (WpAt H') zs (wpL false (h1 - b - 1).toNat) ∧ Same H1 H') (fun R hR => ?_) ?_
  · refine ⟨_,rfl,t,_,1,_,rfl,rfl,SqT.of (s1 _ _ ht),rfl,_,rfl,_,_,rfl,rfl,1,_,rfl,⟨by decide,by decide,by show h1 - b < 2 ^ 62; omega⟩,?_⟩
    show ∃ W,_ ∧ CompW _ _ _ (Itr 1 (h1 - b - 1).toNat) _ _ _ _ W
    generalize (h1 - b - 1).toNat = n at *
    refine comp_rng (lo := 1) (n := n) (fun i ys Hx => Same H1 Hx ∧ Paired (WpAt Hx) ys (wpL false i)) ⟨Same.refl _,.nil⟩ ?_ ?_
    · rintro i ys Hx hi ⟨sx,py⟩
      have pl := Paired.length py
      rw [wpL_len] at pl
      refine ⟨by omega,leS.set rfl,tYes_ite ?_⟩
      refine ⟨_,rfl,(by show 2 ≤ sizeLine; decide),fun q' hq => ?_⟩
      obtain ⟨Hy, e9, k9, s9⟩ : ∃ H', upd Hx q' (.tup [.str "across", .int (1 + i)]) = H' ∧ H' q' = some (.tup [.str "across", .int (1 + i)]) ∧ Same Hx H' := ⟨_, rfl, upd_same, Same.new hq⟩
      rw [show upd Hx q' _ = Hy from e9]
      refine Nx.of hi ⟨sx.trans s9,?_⟩
      rw [wpL_succ]
      exact Paired.app (Paired.mapP py fun v p h => h.keep s9) (.cons ⟨q',rfl,k9⟩ .nil)
    · rintro ys Hx ⟨sx,py⟩
      have pl := Paired.length py
      rw [wpL_len] at pl
      refine ⟨by omega,fun l hl => ?_⟩
      obtain ⟨Hy,e9,k9,s9⟩ : ∃ H',upd Hx l (.lst ys) = H' ∧ H' l = some (.lst ys) ∧ Same Hx H' := ⟨_,rfl,upd_same,Same.new hl⟩
      rw [show upd Hx l _ = Hy from e9]
      exact hR _ _ ⟨l,ys,rfl,k9,Paired.mapP py fun v p h => h.keep s9,sx.trans s9⟩
  rintro _ H2 ⟨al,zs,rfl,ka,pa,s2⟩
  have s02 := s1.trans s2
  have ht2 := s02 _ _ ht
  have pd2 : Paired (WpAt H2) ys (wpL true (w1 - b - 1).toNat) := Paired.mapP pd fun v p h => h.keep s2
  have l1 := Paired.length pd2
  have l2 := Paired.length pa
  rw [wpL_len] at l1 l2
  have pc : Paired (WpAt H2) (ys ++ zs) (cutsL b w1 h1) := Paired.app pd2 pa
  refine ⟨_,rfl,_,rfl,dl,al,_,_,rfl,rfl,s2 _ _ kd,ka,by omega,fun cl hcl => ?_⟩
  obtain ⟨H3,e3,k3,s3⟩ : ∃ H',upd H2 cl (.lst (ys ++ zs)) = H' ∧ H' cl = some (.lst (ys ++ zs)) ∧ Same H2 H' := ⟨_,rfl,upd_same,Same.new hcl⟩
  rw [show upd H2 cl _ = H3 from e3]
  have pc3 : Paired (WpAt H3) (ys ++ zs) (cutsL b w1 h1) := Paired.mapP pc fun v p h => h.keep s3
  have cl32 : (ys ++ zs).length ≤ 32 := by rw [List.length_append]; omega
  refine ⟨cl,rfl,⟨_,SqL.of k3⟩,(comp_seq (K := K) (.inl k3) (fun i us Hx => Same H3 Hx ∧ Paired (CutAt b w1 h1 Hx) us ((cutsL b w1 h1).take i)) (fun i us Hx _ ⟨sx,_⟩ o e => sx _ _ e) ⟨Same.refl _,.nil⟩ ?_ ?_).1 k3⟩
  · rintro i y us Hx hi ⟨sx,pu⟩
    have hin : i < (ys ++ zs).length := (List.getElem?_eq_some_iff.mp hi).1
    obtain ⟨⟨dn,p⟩,hq,a,rfl,ha⟩ := Paired.getR pc3 hi
    have ul := Paired.length pu
    rw [List.length_take] at ul
    have hax := sx _ _ ha
    refine ⟨by omega,a,_,rfl,SqT.of hax,rfl,_,_,rfl,_,_,rfl,rfl,?_⟩
    refine ⟨leS2 (leS.set rfl) (leS.set rfl),tYes_ite ?_⟩
    refine ⟨_,rfl,_,rfl,(by show 2 ≤ sizeLine; decide),fun x hx => ?_⟩
    obtain ⟨Hy,e4,k4,s4⟩ : ∃ H',upd Hx x (.tup [wv dn,.int p]) = H' ∧ H' x = some (.tup [wv dn,.int p]) ∧ Same Hx H' := ⟨_,rfl,upd_same,Same.new hx⟩
    rw [show upd Hx x _ = Hy from e4]
    refine ⟨_,rfl,_,rfl,_,rfl,_,rfl,b,w1,h1,p,t,dn,rfl,s4 _ _ (sx _ _ (s3 _ _ ht2)),fun u t1 t2 Hz ku k1 k2 s5 => ?_⟩
    refine ⟨x,u,_,_,rfl,rfl,SqT.of (s5 _ _ k4),SqT.of ku,List.cons_ne_nil _ _,(by show 4 ≤ sizeLine; decide),(fun z => by cases z),fun _ m hm => ?_⟩
    rw [show [wv dn,V.int p] ++ [V.ref t1,V.ref t2] = [wv dn,V.int p,V.ref t1,V.ref t2] from rfl]
    obtain ⟨Hw,e6,k6,s6⟩ : ∃ H',upd Hz m (.tup [wv dn,.int p,.ref t1,.ref t2]) = H' ∧ H' m = some (.tup [wv dn,.int p,.ref t1,.ref t2]) ∧ Same Hz H' := ⟨_,rfl,upd_same,Same.new hm⟩
    rw [show upd Hz m _ = Hw from e6]
    have sxw := s4.trans (s5.trans s6)
    refine Nx.of hin ⟨sx.trans sxw,?_⟩
    rw [List.take_add_one,hq]
    refine Paired.app (Paired.mapP pu fun v p h => h.keep sxw) (.cons ⟨m,t1,t2,rfl,k6,?_,?_⟩ .nil)
    · cases dn <;> exact s6 _ _ k1
    · cases dn <;> exact s6 _ _ k2
  · rintro us Hx ⟨sx,pu⟩
    have pl := Paired.length pc3
    rw [pl,List.take_length] at pu
    have ul := Paired.length pu
    refine ⟨by omega,fun l hl => ?_⟩
    obtain ⟨Hy,e7,k7,s7⟩ : ∃ H',upd Hx l (.lst us) = H' ∧ H' l = some (.lst us) ∧ Same Hx H' := ⟨_,rfl,upd_same,Same.new hl⟩
    rw [show upd Hx l _ = Hy from e7]
    exact q l us Hy k7 (Paired.mapP pu fun v p h => h.keep s7) (s02.trans (s3.trans (sx.trans s7)))
end
inductive Tr where
  | rest
  | piece (i : Nat) (c : Bool) (x y : Int)
  | cut (dn : Bool) (p : Int) (l r : Tr)
def toD : Tr → PyData
  | .rest => .tuple [.str "rest"]
  | .piece i c x y => .tuple [.str "piece",.int i,.bool c,.int x,.int y]
  | .cut dn p l r => .tuple [.str (if dn = true then "down" else "across"),.int p,toD l,toD r]
def TrV (H : Hp) : Tr → V → Prop
  | .rest,v => ∃ a,v = .ref a ∧ H a = some (.tup [.str "rest"])
  | .piece i c x y,v => ∃ a,v = .ref a ∧ H a = some (.tup [.str "piece",.int i,.bl c,.int x,.int y])
  | .cut dn p l r,v => ∃ a x y,v = .ref a ∧ H a = some (.tup [.str (if dn = true then "down" else "across"),.int p,x,y]) ∧ TrV H l x ∧ TrV H r y
def dpt : Tr → Nat
  | .cut _ _ l r => max (dpt l) (dpt r) + 1
  | _ => 0
def wq (ks : List Kd) (q : Nat × Bool) : Int := match ks[q.1]? with
  | some k => k.wo
  | none => 0
def mxL {α : Type} (f : α → Int) (l : List α) (x : Int) : Int := l.foldl (fun m q => max m (f q)) x
def lfW (ks : List Kd) (w h : Int) : Int := mxL (wq ks) ((lyK ks 0).filter (fitP ks w h)) 0
def LfV (H : Hp) (v : V) : Prop := ∃ (q : Addr) (y : Str) (r : List V),v = .ref q ∧ H q = some (.tup (.str y :: r)) ∧ inV (V.str y) [V.str "down",V.str "across"] = false
def lfF (ks : List Kd) (m : Int × Tr) (q : Nat × Bool) : Int × Tr := if m.1 < wq ks q then (wq ks q,.piece q.1 q.2 0 0) else m
def lfP (ks : List Kd) (l : List (Nat × Bool)) : Int × Tr := l.foldl (lfF ks) (0,.rest)
def isLf : Tr → Bool
  | .cut .. => false
  | _ => true
def lfT (ks : List Kd) (w h : Int) : Tr := (lfP ks ((lyK ks 0).filter (fitP ks w h))).2
def stF (g : Bool × Int → Int) (m : Int × Option (Bool × Int)) (c : Bool × Int) : Int × Option (Bool × Int) := if m.1 < g c then (g c,some c) else m
def stP (g : Bool × Int → Int) (cs : List (Bool × Int)) (x : Int) : Int × Option (Bool × Int) := cs.foldl (stF g) (x,none)
def stC (g : Bool × Int → Int) (cs : List (Bool × Int)) (x : Int) : Option (Bool × Int) := (stP g cs x).2
def StV (b w h : Int) (H : Hp) (lv v : V) : Option (Bool × Int) → Prop
  | none => v = lv
  | some c => CutAt b w h H v c
abbrev pk (p : Int × Int) : List Key := [.inl p.1,.inl p.2]
def msr (p : Int × Int) : Nat := (p.1 + p.2).toNat
theorem wpL_mem {dn : Bool} {n : Nat} {x : Bool × Int} (h : x ∈ wpL dn n) : x.1 = dn ∧ 1 ≤ x.2 ∧ x.2 ≤ n := by
  unfold wpL at h
  obtain ⟨j,hj,rfl⟩ := List.mem_map.mp h
  have := List.mem_range.mp hj
  exact ⟨rfl,by show 1 ≤ 1 + (j : Int); omega,by show 1 + (j : Int) ≤ n; omega⟩
theorem cutsL_mem {b w h : Int} {x : Bool × Int} (m : x ∈ cutsL b w h) : 1 ≤ x.2 ∧ (if x.1 = true then x.2 + b < w else x.2 + b < h) := by
  unfold cutsL at m
  rcases List.mem_append.mp m with m | m
  · obtain ⟨e,h1,h2⟩ := wpL_mem m
    rw [e,if_pos rfl]
    exact ⟨h1,by omega⟩
  · obtain ⟨e,h1,h2⟩ := wpL_mem m
    rw [e,if_neg Bool.false_ne_true]
    exact ⟨h1,by omega⟩
theorem mem_cutsL {b w h : Int} {dn : Bool} {p : Int} (h1 : 1 ≤ p) (h2 : if dn = true then p + b < w else p + b < h) : (dn,p) ∈ cutsL b w h := by
  unfold cutsL wpL
  cases dn with
  | true =>
    have h2 : p + b < w := h2
    refine List.mem_append_left _ (List.mem_map.mpr ⟨(p - 1).toNat,List.mem_range.mpr (by omega),?_⟩)
    rw [show 1 + ((p - 1).toNat : Int) = p by omega]
  | false =>
    have h2 : p + b < h := h2
    refine List.mem_append_right _ (List.mem_map.mpr ⟨(p - 1).toNat,List.mem_range.mpr (by omega),?_⟩)
    rw [show 1 + ((p - 1).toNat : Int) = p by omega]
theorem cut_less {b w h : Int} {x : Bool × Int} (b0 : 0 ≤ b) (w0 : 1 ≤ w) (h0 : 1 ≤ h) (m : x ∈ cutsL b w h) :
    (1 ≤ (fstP w h x).1 ∧ 1 ≤ (fstP w h x).2 ∧ (fstP w h x).1 ≤ w ∧ (fstP w h x).2 ≤ h ∧ ((fstP w h x).1 < w ∨ (fstP w h x).1 = w ∧ (fstP w h x).2 < h) ∧ msr (fstP w h x) < msr (w,h)) ∧
    (1 ≤ (sndP b w h x).1 ∧ 1 ≤ (sndP b w h x).2 ∧ (sndP b w h x).1 ≤ w ∧ (sndP b w h x).2 ≤ h ∧ ((sndP b w h x).1 < w ∨ (sndP b w h x).1 = w ∧ (sndP b w h x).2 < h) ∧ msr (sndP b w h x) < msr (w,h)) := by
  obtain ⟨h1,h2⟩ := cutsL_mem m
  obtain ⟨dn,p⟩ := x
  cases dn with
  | true =>
    have h2 : p + b < w := h2
    have h1 : 1 ≤ p := h1
    show (1 ≤ p ∧ 1 ≤ h ∧ p ≤ w ∧ h ≤ h ∧ (p < w ∨ p = w ∧ h < h) ∧ (p + h).toNat < (w + h).toNat) ∧ (1 ≤ w - p - b ∧ 1 ≤ h ∧ w - p - b ≤ w ∧ h ≤ h ∧ (w - p - b < w ∨ w - p - b = w ∧ h < h) ∧ (w - p - b + h).toNat < (w + h).toNat)
    refine ⟨⟨?_,?_,?_,?_,?_,?_⟩,⟨?_,?_,?_,?_,?_,?_⟩⟩ <;> omega
  | false =>
    have h2 : p + b < h := h2
    have h1 : 1 ≤ p := h1
    show (1 ≤ w ∧ 1 ≤ p ∧ w ≤ w ∧ p ≤ h ∧ (w < w ∨ w = w ∧ p < h) ∧ (w + p).toNat < (w + h).toNat) ∧ (1 ≤ w ∧ 1 ≤ h - p - b ∧ w ≤ w ∧ h - p - b ≤ h ∧ (w < w ∨ w = w ∧ h - p - b < h) ∧ (w + (h - p - b)).toNat < (w + h).toNat)
    refine ⟨⟨?_,?_,?_,?_,?_,?_⟩,⟨?_,?_,?_,?_,?_,?_⟩⟩ <;> omega
def bF (b : Int) (ks : List Kd) : Nat → Int × Int → Int
  | 0,_ => 0
  | n + 1,p => mxL (fun c => bF b ks n (fstP p.1 p.2 c) + bF b ks n (sndP b p.1 p.2 c)) (cutsL b p.1 p.2) (lfW ks p.1 p.2)
def bW (b : Int) (ks : List Kd) (p : Int × Int) : Int := bF b ks (msr p + 1) p
def ltP (p q : Int × Int) : Prop := p.1 < q.1 ∨ p.1 = q.1 ∧ p.2 < q.2
theorem rowP_mem {a : Int} {n : Nat} {p : Int × Int} : p ∈ rowP a n ↔ p.1 = a ∧ 1 ≤ p.2 ∧ p.2 ≤ n := by
  unfold rowP
  constructor
  · intro h
    obtain ⟨j,hj,rfl⟩ := List.mem_map.mp h
    have := List.mem_range.mp hj
    exact ⟨rfl,by show 1 ≤ 1 + (j : Int); omega,by show 1 + (j : Int) ≤ n; omega⟩
  · rintro ⟨e,h1,h2⟩
    refine List.mem_map.mpr ⟨(p.2 - 1).toNat,List.mem_range.mpr (by omega),?_⟩
    rw [← e,show 1 + ((p.2 - 1).toNat : Int) = p.2 by omega]
theorem partsL_mem {n : Nat} {p : Int × Int} : ∀ {m : Nat},p ∈ partsL m n ↔ (1 ≤ p.1 ∧ p.1 ≤ m) ∧ 1 ≤ p.2 ∧ p.2 ≤ n
  | 0 => by
    constructor
    · intro h; simp [partsL] at h
    · rintro ⟨⟨h1,h2⟩,_⟩; exfalso; have h2 : p.1 ≤ 0 := h2; omega
  | m + 1 => by
    rw [partsL_succ,List.mem_append,partsL_mem (m := m),rowP_mem]
    constructor
    · rintro (⟨⟨h1,h2⟩,h3⟩ | ⟨h1,h2⟩)
      · exact ⟨⟨h1,by omega⟩,h3⟩
      · exact ⟨⟨by omega,by omega⟩,h2⟩
    · rintro ⟨⟨h1,h2⟩,h3⟩
      by_cases e : p.1 = 1 + (m : Int)
      · exact .inr ⟨e,h3⟩
      · exact .inl ⟨⟨h1,by omega⟩,h3⟩
theorem rowP_pair (a : Int) : ∀ n : Nat,(rowP a n).Pairwise ltP
  | 0 => List.Pairwise.nil
  | n + 1 => by
    rw [rowP_succ,List.pairwise_append]
    refine ⟨rowP_pair a n,List.pairwise_singleton _ _,fun p hp q hq => ?_⟩
    rw [List.mem_singleton.mp hq]
    obtain ⟨e,_,h⟩ := rowP_mem.mp hp
    exact .inr ⟨e,by show p.2 < 1 + (n : Int); omega⟩
theorem partsL_pair (n : Nat) : ∀ m : Nat,(partsL m n).Pairwise ltP
  | 0 => List.Pairwise.nil
  | m + 1 => by
    rw [partsL_succ,List.pairwise_append]
    refine ⟨partsL_pair n m,rowP_pair _ n,fun p hp q hq => ?_⟩
    obtain ⟨⟨_,h⟩,_⟩ := partsL_mem.mp hp
    obtain ⟨e,_⟩ := rowP_mem.mp hq
    exact .inl (by omega)
theorem partsL_new {m n i : Nat} {p : Int × Int} (hi : (partsL m n)[i]? = some p) : p ∉ (partsL m n).take i := fun h => by
  obtain ⟨j,hj⟩ := List.mem_iff_getElem?.mp h
  obtain ⟨j0,_⟩ := List.getElem?_eq_some_iff.mp hj
  rw [List.length_take] at j0
  rw [List.getElem?_take_of_lt (by omega)] at hj
  obtain ⟨i1,i2⟩ := List.getElem?_eq_some_iff.mp hi
  obtain ⟨j1,j2⟩ := List.getElem?_eq_some_iff.mp hj
  have := List.pairwise_iff_getElem.mp (partsL_pair n m) j i j1 i1 (by omega)
  rw [i2,j2] at this
  unfold ltP at this
  omega
theorem pk_inj {p q : Int × Int} (h : pk p = pk q) : p = q := by
  obtain ⟨a,b⟩ := p
  obtain ⟨c,d⟩ := q
  have h : ([.inl a,.inl b] : List Key) = [.inl c,.inl d] := h
  injection h with h1 h2
  injection h1 with h1
  injection h2 with h2 _
  injection h2 with h2
  rw [h1,h2]
def byP (ss : List ((Int × Int) × V)) : List (List Key × V) := ss.map fun s => (pk s.1,s.2)
theorem byP_put {ss : List ((Int × Int) × V)} {p : Int × Int} {v : V} (h : p ∉ ss.map (·.1)) : putK (byP ss) (pk p) v = byP (ss ++ [(p,v)]) := by
  unfold putK
  rw [if_neg,byP,byP,List.map_append]
  · rfl
  · intro e
    obtain ⟨x,hx,e⟩ := List.any_eq_true.mp e
    obtain ⟨s,hs,rfl⟩ := List.mem_map.mp hx
    have : s.1 = p := pk_inj (of_decide_eq_true e)
    exact h (List.mem_map.mpr ⟨s,hs,this⟩)
theorem byP_get : ∀ {ss : List ((Int × Int) × V)} {p : Int × Int},p ∈ ss.map (·.1) → ∃ v,valV (byP ss) (pk p) = some v ∧ (p,v) ∈ ss
  | s :: r,p,h => by
    by_cases e : s.1 = p
    · refine ⟨s.2,valV_pos (by show pk s.1 = pk p; rw [e]),?_⟩
      rw [← e]
      exact List.mem_cons_self
    · have h : p ∈ r.map (·.1) := (List.mem_cons.mp h).resolve_left (fun z => e z.symm)
      obtain ⟨v,h1,h2⟩ := byP_get h
      refine ⟨v,?_,List.mem_cons_of_mem _ h2⟩
      show valV ((pk s.1,s.2) :: byP r) (pk p) = some v
      rw [valV_neg (fun z => e (pk_inj z))]
      exact h1
def tabS (b : Int) (ks : List Kd) (ps : List (Int × Int)) : List ((Int × Int) × V) := ps.map fun p => (p,.int (bW b ks p))
def bC (b : Int) (ks : List Kd) (p : Int × Int) : Option (Bool × Int) := stC (fun c => bW b ks (fstP p.1 p.2 c) + bW b ks (sndP b p.1 p.2 c)) (cutsL b p.1 p.2) (lfW ks p.1 p.2)
def bT (b : Int) (ks : List Kd) : Nat → Int × Int → Tr
  | 0,_ => .rest
  | n + 1,p => match bC b ks p with
    | none => lfT ks p.1 p.2
    | some c => .cut c.1 c.2 (bT b ks n (fstP p.1 p.2 c)) (bT b ks n (sndP b p.1 p.2 c))
def StOk (b : Int) (ks : List Kd) (H : Hp) (ss : List ((Int × Int) × V)) : Prop := ∀ p v,(p,v) ∈ ss → (bC b ks p = none ∧ TrV H (lfT ks p.1 p.2) v) ∨ ∃ x : Bool × Int,bC b ks p = some x ∧ CutAt b p.1 p.2 H v x ∧ fstP p.1 p.2 x ∈ ss.map (·.1) ∧ sndP b p.1 p.2 x ∈ ss.map (·.1) ∧ msr (fstP p.1 p.2 x) < msr p ∧ msr (sndP b p.1 p.2 x) < msr p
def fitK (k : Kd) (w h : Int) : Bool := (decide (k.w ≤ w) && decide (k.h ≤ h)) || (k.tu && (decide (k.h ≤ w) && decide (k.w ≤ h)))
theorem lyK_of {k : Kd} {c : Bool} (hc : c = false ∨ turnable k = true) : ∀ {ks : List Kd} {i j : Nat},ks[i]? = some k → (j + i,c) ∈ lyK ks j
  | [],_,_,h => by simp at h
  | x :: r,0,j,h => by
    have h : x = k := by simpa using h
    subst h
    refine List.mem_append_left _ ?_
    unfold lyT
    rcases hc with rfl | ht
    · exact List.mem_cons_self
    · cases c with
      | false => exact List.mem_cons_self
      | true => rw [if_pos ht]; exact List.mem_cons_of_mem _ List.mem_cons_self
  | x :: r,i + 1,j,h => by
    have := lyK_of hc (ks := r) (i := i) (j := j + 1) (by simpa using h)
    rw [show j + (i + 1) = j + 1 + i by omega]
    exact List.mem_append_right _ this
theorem mxL_ge {α : Type} {f : α → Int} : ∀ {l : List α} {x : Int},x ≤ mxL f l x ∧ ∀ a ∈ l,f a ≤ mxL f l x
  | [],_ => ⟨Int.le_refl _,fun a h => by simp at h⟩
  | a :: r,x => by
    obtain ⟨h1,h2⟩ := mxL_ge (f := f) (l := r) (x := max x (f a))
    have e : mxL f (a :: r) x = mxL f r (max x (f a)) := rfl
    rw [e]
    refine ⟨by omega,fun b hb => ?_⟩
    rcases List.mem_cons.mp hb with rfl | hb
    · omega
    · exact h2 b hb
theorem mxL_one {α : Type} {f : α → Int} : ∀ {l : List α} {x : Int},mxL f l x = x ∨ ∃ a ∈ l,mxL f l x = f a
  | [],_ => .inl rfl
  | a :: r,x => by
    have e : mxL f (a :: r) x = mxL f r (max x (f a)) := rfl
    rw [e]
    rcases mxL_one (f := f) (l := r) (x := max x (f a)) with h | ⟨b,hb,h⟩
    · by_cases c : x ≤ f a
      · exact .inr ⟨a,List.mem_cons_self,by rw [h]; omega⟩
      · exact .inl (by rw [h]; omega)
    · exact .inr ⟨b,List.mem_cons_of_mem _ hb,h⟩
theorem lfW_ge {ks : List Kd} {w h : Int} {k : Kd} (hk : k ∈ ks) (hf : fitK k w h = true) : k.wo ≤ lfW ks w h := by
  obtain ⟨i,hi⟩ := List.mem_iff_getElem?.mp hk
  obtain ⟨c,hc,hfit⟩ : ∃ c : Bool,(c = false ∨ turnable k = true) ∧ fits k c w h = true := by
    unfold fitK at hf
    rcases Bool.or_eq_true_iff.mp hf with h1 | h1
    · exact ⟨false,.inl rfl,h1⟩
    · obtain ⟨ht,h2⟩ := Bool.and_eq_true_iff.mp h1
      by_cases e : k.w = k.h
      · refine ⟨false,.inl rfl,?_⟩
        unfold fits sd1 sd2
        rw [if_neg Bool.false_ne_true,if_neg Bool.false_ne_true]
        rw [e] at h2 ⊢
        exact h2
      · exact ⟨true,.inr (by unfold turnable; rw [ht,decide_eq_false e]; rfl),h2⟩
  have hm := lyK_of hc (j := 0) hi
  rw [Nat.zero_add] at hm
  have e : wq ks (i,c) = k.wo := by unfold wq; simp only [hi]
  rw [← e]
  exact (mxL_ge (f := wq ks) (x := 0)).2 _ (List.mem_filter.mpr ⟨hm,by unfold fitP; simp only [hi]; exact hfit⟩)
theorem lfW_one {ks : List Kd} {w h : Int} : lfW ks w h = 0 ∨ ∃ k ∈ ks,fitK k w h = true ∧ lfW ks w h = k.wo := by
  rcases mxL_one (f := wq ks) (l := (lyK ks 0).filter (fitP ks w h)) (x := 0) with h1 | ⟨⟨i,c⟩,hm,h1⟩
  · exact .inl h1
  · obtain ⟨hm,hf⟩ := List.mem_filter.mp hm
    obtain ⟨_,k,hk,hc⟩ := lyK_mem hm
    rw [Nat.sub_zero] at hk
    have hk : ks[i]? = some k := hk
    refine .inr ⟨k,List.mem_of_getElem? hk,?_,?_⟩
    · have hf : fits k c w h = true := by unfold fitP at hf; simp only [hk] at hf; exact hf
      unfold fitK
      cases c with
      | false =>
        have hf : (decide (k.w ≤ w) && decide (k.h ≤ h)) = true := hf
        rw [hf]; rfl
      | true =>
        have hf : (decide (k.h ≤ w) && decide (k.w ≤ h)) = true := hf
        have ht : turnable k = true := hc.resolve_left (fun z => by cases z)
        unfold turnable at ht
        rw [hf,(Bool.and_eq_true_iff.mp ht).1]
        simp
    · have e : wq ks (i,c) = k.wo := by unfold wq; simp only [hk]
      rw [← e]; exact h1
theorem lfW_nn {ks : List Kd} {w h : Int} : 0 ≤ lfW ks w h := (mxL_ge (f := wq ks)).1
theorem made_same {C x dx : Addr} {H : Hp} (hx : H x = none) (hd : H dx = none) : Same H (upd (upd H dx (.own x)) x (.ins C dx [])) := fun c o e => by
  rw [upd_ne (ne_of_none e hx),upd_ne (ne_of_none e hd)]; exact e
def hsh (p : Int × Int) : Int := reduceHash (Builtin.Tuple.tupleHashOf [hashInt p.1,hashInt p.2])
theorem hsh_all : ((partsL 16 16).map hsh).Nodup := by decide +kernel
theorem inj_of {α : Type} {f : α → Int} : ∀ {l : List α},(l.map f).Nodup → ∀ {p q : α},p ∈ l → q ∈ l → f p = f q → p = q
  | [],_,_,_,h,_,_ => by simp at h
  | a :: l,hn,p,q,hp,hq,e => by
    have hn := List.nodup_cons.mp hn
    rcases List.mem_cons.mp hp with rfl | hp2
    · rcases List.mem_cons.mp hq with rfl | hq2
      · rfl
      · exact absurd (by rw [e]; exact List.mem_map.mpr ⟨q,hq2,rfl⟩) hn.1
    · rcases List.mem_cons.mp hq with rfl | hq2
      · exact absurd (by rw [← e]; exact List.mem_map.mpr ⟨p,hp2,rfl⟩) hn.1
      · exact inj_of hn.2 hp2 hq2 e
theorem nodup_of {α : Type} {f : α → Int} {l : List α} (hnew : ∀ (i : Nat) p,l[i]? = some p → p ∉ l.take i) (inj : ∀ p ∈ l,∀ q ∈ l,f p = f q → p = q) : (l.map f).Nodup := by
  rw [List.Nodup,List.pairwise_iff_getElem]
  intro i j hi hj ij e
  rw [List.length_map] at hi hj
  rw [List.getElem_map,List.getElem_map] at e
  have := inj _ (List.getElem_mem hi) _ (List.getElem_mem hj) e
  refine hnew j l[j] (List.getElem?_eq_getElem hj) ?_
  rw [← this]
  exact List.mem_take_iff_getElem.mpr ⟨i,by omega,rfl⟩
theorem part_col {m n : Nat} (m16 : m ≤ 16) (n16 : n ≤ 16) : ((partsL m n).map hsh).Nodup := nodup_of (fun i p h => partsL_new h) fun p hp q hq e => by
  have up : ∀ {r : Int × Int},r ∈ partsL m n → r ∈ partsL 16 16 := fun {r} h => by
    obtain ⟨⟨h1,h2⟩,h3,h4⟩ := partsL_mem.mp h
    exact partsL_mem.mpr ⟨⟨h1,by show r.1 ≤ (16 : Nat); omega⟩,h3,by show r.2 ≤ (16 : Nat); omega⟩
  exact inj_of hsh_all (up hp) (up hq) e
theorem byP_col (P : Program) (w : World) {m n : Nat} (m16 : m ≤ 16) (n16 : n ≤ 16) {ss : List ((Int × Int) × V)} (e : ss.map (·.1) = partsL m n) : ((byP ss).map fun x => tupleKeyHash (mixKind P w) x.1).Nodup := by
  have : ((byP ss).map fun x => tupleKeyHash (mixKind P w) x.1) = (ss.map (·.1)).map hsh := by
    unfold byP
    rw [List.map_map,List.map_map]
    rfl
  rw [this,e]
  exact part_col m16 n16
theorem kit_dd {K : PySem.W.Frag} : PySem.W.kitOne K (.type "dict") (.type "dict") = some true := by kernel_rfl
theorem kit_tt {K : PySem.W.Frag} : PySem.W.kitOne K (.type "tuple") (.type "tuple") = some true := by kernel_rfl
theorem kit_bb {K : PySem.W.Frag} : PySem.W.kitOne K (.type "bool") (.type "bool") = some true := by kernel_rfl
theorem potL {H : Hp} {p : Addr} (h : PotB H p) : ∃ xs,H p = some (.lst xs) := by
  obtain ⟨_,_,_,_,_,e⟩ := h
  exact ⟨_,e⟩
theorem tupsB {p : Addr} {rs : List V} {ks : List Kd} {H H' : Hp} (b : But p H H') (pt : PotB H p) (h : Tups H rs ks) : Tups H' rs ks := by
  obtain ⟨_,hp⟩ := potL pt
  exact Tups.keep (fun x xs e => b _ _ (fun z => by rw [z,hp] at e; cases e) e) h
section
variable {P : Program} {w : World} {K : PySem.W.Frag} {mg : Str → Option Value} {base : Heap}
def spBladeB : Sp := fun vs H Q _ => ∃ (p : Addr),vs = [.ref p] ∧ PotB H p ∧ ∀ (r : Int) (H' : Hp),0 ≤ r → r < 10 ^ 60 → PotB H' p → But p H H' → Q (.int r) H'
def spKindsB : Sp := fun vs H Q _ => ∃ (p : Addr),vs = [.ref p] ∧ PotB H p ∧ ∀ (kl : Addr) (rs : List V) (ks : List Kd) (H' : Hp),kl ≠ p → H kl = none → H' kl = some (.lst rs) → Tups H' rs ks → (∀ k ∈ ks,Good k) → 1 ≤ rs.length → rs.length ≤ 8 → PotB H' p → But p H H' → Q (.ref kl) H'
def spGreatM : Sp := fun vs H Q _ => ∃ (p : Addr) (m : Int),vs = [.ref p,.int m] ∧ PotB H p ∧ 0 < m ∧ m ≤ 10 ^ 60 ∧ ∀ (r : Int) (H' : Hp),0 ≤ r → r < m → PotB H' p → But p H H' → Q (.int r) H'
def spSideB : Sp := fun vs H Q _ => ∃ (p : Addr),vs = [.ref p] ∧ PotB H p ∧ ∀ (r : Int) (H' : Hp),1 ≤ r → r < 10 ^ 60 → PotB H' p → But p H H' → Q (.int r) H'
theorem scpot : FnScope ["_law_cell"] ["_law_cell"] (defScope sPot) := ⟨rfl,rfl,rfl,by decide +kernel,rfl,by decide +kernel,by decide +kernel⟩
theorem ok_pot {f : Addr} {fd : FuncData} (F : Fun K "_law_pot" "_law_pot" sPot f fd) (B : Blt mg) : FnOk P w K mg base CX0 1 f fd ["_law_cell"] (spPotB) := by
  refine F.ok scpot (fun vs H Q E h => ?_) (fun cdv A outer s H vs Q E hr h => ?_)
  · obtain ⟨c,rfl,_⟩ := h
    rfl
  obtain ⟨c,rfl,q⟩ := h
  have nd := scpot.nd
  refine ⟨_,(@pss_one _ _ _ (@ps_ret _ _ _ _ (@pe_lst _ _ _ _ (@pa_cons _ _ _ _ _ (@pe_callB _ _ _ _ _ _ _ _ _ (call_max2 rfl) rfl B.max PyProof.Rows.boot_max (@pa_cons _ _ _ _ _ pe_int (@pa_cons _ _ _ _ _ (@pe_op _ _ _ _ _ _ _ _ op_sub (pv 0) (@pe_op _ _ _ _ _ _ _ _ op_pow pe_int pe_int)) pa_nil rfl) rfl) (by decide) (by decide) rfl rfl) (@pa_cons _ _ _ _ _ (@pe_op _ _ _ _ _ _ _ _ op_add (@pe_op _ _ _ _ _ _ _ _ op_mod (@pe_callB _ _ _ _ _ _ _ _ _ call_abs rfl B.abs PyProof.Rows.boot_abs (@pa_cons _ _ _ _ _ (pv 0) pa_nil rfl) (by decide) (by decide) rfl rfl) pe_int) pe_int) pa_nil rfl) rfl)))),?_⟩
  refine ⟨_,rfl,_,_,rfl,rfl,⟨by decide,by decide,by decide⟩,_,_,rfl,rfl,_,_,rfl,_,rfl,_,rfl,_,_,rfl,rfl,(by show (0 : Int) < 2147483629; decide),_,_,rfl,rfl,(by show 2 ≤ sizeLine; decide),fun p hp => ?_⟩
  refine q p _ hp ⟨_,_,?_,?_,?_,upd_same⟩ (Same.new hp)
  · split <;> omega
  · have := Int.emod_nonneg (if c < 0 then -c else c) (show (2147483629 : Int) ≠ 0 by decide)
    omega
  · have := Int.emod_lt_of_pos (if c < 0 then -c else c) (show (0 : Int) < 2147483629 by decide)
    omega
theorem scdraw : FnScope ["_law_pot_here","_law_many","_law_number_here"] ["_law_pot_here","_law_many"] (defScope sDraw) := ⟨rfl,rfl,rfl,by decide +kernel,rfl,by decide +kernel,by decide +kernel⟩
theorem ok_draw {f : Addr} {fd : FuncData} (F : Fun K "_law_draw" "_law_draw" sDraw f fd) (B : Blt mg) : FnOk P w K mg base CX0 1 f fd ["_law_pot_here","_law_many"] (spDrawB) := by
  refine F.ok scdraw (fun vs H Q E h => ?_) (fun cdv A outer s H vs Q E hr h => ?_)
  · obtain ⟨p,m,rfl,_⟩ := h
    rfl
  obtain ⟨p,m,rfl,⟨a,b,a0,b0,b1,hp⟩,m0,m1,q⟩ := h
  have nd := scdraw.nd
  refine ⟨_,(@pss_cons _ _ _ _ _ (@ps_if _ _ _ _ _ _ _ _ (@pt_cmpR _ _ _ _ _ _ _ _ op_gt (@pe_ix _ _ _ _ _ _ _ ix_list (pv 0) pe_int (fun _ _ => rfl)) pe_int (nomark _)) (@pss_cons _ _ _ _ _ (@ps_set _ _ 2 _ _ _ _ nd rfl (Or.inl rfl) (@pe_op _ _ _ _ _ _ _ _ op_mod (@pe_ix _ _ _ _ _ _ _ ix_list (pv 0) pe_int (fun _ _ => rfl)) (pv 1)) rfl (Or.inl rfl)) (@pss_cons _ _ _ _ _ (@ps_asg _ _ _ _ _ _ (@pe_op _ _ _ _ _ _ _ _ op_fdivB (@pe_ix _ _ _ _ _ _ _ ix_list (pv 0) pe_int (fun _ _ => rfl)) (pv 1)) (pg_sub (pv 0) pe_int set_list) rfl rfl rfl) (@pss_one _ _ _ (@ps_ret _ _ _ _ (pv 2))))) pss_nil) (@pss_cons _ _ _ _ _ (@ps_asg _ _ _ _ _ _ (@pe_op _ _ _ _ _ _ _ _ op_mod (@pe_op _ _ _ _ _ _ _ _ op_mul (@pe_ix _ _ _ _ _ _ _ ix_list (pv 0) pe_int (fun _ _ => rfl)) pe_int) pe_int) (pg_sub (pv 0) pe_int set_list) rfl rfl rfl) (@pss_one _ _ _ (@ps_ret _ _ _ _ (@pe_op _ _ _ _ _ _ _ _ op_mod (@pe_op _ _ _ _ _ _ _ _ op_fdivB (@pe_op _ _ _ _ _ _ _ _ op_mod (@pe_op _ _ _ _ _ _ _ _ op_mul (@pe_ix _ _ _ _ _ _ _ ix_list (pv 0) pe_int (fun _ _ => rfl)) (@pe_ix _ _ _ _ _ _ _ ix_list (pv 0) pe_int (fun _ _ => rfl))) pe_int) pe_int) (pv 1)))))),?_⟩
  have at0 : atI [V.int a,V.int b] 0 = some (.int a) := rfl
  have at1 : atI [V.int a,V.int b] 1 = some (.int b) := rfl
  refine ⟨_,rfl,p,_,_,_,rfl,rfl,SqL.of hp,at0,_,_,rfl,rfl,_,rfl,?_⟩
  refine ite2 (fun c => ?_) (fun c => ?_)
  · have c' : 0 < a := of_decide_eq_true c
    refine ⟨_,rfl,p,_,_,_,rfl,rfl,SqL.of hp,at0,_,rfl,_,_,rfl,rfl,m0,?_⟩
    refine ⟨_,rfl,p,_,_,_,rfl,rfl,SqL.of hp,at0,_,rfl,_,_,rfl,rfl,⟨m0,m1⟩,_,rfl,p,_,_,_,rfl,rfl,hp,rfl,?_⟩
    refine ⟨_,rfl,q _ _ (Int.emod_nonneg _ (by omega)) (Int.emod_lt_of_pos _ m0) ⟨a / m,b,Int.ediv_nonneg a0 (by omega),b0,b1,upd_same⟩ But.upd⟩
  · refine ⟨_,rfl,p,_,_,_,rfl,rfl,SqL.of hp,at1,_,_,rfl,rfl,.inr ⟨by decide,by decide⟩,_,_,rfl,rfl,(by show (0 : Int) < 2147483647; decide),_,rfl,p,_,_,_,rfl,rfl,hp,rfl,?_⟩
    have n0 : 0 ≤ (b * 48271) % 2147483647 := Int.emod_nonneg _ (by decide)
    have n1 : (b * 48271) % 2147483647 < 2147483647 := Int.emod_lt_of_pos _ (by decide)
    refine ⟨_,rfl,p,_,_,_,rfl,rfl,SqL.of upd_same,rfl,_,rfl,p,_,_,_,rfl,rfl,SqL.of upd_same,rfl,_,_,rfl,rfl,.inl ⟨by omega,by omega⟩,_,_,rfl,rfl,(by show (0 : Int) < 2147483629; decide),_,_,rfl,rfl,⟨by decide,by decide⟩,_,rfl,_,_,rfl,rfl,m0,?_⟩
    exact q _ _ (Int.emod_nonneg _ (by omega)) (Int.emod_lt_of_pos _ m0) ⟨a,_,a0,n0,by omega,upd_same⟩ But.upd
theorem scgreatm : FnScope ["_law_pot_here","_law_many","_law_found","_law_k"] ["_law_pot_here","_law_many"] (defScope sGreat) := ⟨rfl,rfl,rfl,by decide +kernel,rfl,by decide +kernel,by decide +kernel⟩
theorem ok_greatm {f : Addr} {fd : FuncData} (F : Fun K "_law_great" "_law_great" sGreat f fd) (B : Blt mg) (DD : Dn P w K mg base "_law_draw" ["_law_pot_here","_law_many"] 1 (spDrawB)) : FnOk P w K mg base CX0 2 f fd ["_law_pot_here","_law_many"] (spGreatM) := by
  refine F.ok scgreatm (fun vs H Q E h => ?_) (fun cdv A outer s H vs Q E hr h => ?_)
  · obtain ⟨p,m,rfl,_⟩ := h
    rfl
  obtain ⟨p,m,rfl,pt,m0,m1,q⟩ := h
  have nd := scgreatm.nd
  refine ⟨_,(@pss_cons _ _ _ _ _ (@ps_if _ _ _ _ _ _ _ _ (@pt_cmpR _ _ _ _ _ _ _ _ op_gt (@pe_ix _ _ _ _ _ _ _ ix_list (pv 0) pe_int (fun _ _ => rfl)) pe_int (nomark _)) (@pss_one _ _ _ (@ps_ret _ _ _ _ (@pe_cD _ _ _ _ _ _ _ _ _ _ DD hr rfl (@pa_cons _ _ _ _ _ (pv 0) (@pa_cons _ _ _ _ _ (pv 1) pa_nil rfl) rfl) (by decide) rfl rfl))) pss_nil) (@pss_cons _ _ _ _ _ (@ps_set _ _ 2 _ _ _ _ nd rfl (Or.inl rfl) pe_int rfl (Or.inl rfl)) (@pss_cons _ _ _ _ _ (@ps_for _ _ _ _ _ _ _ _ PassesOwn.never rfl (pi_range1 rfl B.range (@pa_cons _ _ _ _ _ pe_int pa_nil rfl)) (pg_name (i := 3) nd rfl (Or.inl rfl)) (@pss_one _ _ _ (@ps_set _ _ 2 _ _ _ _ nd rfl (Or.inl rfl) (@pe_op _ _ _ _ _ _ _ _ op_add (@pe_op _ _ _ _ _ _ _ _ op_mul (pv 2) pe_int) (@pe_cD _ _ _ _ _ _ _ _ _ _ DD hr rfl (@pa_cons _ _ _ _ _ (pv 0) (@pa_cons _ _ _ _ _ pe_int pa_nil rfl) rfl) (by decide) rfl rfl)) rfl (Or.inl rfl))) (by intro _; rfl)) (@pss_one _ _ _ (@ps_ret _ _ _ _ (@pe_op _ _ _ _ _ _ _ _ op_mod (pv 2) (pv 1))))))),?_⟩
  obtain ⟨a,b,a0,b0,b1,hp⟩ := id pt
  have at0 : atI [V.int a,V.int b] 0 = some (.int a) := rfl
  refine seqCut (fun σ' H' => σ' = [some (.ref p),some (.int m),none,none] ∧ H = H') (fun R hR => ?_) ?_
  · refine ⟨_,rfl,p,_,_,_,rfl,rfl,SqL.of hp,at0,_,_,rfl,rfl,_,rfl,?_⟩
    refine ite2 (fun c => ?_) (fun c => ?_)
    · exact ⟨_,rfl,_,rfl,p,m,rfl,pt,m0,m1,fun r H1 r0 r1 pt1 b1' => q r H1 r0 r1 pt1 b1'⟩
    · exact hR _ _ ⟨rfl,rfl⟩
  rintro _ _ ⟨rfl,rfl⟩
  refine seqCut (fun σ' H' => σ' = [some (.ref p),some (.int m),some (.int 0),none] ∧ H = H') (fun R hR => hR _ _ ⟨rfl,rfl⟩) ?_
  rintro _ _ ⟨rfl,rfl⟩
  refine seqCut (fun σ' H' => ∃ (f : Int) (v3 : Option V),σ' = [some (.ref p),some (.int m),some (.int f),v3] ∧ PotB H' p ∧ But p H H') (fun R hR => ?_) ?_
  · refine ⟨_,rfl,by decide,by decide,for_range (lo := 0) (n := 7) (fun i σ' H' => ∃ (f : Int) (v3 : Option V),σ' = [some (.ref p),some (.int m),some (.int f),v3] ∧ PotB H' p ∧ But p H H') ⟨0,none,rfl,pt,fun _ _ _ e => e⟩ ?_ (fun σ H1 ⟨f,v3,e,pt1,b1⟩ => hR _ _ ⟨f,v3,e,pt1,b1⟩)⟩
    rintro i σ H1 hi ⟨f,v3,rfl,pt1,b1⟩
    exact ⟨_,rfl,_,_,rfl,rfl,.inr ⟨by decide,by decide⟩,_,rfl,p,_,rfl,pt1,by decide,by decide,fun r H2 r0 r1 pt2 b2 => ⟨_,_,rfl,rfl,_,_,rfl,pt2,b1.trans b2⟩⟩
  rintro _ H1 ⟨f,v3,rfl,pt1,b1⟩
  exact ⟨_,rfl,_,rfl,_,_,rfl,rfl,m0,q _ _ (Int.emod_nonneg _ (by omega)) (Int.emod_lt_of_pos _ m0) pt1 b1⟩
theorem scbladeb : FnScope ["_law_pot_here","_law_way"] ["_law_pot_here"] (defScope sBlade) := ⟨rfl,rfl,rfl,by decide +kernel,rfl,by decide +kernel,by decide +kernel⟩
theorem ok_bladeb {f : Addr} {fd : FuncData} (F : Fun K "_law_blade" "_law_blade" sBlade f fd) (B : Blt mg) (DD : Dn P w K mg base "_law_draw" ["_law_pot_here","_law_many"] 1 (spDrawB)) (DG : Dn P w K mg base "_law_great" ["_law_pot_here","_law_many"] 2 (spGreatM)) : FnOk P w K mg base CX0 3 f fd ["_law_pot_here"] (spBladeB) := by
  refine F.ok scbladeb (fun vs H Q E h => ?_) (fun cdv A outer s H vs Q E hr h => ?_)
  · obtain ⟨p,rfl,_⟩ := h
    rfl
  obtain ⟨p,rfl,pt,q⟩ := h
  have nd := scbladeb.nd
  refine ⟨_,(@pss_cons _ _ _ _ _ (@ps_set _ _ 1 _ _ _ _ nd rfl (Or.inl rfl) (@pe_cD _ _ _ _ _ _ _ _ _ _ DD (hr.mono (by decide)) rfl (@pa_cons _ _ _ _ _ (pv 0) (@pa_cons _ _ _ _ _ pe_int pa_nil rfl) rfl) (by decide) rfl rfl) rfl (Or.inl rfl)) (@pss_cons _ _ _ _ _ (@ps_if _ _ _ _ _ _ _ _ (@pt_cmpR _ _ _ _ _ _ _ _ op_eq (pv 1) pe_int (nomark _)) (@pss_one _ _ _ (@ps_ret _ _ _ _ (@pe_cD _ _ _ _ _ _ _ _ _ _ DG hr rfl (@pa_cons _ _ _ _ _ (pv 0) (@pa_cons _ _ _ _ _ (@pe_op _ _ _ _ _ _ _ _ op_pow pe_int pe_int) pa_nil rfl) rfl) (by decide) rfl rfl))) pss_nil) (@pss_one _ _ _ (@ps_ret _ _ _ _ (@pe_cD _ _ _ _ _ _ _ _ _ _ DD (hr.mono (by decide)) rfl (@pa_cons _ _ _ _ _ (pv 0) (@pa_cons _ _ _ _ _ (@pe_ix _ _ _ _ _ _ _ ix_list (@pe_lst _ _ _ _ (@pa_cons _ _ _ _ _ pe_int (@pa_cons _ _ _ _ _ pe_int pa_nil rfl) rfl)) (@pe_callTy _ _ _ _ _ _ _ _ _ call_int1 rfl B.int PyProof.Rows.boot_int (@pa_cons _ _ _ _ _ (@pe_cmpR _ _ _ _ _ _ _ _ op_gt (pv 1) pe_int (nomark _)) pa_nil rfl) (by decide) (by decide) rfl rfl) (fun _ _ => rfl)) pa_nil rfl) rfl) (by decide) rfl rfl))))),?_⟩
  have e60 : (100 : Int) < 10 ^ 60 := by decide
  refine seqCut (fun σ' H' => ∃ z : Int,σ' = [some (.ref p),some (.int z)] ∧ PotB H' p ∧ But p H H') (fun R hR => ?_) ?_
  · exact ⟨_,rfl,p,8,rfl,pt,by decide,by decide,fun z H1 z0 z1 pt1 b1 => hR _ _ ⟨z,rfl,pt1,b1⟩⟩
  rintro _ H1 ⟨z,rfl,pt1,b1⟩
  refine seqCut (fun σ' H' => σ' = [some (.ref p),some (.int z)] ∧ H1 = H') (fun R hR => ?_) ?_
  · refine ⟨_,rfl,rfl,_,rfl,?_⟩
    refine ite2 (fun cc => ?_) (fun cc => hR _ _ ⟨rfl,rfl⟩)
    exact ⟨_,rfl,_,_,rfl,rfl,⟨by decide,by decide,by decide⟩,p,_,rfl,pt1,(by show (0 : Int) < 10 ^ (60 : Int).toNat; decide),(by show (10 : Int) ^ (60 : Int).toNat ≤ 10 ^ 60; decide),fun r H2 r0 r1 pt2 b2 => q r H2 r0 r1 pt2 (b1.trans b2)⟩
  rintro _ _ ⟨rfl,rfl⟩
  refine ⟨_,rfl,?_⟩
  refine ⟨(by show 2 ≤ sizeLine; decide),fun l hl => ?_⟩
  obtain ⟨H2,e2,k2,n2,s2,b2,pt2⟩ := put1 (o := .lst [.int 3,.int 20]) b1 pt1 hl
  rw [show upd H1 l _ = H2 from e2]
  refine ⟨_,rfl,_,_,rfl,rfl,.inr ⟨_,rfl,?_⟩⟩
  obtain ⟨nn,hnn,n1,n2'⟩ : ∃ nn : Int,atI [V.int 3,V.int 20] (if decide (4 < z) = true then (1 : Int) else 0) = some (.int nn) ∧ 1 ≤ nn ∧ nn ≤ 20 := by
    by_cases c : (4 : Int) < z
    · exact ⟨20,by rw [decide_eq_true c]; rfl,by decide,by decide⟩
    · exact ⟨3,by rw [decide_eq_false c]; rfl,by decide,by decide⟩
  exact ⟨l,_,_,_,rfl,rfl,SqL.of k2,hnn,p,nn,rfl,pt2,by omega,by omega,fun r H3 r0 r1 pt3 b3 => q r H3 r0 (by omega) pt3 (b2.trans b3)⟩
theorem scsidec : FnScope ["_law_pot_here","_law_way"] ["_law_pot_here"] (defScope sSide) := ⟨rfl,rfl,rfl,by decide +kernel,rfl,by decide +kernel,by decide +kernel⟩
theorem ok_sidec {f : Addr} {fd : FuncData} (F : Fun K "_law_side" "_law_side" sSide f fd) (B : Blt mg) (DD : Dn P w K mg base "_law_draw" ["_law_pot_here","_law_many"] 1 (spDrawB)) (DG : Dn P w K mg base "_law_great" ["_law_pot_here","_law_many"] 2 (spGreatM)) : FnOk P w K mg base CX0 3 f fd ["_law_pot_here"] (spSideB) := by
  refine F.ok scsidec (fun vs H Q E h => ?_) (fun cdv A outer s H vs Q E hr h => ?_)
  · obtain ⟨p,rfl,_⟩ := h
    rfl
  obtain ⟨p,rfl,pt,q⟩ := h
  have nd := scsidec.nd
  refine ⟨_,(@pss_cons _ _ _ _ _ (@ps_set _ _ 1 _ _ _ _ nd rfl (Or.inl rfl) (@pe_cD _ _ _ _ _ _ _ _ _ _ DD (hr.mono (by decide)) rfl (@pa_cons _ _ _ _ _ (pv 0) (@pa_cons _ _ _ _ _ pe_int pa_nil rfl) rfl) (by decide) rfl rfl) rfl (Or.inl rfl)) (@pss_cons _ _ _ _ _ (@ps_if _ _ _ _ _ _ _ _ (@pt_cmpR _ _ _ _ _ _ _ _ op_eq (pv 1) pe_int (nomark _)) (@pss_one _ _ _ (@ps_ret _ _ _ _ (@pe_op _ _ _ _ _ _ _ _ op_add pe_int (@pe_cD _ _ _ _ _ _ _ _ _ _ DG hr rfl (@pa_cons _ _ _ _ _ (pv 0) (@pa_cons _ _ _ _ _ (@pe_op _ _ _ _ _ _ _ _ op_sub (@pe_op _ _ _ _ _ _ _ _ op_pow pe_int pe_int) pe_int) pa_nil rfl) rfl) (by decide) rfl rfl)))) pss_nil) (@pss_one _ _ _ (@ps_ret _ _ _ _ (@pe_op _ _ _ _ _ _ _ _ op_add pe_int (@pe_cD _ _ _ _ _ _ _ _ _ _ DD (hr.mono (by decide)) rfl (@pa_cons _ _ _ _ _ (pv 0) (@pa_cons _ _ _ _ _ (@pe_ix _ _ _ _ _ _ _ ix_list (@pe_lst _ _ _ _ (@pa_cons _ _ _ _ _ pe_int (@pa_cons _ _ _ _ _ pe_int pa_nil rfl) rfl)) (@pe_callTy _ _ _ _ _ _ _ _ _ call_int1 rfl B.int PyProof.Rows.boot_int (@pa_cons _ _ _ _ _ (@pe_cmpR _ _ _ _ _ _ _ _ op_gt (pv 1) pe_int (nomark _)) pa_nil rfl) (by decide) (by decide) rfl rfl) (fun _ _ => rfl)) pa_nil rfl) rfl) (by decide) rfl rfl)))))),?_⟩
  have e60 : (100 : Int) < 10 ^ 60 := by decide
  refine seqCut (fun σ' H' => ∃ z : Int,σ' = [some (.ref p),some (.int z)] ∧ PotB H' p ∧ But p H H') (fun R hR => ?_) ?_
  · exact ⟨_,rfl,p,16,rfl,pt,by decide,by decide,fun z H1 z0 z1 pt1 b1 => hR _ _ ⟨z,rfl,pt1,b1⟩⟩
  rintro _ H1 ⟨z,rfl,pt1,b1⟩
  refine seqCut (fun σ' H' => σ' = [some (.ref p),some (.int z)] ∧ H1 = H') (fun R hR => ?_) ?_
  · refine ⟨_,rfl,rfl,_,rfl,?_⟩
    refine ite2 (fun cc => ?_) (fun cc => hR _ _ ⟨rfl,rfl⟩)
    refine ⟨_,rfl,_,_,rfl,rfl,⟨by decide,by decide,by decide⟩,_,_,rfl,rfl,p,_,rfl,pt1,(by show (0 : Int) < 10 ^ (60 : Int).toNat - 1; decide),(by show (10 : Int) ^ (60 : Int).toNat - 1 ≤ 10 ^ 60; decide),fun r H2 r0 r1 pt2 b2 => ⟨_,_,rfl,rfl,q _ H2 (by omega) ?_ pt2 (b1.trans b2)⟩⟩
    have r1 : r < 10 ^ 60 - 1 := r1
    show 1 + r < 10 ^ 60
    omega
  rintro _ _ ⟨rfl,rfl⟩
  refine ⟨_,rfl,?_⟩
  refine ⟨(by show 2 ≤ sizeLine; decide),fun l hl => ?_⟩
  obtain ⟨H2,e2,k2,n2,s2,b2,pt2⟩ := put1 (o := .lst [.int 7,.int 18]) b1 pt1 hl
  rw [show upd H1 l _ = H2 from e2]
  refine ⟨_,rfl,_,_,rfl,rfl,.inr ⟨_,rfl,?_⟩⟩
  obtain ⟨nn,hnn,n1,n2'⟩ : ∃ nn : Int,atI [V.int 7,V.int 18] (if decide (12 < z) = true then (1 : Int) else 0) = some (.int nn) ∧ 1 ≤ nn ∧ nn ≤ 20 := by
    by_cases c : (12 : Int) < z
    · exact ⟨18,by rw [decide_eq_true c]; rfl,by decide,by decide⟩
    · exact ⟨7,by rw [decide_eq_false c]; rfl,by decide,by decide⟩
  exact ⟨l,_,_,_,rfl,rfl,SqL.of k2,hnn,p,nn,rfl,pt2,by omega,by omega,fun r H3 r0 r1 pt3 b3 => ⟨_,_,rfl,rfl,q _ H3 (by omega) (by omega) pt3 (b2.trans b3)⟩⟩
end
def fit1 (k : Kd) : List (Int × Int × Int) := (k.w,k.h,k.wo) :: if k.tu = true then [(k.h,k.w,k.wo)] else []
def fitL (ks : List Kd) : List (Int × Int × Int) := ks.flatMap fit1
def wT (t : Int × Int × Int) : Int := t.2.2
def fitT (w h : Int) (t : Int × Int × Int) : Bool := decide (t.1 ≤ w) && decide (t.2.1 ≤ h)
def TtAt (H : Hp) (v : V) (t : Int × Int × Int) : Prop := ∃ a,v = .ref a ∧ H a = some (.tup [.int t.1,.int t.2.1,.int t.2.2])
theorem TtAt.keep {H H' : Hp} (k : ∀ a xs,H a = some (.tup xs) → H' a = some (.tup xs)) {v : V} {t : Int × Int × Int} (h : TtAt H v t) : TtAt H' v t := by
  obtain ⟨a,e,h⟩ := h
  exact ⟨a,e,k _ _ h⟩
theorem fit1_len (k : Kd) : (fit1 k).length ≤ 2 := by unfold fit1; split <;> exact (by simp)
theorem fitL_len : ∀ ks : List Kd,(fitL ks).length ≤ 2 * ks.length
  | [] => Nat.le_refl _
  | k :: ks => by
    have := fitL_len ks
    have := fit1_len k
    show (fit1 k ++ fitL ks).length ≤ _
    rw [List.length_append,List.length_cons]; omega
theorem fitL_take {ks : List Kd} {i : Nat} {k : Kd} (h : ks[i]? = some k) : fitL (ks.take (i + 1)) = fitL (ks.take i) ++ fit1 k := by
  unfold fitL
  rw [List.take_add_one,h,List.flatMap_append]
  simp
theorem mem_fitL {ks : List Kd} {t : Int × Int × Int} (h : t ∈ fitL ks) : ∃ k ∈ ks,t.2.2 = k.wo ∧ ∀ w h',fitT w h' t = true → fitK k w h' = true := by
  unfold fitL at h
  obtain ⟨k,hk,ht⟩ := List.mem_flatMap.mp h
  refine ⟨k,hk,?_⟩
  unfold fit1 at ht
  rcases List.mem_cons.mp ht with rfl | ht
  · exact ⟨rfl,fun w h' e => by unfold fitK; rw [show (decide (k.w ≤ w) && decide (k.h ≤ h')) = true from e]; rfl⟩
  · split at ht
    · rename_i htu
      rw [List.mem_singleton.mp ht]
      exact ⟨rfl,fun w h' e => by unfold fitK; rw [htu,show (decide (k.h ≤ w) && decide (k.w ≤ h')) = true from e]; simp⟩
    · simp at ht
theorem fitL_mem {ks : List Kd} {k : Kd} (hk : k ∈ ks) {w h : Int} (hf : fitK k w h = true) : ∃ t ∈ fitL ks,t.2.2 = k.wo ∧ fitT w h t = true := by
  unfold fitK at hf
  rcases Bool.or_eq_true_iff.mp hf with h1 | h1
  · exact ⟨(k.w,k.h,k.wo),List.mem_flatMap.mpr ⟨k,hk,List.mem_cons_self⟩,rfl,h1⟩
  · obtain ⟨ht,h2⟩ := Bool.and_eq_true_iff.mp h1
    exact ⟨(k.h,k.w,k.wo),List.mem_flatMap.mpr ⟨k,hk,by unfold fit1; rw [if_pos ht]; exact List.mem_cons_of_mem _ List.mem_cons_self⟩,rfl,h2⟩
theorem fit_lfW (ks : List Kd) (w h : Int) : mxL wT ((fitL ks).filter (fitT w h)) 0 = lfW ks w h := by
  refine Int.le_antisymm ?_ ?_
  · rcases mxL_one (f := wT) (l := (fitL ks).filter (fitT w h)) (x := 0) with e | ⟨t,ht,e⟩
    · rw [e]; exact lfW_nn
    · rw [e]
      obtain ⟨h1,h2⟩ := List.mem_filter.mp ht
      obtain ⟨k,hk,e1,e2⟩ := mem_fitL h1
      show t.2.2 ≤ _
      rw [e1]
      exact lfW_ge hk (e2 _ _ h2)
  · rcases lfW_one (ks := ks) (w := w) (h := h) with e | ⟨k,hk,hf,e⟩
    · rw [e]; exact (mxL_ge (f := wT)).1
    · obtain ⟨t,ht,e1,e2⟩ := fitL_mem hk hf
      rw [e,← e1]
      exact (mxL_ge (f := wT) (x := 0)).2 t (List.mem_filter.mpr ⟨ht,e2⟩)
def cutW (b : Int) (f : Int × Int → Int) (w h : Int) (c : Bool × Int) : Int := f (fstP w h c) + f (sndP b w h c)
def dueV (b : Int) (ks : List Kd) (f : Int × Int → Int) (w h : Int) : Int := mxL (cutW b f w h) (cutsL b w h) (lfW ks w h)
theorem due_max {b : Int} {ks : List Kd} {f : Int × Int → Int} {w h m : Int} {ns : List Int} (e : ns = [0] ++ ((fitL ks).filter (fitT w h)).map wT ++ (cutsL b w h).map (cutW b f w h)) (hm : m ∈ ns) (hx : ∀ x ∈ ns,x ≤ m) : m = dueV b ks f w h := by
  have l0 : (0 : Int) ≤ lfW ks w h := lfW_nn
  have ge := mxL_ge (f := cutW b f w h) (l := cutsL b w h) (x := lfW ks w h)
  refine Int.le_antisymm ?_ ?_
  · rw [e] at hm
    rcases List.mem_append.mp hm with hm | hm
    · refine Int.le_trans ?_ ge.1
      rcases List.mem_append.mp hm with hm | hm
      · rw [List.mem_singleton.mp hm]; exact l0
      · obtain ⟨t,ht,rfl⟩ := List.mem_map.mp hm
        rw [← fit_lfW]
        exact (mxL_ge (f := wT) (x := 0)).2 t ht
    · obtain ⟨c,hc,rfl⟩ := List.mem_map.mp hm
      exact ge.2 c hc
  · refine hx _ ?_
    rw [e]
    unfold dueV
    rcases mxL_one (f := cutW b f w h) (l := cutsL b w h) (x := lfW ks w h) with e | ⟨c,hc,e⟩
    · rw [e]
      refine List.mem_append_left _ ?_
      rw [← fit_lfW]
      rcases mxL_one (f := wT) (l := (fitL ks).filter (fitT w h)) (x := 0) with e | ⟨t,ht,e⟩
      · rw [e]; exact List.mem_append_left _ (List.mem_singleton.mpr rfl)
      · rw [e]; exact List.mem_append_right _ (List.mem_map.mpr ⟨t,ht,rfl⟩)
    · rw [e]; exact List.mem_append_right _ (List.mem_map.mpr ⟨c,hc,rfl⟩)
theorem app_one {L : List Int} {g : Bool × Int → Int} {cs cs' : List (Bool × Int)} {c : Bool × Int} (e : cs' = cs ++ [c]) : (L ++ cs.map g).map V.int ++ [V.int (g c)] = (L ++ cs'.map g).map V.int := by
  subst e
  simp
section
variable {P : Program} {w : World} {K : PySem.W.Frag} {mg : Str → Option Value} {base : Heap}
def spPlateB : Sp := fun vs H Q _ => ∃ (p : Addr),vs = [.ref p] ∧ PotB H p ∧ ∀ (t : Addr) (m n : Nat) (H' : Hp),H' t = some (.tup [.int (m : Int),.int (n : Int)]) → 1 ≤ m → m ≤ 16 → 1 ≤ n → n ≤ 16 → PotB H' p → But p H H' → Q (.ref t) H'
def spFit : Sp := fun vs H Q _ => ∃ (kl : Addr) (rs : List V) (ks : List Kd),vs = [.ref kl] ∧ H kl = some (.lst rs) ∧ Tups H rs ks ∧ rs.length ≤ 8 ∧ ∀ (l : Addr) (ys : List V) (H' : Hp),H' l = some (.lst ys) → Paired (TtAt H') ys (fitL ks) → Same H H' → Q (.ref l) H'
def spDueF : Sp := fun vs H Q _ => ∃ (b : Int) (fl tb : Addr) (ys : List V) (ks : List Kd) (kvs : List (List Key × V)) (f : Int × Int → Int) (w h : Int),vs = [.int b,.ref fl,.ref tb,.int w,.int h] ∧ H fl = some (.lst ys) ∧ Paired (TtAt H) ys (fitL ks) ∧ ks.length ≤ 8 ∧ Rd H tb (.dT kvs) ∧ 0 ≤ b ∧ 1 ≤ w ∧ w ≤ 16 ∧ 1 ≤ h ∧ h ≤ 16 ∧ (∀ c ∈ cutsL b w h,valV kvs (pk (fstP w h c)) = some (.int (f (fstP w h c))) ∧ valV kvs (pk (sndP b w h c)) = some (.int (f (sndP b w h c)))) ∧ ∀ H',Same H H' → Q (.int (dueV b ks f w h)) H'
theorem scplatec : FnScope ["_law_pot_here","_law_way","_law_wide","_law_high"] ["_law_pot_here"] (defScope sPlate) := ⟨rfl,rfl,rfl,by decide +kernel,rfl,by decide +kernel,by decide +kernel⟩
theorem ok_platec {f : Addr} {fd : FuncData} (F : Fun K "_law_plate" "_law_plate" sPlate f fd) (B : Blt mg) (DD : Dn P w K mg base "_law_draw" ["_law_pot_here","_law_many"] 1 (spDrawB)) : FnOk P w K mg base CX0 2 f fd ["_law_pot_here"] (spPlateB) := by
  refine F.ok scplatec (fun vs H Q E h => ?_) (fun cdv A outer s H vs Q E hr h => ?_)
  · obtain ⟨p,rfl,_⟩ := h
    rfl
  obtain ⟨p,rfl,pt,q⟩ := h
  have nd := scplatec.nd
  refine ⟨_,(@pss_cons _ _ _ _ _ (@ps_set _ _ 1 _ _ _ _ nd rfl (Or.inl rfl) (@pe_cD _ _ _ _ _ _ _ _ _ _ DD hr rfl (@pa_cons _ _ _ _ _ (pv 0) (@pa_cons _ _ _ _ _ pe_int pa_nil rfl) rfl) (by decide) rfl rfl) rfl (Or.inl rfl)) (@pss_cons _ _ _ _ _ (ps_par rfl nd rfl rfl (i := 2) (j := 3) (by decide) rfl rfl (@pa_cons _ _ _ _ _ (@pe_op _ _ _ _ _ _ _ _ op_add pe_int (@pe_cD _ _ _ _ _ _ _ _ _ _ DD hr rfl (@pa_cons _ _ _ _ _ (pv 0) (@pa_cons _ _ _ _ _ (@pe_ix _ _ _ _ _ _ _ ix_list (@pe_lst _ _ _ _ (@pa_cons _ _ _ _ _ pe_int (@pa_cons _ _ _ _ _ pe_int pa_nil rfl) rfl)) (@pe_callTy _ _ _ _ _ _ _ _ _ call_int1 rfl B.int PyProof.Rows.boot_int (@pa_cons _ _ _ _ _ (@pe_cmpR _ _ _ _ _ _ _ _ op_gt (pv 1) pe_int (nomark _)) pa_nil rfl) (by decide) (by decide) rfl rfl) (fun _ _ => rfl)) pa_nil rfl) rfl) (by decide) rfl rfl)) (@pa_cons _ _ _ _ _ (@pe_op _ _ _ _ _ _ _ _ op_add pe_int (@pe_cD _ _ _ _ _ _ _ _ _ _ DD hr rfl (@pa_cons _ _ _ _ _ (pv 0) (@pa_cons _ _ _ _ _ pe_int pa_nil rfl) rfl) (by decide) rfl rfl)) pa_nil rfl) rfl) rfl) (@pss_cons _ _ _ _ _ (@ps_if _ _ _ _ _ _ _ _ (@pt_cmpR _ _ _ _ _ _ _ _ op_eq (pv 1) pe_int (nomark _)) (@pss_one _ _ _ (@ps_ret _ _ _ _ (@pe_tup _ _ _ _ _ (@pa_cons _ _ _ _ _ (pv 3) (@pa_cons _ _ _ _ _ (pv 2) pa_nil rfl) rfl)))) pss_nil) (@pss_one _ _ _ (@ps_ret _ _ _ _ (@pe_tup _ _ _ _ _ (@pa_cons _ _ _ _ _ (pv 2) (@pa_cons _ _ _ _ _ (pv 3) pa_nil rfl) rfl))))))),?_⟩
  have e60 : (100 : Int) < 10 ^ 60 := by decide
  refine seqCut (fun σ' H' => ∃ z : Int,σ' = [some (.ref p),some (.int z),none,none] ∧ PotB H' p ∧ But p H H') (fun R hR => ?_) ?_
  · exact ⟨_,rfl,p,16,rfl,pt,by decide,by decide,fun z H1 z0 z1 pt1 b1 => hR _ _ ⟨z,rfl,pt1,b1⟩⟩
  rintro _ H1 ⟨z,rfl,pt1,b1⟩
  refine seqCut (fun σ' H' => ∃ m n : Nat,σ' = [some (.ref p),some (.int z),some (.int (m : Int)),some (.int (n : Int))] ∧ 1 ≤ m ∧ m ≤ 16 ∧ 1 ≤ n ∧ n ≤ 16 ∧ PotB H' p ∧ But p H H') (fun R hR => ?_) ?_
  · refine ⟨_,rfl,(by show 2 ≤ sizeLine; decide),fun l hl => ?_⟩
    obtain ⟨H2,e2,k2,n2,s2,b2,pt2⟩ := put1 (o := .lst [.int 7,.int 16]) b1 pt1 hl
    rw [show upd H1 l _ = H2 from e2]
    refine ⟨_,rfl,_,_,rfl,rfl,.inr ⟨_,rfl,?_⟩⟩
    obtain ⟨nn,hnn,n1,n2'⟩ : ∃ nn : Int,atI [V.int 7,V.int 16] (if decide (13 < z) = true then (1 : Int) else 0) = some (.int nn) ∧ 1 ≤ nn ∧ nn ≤ 16 := by
      by_cases c : (13 : Int) < z
      · exact ⟨16,by rw [decide_eq_true c]; rfl,by decide,by decide⟩
      · exact ⟨7,by rw [decide_eq_false c]; rfl,by decide,by decide⟩
    refine ⟨l,_,_,_,rfl,rfl,SqL.of k2,hnn,p,nn,rfl,pt2,by omega,by omega,fun r1 H3 r10 r11 pt3 b3 => ⟨_,_,rfl,rfl,_,rfl,p,7,rfl,pt3,by decide,by decide,fun r2 H4 r20 r21 pt4 b4 => ⟨_,_,rfl,rfl,_,_,rfl,hR _ _ ⟨(1 + r1).toNat,(1 + r2).toNat,?_,by omega,by omega,by omega,by omega,pt4,b2.trans (b3.trans b4)⟩⟩⟩⟩
    rw [show (((1 + r1).toNat : Nat) : Int) = 1 + r1 by omega,show (((1 + r2).toNat : Nat) : Int) = 1 + r2 by omega]; rfl
  clear pt1 b1
  clear H1
  rintro _ H1 ⟨m,n,rfl,m1,m16,n1,n16,pt1,b1⟩
  refine seqCut (fun σ' H' => σ' = [some (.ref p),some (.int z),some (.int (m : Int)),some (.int (n : Int))] ∧ H1 = H') (fun R hR => ?_) ?_
  · refine ⟨_,rfl,rfl,_,rfl,?_⟩
    refine ite2 (fun cc => ?_) (fun cc => hR _ _ ⟨rfl,rfl⟩)
    refine ⟨_,rfl,_,rfl,(by show 2 ≤ sizeLine; decide),fun t ht => ?_⟩
    obtain ⟨H4,e4,k4,n4,s4,b4,pt4⟩ := put1 (o := .tup [.int (n : Int),.int (m : Int)]) b1 pt1 ht
    rw [show upd H1 t _ = H4 from e4]
    exact q t n m H4 k4 n1 n16 m1 m16 pt4 b4
  rintro _ _ ⟨rfl,rfl⟩
  refine ⟨_,rfl,_,rfl,(by show 2 ≤ sizeLine; decide),fun t ht => ?_⟩
  obtain ⟨H4,e4,k4,n4,s4,b4,pt4⟩ := put1 (o := .tup [.int (m : Int),.int (n : Int)]) b1 pt1 ht
  rw [show upd H1 t _ = H4 from e4]
  exact q t m n H4 k4 m1 m16 n1 n16 pt4 b4
theorem scfitx : FnScope ["_law_kinds_here","_law_found","_law_wide","_law_high","_law_worth","_law_wanted","_law_turns"] ["_law_kinds_here"] (defScope sFitting) := ⟨rfl,rfl,rfl,by decide +kernel,rfl,by decide +kernel,by decide +kernel⟩
theorem ok_fitx {f : Addr} {fd : FuncData} (F : Fun K "_law_fitting" "_law_fitting" sFitting f fd) (B : Blt mg) : FnOk P w K mg base CX0 1 f fd ["_law_kinds_here"] (spFit) := by
  refine F.ok scfitx (fun vs H Q E h => ?_) (fun cdv A outer s H vs Q E hr h => ?_)
  · obtain ⟨kl,rs,ks,rfl,_⟩ := h
    rfl
  obtain ⟨kl,rs,ks,rfl,hk0,tp,r8,q⟩ := h
  have nd := scfitx.nd
  refine ⟨_,(@pss_cons _ _ _ _ _ (@ps_set _ _ 1 _ _ _ _ nd rfl (Or.inl rfl) (@pe_lst _ _ _ _ pa_nil) rfl (Or.inl rfl)) (@pss_cons _ _ _ _ _ (@ps_for _ _ _ _ _ _ _ _ PassesOwn.never rfl (pi_list (pv 0)) (pg_tup rfl (pgs_cons (pg_name (i := 2) nd rfl (Or.inl rfl)) (pgs_cons (pg_name (i := 3) nd rfl (Or.inl rfl)) (pgs_cons (pg_name (i := 4) nd rfl (Or.inl rfl)) (pgs_cons (pg_name (i := 5) nd rfl (Or.inl rfl)) (pgs_cons (pg_name (i := 6) nd rfl (Or.inl rfl)) pgs_nil)))))) (@pss_cons _ _ _ _ _ (@ps_expr _ _ _ _ (@pe_bm _ _ _ _ _ _ _ _ _ _ _ _ PySem.F.plainAttrs_list PySem.F.slot_list_append PySem.F.type_list_append mt_append (pv 1) (@pa_cons _ _ _ _ _ (@pe_tup _ _ _ _ _ (@pa_cons _ _ _ _ _ (pv 2) (@pa_cons _ _ _ _ _ (pv 3) (@pa_cons _ _ _ _ _ (pv 4) pa_nil rfl) rfl) rfl)) pa_nil rfl) rfl rfl rfl rfl rfl) rfl) (@pss_one _ _ _ (@ps_if _ _ _ _ _ _ _ _ (@pt_val _ _ _ (pv 6) (by intro _; rfl)) (@pss_one _ _ _ (@ps_expr _ _ _ _ (@pe_bm _ _ _ _ _ _ _ _ _ _ _ _ PySem.F.plainAttrs_list PySem.F.slot_list_append PySem.F.type_list_append mt_append (pv 1) (@pa_cons _ _ _ _ _ (@pe_tup _ _ _ _ _ (@pa_cons _ _ _ _ _ (pv 3) (@pa_cons _ _ _ _ _ (pv 2) (@pa_cons _ _ _ _ _ (pv 4) pa_nil rfl) rfl) rfl)) pa_nil rfl) rfl rfl rfl rfl rfl) rfl)) pss_nil))) (by intro _; rfl)) (@pss_one _ _ _ (@ps_ret _ _ _ _ (pv 1))))),?_⟩
  have z4 : 4096 ≤ sizeLine := by decide
  refine seqCut (fun σ' H' => ∃ l : Addr,σ' = [some (.ref kl),some (.ref l),none,none,none,none,none] ∧ H l = none ∧ H' l = some (.lst []) ∧ Same H H') (fun R hR => ?_) ?_
  · refine ⟨by decide,fun l hl => ?_⟩
    obtain ⟨H1,e1,k1,s1⟩ : ∃ H',upd H l (.lst []) = H' ∧ H' l = some (.lst []) ∧ Same H H' := ⟨_,rfl,upd_same,Same.new hl⟩
    rw [show upd H l _ = H1 from e1]
    exact hR _ _ ⟨l,rfl,hl,k1,s1⟩
  rintro _ H1 ⟨l,rfl,hl,l1,s1⟩
  have nkl : kl ≠ l := ne_of_none hk0 hl
  have rl := Paired.length tp
  refine seqCut (fun σ' H' => (∃ v2 v3 v4 v5 v6 : Option V,σ' = [some (.ref kl),some (.ref l),v2,v3,v4,v5,v6]) ∧ (∃ ys,H' l = some (.lst ys) ∧ Paired (TtAt H') ys (fitL ks)) ∧ But l H1 H') (fun R hR => ?_) ?_
  · refine ⟨_,rfl,kl,rfl,⟨_,SqL.of (s1 _ _ hk0)⟩,for_list (xs := rs) (fun i σ' H' => (∃ v2 v3 v4 v5 v6 : Option V,σ' = [some (.ref kl),some (.ref l),v2,v3,v4,v5,v6]) ∧ (∃ ys,H' l = some (.lst ys) ∧ Paired (TtAt H') ys (fitL (ks.take i))) ∧ But l H1 H') ⟨⟨_,_,_,_,_,rfl⟩,⟨[],l1,.nil⟩,But.refl⟩ (fun i σ Hx _ ⟨_,_,bx⟩ => SqL.of (bx _ _ nkl (s1 _ _ hk0))) ?_ ?_⟩
    · rintro i x σ H2 hi ⟨⟨v2,v3,v4,v5,v6,rfl⟩,⟨ys,l2,py⟩,b2⟩
      obtain ⟨k,hk,ka,rfl,hka⟩ := Paired.getR tp hi
      have il : i < rs.length := (List.getElem?_eq_some_iff.mp hi).1
      have hka2 : H2 ka = some (.tup [.int k.w,.int k.h,.int k.wo,.int k.wa,.bl k.tu]) := b2 _ _ (ne_of_none hka hl) (s1 _ _ hka)
      have yl := Paired.length py
      have yl2 := fitL_len (ks.take i)
      rw [List.length_take] at yl2
      have ft := fitL_take hk
      refine ⟨ka,_,rfl,SqT.of hka2,rfl,_,_,rfl,_,_,rfl,_,_,rfl,_,_,rfl,_,_,rfl,rfl,?_⟩
      have app : ∀ (Hx : Hp) (a : Addr) (zs : List V) (t : Int × Int × Int) (L : List (Int × Int × Int)),Hx l = some (.lst zs) → Paired (TtAt Hx) zs L → Hx a = some (.tup [.int t.1,.int t.2.1,.int t.2.2]) → But l H1 Hx → Paired (TtAt (upd Hx l (.lst (zs ++ [.ref a])))) (zs ++ [.ref a]) (L ++ [t]) ∧ But l H1 (upd Hx l (.lst (zs ++ [.ref a]))) := fun Hx a zs t L hx pz ha bx => by
        have kt : ∀ c xs,Hx c = some (.tup xs) → (upd Hx l (.lst (zs ++ [.ref a]))) c = some (.tup xs) := fun c xs e => by
          rw [upd_ne (fun z => by rw [z,hx] at e; cases e)]; exact e
        exact ⟨Paired.app (Paired.mapP pz fun v q h => h.keep kt) (.cons ⟨a,rfl,kt _ _ ha⟩ .nil),fun c o n e => by rw [upd_ne n]; exact bx _ _ n e⟩
      refine seqCut (fun σ' H' => σ' = [some (.ref kl),some (.ref l),some (.int k.w),some (.int k.h),some (.int k.wo),some (.int k.wa),some (.bl k.tu)] ∧ (∃ ys,H' l = some (.lst ys) ∧ Paired (TtAt H') ys (fitL (ks.take i) ++ [(k.w,k.h,k.wo)])) ∧ But l H1 H') (fun R hR => ?_) ?_
      · refine ⟨_,rfl,.inl ⟨rfl,_,SqL.of l2⟩,_,rfl,_,rfl,_,rfl,(by show 3 ≤ sizeLine; decide),fun a ha => ?_⟩
        obtain ⟨H3,e3,k3,s3⟩ : ∃ H',upd H2 a (.tup [.int k.w,.int k.h,.int k.wo]) = H' ∧ H' a = some (.tup [.int k.w,.int k.h,.int k.wo]) ∧ Same H2 H' := ⟨_,rfl,upd_same,Same.new ha⟩
        rw [show upd H2 a _ = H3 from e3]
        have l3 := s3 _ _ l2
        obtain ⟨a1,a2⟩ := app H3 a ys (k.w,k.h,k.wo) _ l3 (Paired.mapP py fun v q h => h.keep fun c xs e => s3 _ _ e) k3 (fun c o n e => s3 _ _ (b2 _ _ n e))
        exact ⟨l,_,_,rfl,rfl,l3,by omega,hR _ _ ⟨rfl,⟨_,upd_same,a1⟩,a2⟩⟩
      rintro _ H3 ⟨rfl,⟨ys3,l3,py3⟩,b3⟩
      have yl3 := Paired.length py3
      rw [List.length_append] at yl3
      have one : [(k.w,k.h,k.wo)].length = 1 := rfl
      refine ⟨_,rfl,k.tu,rfl,?_⟩
      have e1 : fit1 k = [(k.w,k.h,k.wo)] ++ (if k.tu = true then [(k.h,k.w,k.wo)] else []) := rfl
      cases htu : k.tu with
      | false =>
        rw [htu,if_neg Bool.false_ne_true,List.append_nil] at e1
        exact iteF ⟨⟨_,_,_,_,_,rfl⟩,⟨ys3,l3,by rw [ft,e1]; exact py3⟩,b3⟩
      | true =>
        rw [htu,if_pos rfl] at e1
        refine iteT ⟨_,rfl,.inl ⟨rfl,_,SqL.of l3⟩,_,rfl,_,rfl,_,rfl,(by show 3 ≤ sizeLine; decide),fun a ha => ?_⟩
        obtain ⟨H4,e4,k4,s4⟩ : ∃ H',upd H3 a (.tup [.int k.h,.int k.w,.int k.wo]) = H' ∧ H' a = some (.tup [.int k.h,.int k.w,.int k.wo]) ∧ Same H3 H' := ⟨_,rfl,upd_same,Same.new ha⟩
        rw [show upd H3 a _ = H4 from e4]
        have l4 := s4 _ _ l3
        obtain ⟨a1,a2⟩ := app H4 a ys3 (k.h,k.w,k.wo) _ l4 (Paired.mapP py3 fun v q h => h.keep fun c xs e => s4 _ _ e) k4 (fun c o n e => s4 _ _ (b3 _ _ n e))
        exact ⟨l,_,_,rfl,rfl,l4,by omega,⟨_,_,_,_,_,rfl⟩,⟨_,upd_same,by rw [ft,e1,← List.append_assoc]; exact a1⟩,a2⟩
    · rintro σ H2 ⟨e,⟨ys,l2,py⟩,b2⟩
      rw [rl,List.take_length] at py
      exact hR _ _ ⟨e,⟨ys,l2,py⟩,b2⟩
  rintro _ H2 ⟨⟨v2,v3,v4,v5,v6,rfl⟩,⟨ys,l2,py⟩,b2⟩
  exact ⟨_,rfl,q l ys H2 l2 py (fun c o e => b2 _ _ (ne_of_none e hl) (s1 _ _ e))⟩
theorem scduef : FnScope ["_law_blade_here","_law_fitting_here","_law_table_here","_law_wide","_law_high","_law_found","_law_p"] ["_law_blade_here","_law_fitting_here","_law_table_here","_law_wide","_law_high"] (defScope sDue) := ⟨rfl,rfl,rfl,by decide +kernel,rfl,by decide +kernel,by decide +kernel⟩
theorem ok_duef {f : Addr} {fd : FuncData} (F : Fun K "_law_due" "_law_due" sDue f fd) (B : Blt mg) : FnOk P w K mg base CX0 1 f fd ["_law_blade_here","_law_fitting_here","_law_table_here","_law_wide","_law_high"] (spDueF) := by
  refine F.ok scduef (fun vs H Q E h => ?_) (fun cdv A outer s H vs Q E hr h => ?_)
  · obtain ⟨b,fl,tb,ys,ks,kvs,f,w1,h1,rfl,_⟩ := h
    rfl
  obtain ⟨b,fl,tb,ys,ks,kvs,f,w1,h1,rfl,hf0,tt,k8,hrd,b0,w0,w16,h0,h16,hv,q⟩ := h
  have nd := scduef.nd
  have hu := hr.units
  have hu1 := Nat.lt_of_le_of_lt (Nat.add_le_add_left (show 1 ≤ 64 by decide) _) hu
  refine ⟨_,(@pss_cons _ _ _ _ _ (@ps_set _ _ 5 _ _ _ _ nd rfl (Or.inl rfl) (@pe_lst _ _ _ _ (@pa_cons _ _ _ _ _ pe_int pa_nil rfl)) rfl (Or.inl rfl)) (@pss_cons _ _ _ _ _ (@ps_expr _ _ _ _ (@pe_bm _ _ _ _ _ _ _ _ _ _ _ _ PySem.F.plainAttrs_list PySem.F.slot_list_extend PySem.F.type_list_extend mt_extend (pv 5) (@pa_cons _ _ _ _ _ (pe_comp (own := ["_law_own_wide","_law_own_high","_law_worth"]) (cs := ["_law_wide","_law_high"]) (cap := [3,4]) rfl (pi_list (pv 1)) (compOk_of (sc := defScope sDue) (N := ["_law_blade_here","_law_fitting_here","_law_table_here","_law_wide","_law_high","_law_found","_law_p"]) rfl rfl (by decide +kernel)) (fun _ _ _ _ _ => pg_three K rfl rfl (by show List.Nodup (["_law_own_wide","_law_own_high","_law_worth","_law_wide","_law_high"] : List Str) ; decide +kernel) rfl rfl rfl rfl rfl rfl) (fun _ _ _ _ _ => (pifs_one (PW.pt (pw_and (@pt_cmpR _ _ _ _ _ _ _ _ op_le (pv 0) (pv 3) (nomark _)) (pw_and1 (@pt_cmpR _ _ _ _ _ _ _ _ op_le (pv 1) (pv 4) (nomark _))))))) (fun _ _ _ _ _ => (pv 2))) pa_nil rfl) rfl rfl rfl rfl rfl) rfl) (@pss_cons _ _ _ _ _ (@ps_for _ _ _ _ _ _ _ _ PassesOwn.never rfl (pi_range2N rfl B.range (@pa_cons _ _ _ _ _ pe_int (@pa_cons _ _ _ _ _ (@pe_op _ _ _ _ _ _ _ _ op_sub (pv 3) (pv 0)) pa_nil rfl) rfl)) (pg_name (i := 6) nd rfl (Or.inl rfl)) (@pss_one _ _ _ (@ps_expr _ _ _ _ (@pe_bm _ _ _ _ _ _ _ _ _ _ _ _ PySem.F.plainAttrs_list PySem.F.slot_list_append PySem.F.type_list_append mt_append (pv 5) (@pa_cons _ _ _ _ _ (@pe_op _ _ _ _ _ _ _ _ op_add (pe_dget hu1 (pv 2) (@pe_tup _ _ _ _ _ (@pa_cons _ _ _ _ _ (pv 6) (@pa_cons _ _ _ _ _ (pv 4) pa_nil rfl) rfl)) (fun _ _ => rfl)) (pe_dget hu1 (pv 2) (@pe_tup _ _ _ _ _ (@pa_cons _ _ _ _ _ (@pe_op _ _ _ _ _ _ _ _ op_sub (@pe_op _ _ _ _ _ _ _ _ op_sub (pv 3) (pv 6)) (pv 0)) (@pa_cons _ _ _ _ _ (pv 4) pa_nil rfl) rfl)) (fun _ _ => rfl))) pa_nil rfl) rfl rfl rfl rfl rfl) rfl)) (by intro _; rfl)) (@pss_cons _ _ _ _ _ (@ps_for _ _ _ _ _ _ _ _ PassesOwn.never rfl (pi_range2N rfl B.range (@pa_cons _ _ _ _ _ pe_int (@pa_cons _ _ _ _ _ (@pe_op _ _ _ _ _ _ _ _ op_sub (pv 4) (pv 0)) pa_nil rfl) rfl)) (pg_name (i := 6) nd rfl (Or.inl rfl)) (@pss_one _ _ _ (@ps_expr _ _ _ _ (@pe_bm _ _ _ _ _ _ _ _ _ _ _ _ PySem.F.plainAttrs_list PySem.F.slot_list_append PySem.F.type_list_append mt_append (pv 5) (@pa_cons _ _ _ _ _ (@pe_op _ _ _ _ _ _ _ _ op_add (pe_dget hu1 (pv 2) (@pe_tup _ _ _ _ _ (@pa_cons _ _ _ _ _ (pv 3) (@pa_cons _ _ _ _ _ (pv 6) pa_nil rfl) rfl)) (fun _ _ => rfl)) (pe_dget hu1 (pv 2) (@pe_tup _ _ _ _ _ (@pa_cons _ _ _ _ _ (pv 3) (@pa_cons _ _ _ _ _ (@pe_op _ _ _ _ _ _ _ _ op_sub (@pe_op _ _ _ _ _ _ _ _ op_sub (pv 4) (pv 6)) (pv 0)) pa_nil rfl) rfl)) (fun _ _ => rfl))) pa_nil rfl) rfl rfl rfl rfl rfl) rfl)) (by intro _; rfl)) (@pss_one _ _ _ (@ps_ret _ _ _ _ (@pe_callB _ _ _ _ _ _ _ _ _ (call_maxI rfl) rfl B.max PyProof.Rows.boot_max (@pa_cons _ _ _ _ _ (pv 5) pa_nil rfl) (by decide) (by decide) rfl rfl))))))),?_⟩
  have z4 : 4096 ≤ sizeLine := by decide
  have wpL0 : wpL false 0 = [] := rfl
  have fl16 := fitL_len ks
  have ffl : ((fitL ks).filter (fitT w1 h1)).length ≤ 16 := Nat.le_trans (List.length_filter_le _ _) (by omega)
  refine seqCut (fun σ' H' => ∃ l : Addr,σ' = [some (.int b),some (.ref fl),some (.ref tb),some (.int w1),some (.int h1),some (.ref l),none] ∧ H l = none ∧ H' l = some (.lst [.int 0]) ∧ Same H H') (fun R hR => ?_) ?_
  · refine ⟨(by show 1 ≤ sizeLine; decide),fun l hl => ?_⟩
    obtain ⟨H1,e1,k1,s1⟩ : ∃ H',upd H l (.lst [.int 0]) = H' ∧ H' l = some (.lst [.int 0]) ∧ Same H H' := ⟨_,rfl,upd_same,Same.new hl⟩
    rw [show upd H l _ = H1 from e1]
    exact hR _ _ ⟨l,rfl,hl,k1,s1⟩
  rintro _ H1 ⟨l,rfl,hl,l1,s1⟩
  have nfl : fl ≠ l := ne_of_none hf0 hl
  have ntl : tb ≠ l := fun z => by
    rw [z] at hrd
    rcases hrd with e | ⟨o,e⟩ <;> rw [hl] at e <;> cases e
  have hf1 := s1 _ _ hf0
  have tt1 : Paired (TtAt H1) ys (fitL ks) := Paired.mapP tt fun v q h => h.keep fun c xs e => s1 _ _ e
  have yl := Paired.length tt
  refine seqCut (fun σ' H' => (∃ v6 : Option V,σ' = [some (.int b),some (.ref fl),some (.ref tb),some (.int w1),some (.int h1),some (.ref l),v6]) ∧ H' l = some (.lst (([0] ++ ((fitL ks).filter (fitT w1 h1)).map wT).map V.int)) ∧ (∀ a o,a ≠ l → H a = some o → H' a = some o)) (fun R hR => ?_) ?_
  · refine ⟨_,rfl,.inl ⟨rfl,_,SqL.of l1⟩,?_⟩
    refine ⟨_,rfl,fl,rfl,⟨_,SqL.of hf1⟩,(comp_seq (K := K) (.inl hf1) (fun j us Hx => H1 = Hx ∧ us = ((((fitL ks).take j).filter (fitT w1 h1)).map wT).map V.int) (fun j us Hx _ ⟨e,_⟩ o h => e ▸ h) ⟨rfl,rfl⟩ ?_ ?_).1 hf1⟩
    · rintro j y us _ hj ⟨rfl,rfl⟩
      have hjn : j < ys.length := (List.getElem?_eq_some_iff.mp hj).1
      obtain ⟨t,hc',ta,rfl,hta⟩ := Paired.getR tt1 hj
      have tk : (fitL ks).take (j + 1) = (fitL ks).take j ++ [t] := by rw [List.take_add_one,hc']; rfl
      refine ⟨?_,?_⟩
      · rw [List.length_map,List.length_map]
        exact Nat.lt_of_le_of_lt (List.length_filter_le _ _) (by rw [List.length_take]; omega)
      refine ⟨ta,_,rfl,SqT.of hta,rfl,_,_,rfl,_,_,rfl,_,_,rfl,rfl,leS2 (leS2 (leS.set rfl) (leS.set rfl)) (leS.set rfl),?_⟩
      refine ⟨_,rfl,_,rfl,_,_,rfl,rfl,_,rfl,?_⟩
      have pn := List.filter_append (p := fitT w1 h1) ((fitL ks).take j) [t]
      rw [← tk] at pn
      refine ite2 (fun c1 => ?_) (fun c1 => ?_)
      · refine ⟨_,rfl,_,rfl,_,_,rfl,rfl,_,rfl,?_⟩
        refine ite2 (fun c2 => ?_) (fun c2 => ?_)
        · have ff : fitT w1 h1 t = true := by unfold fitT; rw [c1,c2]; rfl
          refine ⟨_,rfl,Nx.of hjn ⟨rfl,?_⟩⟩
          rw [pn,List.filter_cons,if_pos ff,List.filter_nil,List.map_append,List.map_append]
          rfl
        · have ff : ¬ fitT w1 h1 t = true := fun z => c2 (by unfold fitT at z; exact (Bool.and_eq_true_iff.mp z).2)
          refine Nx.of hjn ⟨rfl,?_⟩
          rw [pn,List.filter_cons,if_neg ff,List.filter_nil,List.append_nil]
      · have ff : ¬ fitT w1 h1 t = true := fun z => c1 (by unfold fitT at z; exact (Bool.and_eq_true_iff.mp z).1)
        refine iteF (Nx.of hjn ⟨rfl,?_⟩)
        rw [pn,List.filter_cons,if_neg ff,List.filter_nil,List.append_nil]
    · rintro us _ ⟨rfl,rfl⟩
      rw [yl,List.take_length]
      rw [List.length_map,List.length_map]
      refine ⟨by omega,fun xl hxl => ?_⟩
      obtain ⟨H2,e2,k2,s2⟩ : ∃ H',upd H1 xl (.lst ((((fitL ks).filter (fitT w1 h1)).map wT).map V.int)) = H' ∧ H' xl = some (.lst ((((fitL ks).filter (fitT w1 h1)).map wT).map V.int)) ∧ Same H1 H' := ⟨_,rfl,upd_same,Same.new hxl⟩
      rw [show upd H1 xl _ = H2 from e2]
      have l2 := s2 _ _ l1
      refine ⟨l,xl,_,_,rfl,rfl,l2,k2,(by rw [List.length_map,List.length_map]; show 1 + _ ≤ _; omega),hR _ _ ⟨⟨_,rfl⟩,upd_same,fun a o n e => ?_⟩⟩
      rw [upd_ne n]
      exact s2 _ _ (s1 _ _ e)
  rintro _ H2 ⟨⟨v6,rfl⟩,l2,st2⟩
  replace l2 : H2 l = some (.lst (([0] ++ ((fitL ks).filter (fitT w1 h1)).map wT ++ (wpL true 0 ++ wpL false 0).map (cutW b f w1 h1)).map V.int)) := by rw [show (wpL true 0 ++ wpL false 0) = [] from rfl,List.map_nil,List.append_nil]; exact l2
  refine seqCut (fun σ' H' => (∃ v6 : Option V,σ' = [some (.int b),some (.ref fl),some (.ref tb),some (.int w1),some (.int h1),some (.ref l),v6]) ∧ H' l = some (.lst (([0] ++ ((fitL ks).filter (fitT w1 h1)).map wT ++ (wpL true (w1 - b - 1).toNat ++ wpL false 0).map (cutW b f w1 h1)).map V.int)) ∧ (∀ a o,a ≠ l → H a = some o → H' a = some o)) (fun R hR => ?_) ?_
  · refine ⟨_,rfl,_,rfl,_,_,rfl,rfl,1,_,rfl,⟨by decide,by decide,by show w1 - b < 2 ^ 62; omega⟩,?_⟩
    refine for_range (lo := 1) (n := (w1 - b - 1).toNat) (fun i σ' H' => (∃ v6 : Option V,σ' = [some (.int b),some (.ref fl),some (.ref tb),some (.int w1),some (.int h1),some (.ref l),v6]) ∧ H' l = some (.lst (([0] ++ ((fitL ks).filter (fitT w1 h1)).map wT ++ (wpL true i ++ wpL false 0).map (cutW b f w1 h1)).map V.int)) ∧ (∀ a o,a ≠ l → H a = some o → H' a = some o)) ⟨⟨_,rfl⟩,l2,st2⟩ ?_ ?_
    · clear l2 st2
      clear v6 H2
      rintro i σ H2 hi ⟨⟨v6,rfl⟩,l2,st2⟩
      have cm : (true,1 + (i : Int)) ∈ cutsL b w1 h1 := mem_cutsL (by omega) (by show 1 + (i : Int) + b < w1; omega)
      obtain ⟨m1,m2⟩ := hv _ cm
      have m1 : valV kvs (pk ((1 + i : Int),h1)) = some (.int (f ((1 + i : Int),h1))) := m1
      have m2 : valV kvs (pk ((w1 - (1 + i) - b : Int),h1)) = some (.int (f ((w1 - (1 + i) - b : Int),h1))) := m2
      have rd2 : Rd H2 tb (.dT kvs) := hrd.imp (st2 _ _ ntl) fun ⟨o,e⟩ => ⟨o,st2 _ _ ntl e⟩
      refine ⟨_,rfl,.inl ⟨rfl,_,SqL.of l2⟩,_,rfl,_,rfl,_,rfl,(by show 2 ≤ sizeLine; decide),fun t1 ht1 => ?_⟩
      obtain ⟨H3,e3,k3,s3⟩ : ∃ H',upd H2 t1 (.tup [.int (1 + i),.int h1]) = H' ∧ H' t1 = some (.tup [.int (1 + i),.int h1]) ∧ Same H2 H' := ⟨_,rfl,upd_same,Same.new ht1⟩
      rw [show upd H2 t1 _ = H3 from e3]
      have rd3 : Rd H3 tb (.dT kvs) := rd2.imp (s3 _ _) fun ⟨o,e⟩ => ⟨o,s3 _ _ e⟩
      refine ⟨tb,_,rfl,.inr ⟨_,pk ((1 + i : Int),h1),t1,rd3,rfl,k3,m1.symm⟩,_,rfl,_,rfl,_,rfl,_,_,rfl,rfl,_,rfl,_,_,rfl,rfl,_,rfl,(by show 2 ≤ sizeLine; decide),fun t2 ht2 => ?_⟩
      obtain ⟨H4,e4,k4,s4⟩ : ∃ H',upd H3 t2 (.tup [.int (w1 - (1 + i) - b),.int h1]) = H' ∧ H' t2 = some (.tup [.int (w1 - (1 + i) - b),.int h1]) ∧ Same H3 H' := ⟨_,rfl,upd_same,Same.new ht2⟩
      rw [show upd H3 t2 _ = H4 from e4]
      have rd4 : Rd H4 tb (.dT kvs) := rd3.imp (s4 _ _) fun ⟨o,e⟩ => ⟨o,s4 _ _ e⟩
      have l4 := s4 _ _ (s3 _ _ l2)
      refine ⟨tb,_,rfl,.inr ⟨_,pk ((w1 - (1 + i) - b : Int),h1),t2,rd4,rfl,k4,m2.symm⟩,_,_,rfl,rfl,l,_,_,rfl,rfl,l4,?_,⟨_,rfl⟩,?_,fun a o n e => by rw [upd_ne n]; exact s4 _ _ (s3 _ _ (st2 _ _ n e))⟩
      · rw [List.length_map,List.length_append,List.length_append,List.length_map,List.length_map,List.length_append,wpL_len,wpL_len]
        show 1 + _ + _ < sizeLine
        omega
      · rw [upd_same]
        refine congrArg (fun z => some (HO.lst z)) ?_
        exact app_one (c := (true,1 + (i : Int))) (by show wpL true (i + 1) ++ [] = (wpL true i ++ []) ++ _; rw [List.append_nil,List.append_nil,wpL_succ])
    · clear l2 st2
      clear v6 H2
      rintro σ H2 ⟨⟨v6,rfl⟩,l2,st2⟩
      exact hR _ _ ⟨⟨_,rfl⟩,l2,st2⟩
  clear l2 st2
  clear v6 H2
  rintro _ H2 ⟨⟨v6,rfl⟩,l2,st2⟩
  refine seqCut (fun σ' H' => (∃ v6 : Option V,σ' = [some (.int b),some (.ref fl),some (.ref tb),some (.int w1),some (.int h1),some (.ref l),v6]) ∧ H' l = some (.lst (([0] ++ ((fitL ks).filter (fitT w1 h1)).map wT ++ (wpL true (w1 - b - 1).toNat ++ wpL false (h1 - b - 1).toNat).map (cutW b f w1 h1)).map V.int)) ∧ (∀ a o,a ≠ l → H a = some o → H' a = some o)) (fun R hR => ?_) ?_
  · refine ⟨_,rfl,_,rfl,_,_,rfl,rfl,1,_,rfl,⟨by decide,by decide,by show h1 - b < 2 ^ 62; omega⟩,?_⟩
    refine for_range (lo := 1) (n := (h1 - b - 1).toNat) (fun i σ' H' => (∃ v6 : Option V,σ' = [some (.int b),some (.ref fl),some (.ref tb),some (.int w1),some (.int h1),some (.ref l),v6]) ∧ H' l = some (.lst (([0] ++ ((fitL ks).filter (fitT w1 h1)).map wT ++ (wpL true (w1 - b - 1).toNat ++ wpL false i).map (cutW b f w1 h1)).map V.int)) ∧ (∀ a o,a ≠ l → H a = some o → H' a = some o)) ⟨⟨_,rfl⟩,l2,st2⟩ ?_ ?_
    · clear l2 st2
      clear v6 H2
      rintro i σ H2 hi ⟨⟨v6,rfl⟩,l2,st2⟩
      have cm : (false,1 + (i : Int)) ∈ cutsL b w1 h1 := mem_cutsL (by omega) (by show 1 + (i : Int) + b < h1; omega)
      obtain ⟨m1,m2⟩ := hv _ cm
      have m1 : valV kvs (pk (w1,(1 + i : Int))) = some (.int (f (w1,(1 + i : Int)))) := m1
      have m2 : valV kvs (pk (w1,(h1 - (1 + i) - b : Int))) = some (.int (f (w1,(h1 - (1 + i) - b : Int)))) := m2
      have rd2 : Rd H2 tb (.dT kvs) := hrd.imp (st2 _ _ ntl) fun ⟨o,e⟩ => ⟨o,st2 _ _ ntl e⟩
      refine ⟨_,rfl,.inl ⟨rfl,_,SqL.of l2⟩,_,rfl,_,rfl,_,rfl,(by show 2 ≤ sizeLine; decide),fun t1 ht1 => ?_⟩
      obtain ⟨H3,e3,k3,s3⟩ : ∃ H',upd H2 t1 (.tup [.int w1,.int (1 + i)]) = H' ∧ H' t1 = some (.tup [.int w1,.int (1 + i)]) ∧ Same H2 H' := ⟨_,rfl,upd_same,Same.new ht1⟩
      rw [show upd H2 t1 _ = H3 from e3]
      have rd3 : Rd H3 tb (.dT kvs) := rd2.imp (s3 _ _) fun ⟨o,e⟩ => ⟨o,s3 _ _ e⟩
      refine ⟨tb,_,rfl,.inr ⟨_,pk (w1,(1 + i : Int)),t1,rd3,rfl,k3,m1.symm⟩,_,rfl,_,rfl,_,rfl,_,rfl,_,_,rfl,rfl,_,rfl,_,_,rfl,rfl,(by show 2 ≤ sizeLine; decide),fun t2 ht2 => ?_⟩
      obtain ⟨H4,e4,k4,s4⟩ : ∃ H',upd H3 t2 (.tup [.int w1,.int (h1 - (1 + i) - b)]) = H' ∧ H' t2 = some (.tup [.int w1,.int (h1 - (1 + i) - b)]) ∧ Same H3 H' := ⟨_,rfl,upd_same,Same.new ht2⟩
      rw [show upd H3 t2 _ = H4 from e4]
      have rd4 : Rd H4 tb (.dT kvs) := rd3.imp (s4 _ _) fun ⟨o,e⟩ => ⟨o,s4 _ _ e⟩
      have l4 := s4 _ _ (s3 _ _ l2)
      refine ⟨tb,_,rfl,.inr ⟨_,pk (w1,(h1 - (1 + i) - b : Int)),t2,rd4,rfl,k4,m2.symm⟩,_,_,rfl,rfl,l,_,_,rfl,rfl,l4,?_,⟨_,rfl⟩,?_,fun a o n e => by rw [upd_ne n]; exact s4 _ _ (s3 _ _ (st2 _ _ n e))⟩
      · rw [List.length_map,List.length_append,List.length_append,List.length_map,List.length_map,List.length_append,wpL_len,wpL_len]
        show 1 + _ + _ < sizeLine
        omega
      · rw [upd_same]
        refine congrArg (fun z => some (HO.lst z)) ?_
        exact app_one (c := (false,1 + (i : Int))) (by rw [wpL_succ,List.append_assoc])
    · clear l2 st2
      clear v6 H2
      rintro σ H2 ⟨⟨v6,rfl⟩,l2,st2⟩
      exact hR _ _ ⟨⟨_,rfl⟩,l2,st2⟩
  clear l2 st2
  clear v6 H2
  rintro _ H2 ⟨⟨v6,rfl⟩,l2,st2⟩
  refine ⟨_,rfl,l,_,rfl,SqL.of l2,(fun z => by cases z),fun m hm hx => ?_⟩
  rw [due_max (ks := ks) (f := f) (b := b) (w := w1) (h := h1) rfl hm hx]
  exact q H2 (fun c o e => st2 _ _ (ne_of_none e hl) e)
end
def tabF (f : Int × Int → Int) (ps : List (Int × Int)) : List ((Int × Int) × V) := ps.map fun p => (p,.int (f p))
theorem tabF_fst (f : Int × Int → Int) (ps : List (Int × Int)) : (tabF f ps).map (·.1) = ps := by
  unfold tabF
  rw [List.map_map]
  exact List.map_id' ps
theorem tabF_get {f : Int × Int → Int} {ps : List (Int × Int)} {p : Int × Int} (h : p ∈ ps) : valV (byP (tabF f ps)) (pk p) = some (.int (f p)) := by
  obtain ⟨v,h1,h2⟩ := byP_get (ss := tabF f ps) (p := p) (by rw [tabF_fst]; exact h)
  unfold tabF at h2
  obtain ⟨q,_,e⟩ := List.mem_map.mp h2
  cases e
  exact h1
theorem tabF_at {f : Int × Int → Int} {ps : List (Int × Int)} {i : Nat} {k : List Key} {v : V} (h : (byP (tabF f ps))[i]? = some (k,v)) : ∃ p,ps[i]? = some p ∧ k = pk p ∧ v = .int (f p) := by
  unfold byP tabF at h
  rw [List.map_map,List.getElem?_map] at h
  obtain ⟨p,hp,e⟩ := Option.map_eq_some_iff.mp h
  cases e
  exact ⟨p,hp,rfl,rfl⟩
theorem tabF_len (f : Int × Int → Int) (ps : List (Int × Int)) : (byP (tabF f ps)).length = ps.length := by
  unfold byP tabF
  rw [List.length_map,List.length_map]
def fset (f : Int × Int → Int) (p : Int × Int) (x : Int) : Int × Int → Int := fun q => if q = p then x else f q
theorem tabF_put {f : Int × Int → Int} {ps : List (Int × Int)} {p : Int × Int} (h : p ∈ ps) (x : Int) : putK (byP (tabF f ps)) (pk p) (.int x) = byP (tabF (fset f p x) ps) := by
  have hany : ((byP (tabF f ps)).any fun kv => decide (kv.1 = pk p)) = true := by
    rw [List.any_eq_true]
    exact ⟨(pk p,.int (f p)),List.mem_map.mpr ⟨(p,.int (f p)),List.mem_map.mpr ⟨p,h,rfl⟩,rfl⟩,decide_eq_true rfl⟩
  unfold putK
  rw [if_pos hany]
  unfold byP tabF
  rw [List.map_map,List.map_map,List.map_map]
  refine List.map_congr_left fun q hq => ?_
  show (if pk q = pk p then (pk q,V.int x) else (pk q,V.int (f q))) = (pk q,V.int (fset f p x q))
  unfold fset
  by_cases e : q = p
  · rw [if_pos (by rw [e]),if_pos e]
  · rw [if_neg (fun z => e (pk_inj z)),if_neg e]
theorem tabF_new {f : Int × Int → Int} {ps : List (Int × Int)} {p : Int × Int} (h : p ∉ ps) (x : Int) : putK (byP (tabF f ps)) (pk p) (.int x) = byP (tabF (fset f p x) (ps ++ [p])) := by
  rw [byP_put (by rw [tabF_fst]; exact h)]
  unfold tabF
  rw [List.map_append]
  congr 1
  congr 1
  · refine List.map_congr_left fun q hq => ?_
    unfold fset
    rw [if_neg (fun e : q = p => h (e ▸ hq))]
  · unfold fset
    simp
theorem tabF_same {f g : Int × Int → Int} {ps : List (Int × Int)} (h : ∀ p ∈ ps,f p = g p) : SameD (byP (tabF f ps)) (byP (tabF g ps)) := by
  refine ⟨by rw [tabF_len,tabF_len],fun k v hm => ?_⟩
  obtain ⟨i,hi⟩ := List.mem_iff_getElem?.mp hm
  obtain ⟨p,hp,rfl,rfl⟩ := tabF_at hi
  have hp := List.mem_of_getElem? hp
  refine ⟨_,rfl,?_⟩
  rw [h p hp]
  exact List.mem_map.mpr ⟨(p,.int (g p)),List.mem_map.mpr ⟨p,hp,rfl⟩,rfl⟩
theorem mxL_le {α : Type} {f : α → Int} {l : List α} {x y : Int} : mxL f l x ≤ y ↔ x ≤ y ∧ ∀ a ∈ l,f a ≤ y := by
  obtain ⟨h1,h2⟩ := mxL_ge (f := f) (l := l) (x := x)
  refine ⟨fun h => ⟨by omega,fun a ha => by have := h2 a ha; omega⟩,fun ⟨h3,h4⟩ => ?_⟩
  rcases mxL_one (f := f) (l := l) (x := x) with e | ⟨a,ha,e⟩
  · omega
  · have := h4 a ha; omega
def bearsF (b : Int) (ks : List Kd) (f : Int × Int → Int) (m n : Nat) : Bool := (partsL m n).all fun p => decide (dueV b ks f p.1 p.2 ≤ f p)
def lyB (ks : List Kd) (f : Int × Int → Int) (p : Int × Int) (l : List (Nat × Bool)) : Bool := l.all fun q => decide (wq ks q ≤ f p)
def cuB (b : Int) (f : Int × Int → Int) (p : Int × Int) (l : List (Bool × Int)) : Bool := l.all fun c => decide (cutW b f p.1 p.2 c ≤ f p)
def bearsP (b : Int) (ks : List Kd) (f : Int × Int → Int) (p : Int × Int) : Bool := lyB ks f p ((lyK ks 0).filter (fitP ks p.1 p.2)) && cuB b f p (cutsL b p.1 p.2)
theorem bearsP_due {b : Int} {ks : List Kd} {f : Int × Int → Int} {p : Int × Int} (h0 : 0 ≤ f p) : bearsP b ks f p = decide (dueV b ks f p.1 p.2 ≤ f p) := by
  have e : (dueV b ks f p.1 p.2 ≤ f p) ↔ bearsP b ks f p = true := by
    unfold dueV lfW bearsP lyB cuB
    rw [mxL_le,mxL_le,Bool.and_eq_true_iff,List.all_eq_true,List.all_eq_true]
    constructor
    · rintro ⟨⟨_,h1⟩,h2⟩
      exact ⟨fun q hq => decide_eq_true (h1 q hq),fun c hc => decide_eq_true (h2 c hc)⟩
    · rintro ⟨h1,h2⟩
      exact ⟨⟨h0,fun q hq => of_decide_eq_true (h1 q hq)⟩,fun c hc => of_decide_eq_true (h2 c hc)⟩
  cases hb : bearsP b ks f p with
  | true => exact (decide_eq_true (e.mpr hb)).symm
  | false => exact (decide_eq_false (fun z => by rw [e.mp z] at hb; cases hb)).symm
theorem bears_eq {b : Int} {ks : List Kd} {f : Int × Int → Int} {m n : Nat} (h0 : ∀ p ∈ partsL m n,0 ≤ f p) : (partsL m n).all (bearsP b ks f) = bearsF b ks f m n := by
  unfold bearsF
  have : ∀ l : List (Int × Int),(∀ p ∈ l,0 ≤ f p) → l.all (bearsP b ks f) = l.all fun p => decide (dueV b ks f p.1 p.2 ≤ f p) := by
    intro l
    induction l with
    | nil => intro _; rfl
    | cons p l ih =>
      intro h
      rw [List.all_cons,List.all_cons,ih (fun q hq => h q (List.mem_cons_of_mem _ hq)),bearsP_due (h p List.mem_cons_self)]
  exact this _ h0
theorem all_take {α : Type} {f : α → Bool} {l : List α} {i : Nat} {x : α} (h : l[i]? = some x) : (l.take (i + 1)).all f = ((l.take i).all f && f x) := by
  rw [List.take_add_one,h,List.all_append]
  simp
theorem all_false {α : Type} {f : α → Bool} {l : List α} {x : α} (h : x ∈ l) (hf : f x = false) : l.all f = false := by
  cases e : l.all f with
  | false => rfl
  | true => rw [List.all_eq_true] at e; rw [e x h] at hf; cases hf
theorem partsL_at {n : Nat} : ∀ {m k : Nat},k < m * n → (partsL m n)[k]? = some (((k / n : Nat) : Int) + 1,((k % n : Nat) : Int) + 1)
  | 0,k,h => by rw [Nat.zero_mul] at h; omega
  | m + 1,k,h => by
    have n0 : 0 < n := by
      rcases Nat.eq_zero_or_pos n with e | e
      · rw [e,Nat.mul_zero] at h; omega
      · exact e
    rw [Nat.succ_mul] at h
    rw [partsL_succ]
    by_cases hk : k < m * n
    · rw [List.getElem?_append_left (by rw [partsL_len]; exact hk)]
      exact partsL_at hk
    · obtain ⟨j,rfl⟩ : ∃ j,k = m * n + j := ⟨k - m * n,by omega⟩
      have hj : j < n := by omega
      rw [List.getElem?_append_right (by rw [partsL_len]; omega),partsL_len,Nat.add_sub_cancel_left]
      have e1 : (m * n + j) / n = m := by rw [Nat.mul_comm,Nat.mul_add_div n0,Nat.div_eq_of_lt hj,Nat.add_zero]
      have e2 : (m * n + j) % n = j := by rw [Nat.mul_comm,Nat.mul_add_mod,Nat.mod_eq_of_lt hj]
      rw [e1,e2]
      unfold rowP
      rw [List.getElem?_map,List.getElem?_range hj]
      show some ((1 + (m : Int),1 + (j : Int)) : Int × Int) = some ((m : Int) + 1,(j : Int) + 1)
      rw [Int.add_comm 1 (m : Int),Int.add_comm 1 (j : Int)]
theorem rdBut' {t : Addr} {H H' : Hp} {a : Addr} {u : HO} (s : ∀ c o,c ≠ t → H c = some o → H' c = some o) (n : a ≠ t) (h : Rd H a u) : Rd H' a u := h.imp (s _ _ n) fun ⟨o,e⟩ => ⟨o,s _ _ n e⟩
theorem rdSame {H H' : Hp} {a : Addr} {u : HO} (h : Rd H a u) (s : Same H H') : Rd H' a u := h.imp (s _ _) fun ⟨o,e⟩ => ⟨o,s _ _ e⟩
theorem rdTup {H : Hp} {a b : Addr} {kvs : List (List Key × V)} {xs : List V} (h : Rd H a (.dT kvs)) (e : H b = some (.tup xs)) : b ≠ a := fun z => by
  subst z
  rcases h with h | ⟨_,h⟩ <;> rw [e] at h <;> cases h
theorem rdIns {H : Hp} {a b C d : Addr} {kvs : List (List Key × V)} {fs} (h : Rd H a (.dT kvs)) (e : H b = some (.ins C d fs)) : b ≠ a := fun z => by
  subst z
  rcases h with h | ⟨_,h⟩ <;> rw [e] at h <;> cases h
section
variable {P : Program} {w : World} {K : PySem.W.Frag} {mg : Str → Option Value} {base : Heap}
def spIsKey : Sp := fun vs H Q _ => ∃ (t : Addr) (m n : Nat) (p : Int × Int),vs = [.int (m : Int),.int (n : Int),.ref t] ∧ H t = some (.tup [.int p.1,.int p.2]) ∧ p ∈ partsL m n ∧ Q (.bl true) H
def spIsTab : Sp := fun vs H Q _ => ∃ (td : Addr) (m n : Nat) (f0 : Int × Int → Int),vs = [.int (m : Int),.int (n : Int),.ref td] ∧ m ≤ 16 ∧ n ≤ 16 ∧ H td = some (.dT (byP (tabF f0 (partsL m n)))) ∧ (∀ p ∈ partsL m n,0 ≤ f0 p) ∧ ∀ (ob : Obj) (H' : Hp),H' td = some (.frz ob (.dT (byP (tabF f0 (partsL m n))))) → But td H H' → Q (.bl true) H'
def spBearsP (C : Addr) : Sp := fun vs H Q _ => ∃ (s t td : Addr) (b : Int) (ks : List Kd) (m n : Nat) (p : Int × Int) (f0 : Int × Int → Int),vs = [.ref s,.ref t,.ref td] ∧ ShopAt C H s b ks ∧ ks.length ≤ 8 ∧ 0 ≤ b ∧ H t = some (.tup [.int p.1,.int p.2]) ∧ p ∈ partsL m n ∧ m ≤ 16 ∧ n ≤ 16 ∧ Rd H td (.dT (byP (tabF f0 (partsL m n)))) ∧ ∀ H',Same H H' → Q (.bl (bearsP b ks f0 p)) H'
def spBearsT (C : Addr) : Sp := fun vs H Q _ => ∃ (s td : Addr) (b : Int) (ks : List Kd) (m n : Nat) (f0 : Int × Int → Int),vs = [.ref s,.int (m : Int),.int (n : Int),.ref td] ∧ ShopAt C H s b ks ∧ ks.length ≤ 8 ∧ 0 ≤ b ∧ 1 ≤ m ∧ m ≤ 16 ∧ 1 ≤ n ∧ n ≤ 16 ∧ H td = some (.dT (byP (tabF f0 (partsL m n)))) ∧ (∀ p ∈ partsL m n,0 ≤ f0 p) ∧ ∀ (ob : Obj) (H' : Hp),H' td = some (.frz ob (.dT (byP (tabF f0 (partsL m n))))) → But td H H' → Q (.bl (bearsF b ks f0 m n)) H'
theorem sciskey : FnScope ["wide","high","thing","a","b"] ["wide","high","thing"] (defScope sIsKey) := ⟨rfl,rfl,rfl,by decide +kernel,rfl,by decide +kernel,by decide +kernel⟩
theorem ok_iskey {f : Addr} {fd : FuncData} (F : Fun K "is_key" "is_key" sIsKey f fd) (B : Blt mg) (DW : Dn P w K mg base "is_whole" ["thing","least"] 1 (spWhole K)) : FnOk P w K mg base CX0 2 f fd ["wide","high","thing"] (spIsKey) := by
  refine F.ok sciskey (fun vs H Q E h => ?_) (fun cdv A outer s H vs Q E hr h => ?_)
  · obtain ⟨t,m,n,p,rfl,_⟩ := h
    rfl
  obtain ⟨t,m,n,p,rfl,ht,hp,q⟩ := h
  have nd := sciskey.nd
  refine ⟨_,(@pss_cons _ _ _ _ _ (@ps_if _ _ _ _ _ _ _ _ (PW.pt (pw_or (@pt_not _ _ _ _ (@pt_val _ _ _ (@pe_callB _ _ _ _ _ _ _ _ _ call_isinst rfl B.isi PyProof.Rows.boot_isinstance (@pa_cons _ _ _ _ _ (pv 2) (@pa_cons _ _ _ _ _ (pe_bltn (v := .ty "tuple") rfl B.tuple PyProof.Rows.boot_tuple rfl) pa_nil rfl) rfl) (by decide) (by decide) rfl rfl) (by intro _; rfl))) (pw_or1 (@pt_cmpR _ _ _ _ _ _ _ _ op_ne (@pe_callB _ _ _ _ _ _ _ _ _ call_len_seq rfl B.len PySem.boot_len (@pa_cons _ _ _ _ _ (pv 2) pa_nil rfl) (by decide) (by decide) rfl rfl) pe_int (nomark _))))) (@pss_one _ _ _ (@ps_ret _ _ _ _ pe_bl)) pss_nil) (@pss_cons _ _ _ _ _ (@ps_asg _ _ _ _ _ _ (pv 2) (pg_tup rfl (pgs_cons (pg_name (i := 3) nd rfl (Or.inl rfl)) (pgs_cons (pg_name (i := 4) nd rfl (Or.inl rfl)) pgs_nil))) rfl rfl rfl) (@pss_one _ _ _ (@ps_ret _ _ _ _ (pe_and (@pe_cD _ _ _ _ _ _ _ _ _ _ DW hr rfl (@pa_cons _ _ _ _ _ (pv 3) (@pa_cons _ _ _ _ _ pe_int pa_nil rfl) rfl) (by decide) rfl rfl) (pe_and (@pe_cD _ _ _ _ _ _ _ _ _ _ DW hr rfl (@pa_cons _ _ _ _ _ (pv 4) (@pa_cons _ _ _ _ _ pe_int pa_nil rfl) rfl) (by decide) rfl rfl) (pe_and (@pe_cmpR _ _ _ _ _ _ _ _ op_le (pv 3) (pv 0) (nomark _)) (pe_one (@pe_cmpR _ _ _ _ _ _ _ _ op_le (pv 4) (pv 1) (nomark _)))))))))),?_⟩
  obtain ⟨⟨p1,p2⟩,p3,p4⟩ := partsL_mem.mp hp
  refine seqCut (fun σ' H' => σ' = [some (.int (m : Int)),some (.int (n : Int)),some (.ref t),none,none] ∧ H = H') (fun R hR => ?_) ?_
  · exact ⟨_,rfl,_,_,_,_,_,rfl,.tup ht,rfl,kit_tt,_,rfl,iteF ⟨_,rfl,t,_,rfl,.inr (SqT.of ht),rfl,_,rfl,iteF (hR _ _ ⟨rfl,rfl⟩)⟩⟩
  rintro _ _ ⟨rfl,rfl⟩
  refine seqCut (fun σ' H' => σ' = [some (.int (m : Int)),some (.int (n : Int)),some (.ref t),some (.int p.1),some (.int p.2)] ∧ H = H') (fun R hR => ?_) ?_
  · exact ⟨_,rfl,t,_,rfl,SqT.of ht,rfl,_,_,rfl,_,_,rfl,rfl,hR _ _ ⟨rfl,rfl⟩⟩
  rintro _ _ ⟨rfl,rfl⟩
  refine ⟨_,rfl,.int p.1,"int",1,rfl,Ty.int,_,rfl,?_⟩
  rw [show whole (.int p.1) 1 = true from decide_eq_true p1]
  refine iteT ⟨_,rfl,.int p.2,"int",1,rfl,Ty.int,_,rfl,?_⟩
  rw [show whole (.int p.2) 1 = true from decide_eq_true p3]
  refine iteT ⟨_,rfl,_,rfl,_,_,rfl,rfl,_,rfl,?_⟩
  rw [show decide (p.1 ≤ (m : Int)) = true from decide_eq_true p2]
  refine iteT ⟨_,rfl,_,rfl,_,_,rfl,rfl,?_⟩
  show Q (.bl (decide (p.2 ≤ (n : Int)))) H
  rw [show decide (p.2 ≤ (n : Int)) = true from decide_eq_true p4]
  exact q
theorem scistab : FnScope ["wide","high","thing"] ["wide","high","thing"] (defScope sIsTable) := ⟨rfl,rfl,rfl,by decide +kernel,rfl,by decide +kernel,by decide +kernel⟩
theorem ok_istab {f : Addr} {fd : FuncData} (F : Fun K "is_table" "is_table" sIsTable f fd) (B : Blt mg) (hdc : mg "dict" = none) (DW : Dn P w K mg base "is_whole" ["thing","least"] 1 (spWhole K)) (DK : Dn P w K mg base "is_key" ["wide","high","thing"] 2 (spIsKey)) : FnOk P w K mg base CX0 3 f fd ["wide","high","thing"] (spIsTab) := by
  refine F.ok scistab (fun vs H Q E h => ?_) (fun cdv A outer s H vs Q E hr h => ?_)
  · obtain ⟨td,m,n,f0,rfl,_⟩ := h
    rfl
  obtain ⟨td,m,n,f0,rfl,m16,n16,htd,h0,q⟩ := h
  have nd := scistab.nd
  have hu := hr.units
  have hu1 := Nat.lt_of_le_of_lt (Nat.add_le_add_left (show 1 ≤ 64 by decide) _) hu
  refine ⟨_,(@pss_cons _ _ _ _ _ (@ps_if _ _ _ _ _ _ _ _ (PW.pt (pw_or (@pt_not _ _ _ _ (@pt_val _ _ _ (@pe_callB _ _ _ _ _ _ _ _ _ call_isinst rfl B.isi PyProof.Rows.boot_isinstance (@pa_cons _ _ _ _ _ (pv 2) (@pa_cons _ _ _ _ _ (pe_bltn (v := .ty "dict") rfl hdc PyProof.Rows.boot_dict rfl) pa_nil rfl) rfl) (by decide) (by decide) rfl rfl) (by intro _; rfl))) (pw_or1 (@pt_cmpR _ _ _ _ _ _ _ _ op_ne (@pe_callB _ _ _ _ _ _ _ _ _ call_lenDT rfl B.len PySem.boot_len (@pa_cons _ _ _ _ _ (pv 2) pa_nil rfl) (by decide) (by decide) rfl rfl) (@pe_op _ _ _ _ _ _ _ _ op_mul (pv 0) (pv 1)) (nomark _))))) (@pss_one _ _ _ (@ps_ret _ _ _ _ pe_bl)) pss_nil) (@pss_one _ _ _ (@ps_ret _ _ _ _ (@pe_callB _ _ _ _ _ _ _ _ _ (call_allB rfl) rfl B.all PyProof.Rows.boot_all (@pa_cons _ _ _ _ _ (pe_comp (own := ["key","number"]) (cs := ["wide","high"]) (cap := [0,1]) rfl (pi_items (pv 2)) (compOk_of (sc := defScope sIsTable) (N := ["wide","high","thing"]) rfl rfl (by decide +kernel)) (fun _ _ _ _ _ => pg_two K rfl rfl (by show List.Nodup (["key","number","wide","high"] : List Str) ; decide +kernel) rfl rfl rfl rfl) (fun _ _ _ _ _ => pifs_nil) (fun _ _ _ _ _ => (pe_and (@pe_cD _ _ _ _ _ _ _ _ _ _ DK hr rfl (@pa_cons _ _ _ _ _ (pv 2) (@pa_cons _ _ _ _ _ (pv 3) (@pa_cons _ _ _ _ _ (pv 0) pa_nil rfl) rfl) rfl) (by decide) rfl rfl) (pe_one (@pe_cD _ _ _ _ _ _ _ _ _ _ DW (hr.mono (by decide)) rfl (@pa_cons _ _ _ _ _ (pv 1) (@pa_cons _ _ _ _ _ pe_int pa_nil rfl) rfl) (by decide) rfl rfl))))) pa_nil rfl) (by decide) (by decide) rfl rfl)))),?_⟩
  have z4 : 4096 ≤ sizeLine := by decide
  have mn : m * n ≤ 256 := Nat.mul_le_mul m16 n16
  have tl : (byP (tabF f0 (partsL m n))).length = m * n := by rw [tabF_len,partsL_len]
  refine seqCut (fun σ' H' => σ' = [some (.int (m : Int)),some (.int (n : Int)),some (.ref td)] ∧ H = H') (fun R hR => ?_) ?_
  · refine ⟨_,rfl,_,_,_,_,_,rfl,.dT htd,rfl,kit_dd,_,rfl,iteF ?_⟩
    refine ⟨_,rfl,td,_,rfl,htd,_,rfl,_,rfl,_,_,rfl,rfl,.inl ⟨by omega,by omega⟩,rfl,_,rfl,?_⟩
    rw [tl,show (!decide (V.int ((m * n : Nat) : Int) = V.int ((m : Int) * (n : Int)))) = false by rw [decide_eq_true (by rw [Int.natCast_mul])]; rfl]
    exact iteF (hR _ _ ⟨rfl,rfl⟩)
  rintro _ _ ⟨rfl,rfl⟩
  refine ⟨_,rfl,td,_,rfl,htd,fun ob => ?_⟩
  have hf : (upd H td (.frz ob (.dT (byP (tabF f0 (partsL m n)))))) td = some (.frz ob (.dT (byP (tabF f0 (partsL m n))))) := upd_same
  have bt : But td H (upd H td (.frz ob (.dT (byP (tabF f0 (partsL m n)))))) := fun c o nn e => by rw [upd_ne nn]; exact e
  generalize upd H td (.frz ob (.dT (byP (tabF f0 (partsL m n))))) = H1 at hf bt ⊢
  refine comp_items (a := td) (ob := ob) (kvs := (byP (tabF f0 (partsL m n)))) (fun i us Hx => us = (List.replicate i true).map V.bl ∧ Same H1 Hx) ⟨rfl,Same.refl _⟩ (fun i us Hx _ ⟨_,sx⟩ => sx _ _ hf) ?_ ?_ ?_
  · rintro i kk v pa qa us Hx hkv hpa hqa ⟨rfl,sx⟩
    obtain ⟨p,hp,rfl,rfl⟩ := tabF_at hkv
    have pm := List.mem_of_getElem? hp
    have il := (List.getElem?_eq_some_iff.mp hkv).1
    obtain ⟨Hy,e1,k1,s1⟩ : ∃ H',upd Hx pa (.tup [.ref qa,.int (f0 p)]) = H' ∧ H' pa = some (.tup [.ref qa,.int (f0 p)]) ∧ Same Hx H' := ⟨_,rfl,upd_same,Same.new hpa⟩
    rw [show upd Hx pa _ = Hy from e1]
    have hqa : Hx qa = some (.tup [.int p.1,.int p.2]) := hqa
    refine ⟨pa,_,rfl,SqT.of k1,rfl,_,_,rfl,_,_,rfl,rfl,leS2 (leS.set rfl) (leS.set rfl),tYes_ite ?_⟩
    refine ⟨_,rfl,_,rfl,_,rfl,qa,m,n,p,rfl,s1 _ _ hqa,pm,_,rfl,iteT ⟨_,rfl,.int (f0 p),"int",0,rfl,Ty.int,?_⟩⟩
    rw [show whole (.int (f0 p)) 0 = true from decide_eq_true (h0 p pm)]
    refine ⟨_,(by omega : (byP (tabF f0 (partsL m n))).length - (i + 1) < (byP (tabF f0 (partsL m n))).length - i),rfl,il,?_,sx.trans s1⟩
    rw [List.replicate_succ',List.map_append]
    rfl
  · rintro i us Hx il ⟨rfl,sx⟩
    rw [List.length_map,List.length_replicate]; omega
  · rintro us Hx ⟨rfl,sx⟩
    rw [List.length_map,List.length_replicate]
    refine ⟨by omega,fun l hl => ⟨l,List.replicate (byP (tabF f0 (partsL m n))).length true,rfl,SqL.of upd_same,?_⟩⟩
    rw [show (List.replicate (byP (tabF f0 (partsL m n))).length true).all id = true by rw [List.all_eq_true]; intro x hx; rw [(List.mem_replicate.mp hx).2]; rfl]
    exact q ob _ ((Same.new hl) _ _ (sx _ _ hf)) fun c o nn e => (Same.new hl) _ _ (sx _ _ (bt _ _ nn e))
theorem scbearsp : FnScope ["shop","part","table","kinds","kind","turned","way","p","first","second"] ["shop","part","table"] (defScope sBearsPart) := ⟨rfl,rfl,rfl,by decide +kernel,rfl,by decide +kernel,by decide +kernel⟩
theorem ok_bearsp {f C : Addr} {fd : FuncData} (F : Fun K "bears_part" "bears_part" sBearsPart f fd) (B : Blt mg) (T : ShopTxt K C) (MB : Mn P w K mg base C "blade" ["self"] 1 (spBlade C)) (MKi : Mn P w K mg base C "kinds" ["self"] 1 (spKinds C)) (DLy : Dn P w K mg base "lyings_in" ["shop","part"] 5 (spLyIn C)) (DCu : Dn P w K mg base "cuts_of" ["blade","part"] 2 (spCuts)) : FnOk P w K mg base CX0 6 f fd ["shop","part","table"] (spBearsP C) := by
  refine F.ok scbearsp (fun vs H Q E h => ?_) (fun cdv A outer s H vs Q E hr h => ?_)
  · obtain ⟨s,t,td,b,ks,m,n,p,f0,rfl,_⟩ := h
    rfl
  obtain ⟨s,t,td,b,ks,m,n,p,f0,rfl,S0,k8,b0,ht,hp,m16,n16,rd,q⟩ := h
  have nd := scbearsp.nd
  have hu := hr.units
  have hu1 := Nat.lt_of_le_of_lt (Nat.add_le_add_left (show 1 ≤ 64 by decide) _) hu
  refine ⟨_,(@pss_cons _ _ _ _ _ (@ps_set _ _ 3 _ _ _ _ nd rfl (Or.inl rfl) (pe_mD0 (pv 0) T.cl MKi (hr.mono (by decide))) rfl (Or.inl rfl)) (@pss_cons _ _ _ _ _ (@ps_for _ _ _ _ _ _ _ _ PassesOwn.never rfl (pi_list (@pe_cD _ _ _ _ _ _ _ _ _ _ DLy (hr.mono (by decide)) rfl (@pa_cons _ _ _ _ _ (pv 0) (@pa_cons _ _ _ _ _ (pv 1) pa_nil rfl) rfl) (by decide) rfl rfl)) (pg_tup rfl (pgs_cons (pg_name (i := 4) nd rfl (Or.inl rfl)) (pgs_cons (pg_name (i := 5) nd rfl (Or.inl rfl)) pgs_nil))) (@pss_one _ _ _ (@ps_if _ _ _ _ _ _ _ _ (@pt_cmpR _ _ _ _ _ _ _ _ op_gt (@pe_ix _ _ _ _ _ _ _ ix_tup (@pe_ix _ _ _ _ _ _ _ ix_list (pv 3) (pv 4) (fun _ _ => rfl)) pe_int (fun _ _ => rfl)) (pe_dget hu1 (pv 2) (pv 1) (fun _ _ => rfl)) (nomark _)) (@pss_one _ _ _ (@ps_ret _ _ _ _ pe_bl)) pss_nil)) (by intro _; rfl)) (@pss_cons _ _ _ _ _ (@ps_for _ _ _ _ _ _ _ _ PassesOwn.never rfl (pi_list (@pe_cD _ _ _ _ _ _ _ _ _ _ DCu (hr.mono (by decide)) rfl (@pa_cons _ _ _ _ _ (pe_mD0 (pv 0) T.cl MB (hr.mono (by decide))) (@pa_cons _ _ _ _ _ (pv 1) pa_nil rfl) rfl) (by decide) rfl rfl)) (pg_tup rfl (pgs_cons (pg_name (i := 6) nd rfl (Or.inl rfl)) (pgs_cons (pg_name (i := 7) nd rfl (Or.inl rfl)) (pgs_cons (pg_name (i := 8) nd rfl (Or.inl rfl)) (pgs_cons (pg_name (i := 9) nd rfl (Or.inl rfl)) pgs_nil))))) (@pss_one _ _ _ (@ps_if _ _ _ _ _ _ _ _ (@pt_cmpR _ _ _ _ _ _ _ _ op_gt (@pe_op _ _ _ _ _ _ _ _ op_add (pe_dget hu1 (pv 2) (pv 8) (fun _ _ => rfl)) (pe_dget hu1 (pv 2) (pv 9) (fun _ _ => rfl))) (pe_dget hu1 (pv 2) (pv 1) (fun _ _ => rfl)) (nomark _)) (@pss_one _ _ _ (@ps_ret _ _ _ _ pe_bl)) pss_nil)) (by intro _; rfl)) (@pss_one _ _ _ (@ps_ret _ _ _ _ pe_bl))))),?_⟩
  have z4 : 4096 ≤ sizeLine := by decide
  obtain ⟨⟨p1,p2⟩,p3,p4⟩ := partsL_mem.mp hp
  have eT := tabF_get (f := f0) hp
  obtain ⟨dx,r0,rs0,g1,g2,g3⟩ := id S0
  refine seqCut (fun σ' H' => ∃ (kl : Addr) (rs : List V),σ' = [some (.ref s),some (.ref t),some (.ref td),some (.ref kl),none,none,none,none,none,none] ∧ H' kl = some (.lst rs) ∧ Tups H' rs ks ∧ Same H H') (fun R hR => ?_) ?_
  · refine ⟨_,rfl,s,dx,_,rfl,g1,flds_no _ _ (by decide +kernel) (by decide +kernel),s,b,ks,rfl,S0,fun kl rs hkl tp => ?_⟩
    obtain ⟨H1,e1,k1,s1⟩ : ∃ H',upd H kl (.lst rs) = H' ∧ H' kl = some (.lst rs) ∧ Same H H' := ⟨_,rfl,upd_same,Same.new hkl⟩
    rw [show upd H kl _ = H1 from e1]
    exact hR _ _ ⟨kl,rs,rfl,k1,Tups.keep (fun c xs e => s1 _ _ e) tp,s1⟩
  rintro _ H1 ⟨kl,rs,rfl,hk1,tp1,s1⟩
  have S1 := S0.keep (fun c o e => s1 _ _ e) (fun c C' d fs e => s1 _ _ e)
  refine seqCut (fun σ' H' => ∃ v4 v5 : Option V,σ' = [some (.ref s),some (.ref t),some (.ref td),some (.ref kl),v4,v5,none,none,none,none] ∧ lyB ks f0 p ((lyK ks 0).filter (fitP ks p.1 p.2)) = true ∧ Same H H') (fun R hR => ?_) ?_
  · refine ⟨_,rfl,_,rfl,s,t,b,ks,p.1,p.2,rfl,S1,k8,s1 _ _ ht,fun l ys H2 hl hl2 ly s2 => ?_⟩
    have kk := s2 _ _ hk1
    have tp2 : Tups H2 rs ks := Tups.keep (fun c o e => s2 _ _ e) tp1
    have yl := Paired.length ly
    refine ⟨l,rfl,⟨_,SqL.of hl2⟩,for_list (xs := ys) (fun i σ' H' => ∃ v4 v5 : Option V,σ' = [some (.ref s),some (.ref t),some (.ref td),some (.ref kl),v4,v5,none,none,none,none] ∧ lyB ks f0 p (((lyK ks 0).filter (fitP ks p.1 p.2)).take i) = true ∧ H2 = H') ⟨none,none,rfl,rfl,rfl⟩ (fun i σ Hx _ ⟨_,_,_,_,e⟩ => by subst e; exact SqL.of hl2) ?_ ?_⟩
    · rintro i x σ Hx hi ⟨v4,v5,rfl,hb,rfl⟩
      obtain ⟨⟨ki,c⟩,hq,qa,rfl,hqa⟩ := Paired.getR ly hi
      obtain ⟨_,k,hk⟩ := ly_true (List.mem_filter.mp (List.mem_of_getElem? hq)).1
      have hk : ks[ki]? = some k := hk
      obtain ⟨vv,hvv,hva⟩ := Paired.getL tp2 hk
      obtain ⟨a,rfl,ha2⟩ := hva
      have hat : atI rs (ki : Int) = some (.ref a) := atI_int (by omega) (by rw [Int.toNat_natCast]; exact hvv)
      have ewq : wq ks (ki,c) = k.wo := by unfold wq; simp only [hk]
      refine ⟨qa,_,rfl,SqT.of hqa,rfl,_,_,rfl,_,_,rfl,rfl,?_⟩
      have s02 := s1.trans s2
      refine ⟨_,rfl,_,rfl,kl,_,_,_,rfl,rfl,SqL.of kk,hat,a,_,2,_,rfl,rfl,SqT.of ha2,rfl,_,rfl,_,rfl,td,.int (f0 p),rfl,.inr ⟨_,pk p,t,rdSame rd s02,rfl,s02 _ _ ht,eT.symm⟩,_,_,rfl,rfl,_,rfl,?_⟩
      by_cases c1 : f0 p < k.wo
      · rw [show decide (f0 p < k.wo) = true from decide_eq_true c1]
        have e : bearsP b ks f0 p = false := by
          unfold bearsP lyB
          rw [all_false (List.mem_of_getElem? hq) (decide_eq_false (by rw [ewq]; omega))]; rfl
        rw [e] at q
        exact iteT (q H2 s02)
      · rw [show decide (f0 p < k.wo) = false from decide_eq_false c1]
        refine iteF ⟨_,_,rfl,?_,rfl⟩
        unfold lyB at hb ⊢
        rw [all_take hq,hb,decide_eq_true (by rw [ewq]; omega)]; rfl
    · rintro σ Hx ⟨v4,v5,rfl,hb,rfl⟩
      rw [yl,List.take_length] at hb
      exact hR _ _ ⟨v4,v5,rfl,hb,s1.trans s2⟩
  rintro _ H2 ⟨v4,v5,rfl,hly,s2⟩
  have S2 := S0.keep (fun c o e => s2 _ _ e) (fun c C' d fs e => s2 _ _ e)
  refine seqCut (fun σ' H' => ∃ H2 : Hp,cuB b f0 p (cutsL b p.1 p.2) = true ∧ Same H H' ∧ (∃ v6 v7 v8 v9 : Option V,σ' = [some (.ref s),some (.ref t),some (.ref td),some (.ref kl),v4,v5,v6,v7,v8,v9])) (fun R hR => ?_) ?_
  · refine ⟨_,rfl,s,dx,_,rfl,(s2 _ _ g1),flds_no _ _ (by decide +kernel) (by decide +kernel),s,b,ks,rfl,S2,_,rfl,b,p.1,p.2,t,rfl,s2 _ _ ht,by omega,by omega,b0,fun l ys H3 hl pc s3 => ?_⟩
    have yl := Paired.length pc
    have s03 := s2.trans s3
    refine ⟨l,rfl,⟨_,SqL.of hl⟩,for_list (xs := ys) (fun i σ' H' => (∃ v6 v7 v8 v9 : Option V,σ' = [some (.ref s),some (.ref t),some (.ref td),some (.ref kl),v4,v5,v6,v7,v8,v9]) ∧ cuB b f0 p ((cutsL b p.1 p.2).take i) = true ∧ H3 = H') ⟨⟨_,_,_,_,rfl⟩,rfl,rfl⟩ (fun i σ Hx _ ⟨_,_,e⟩ => by subst e; exact SqL.of hl) ?_ ?_⟩
    · rintro i x σ Hx hi ⟨⟨v6,v7,v8,v9,rfl⟩,hb,rfl⟩
      obtain ⟨c,hc,q',t1,t2,rfl,h1',h2',h3'⟩ := Paired.getR pc hi
      have cm := List.mem_of_getElem? hc
      obtain ⟨⟨a1,a2,a3,a4,_,_⟩,⟨c1,c2,c3,c4,_,_⟩⟩ := cut_less b0 p1 p3 cm
      have e1 := tabF_get (f := f0) (p := fstP p.1 p.2 c) (partsL_mem.mpr ⟨⟨a1,by omega⟩,a2,by omega⟩ : _ ∈ partsL m n)
      have e2 := tabF_get (f := f0) (p := sndP b p.1 p.2 c) (partsL_mem.mpr ⟨⟨c1,by omega⟩,c2,by omega⟩ : _ ∈ partsL m n)
      refine ⟨q',_,rfl,SqT.of h1',rfl,_,_,rfl,_,_,rfl,_,_,rfl,_,_,rfl,rfl,?_⟩
      have rd3 := rdSame rd s03
      refine ⟨_,rfl,_,rfl,td,.int _,rfl,.inr ⟨_,pk (fstP p.1 p.2 c),t1,rd3,rfl,h2',e1.symm⟩,_,rfl,_,rfl,td,.int _,rfl,.inr ⟨_,pk (sndP b p.1 p.2 c),t2,rd3,rfl,h3',e2.symm⟩,_,_,rfl,rfl,_,rfl,_,rfl,td,.int (f0 p),rfl,.inr ⟨_,pk p,t,rd3,rfl,s03 _ _ ht,eT.symm⟩,_,_,rfl,rfl,_,rfl,?_⟩
      by_cases c1 : f0 p < f0 (fstP p.1 p.2 c) + f0 (sndP b p.1 p.2 c)
      · rw [show decide (f0 p < f0 (fstP p.1 p.2 c) + f0 (sndP b p.1 p.2 c)) = true from decide_eq_true c1]
        have e : bearsP b ks f0 p = false := by
          unfold bearsP cuB
          rw [all_false cm (decide_eq_false (by unfold cutW; omega)),Bool.and_false]
        rw [e] at q
        exact iteT (q H3 s03)
      · rw [show decide (f0 p < f0 (fstP p.1 p.2 c) + f0 (sndP b p.1 p.2 c)) = false from decide_eq_false c1]
        refine iteF ⟨⟨_,_,_,_,rfl⟩,?_,rfl⟩
        unfold cuB at hb ⊢
        rw [all_take hc,hb,decide_eq_true (by unfold cutW; omega)]; rfl
    · rintro σ Hx ⟨e,hb,rfl⟩
      rw [yl,List.take_length] at hb
      exact hR _ _ ⟨H3,hb,s03,e⟩
  rintro _ H3 ⟨_,hcu,s3,⟨v6,v7,v8,v9,rfl⟩⟩
  have e : bearsP b ks f0 p = true := by
    unfold bearsP
    rw [hly,hcu]; rfl
  rw [e] at q
  exact q H3 s3
theorem scbearst : FnScope ["shop","wide","high","table"] ["shop","wide","high","table"] (defScope sBears) := ⟨rfl,rfl,rfl,by decide +kernel,rfl,by decide +kernel,by decide +kernel⟩
theorem ok_bearst {f wa C : Addr} {fd : FuncData} (F : Fun K "bears" "bears" sBears f fd) (Z : BeC K mg wa) (B : Blt mg) (DCP : Dn P w K mg base "check_plate" ["wide","high"] 2 (spCP)) (DCS : Dn P w K mg base "check_sides" ["wide","high","most"] 1 (spCS)) (DIT : Dn P w K mg base "is_table" ["wide","high","thing"] 3 (spIsTab)) (DBP : Dn P w K mg base "bears_part" ["shop","part","table"] 6 (spBearsP C)) (DPU : Dn P w K mg base "parts_up_to" ["wide","high"] 1 (spParts)) : FnOk P w K mg base CX0 7 f fd ["shop","wide","high","table"] (spBearsT C) := by
  refine F.ok scbearst (fun vs H Q E h => ?_) (fun cdv A outer s H vs Q E hr h => ?_)
  · obtain ⟨s,td,b,ks,m,n,f0,rfl,_⟩ := h
    rfl
  obtain ⟨s,td,b,ks,m,n,f0,rfl,S0,k8,b0,m1,m16,n1,n16,htd,h0,q⟩ := h
  have nd := scbearst.nd
  obtain ⟨tms,hms⟩ := Z.ms
  refine ⟨_,(@pss_cons _ _ _ _ _ (@ps_expr _ _ _ _ (@pe_cD _ _ _ _ _ _ _ _ _ _ DCP (hr.mono (by decide)) rfl (@pa_cons _ _ _ _ _ (pv 1) (@pa_cons _ _ _ _ _ (pv 2) pa_nil rfl) rfl) (by decide) rfl rfl) rfl) (@pss_cons _ _ _ _ _ (@ps_expr _ _ _ _ (@pe_cD _ _ _ _ _ _ _ _ _ _ DCS (hr.mono (by decide)) rfl (@pa_cons _ _ _ _ _ (pv 1) (@pa_cons _ _ _ _ _ (pv 2) (@pa_cons _ _ _ _ _ (pe_glob (v := .int 16) rfl hms ⟨tms,rfl⟩) pa_nil rfl) rfl) rfl) (by decide) rfl rfl) rfl) (@pss_cons _ _ _ _ _ (@ps_if _ _ _ _ _ _ _ _ (@pt_not _ _ _ _ (@pt_val _ _ _ (@pe_cD _ _ _ _ _ _ _ _ _ _ DIT (hr.mono (by decide)) rfl (@pa_cons _ _ _ _ _ (pv 1) (@pa_cons _ _ _ _ _ (pv 2) (@pa_cons _ _ _ _ _ (pv 3) pa_nil rfl) rfl) rfl) (by decide) rfl rfl) (by intro _; rfl))) (@pss_one _ _ _ ps_never) pss_nil) (@pss_one _ _ _ (@ps_ret _ _ _ _ (@pe_callB _ _ _ _ _ _ _ _ _ (call_allB rfl) rfl B.all PyProof.Rows.boot_all (@pa_cons _ _ _ _ _ (pe_comp (own := ["part"]) (cs := ["shop","table"]) (cap := [0,3]) rfl (pi_list (@pe_cD _ _ _ _ _ _ _ _ _ _ DPU (hr.mono (by decide)) rfl (@pa_cons _ _ _ _ _ (pv 1) (@pa_cons _ _ _ _ _ (pv 2) pa_nil rfl) rfl) (by decide) rfl rfl)) (compOk_of (sc := defScope sBears) (N := ["shop","wide","high","table"]) rfl rfl (by decide +kernel)) (fun _ _ _ _ _ => pg_name (i := 0) (by show List.Nodup (["part","shop","table"] : List Str) ; decide +kernel) rfl (Or.inl rfl) (Or.inr rfl)) (fun _ _ _ _ _ => pifs_nil) (fun _ _ _ _ _ => (@pe_cD _ _ _ _ _ _ _ _ _ _ DBP hr rfl (@pa_cons _ _ _ _ _ (pv 1) (@pa_cons _ _ _ _ _ (pv 0) (@pa_cons _ _ _ _ _ (pv 2) pa_nil rfl) rfl) rfl) (by decide) rfl rfl))) pa_nil rfl) (by decide) (by decide) rfl rfl)))))),?_⟩
  have z4 : 4096 ≤ sizeLine := by decide
  have mn : m * n ≤ 256 := Nat.mul_le_mul m16 n16
  refine seqCut (fun σ' H' => σ' = [some (.ref s),some (.int (m : Int)),some (.int (n : Int)),some (.ref td)] ∧ H = H') (fun R hR => ?_) ?_
  · exact ⟨_,rfl,_,rfl,m,n,rfl,by omega,by omega,hR _ _ ⟨rfl,rfl⟩⟩
  rintro _ _ ⟨rfl,rfl⟩
  refine seqCut (fun σ' H' => σ' = [some (.ref s),some (.int (m : Int)),some (.int (n : Int)),some (.ref td)] ∧ H = H') (fun R hR => ?_) ?_
  · exact ⟨_,rfl,_,rfl,m,n,16,rfl,by omega,by omega,hR _ _ ⟨rfl,rfl⟩⟩
  rintro _ _ ⟨rfl,rfl⟩
  refine seqCut (fun σ' H' => ∃ ob : Obj,σ' = [some (.ref s),some (.int (m : Int)),some (.int (n : Int)),some (.ref td)] ∧ H' td = some (.frz ob (.dT (byP (tabF f0 (partsL m n))))) ∧ But td H H') (fun R hR => ?_) ?_
  · exact ⟨_,rfl,_,rfl,_,rfl,td,m,n,f0,rfl,m16,n16,htd,h0,fun ob H1 f1 b1 => ⟨_,rfl,iteF (hR _ _ ⟨ob,rfl,f1,b1⟩)⟩⟩
  rintro _ H1 ⟨ob,rfl,f1,b1⟩
  have rd0 : Rd H td (.dT (byP (tabF f0 (partsL m n)))) := .inl htd
  have S1 : ShopAt C H1 s b ks := S0.keep (fun c xs e => b1 _ _ (rdTup rd0 e) e) (fun c C' d fs e => b1 _ _ (rdIns rd0 e) e)
  rw [← bears_eq h0] at q
  refine ⟨_,rfl,_,rfl,m,n,rfl,m16,n16,fun l ys H2 hl py s2 => ?_⟩
  have yl := Paired.length py
  have pl : (partsL m n).length = m * n := partsL_len m n
  refine ⟨l,rfl,⟨_,SqL.of hl⟩,(comp_seq (K := K) (.inl hl) (fun i us Hx => us = (((partsL m n).take i).map (bearsP b ks f0)).map V.bl ∧ Same H2 Hx) (fun i us Hx _ ⟨_,sx⟩ o e => sx _ _ e) ⟨rfl,Same.refl _⟩ ?_ ?_).1 hl⟩
  · rintro i y us Hx hi ⟨rfl,sx⟩
    have hin : i < ys.length := (List.getElem?_eq_some_iff.mp hi).1
    obtain ⟨p,hp,qa,rfl,hqa⟩ := Paired.getR py hi
    have s1x := s2.trans sx
    refine ⟨by rw [List.length_map,List.length_map,List.length_take]; omega,leS.set rfl,tYes_ite ?_⟩
    refine ⟨_,rfl,_,rfl,_,rfl,s,qa,td,b,ks,m,n,p,f0,rfl,S1.keep (fun c xs e => s1x _ _ e) (fun c C' d fs e => s1x _ _ e),k8,b0,sx _ _ hqa,List.mem_of_getElem? hp,m16,n16,.inr ⟨ob,s1x _ _ f1⟩,fun Hy sy => ⟨_,(by omega : ys.length - (i + 1) < ys.length - i),rfl,hin,?_,sx.trans sy⟩⟩
    rw [List.take_add_one,hp,List.map_append,List.map_append]
    rfl
  · rintro us Hx ⟨rfl,sx⟩
    rw [yl,List.take_length,List.length_map,List.length_map]
    refine ⟨by omega,fun l2 hl2 => ⟨l2,(partsL m n).map (bearsP b ks f0),rfl,SqL.of upd_same,?_⟩⟩
    rw [List.all_map]
    have sz := Same.new (o := .lst (((partsL m n).map (bearsP b ks f0)).map V.bl)) hl2
    exact q ob _ (sz _ _ (sx _ _ (s2 _ _ f1))) fun c o nn e => sz _ _ (sx _ _ (s2 _ _ (b1 _ _ nn e)))
end
def But2 (p q : Addr) (H H' : Hp) : Prop := ∀ c o,c ≠ p → c ≠ q → H c = some o → H' c = some o
theorem But2.but {p q : Addr} {H H' : Hp} (h : But p H H') : But2 p q H H' := fun c o n _ e => h c o n e
section
variable {P : Program} {w : World} {K : PySem.W.Frag} {mg : Str → Option Value} {base : Heap}
def spNumB : Sp := fun vs H Q _ => ∃ (p : Addr),vs = [.ref p] ∧ PotB H p ∧ ∀ (r : Int) (H' : Hp),0 ≤ r → r < 10 ^ 57 → PotB H' p → But p H H' → Q (.int r) H'
def spPartsL : Sp := fun vs H Q _ => ∃ (m n : Nat),vs = [.int (m : Int),.int (n : Int)] ∧ 1 ≤ n ∧ m ≤ 16 ∧ n ≤ 16 ∧ ∀ (l : Addr) (ys : List V) (H' : Hp),H' l = some (.lst ys) → Paired (PtAt H') ys (partsL m n) → Same H H' → Q (.ref l) H'
def spTable : Sp := fun vs H Q _ => ∃ (p fl pl : Addr) (b : Int) (ys zs : List V) (ks : List Kd) (m n : Nat),vs = [.ref p,.int b,.ref fl,.ref pl] ∧ PotB H p ∧ fl ≠ p ∧ pl ≠ p ∧ H fl = some (.lst ys) ∧ Paired (TtAt H) ys (fitL ks) ∧ ks.length ≤ 8 ∧ H pl = some (.lst zs) ∧ Paired (PtAt H) zs (partsL m n) ∧ 0 ≤ b ∧ m ≤ 16 ∧ n ≤ 16 ∧
  ∀ (td : Addr) (f0 : Int × Int → Int) (H' : Hp),H td = none → H' td = some (.dT (byP (tabF f0 (partsL m n)))) → (∀ p ∈ partsL m n,0 ≤ f0 p) → PotB H' p → But p H H' → Q (.ref td) H'
theorem scnumb : FnScope ["_law_pot_here"] ["_law_pot_here"] (defScope sNumber) := ⟨rfl,rfl,rfl,by decide +kernel,rfl,by decide +kernel,by decide +kernel⟩
theorem ok_numb {f : Addr} {fd : FuncData} (F : Fun K "_law_number" "_law_number" sNumber f fd) (B : Blt mg) (DD : Dn P w K mg base "_law_draw" ["_law_pot_here","_law_many"] 1 (spDrawB)) (DG : Dn P w K mg base "_law_great" ["_law_pot_here","_law_many"] 2 (spGreatM)) : FnOk P w K mg base CX0 3 f fd ["_law_pot_here"] (spNumB) := by
  refine F.ok scnumb (fun vs H Q E h => ?_) (fun cdv A outer s H vs Q E hr h => ?_)
  · obtain ⟨p,rfl,_⟩ := h
    rfl
  obtain ⟨p,rfl,pt,q⟩ := h
  have nd := scnumb.nd
  refine ⟨_,(@pss_cons _ _ _ _ _ (@ps_if _ _ _ _ _ _ _ _ (@pt_cmpR _ _ _ _ _ _ _ _ op_eq (@pe_cD _ _ _ _ _ _ _ _ _ _ DD (hr.mono (by decide)) rfl (@pa_cons _ _ _ _ _ (pv 0) (@pa_cons _ _ _ _ _ pe_int pa_nil rfl) rfl) (by decide) rfl rfl) pe_int (nomark _)) (@pss_one _ _ _ (@ps_ret _ _ _ _ (@pe_cD _ _ _ _ _ _ _ _ _ _ DG (hr.mono (by decide)) rfl (@pa_cons _ _ _ _ _ (pv 0) (@pa_cons _ _ _ _ _ (@pe_op _ _ _ _ _ _ _ _ op_pow pe_int pe_int) pa_nil rfl) rfl) (by decide) rfl rfl))) pss_nil) (@pss_one _ _ _ (@ps_ret _ _ _ _ (@pe_cD _ _ _ _ _ _ _ _ _ _ DD (hr.mono (by decide)) rfl (@pa_cons _ _ _ _ _ (pv 0) (@pa_cons _ _ _ _ _ pe_int pa_nil rfl) rfl) (by decide) rfl rfl)))),?_⟩
  have e60 : (100 : Int) < 10 ^ 57 := by decide
  refine seqCut (fun σ' H' => ∃ v : Option V,σ' = [some (.ref p)] ∧ PotB H' p ∧ But p H H') (fun R hR => ?_) ?_
  · refine ⟨_,rfl,p,4,rfl,pt,by decide,by decide,fun z H1 z0 z1 pt1 b1 => ⟨rfl,_,rfl,?_⟩⟩
    refine ite2 (fun cc => ?_) (fun cc => hR _ _ ⟨none,rfl,pt1,b1⟩)
    exact ⟨_,rfl,_,_,rfl,rfl,⟨by decide,by decide,by decide⟩,p,_,rfl,pt1,(by show (0 : Int) < 10 ^ (57 : Int).toNat; decide),(by show (10 : Int) ^ (57 : Int).toNat ≤ 10 ^ 60; decide),fun r H2 r0 r1 pt2 b2 => q _ H2 r0 r1 pt2 (b1.trans b2)⟩
  rintro _ H1 ⟨_,rfl,pt1,b1⟩
  exact ⟨_,rfl,p,10,rfl,pt1,by decide,by decide,fun r H2 r0 r1 pt2 b2 => q _ H2 r0 (by omega) pt2 (b1.trans b2)⟩
theorem sckindsn : FnScope ["_law_pot_here","_law_kinds_here","_law_k","_law_wide","_law_high"] ["_law_pot_here"] (defScope sKinds) := ⟨rfl,rfl,rfl,by decide +kernel,rfl,by decide +kernel,by decide +kernel⟩
theorem ok_kindsn {f : Addr} {fd : FuncData} (F : Fun K "_law_kinds" "_law_kinds" sKinds f fd) (B : Blt mg) (DD : Dn P w K mg base "_law_draw" ["_law_pot_here","_law_many"] 1 (spDrawB)) (DSd : Dn P w K mg base "_law_side" ["_law_pot_here"] 3 (spSideB)) (DNb : Dn P w K mg base "_law_number" ["_law_pot_here"] 3 (spNumB)) : FnOk P w K mg base CX0 4 f fd ["_law_pot_here"] (spKindsB) := by
  refine F.ok sckindsn (fun vs H Q E h => ?_) (fun cdv A outer s H vs Q E hr h => ?_)
  · obtain ⟨p,rfl,_⟩ := h
    rfl
  obtain ⟨p,rfl,pt,q⟩ := h
  have nd := sckindsn.nd
  refine ⟨_,(@pss_cons _ _ _ _ _ (@ps_set _ _ 1 _ _ _ _ nd rfl (Or.inl rfl) (@pe_lst _ _ _ _ pa_nil) rfl (Or.inl rfl)) (@pss_cons _ _ _ _ _ (@ps_for _ _ _ _ _ _ _ _ PassesOwn.never rfl (pi_range1 rfl B.range (@pa_cons _ _ _ _ _ (@pe_op _ _ _ _ _ _ _ _ op_add pe_int (@pe_cD _ _ _ _ _ _ _ _ _ _ DD (hr.mono (by decide)) rfl (@pa_cons _ _ _ _ _ (pv 0) (@pa_cons _ _ _ _ _ (@pe_ix _ _ _ _ _ _ _ ix_list (@pe_lst _ _ _ _ (@pa_cons _ _ _ _ _ pe_int (@pa_cons _ _ _ _ _ pe_int pa_nil rfl) rfl)) (@pe_callTy _ _ _ _ _ _ _ _ _ call_int1 rfl B.int PyProof.Rows.boot_int (@pa_cons _ _ _ _ _ (@pe_cmpR _ _ _ _ _ _ _ _ op_eq (@pe_cD _ _ _ _ _ _ _ _ _ _ DD (hr.mono (by decide)) rfl (@pa_cons _ _ _ _ _ (pv 0) (@pa_cons _ _ _ _ _ pe_int pa_nil rfl) rfl) (by decide) rfl rfl) pe_int (nomark _)) pa_nil rfl) (by decide) (by decide) rfl rfl) (fun _ _ => rfl)) pa_nil rfl) rfl) (by decide) rfl rfl)) pa_nil rfl)) (pg_name (i := 2) nd rfl (Or.inl rfl)) (@pss_cons _ _ _ _ _ (ps_par rfl nd rfl rfl (i := 3) (j := 4) (by decide) rfl rfl (@pa_cons _ _ _ _ _ (@pe_cD _ _ _ _ _ _ _ _ _ _ DSd hr rfl (@pa_cons _ _ _ _ _ (pv 0) pa_nil rfl) (by decide) rfl rfl) (@pa_cons _ _ _ _ _ (@pe_cD _ _ _ _ _ _ _ _ _ _ DSd hr rfl (@pa_cons _ _ _ _ _ (pv 0) pa_nil rfl) (by decide) rfl rfl) pa_nil rfl) rfl) rfl) (@pss_one _ _ _ (@ps_expr _ _ _ _ (@pe_bm _ _ _ _ _ _ _ _ _ _ _ _ PySem.F.plainAttrs_list PySem.F.slot_list_append PySem.F.type_list_append mt_append (pv 1) (@pa_cons _ _ _ _ _ (@pe_tup _ _ _ _ _ (@pa_cons _ _ _ _ _ (pv 3) (@pa_cons _ _ _ _ _ (pv 4) (@pa_cons _ _ _ _ _ (@pe_cD _ _ _ _ _ _ _ _ _ _ DNb hr rfl (@pa_cons _ _ _ _ _ (pv 0) pa_nil rfl) (by decide) rfl rfl) (@pa_cons _ _ _ _ _ (@pe_cD _ _ _ _ _ _ _ _ _ _ DD (hr.mono (by decide)) rfl (@pa_cons _ _ _ _ _ (pv 0) (@pa_cons _ _ _ _ _ pe_int pa_nil rfl) rfl) (by decide) rfl rfl) (@pa_cons _ _ _ _ _ (@pe_cmpR _ _ _ _ _ _ _ _ op_eq (@pe_cD _ _ _ _ _ _ _ _ _ _ DD (hr.mono (by decide)) rfl (@pa_cons _ _ _ _ _ (pv 0) (@pa_cons _ _ _ _ _ pe_int pa_nil rfl) rfl) (by decide) rfl rfl) pe_int (nomark _)) pa_nil rfl) rfl) rfl) rfl) rfl)) pa_nil rfl) rfl rfl rfl rfl rfl) rfl))) (by intro _; rfl)) (@pss_one _ _ _ (@ps_ret _ _ _ _ (pv 1))))),?_⟩
  have z4 : 4096 ≤ sizeLine := by decide
  have e60 : (100 : Int) < 10 ^ 60 := by decide
  have e57 : (10 : Int) ^ 57 ≤ 10 ^ 60 := by decide
  refine seqCut (fun σ' H' => ∃ kl : Addr,σ' = [some (.ref p),some (.ref kl),none,none,none] ∧ H kl = none ∧ kl ≠ p ∧ H' kl = some (.lst []) ∧ PotB H' p ∧ But p H H') (fun R hR => ?_) ?_
  · refine ⟨by decide,fun kl hkl => ?_⟩
    obtain ⟨H1,e1,k1,n1,s1,b1,pt1⟩ := put1 (o := .lst []) (But.refl (p := p) (H := H)) pt hkl
    rw [show upd H kl _ = H1 from e1]
    exact hR _ _ ⟨kl,rfl,hkl,n1,k1,pt1,b1⟩
  rintro _ H1 ⟨kl,rfl,hkl,nkp,k1,pt1,b1⟩
  refine seqCut (fun σ' H' => ∃ (rs : List V) (ks : List Kd) (v2 v3 v4 : Option V),σ' = [some (.ref p),some (.ref kl),v2,v3,v4] ∧ H' kl = some (.lst rs) ∧ Tups H' rs ks ∧ (∀ k ∈ ks,Good k) ∧ 1 ≤ rs.length ∧ rs.length ≤ 8 ∧ PotB H' p ∧ But2 p kl H1 H') (fun R hR => ?_) ?_
  · refine ⟨_,rfl,(by show 2 ≤ sizeLine; decide),fun l hl => ?_⟩
    obtain ⟨H2,e2,k2,n2,s2,b2,pt2⟩ := put1 (o := .lst [.int 4,.int 8]) (But.refl (p := p) (H := H1)) pt1 hl
    rw [show upd H1 l _ = H2 from e2]
    refine ⟨_,rfl,p,8,rfl,pt2,by decide,by decide,fun z H3 z0 z1 pt3 b3 => ⟨rfl,.inr ⟨_,rfl,?_⟩⟩⟩
    obtain ⟨nn,hnn,nn1,nn8⟩ : ∃ nn : Int,atI [V.int 4,V.int 8] (if decide (V.int z = V.int 7) = true then (1 : Int) else 0) = some (.int nn) ∧ 1 ≤ nn ∧ nn ≤ 8 := by
      by_cases c : V.int z = V.int 7
      · exact ⟨8,by rw [decide_eq_true c]; rfl,by decide,by decide⟩
      · exact ⟨4,by rw [decide_eq_false c]; rfl,by decide,by decide⟩
    refine ⟨l,_,_,_,rfl,rfl,SqL.of (b3 _ _ n2 k2),hnn,p,nn,rfl,pt3,by omega,by omega,fun r H4 r0 r1 pt4 b4 => ⟨_,_,rfl,rfl,_,rfl,by omega,by omega,?_⟩⟩
    have b14 := b2.trans (b3.trans b4)
    refine for_range (lo := 0) (n := (1 + r).toNat) (fun i σ' H' => ∃ (rs : List V) (ks : List Kd) (v2 v3 v4 : Option V),σ' = [some (.ref p),some (.ref kl),v2,v3,v4] ∧ H' kl = some (.lst rs) ∧ Tups H' rs ks ∧ (∀ k ∈ ks,Good k) ∧ rs.length = i ∧ PotB H' p ∧ But2 p kl H1 H') ⟨[],[],none,none,none,rfl,b14 _ _ nkp k1,.nil,(fun k hk => by simp at hk),rfl,pt4,But2.but b14⟩ ?_ ?_
    · rintro i σ H6 hi ⟨rs,ks,v2,v3,v4,rfl,hk6,tp6,gk,rl,pt6,b16⟩
      refine seqCut (fun σ' H' => ∃ (w1 h1 : Int),σ' = [some (.ref p),some (.ref kl),some (.int (0 + i)),some (.int w1),some (.int h1)] ∧ 1 ≤ w1 ∧ w1 < 10 ^ 60 ∧ 1 ≤ h1 ∧ h1 < 10 ^ 60 ∧ PotB H' p ∧ But p H6 H') (fun R hR => ?_) ?_
      · exact ⟨_,rfl,p,rfl,pt6,fun w1 Ha w0 w60 pa ba => ⟨_,rfl,p,rfl,pa,fun h1 Hb h0 h60 pb bb => ⟨_,_,rfl,hR _ _ ⟨w1,h1,rfl,w0,w60,h0,h60,pb,ba.trans bb⟩⟩⟩⟩
      rintro _ H7 ⟨w1,h1,rfl,w0,w60,h0,h60,pt7,b7⟩
      refine ⟨_,rfl,.inl ⟨rfl,_,SqL.of (b7 _ _ nkp hk6)⟩,_,rfl,_,rfl,_,rfl,p,rfl,pt7,fun x Hx x0 x57 px bx => ⟨_,rfl,p,4,rfl,px,by decide,by decide,fun y1 Ha y10 y11 pa ba => ⟨_,rfl,p,2,rfl,pa,by decide,by decide,fun y2 Hb y20 y21 pb bb => ⟨rfl,(by show 5 ≤ sizeLine; decide),fun t ht => ?_⟩⟩⟩⟩
      have b6b := b7.trans (bx.trans (ba.trans bb))
      obtain ⟨H9,e9,k9,n9,s9,b9,pt9⟩ := put1 (o := .tup [.int w1,.int h1,.int x,.int y1,.bl (decide (V.int y2 = V.int 1))]) b6b pb ht
      rw [show upd Hb t _ = H9 from e9]
      have tp9 : Tups H9 rs ks := tupsB b9 pt6 tp6
      have hk9 := b9 _ _ nkp hk6
      have kt : ∀ c xs,H9 c = some (.tup xs) → (upd H9 kl (.lst (rs ++ [.ref t]))) c = some (.tup xs) := fun c xs e => by
        rw [upd_ne (fun z => by rw [z,hk9] at e; cases e)]; exact e
      refine ⟨kl,_,_,rfl,rfl,hk9,by omega,rs ++ [.ref t],ks ++ [⟨w1,h1,x,y1,decide (V.int y2 = V.int 1)⟩],_,_,_,rfl,upd_same,Paired.app (Tups.keep kt tp9) (.cons ⟨t,rfl,kt _ _ (show H9 t = some (.tup (kdV ⟨w1,h1,x,y1,decide (V.int y2 = V.int 1)⟩)) from k9)⟩ .nil),fun k' hk' => ?_,by rw [List.length_append,rl]; rfl,?_,fun c o n1 n2 e => by rw [upd_ne n2]; exact b9 _ _ n1 (b16 _ _ n1 n2 e)⟩
      · rcases List.mem_append.mp hk' with h | h
        · exact gk k' h
        · rw [List.mem_singleton.mp h]
          exact ⟨w0,h0,x0,y10,w60,h60,by show x < _; omega,by show y1 < _; omega⟩
      · obtain ⟨x,y,q1,q2,q3,e⟩ := pt9
        exact ⟨x,y,q1,q2,q3,by rw [upd_ne (Ne.symm nkp)]; exact e⟩
    · rintro σ H5 ⟨rs,ks,v2,v3,v4,rfl,hk5,tp5,gk,rl,pt5,b15⟩
      exact hR _ _ ⟨rs,ks,v2,v3,v4,rfl,hk5,tp5,gk,by omega,by omega,pt5,b15⟩
  rintro _ H2 ⟨rs,ks,v2,v3,v4,rfl,hk2,tp2,gk,r1,r8,pt2,b2⟩
  exact ⟨_,rfl,q kl rs ks H2 nkp hkl hk2 tp2 gk r1 r8 pt2 fun c o nn e => b2 _ _ nn (ne_of_none e hkl) (b1 _ _ nn e)⟩
theorem scpartsl : FnScope ["_law_wide","_law_high"] ["_law_wide","_law_high"] (defScope sParts) := ⟨rfl,rfl,rfl,by decide +kernel,rfl,by decide +kernel,by decide +kernel⟩
theorem ok_partsl {f : Addr} {fd : FuncData} (F : Fun K "_law_parts" "_law_parts" sParts f fd) (B : Blt mg) : FnOk P w K mg base CX0 1 f fd ["_law_wide","_law_high"] (spPartsL) := by
  refine F.ok scpartsl (fun vs H Q E h => ?_) (fun cdv A outer s H vs Q E hr h => ?_)
  · obtain ⟨m,n,rfl,_⟩ := h
    rfl
  obtain ⟨m,n,rfl,n1,m16,n16,q⟩ := h
  have nd := scpartsl.nd
  refine ⟨_,(@pss_one _ _ _ (@ps_ret _ _ _ _ (pe_comp (own := ["_law_k"]) (cs := ["_law_high"]) (cap := [1]) rfl (pi_range1 rfl B.range (@pa_cons _ _ _ _ _ (@pe_op _ _ _ _ _ _ _ _ op_mul (pv 0) (pv 1)) pa_nil rfl)) (compOk_of (sc := defScope sParts) (N := ["_law_wide","_law_high"]) rfl rfl (by decide +kernel)) (fun _ _ _ _ _ => pg_name (i := 0) (by show List.Nodup (["_law_k","_law_high"] : List Str) ; decide +kernel) rfl (Or.inl rfl) (Or.inr rfl)) (fun _ _ _ _ _ => pifs_nil) (fun _ _ _ _ _ => (@pe_tup _ _ _ _ _ (@pa_cons _ _ _ _ _ (@pe_op _ _ _ _ _ _ _ _ op_add (@pe_op _ _ _ _ _ _ _ _ op_fdivB (pv 0) (pv 1)) pe_int) (@pa_cons _ _ _ _ _ (@pe_op _ _ _ _ _ _ _ _ op_add (@pe_op _ _ _ _ _ _ _ _ op_mod (pv 0) (pv 1)) pe_int) pa_nil rfl) rfl)))))),?_⟩
  have z4 : 4096 ≤ sizeLine := by decide
  have mn : m * n ≤ 256 := Nat.mul_le_mul m16 n16
  have eI : ((m : Int) * (n : Int)) = ((m * n : Nat) : Int) := (Int.natCast_mul m n).symm
  refine ⟨_,rfl,_,rfl,_,_,rfl,rfl,.inl ⟨by omega,by omega⟩,_,rfl,by rw [eI]; omega,by rw [eI]; omega,?_⟩
  rw [show ((m : Int) * (n : Int)).toNat = m * n by rw [eI]; omega]
  refine comp_rng (lo := 0) (n := m * n) (fun i us Hx => Same H Hx ∧ Paired (PtAt Hx) us ((partsL m n).take i)) ⟨Same.refl _,.nil⟩ ?_ ?_
  · rintro i us Hx hi ⟨sx,pu⟩
    have ul := Paired.length pu
    rw [List.length_take] at ul
    refine ⟨by omega,leS.set rfl,tYes_ite ?_⟩
    refine ⟨_,rfl,_,rfl,_,_,rfl,rfl,⟨by omega,by omega⟩,_,_,rfl,rfl,_,rfl,_,rfl,_,_,rfl,rfl,by omega,_,_,rfl,rfl,(by show 2 ≤ sizeLine; decide),fun t ht => ?_⟩
    obtain ⟨Hy,e1,k1,s1⟩ : ∃ H',upd Hx t (.tup [.int ((0 + (i : Int)) / (n : Int) + 1),.int ((0 + (i : Int)) % (n : Int) + 1)]) = H' ∧ H' t = some (.tup [.int ((0 + (i : Int)) / (n : Int) + 1),.int ((0 + (i : Int)) % (n : Int) + 1)]) ∧ Same Hx H' := ⟨_,rfl,upd_same,Same.new ht⟩
    rw [show upd Hx t _ = Hy from e1]
    refine Nx.of hi ⟨sx.trans s1,?_⟩
    rw [List.take_add_one,partsL_at hi]
    refine Paired.app (Paired.mapP pu fun v p h => h.keep s1) (.cons ⟨t,rfl,?_⟩ .nil)
    rw [k1,Int.zero_add,← Int.natCast_ediv,← Int.natCast_emod]
  · rintro us Hx ⟨sx,pu⟩
    have ul := Paired.length pu
    rw [← partsL_len m n,List.take_length] at pu
    rw [List.length_take] at ul
    refine ⟨by omega,fun l hl => ?_⟩
    obtain ⟨Hy,e1,k1,s1⟩ : ∃ H',upd Hx l (.lst us) = H' ∧ H' l = some (.lst us) ∧ Same Hx H' := ⟨_,rfl,upd_same,Same.new hl⟩
    rw [show upd Hx l _ = Hy from e1]
    exact q l us Hy k1 (Paired.mapP pu fun v p h => h.keep s1) (sx.trans s1)
theorem sctable : FnScope ["_law_pot_here","_law_blade_here","_law_fitting_here","_law_parts_here","_law_way","_law_each","_law_table_here","_law_wide","_law_high"] ["_law_pot_here","_law_blade_here","_law_fitting_here","_law_parts_here"] (defScope sTable) := ⟨rfl,rfl,rfl,by decide +kernel,rfl,by decide +kernel,by decide +kernel⟩
theorem ok_table {f : Addr} {fd : FuncData} (F : Fun K "_law_table" "_law_table" sTable f fd) (B : Blt mg) (DD : Dn P w K mg base "_law_draw" ["_law_pot_here","_law_many"] 1 (spDrawB)) (DNb : Dn P w K mg base "_law_number" ["_law_pot_here"] 3 (spNumB)) (DDu : Dn P w K mg base "_law_due" ["_law_blade_here","_law_fitting_here","_law_table_here","_law_wide","_law_high"] 1 (spDueF)) : FnOk P w K mg base CX0 4 f fd ["_law_pot_here","_law_blade_here","_law_fitting_here","_law_parts_here"] (spTable) := by
  refine F.ok sctable (fun vs H Q E h => ?_) (fun cdv A outer s H vs Q E hr h => ?_)
  · obtain ⟨p,fl,pl,b,ys,zs,ks,m,n,rfl,_⟩ := h
    rfl
  obtain ⟨p,fl,pl,b,ys,zs,ks,m,n,rfl,pt,nfp,npp,hfl,pf,k8,hpl,pz,b0,m16,n16,q⟩ := h
  have nd := sctable.nd
  have hu := hr.units
  have hu1 := Nat.lt_of_le_of_lt (Nat.add_le_add_left (show 1 ≤ 64 by decide) _) hu
  refine ⟨_,(@pss_cons _ _ _ _ _ (@ps_set _ _ 4 _ _ _ _ nd rfl (Or.inl rfl) (@pe_cD _ _ _ _ _ _ _ _ _ _ DD (hr.mono (by decide)) rfl (@pa_cons _ _ _ _ _ (pv 0) (@pa_cons _ _ _ _ _ pe_int pa_nil rfl) rfl) (by decide) rfl rfl) rfl (Or.inl rfl)) (@pss_cons _ _ _ _ _ (@ps_set _ _ 5 _ _ _ _ nd rfl (Or.inl rfl) (@pe_ix _ _ _ _ _ _ _ ix_list (@pe_lst _ _ _ _ (@pa_cons _ _ _ _ _ (@pe_cD _ _ _ _ _ _ _ _ _ _ DNb hr rfl (@pa_cons _ _ _ _ _ (pv 0) pa_nil rfl) (by decide) rfl rfl) (@pa_cons _ _ _ _ _ pe_int (@pa_cons _ _ _ _ _ (@pe_cD _ _ _ _ _ _ _ _ _ _ DD (hr.mono (by decide)) rfl (@pa_cons _ _ _ _ _ (pv 0) (@pa_cons _ _ _ _ _ pe_int pa_nil rfl) rfl) (by decide) rfl rfl) (@pa_cons _ _ _ _ _ pe_int pa_nil rfl) rfl) rfl) rfl)) (pv 4) (fun _ _ => rfl)) rfl (Or.inl rfl)) (@pss_cons _ _ _ _ _ (@ps_set _ _ 6 _ _ _ _ nd rfl (Or.inl rfl) pe_dnewT rfl (Or.inl rfl)) (@pss_cons _ _ _ _ _ (@ps_for _ _ _ _ _ _ _ _ PassesOwn.never rfl (pi_list (pv 3)) (pg_tup rfl (pgs_cons (pg_name (i := 7) nd rfl (Or.inl rfl)) (pgs_cons (pg_name (i := 8) nd rfl (Or.inl rfl)) pgs_nil))) (@pss_one _ _ _ (@ps_if _ _ _ _ _ _ _ _ (@pt_cmpR _ _ _ _ _ _ _ _ op_eq (pv 4) pe_int (nomark _)) (@pss_one _ _ _ (ps_dput hu1 (pv 6) (@pe_tup _ _ _ _ _ (@pa_cons _ _ _ _ _ (pv 7) (@pa_cons _ _ _ _ _ (pv 8) pa_nil rfl) rfl)) (@pe_cD _ _ _ _ _ _ _ _ _ _ DD (hr.mono (by decide)) rfl (@pa_cons _ _ _ _ _ (pv 0) (@pa_cons _ _ _ _ _ pe_int pa_nil rfl) rfl) (by decide) rfl rfl) rfl)) (@pss_one _ _ _ (ps_dput hu1 (pv 6) (@pe_tup _ _ _ _ _ (@pa_cons _ _ _ _ _ (pv 7) (@pa_cons _ _ _ _ _ (pv 8) pa_nil rfl) rfl)) (@pe_op _ _ _ _ _ _ _ _ op_mul (@pe_op _ _ _ _ _ _ _ _ op_mul (pv 5) (pv 7)) (pv 8)) rfl)))) (by intro _; rfl)) (@pss_cons _ _ _ _ _ (@ps_if _ _ _ _ _ _ _ _ (@pt_cmpR _ _ _ _ _ _ _ _ op_in_seq (pv 4) (@pe_tup _ _ _ _ _ (@pa_cons _ _ _ _ _ pe_int (@pa_cons _ _ _ _ _ pe_int pa_nil rfl) rfl)) rfl) (@pss_cons _ _ _ _ _ (@ps_for _ _ _ _ _ _ _ _ PassesOwn.never rfl (pi_list (pv 3)) (pg_tup rfl (pgs_cons (pg_name (i := 7) nd rfl (Or.inl rfl)) (pgs_cons (pg_name (i := 8) nd rfl (Or.inl rfl)) pgs_nil))) (@pss_one _ _ _ (ps_dput hu1 (pv 6) (@pe_tup _ _ _ _ _ (@pa_cons _ _ _ _ _ (pv 7) (@pa_cons _ _ _ _ _ (pv 8) pa_nil rfl) rfl)) (@pe_cD _ _ _ _ _ _ _ _ _ _ DDu (hr.mono (by decide)) rfl (@pa_cons _ _ _ _ _ (pv 1) (@pa_cons _ _ _ _ _ (pv 2) (@pa_cons _ _ _ _ _ (pv 6) (@pa_cons _ _ _ _ _ (pv 7) (@pa_cons _ _ _ _ _ (pv 8) pa_nil rfl) rfl) rfl) rfl) rfl) (by decide) rfl rfl) rfl)) (by intro _; rfl)) (@pss_one _ _ _ (@ps_for _ _ _ _ _ _ _ _ PassesOwn.never rfl (pi_list (pv 3)) (pg_tup rfl (pgs_cons (pg_name (i := 7) nd rfl (Or.inl rfl)) (pgs_cons (pg_name (i := 8) nd rfl (Or.inl rfl)) pgs_nil))) (@pss_one _ _ _ (ps_dput hu1 (pv 6) (@pe_tup _ _ _ _ _ (@pa_cons _ _ _ _ _ (pv 7) (@pa_cons _ _ _ _ _ (pv 8) pa_nil rfl) rfl)) (@pe_op _ _ _ _ _ _ _ _ op_add (pe_dget hu1 (pv 6) (@pe_tup _ _ _ _ _ (@pa_cons _ _ _ _ _ (pv 7) (@pa_cons _ _ _ _ _ (pv 8) pa_nil rfl) rfl)) (fun _ _ => rfl)) (@pe_op _ _ _ _ _ _ _ _ op_mul (@pe_op _ _ _ _ _ _ _ _ op_mul (pv 5) (pv 7)) (pv 8))) rfl)) (by intro _; rfl)))) pss_nil) (@pss_one _ _ _ (@ps_ret _ _ _ _ (pv 6)))))))),?_⟩
  have z4 : 4096 ≤ sizeLine := by decide
  have mn : m * n ≤ 256 := Nat.mul_le_mul m16 n16
  have zl := Paired.length pz
  have pL := partsL_len m n
  refine seqCut (fun σ' H' => ∃ wy : Int,σ' = [some (.ref p),some (.int b),some (.ref fl),some (.ref pl),some (.int wy),none,none,none,none] ∧ 0 ≤ wy ∧ wy < 4 ∧ PotB H' p ∧ But p H H') (fun R hR => ?_) ?_
  · exact ⟨_,rfl,p,4,rfl,pt,by decide,by decide,fun z H1 z0 z1 pt1 b1 => hR _ _ ⟨z,rfl,z0,z1,pt1,b1⟩⟩
  rintro _ H1 ⟨wy,rfl,wy0,wy4,pt1,b1⟩
  refine seqCut (fun σ' H' => ∃ ea : Int,σ' = [some (.ref p),some (.int b),some (.ref fl),some (.ref pl),some (.int wy),some (.int ea),none,none,none] ∧ 0 ≤ ea ∧ PotB H' p ∧ But p H H') (fun R hR => ?_) ?_
  · refine ⟨_,rfl,p,rfl,pt1,fun x Ha x0 x1 pa ba => ⟨_,rfl,p,3,rfl,pa,by decide,by decide,fun y Hb y0 y1 pb bb => ⟨(by show 4 ≤ sizeLine; decide),fun l hl => ?_⟩⟩⟩
    have b1b := b1.trans (ba.trans bb)
    obtain ⟨H2,e2,k2,n2,s2,b2,pt2⟩ := put1 (o := .lst [.int x,.int 0,.int y,.int 0]) b1b pb hl
    rw [show upd Hb l _ = H2 from e2]
    obtain ⟨ea,hea,ea0⟩ : ∃ ea : Int,atI [V.int x,V.int 0,V.int y,V.int 0] wy = some (.int ea) ∧ 0 ≤ ea := by
      rcases (by omega : wy = 0 ∨ wy = 1 ∨ wy = 2 ∨ wy = 3) with rfl | rfl | rfl | rfl
      · exact ⟨x,rfl,x0⟩
      · exact ⟨0,rfl,Int.le_refl _⟩
      · exact ⟨y,rfl,y0⟩
      · exact ⟨0,rfl,Int.le_refl _⟩
    exact ⟨_,rfl,l,_,_,_,rfl,rfl,SqL.of k2,hea,hR _ _ ⟨ea,rfl,ea0,pt2,b2⟩⟩
  rintro _ H2 ⟨ea,rfl,ea0,pt2,b2⟩
  refine seqCut (fun σ' H' => ∃ td : Addr,σ' = [some (.ref p),some (.int b),some (.ref fl),some (.ref pl),some (.int wy),some (.int ea),some (.ref td),none,none] ∧ H td = none ∧ td ≠ p ∧ H' td = some (.dT []) ∧ PotB H' p ∧ But p H H') (fun R hR => ?_) ?_
  · intro td htd
    obtain ⟨H3,e3,k3,n3,s3,b3,pt3⟩ := put1 (o := .dT []) b2 pt2 htd
    rw [show upd H2 td _ = H3 from e3]
    have tn : H td = none := by
      cases e : H td with
      | none => rfl
      | some o => rw [b2 _ _ n3 e] at htd; cases htd
    exact hR _ _ ⟨td,rfl,tn,n3,k3,pt3,b3⟩
  rintro _ H3 ⟨td,rfl,tdn,ntp,htd,pt3,b3⟩
  have ntl : pl ≠ td := fun z => by rw [z] at hpl; rw [hpl] at tdn; cases tdn
  have ntf : fl ≠ td := fun z => by rw [z] at hfl; rw [hfl] at tdn; cases tdn
  have env : ∀ {Hx : Hp},But2 p td H Hx → Hx pl = some (.lst zs) ∧ Paired (PtAt Hx) zs (partsL m n) ∧ Hx fl = some (.lst ys) ∧ Paired (TtAt Hx) ys (fitL ks) := fun {Hx} bx => by
    have kt : ∀ c xs,H c = some (.tup xs) → Hx c = some (.tup xs) := fun c xs e => bx _ _ (fun z => by obtain ⟨_,_,_,_,_,hp⟩ := pt; rw [z,hp] at e; cases e) (fun z => by rw [z,tdn] at e; cases e) e
    refine ⟨bx _ _ npp ntl hpl,Paired.mapP pz (fun v q h => ?_),bx _ _ nfp ntf hfl,Paired.mapP pf (fun v q h => h.keep kt)⟩
    obtain ⟨a,e1,e2⟩ := h
    exact ⟨a,e1,kt _ _ e2⟩
  have potU : ∀ {Hx : Hp} {o : HO},PotB Hx p → PotB (upd Hx td o) p := fun {Hx o} pt => by
    obtain ⟨x,y,q1,q2,q3,e⟩ := pt
    exact ⟨x,y,q1,q2,q3,by rw [upd_ne (Ne.symm ntp)]; exact e⟩
  have b23 : But2 p td H H3 := But2.but b3
  refine seqCut (fun σ' H' => (∃ (v7 v8 : Option V) (f0 : Int × Int → Int),σ' = [some (.ref p),some (.int b),some (.ref fl),some (.ref pl),some (.int wy),some (.int ea),some (.ref td),v7,v8] ∧ H' td = some (.dT (byP (tabF f0 (partsL m n)))) ∧ (∀ p ∈ (partsL m n),0 ≤ f0 p)) ∧ PotB H' p ∧ But2 p td H H') (fun R hR => ?_) ?_
  · refine ⟨_,rfl,pl,rfl,⟨_,SqL.of (env b23).1⟩,for_list (xs := zs) (fun i σ' H' => (∃ (v7 v8 : Option V) (f0 : Int × Int → Int),σ' = [some (.ref p),some (.int b),some (.ref fl),some (.ref pl),some (.int wy),some (.int ea),some (.ref td),v7,v8] ∧ H' td = some (.dT (byP (tabF f0 ((partsL m n).take i)))) ∧ (∀ p ∈ ((partsL m n).take i),0 ≤ f0 p)) ∧ PotB H' p ∧ But2 p td H H') ⟨⟨none,none,fun _ => 0,rfl,htd,fun p hp => by simp at hp⟩,pt3,b23⟩ (fun i σ Hx _ ⟨_,_,bx⟩ => SqL.of (env bx).1) ?_ ?_⟩
    · rintro i x σ Hx hi ⟨⟨v7,v8,f0,rfl,hx,nn⟩,ptx,bx⟩
      obtain ⟨ex1,ex2,ex3,ex4⟩ := env bx
      obtain ⟨pp,hpp,qa,rfl,hqa⟩ := Paired.getR ex2 hi
      have pm := List.mem_of_getElem? hpp
      obtain ⟨⟨p1,p2⟩,p3,p4⟩ := partsL_mem.mp pm
      have il : i < m * n := by have := (List.getElem?_eq_some_iff.mp hpp).1; omega
      refine ⟨qa,_,rfl,SqT.of hqa,rfl,_,_,rfl,_,_,rfl,rfl,?_⟩
      have fin : ∀ (x : Int) (Hy : Hp),0 ≤ x → PotB Hy p → But2 p td H Hy → Hy td = some (.dT (byP (tabF f0 ((partsL m n).take i)))) → ∀ t : Addr,Hy t = none → ∀ Hz : Hp,Hz td = Hy td → Hz t = some (.tup [.int pp.1,.int pp.2]) → Same Hy Hz → ∃ Hw,DPut Hz td (.ref t) (.int x) Hw ∧ (∃ (v7 v8 : Option V) (f1 : Int × Int → Int),[some (.ref p),some (.int b),some (.ref fl),some (.ref pl),some (.int wy),some (.int ea),some (.ref td),some (.int pp.1),some (.int pp.2)] = [some (.ref p),some (.int b),some (.ref fl),some (.ref pl),some (.int wy),some (.int ea),some (.ref td),v7,v8] ∧ Hw td = some (.dT (byP (tabF f1 ((partsL m n).take (i + 1))))) ∧ (∀ p ∈ (partsL m n).take (i + 1),0 ≤ f1 p)) ∧ PotB Hw p ∧ But2 p td H Hw := by
        intro x Hy x0 pty by' hy t ht Hz e1 kt sz
        refine ⟨_,.inr ⟨_,pk pp,t,e1.trans hy,rfl,kt,by rw [tabF_len,List.length_take]; omega,rfl⟩,⟨_,_,fset f0 pp x,rfl,?_,fun p hp => ?_⟩,potU (pty.same sz),fun c o c1 c2 e => by rw [upd_ne c2]; exact sz _ _ (by' _ _ c1 c2 e)⟩
        · rw [upd_same,tabF_new (partsL_new hpp),List.take_add_one,hpp]; rfl
        · unfold fset
          by_cases e : p = pp
          · rw [if_pos e]; exact x0
          · rw [if_neg e]
            rw [List.take_add_one,hpp] at hp
            rcases List.mem_append.mp hp with h | h
            · exact nn p h
            · exact absurd (by simpa using h) e
      refine ⟨_,rfl,rfl,_,rfl,?_⟩
      refine ite2 (fun cc => ?_) (fun cc => ?_)
      · refine ⟨_,rfl,p,12,rfl,ptx,by decide,by decide,fun x Hy x0 x1 pty by' => ⟨_,rfl,_,rfl,_,rfl,(by show 2 ≤ sizeLine; decide),fun t ht => ?_⟩⟩
        have hy := by' _ _ ntp hx
        obtain ⟨Hz,e5,k5,s5⟩ : ∃ H',upd Hy t (.tup [.int pp.1,.int pp.2]) = H' ∧ H' t = some (.tup [.int pp.1,.int pp.2]) ∧ Same Hy H' := ⟨_,rfl,upd_same,Same.new ht⟩
        rw [show upd Hy t _ = Hz from e5]
        obtain ⟨Hw,g,r⟩ := fin x Hy x0 pty (fun c o c1 c2 e => by' _ _ c1 (bx _ _ c1 c2 e)) hy t ht Hz ((s5 _ _ hy).trans hy.symm) k5 s5
        exact ⟨td,Hw,rfl,g,r⟩
      · refine ⟨_,rfl,_,rfl,_,_,rfl,rfl,.inr ⟨by omega,by omega⟩,_,rfl,_,_,rfl,rfl,.inr ⟨by omega,by omega⟩,_,rfl,_,rfl,_,rfl,(by show 2 ≤ sizeLine; decide),fun t ht => ?_⟩
        obtain ⟨Hz,e5,k5,s5⟩ : ∃ H',upd Hx t (.tup [.int pp.1,.int pp.2]) = H' ∧ H' t = some (.tup [.int pp.1,.int pp.2]) ∧ Same Hx H' := ⟨_,rfl,upd_same,Same.new ht⟩
        rw [show upd Hx t _ = Hz from e5]
        obtain ⟨Hw,g,r⟩ := fin (ea * pp.1 * pp.2) Hx (Int.mul_nonneg (Int.mul_nonneg ea0 (by omega)) (by omega)) ptx bx hx t ht Hz ((s5 _ _ hx).trans hx.symm) k5 s5
        exact ⟨td,Hw,rfl,g,r⟩
    · rintro σ Hx ⟨⟨v7,v8,f0,rfl,hx,nn⟩,ptx,bx⟩
      rw [zl,List.take_length] at hx nn
      exact hR _ _ ⟨⟨v7,v8,f0,rfl,hx,nn⟩,ptx,bx⟩
  rintro _ H4 ⟨⟨v7,v8,f0,rfl,htd4,nn4⟩,pt4,b4⟩
  refine seqCut (fun σ' H' => (∃ (v7 v8 : Option V) (f0 : Int × Int → Int),σ' = [some (.ref p),some (.int b),some (.ref fl),some (.ref pl),some (.int wy),some (.int ea),some (.ref td),v7,v8] ∧ H' td = some (.dT (byP (tabF f0 (partsL m n)))) ∧ (∀ p ∈ (partsL m n),0 ≤ f0 p)) ∧ PotB H' p ∧ But2 p td H H') (fun R hR => ?_) ?_
  · refine ⟨_,rfl,(by show 2 ≤ sizeLine; decide),fun l hl => ?_⟩
    obtain ⟨H6,e6,k6,n6,s6,b6,pt6⟩ := put1 (o := .tup [.int 1,.int 2]) (But.refl (p := p) (H := H4)) pt4 hl
    rw [show upd H4 l _ = H6 from e6]
    have htd6 := b6 _ _ ntp htd4
    have b46 : But2 p td H H6 := fun c o c1 c2 e => b6 _ _ c1 (b4 _ _ c1 c2 e)
    refine ⟨l,_,rfl,.inr (SqT.of k6),rfl,rfl,_,rfl,?_⟩
    refine ite2 (fun cc => ?_) (fun cc => hR _ _ ⟨⟨_,_,f0,rfl,htd6,nn4⟩,pt6,b46⟩)
    refine seqCut (fun σ' H' => (∃ (v7 v8 : Option V) (f0 : Int × Int → Int),σ' = [some (.ref p),some (.int b),some (.ref fl),some (.ref pl),some (.int wy),some (.int ea),some (.ref td),v7,v8] ∧ H' td = some (.dT (byP (tabF f0 (partsL m n)))) ∧ (∀ p ∈ (partsL m n),0 ≤ f0 p)) ∧ PotB H' p ∧ But2 p td H H') (fun R hR => ?_) ?_
    · refine ⟨_,rfl,pl,rfl,⟨_,SqL.of (env b46).1⟩,for_list (xs := zs) (fun i σ' H' => (∃ (v7 v8 : Option V) (f0 : Int × Int → Int),σ' = [some (.ref p),some (.int b),some (.ref fl),some (.ref pl),some (.int wy),some (.int ea),some (.ref td),v7,v8] ∧ H' td = some (.dT (byP (tabF f0 (partsL m n)))) ∧ (∀ p ∈ (partsL m n),0 ≤ f0 p)) ∧ PotB H' p ∧ But2 p td H H') ⟨⟨v7,v8,f0,rfl,htd6,nn4⟩,pt6,b46⟩ (fun i σ Hx _ ⟨_,_,bx⟩ => SqL.of (env bx).1) ?_ ?_⟩
      · rintro i x σ Hx hi ⟨⟨v7,v8,f0,rfl,hx,nn⟩,ptx,bx⟩
        obtain ⟨ex1,ex2,ex3,ex4⟩ := env bx
        obtain ⟨pp,hpp,qa,rfl,hqa⟩ := Paired.getR ex2 hi
        have pm := List.mem_of_getElem? hpp
        obtain ⟨⟨p1,p2⟩,p3,p4⟩ := partsL_mem.mp pm
        have il : i < m * n := by have := (List.getElem?_eq_some_iff.mp hpp).1; omega
        refine ⟨qa,_,rfl,SqT.of hqa,rfl,_,_,rfl,_,_,rfl,rfl,?_⟩
        have fin : ∀ (x : Int) (Hy : Hp),0 ≤ x → PotB Hy p → But2 p td H Hy → Hy td = some (.dT (byP (tabF f0 (partsL m n)))) → ∀ t : Addr,Hy t = none → ∀ Hz : Hp,Hz td = Hy td → Hz t = some (.tup [.int pp.1,.int pp.2]) → Same Hy Hz → ∃ Hw,DPut Hz td (.ref t) (.int x) Hw ∧ (∃ (v7 v8 : Option V) (f1 : Int × Int → Int),[some (.ref p),some (.int b),some (.ref fl),some (.ref pl),some (.int wy),some (.int ea),some (.ref td),some (.int pp.1),some (.int pp.2)] = [some (.ref p),some (.int b),some (.ref fl),some (.ref pl),some (.int wy),some (.int ea),some (.ref td),v7,v8] ∧ Hw td = some (.dT (byP (tabF f1 (partsL m n)))) ∧ (∀ p ∈ partsL m n,0 ≤ f1 p)) ∧ PotB Hw p ∧ But2 p td H Hw := by
          intro x Hy x0 pty by' hy t ht Hz e1 kt sz
          refine ⟨_,.inr ⟨_,pk pp,t,e1.trans hy,rfl,kt,by rw [tabF_len,pL]; omega,rfl⟩,⟨_,_,fset f0 pp x,rfl,?_,fun p hp => ?_⟩,potU (pty.same sz),fun c o c1 c2 e => by rw [upd_ne c2]; exact sz _ _ (by' _ _ c1 c2 e)⟩
          · rw [upd_same,tabF_put pm]
          · unfold fset
            by_cases e : p = pp
            · rw [if_pos e]; exact x0
            · rw [if_neg e]; exact nn p hp
        refine ⟨_,rfl,_,rfl,_,rfl,_,rfl,_,rfl,b,fl,td,ys,ks,_,f0,pp.1,pp.2,rfl,ex3,ex4,k8,.inl hx,b0,p1,by omega,p3,by omega,(fun c hc => ?_),fun Hy sy => ⟨_,rfl,_,rfl,_,rfl,(by show 2 ≤ sizeLine; decide),fun t ht => ?_⟩⟩
        · obtain ⟨⟨a1,a2,a3,a4,_,_⟩,⟨c1,c2,c3,c4,_,_⟩⟩ := cut_less b0 p1 p3 hc
          exact ⟨tabF_get (partsL_mem.mpr ⟨⟨a1,by omega⟩,a2,by omega⟩),tabF_get (partsL_mem.mpr ⟨⟨c1,by omega⟩,c2,by omega⟩)⟩
        · have hy := sy _ _ hx
          obtain ⟨Hz,e5,k5,s5⟩ : ∃ H',upd Hy t (.tup [.int pp.1,.int pp.2]) = H' ∧ H' t = some (.tup [.int pp.1,.int pp.2]) ∧ Same Hy H' := ⟨_,rfl,upd_same,Same.new ht⟩
          rw [show upd Hy t _ = Hz from e5]
          have due0 : 0 ≤ dueV b ks f0 pp.1 pp.2 := Int.le_trans lfW_nn (mxL_ge (f := cutW b f0 pp.1 pp.2)).1
          obtain ⟨Hw,g,r⟩ := fin (dueV b ks f0 pp.1 pp.2) Hy due0 (ptx.same sy) (fun c o c1 c2 e => sy _ _ (bx _ _ c1 c2 e)) hy t ht Hz ((s5 _ _ hy).trans hy.symm) k5 s5
          exact ⟨td,Hw,rfl,g,r⟩
      · rintro σ Hx ⟨⟨v7,v8,f0,rfl,hx,nn⟩,ptx,bx⟩
        exact hR _ _ ⟨⟨v7,v8,f0,rfl,hx,nn⟩,ptx,bx⟩
    rintro _ H5 ⟨⟨v7,v8,f0,rfl,htd5,nn5⟩,pt5,b5⟩
    · refine ⟨_,rfl,pl,rfl,⟨_,SqL.of (env b5).1⟩,for_list (xs := zs) (fun i σ' H' => (∃ (v7 v8 : Option V) (f0 : Int × Int → Int),σ' = [some (.ref p),some (.int b),some (.ref fl),some (.ref pl),some (.int wy),some (.int ea),some (.ref td),v7,v8] ∧ H' td = some (.dT (byP (tabF f0 (partsL m n)))) ∧ (∀ p ∈ (partsL m n),0 ≤ f0 p)) ∧ PotB H' p ∧ But2 p td H H') ⟨⟨v7,v8,f0,rfl,htd5,nn5⟩,pt5,b5⟩ (fun i σ Hx _ ⟨_,_,bx⟩ => SqL.of (env bx).1) ?_ ?_⟩
      · rintro i x σ Hx hi ⟨⟨v7,v8,f0,rfl,hx,nn⟩,ptx,bx⟩
        obtain ⟨ex1,ex2,ex3,ex4⟩ := env bx
        obtain ⟨pp,hpp,qa,rfl,hqa⟩ := Paired.getR ex2 hi
        have pm := List.mem_of_getElem? hpp
        obtain ⟨⟨p1,p2⟩,p3,p4⟩ := partsL_mem.mp pm
        have il : i < m * n := by have := (List.getElem?_eq_some_iff.mp hpp).1; omega
        refine ⟨qa,_,rfl,SqT.of hqa,rfl,_,_,rfl,_,_,rfl,rfl,?_⟩
        have fin : ∀ (x : Int) (Hy : Hp),0 ≤ x → PotB Hy p → But2 p td H Hy → Hy td = some (.dT (byP (tabF f0 (partsL m n)))) → ∀ t : Addr,Hy t = none → ∀ Hz : Hp,Hz td = Hy td → Hz t = some (.tup [.int pp.1,.int pp.2]) → Same Hy Hz → ∃ Hw,DPut Hz td (.ref t) (.int x) Hw ∧ (∃ (v7 v8 : Option V) (f1 : Int × Int → Int),[some (.ref p),some (.int b),some (.ref fl),some (.ref pl),some (.int wy),some (.int ea),some (.ref td),some (.int pp.1),some (.int pp.2)] = [some (.ref p),some (.int b),some (.ref fl),some (.ref pl),some (.int wy),some (.int ea),some (.ref td),v7,v8] ∧ Hw td = some (.dT (byP (tabF f1 (partsL m n)))) ∧ (∀ p ∈ partsL m n,0 ≤ f1 p)) ∧ PotB Hw p ∧ But2 p td H Hw := by
          intro x Hy x0 pty by' hy t ht Hz e1 kt sz
          refine ⟨_,.inr ⟨_,pk pp,t,e1.trans hy,rfl,kt,by rw [tabF_len,pL]; omega,rfl⟩,⟨_,_,fset f0 pp x,rfl,?_,fun p hp => ?_⟩,potU (pty.same sz),fun c o c1 c2 e => by rw [upd_ne c2]; exact sz _ _ (by' _ _ c1 c2 e)⟩
          · rw [upd_same,tabF_put pm]
          · unfold fset
            by_cases e : p = pp
            · rw [if_pos e]; exact x0
            · rw [if_neg e]; exact nn p hp
        refine ⟨_,rfl,_,rfl,_,rfl,(by show 2 ≤ sizeLine; decide),fun t0 ht0 => ?_⟩
        obtain ⟨Hv,e6,k6,s6⟩ : ∃ H',upd Hx t0 (.tup [.int pp.1,.int pp.2]) = H' ∧ H' t0 = some (.tup [.int pp.1,.int pp.2]) ∧ Same Hx H' := ⟨_,rfl,upd_same,Same.new ht0⟩
        rw [show upd Hx t0 _ = Hv from e6]
        refine ⟨td,.int (f0 pp),rfl,.inr ⟨_,pk pp,t0,.inl (s6 _ _ hx),rfl,k6,(tabF_get pm).symm⟩,_,rfl,_,rfl,_,_,rfl,rfl,.inr ⟨by omega,by omega⟩,_,rfl,_,_,rfl,rfl,.inr ⟨by omega,by omega⟩,_,_,rfl,rfl,_,rfl,_,rfl,_,rfl,(by show 2 ≤ sizeLine; decide),fun t ht => ?_⟩
        have hv := s6 _ _ hx
        obtain ⟨Hz,e5,k5,s5⟩ : ∃ H',upd Hv t (.tup [.int pp.1,.int pp.2]) = H' ∧ H' t = some (.tup [.int pp.1,.int pp.2]) ∧ Same Hv H' := ⟨_,rfl,upd_same,Same.new ht⟩
        rw [show upd Hv t _ = Hz from e5]
        obtain ⟨Hw,g,r⟩ := fin (f0 pp + ea * pp.1 * pp.2) Hv (Int.add_nonneg (nn pp pm) (Int.mul_nonneg (Int.mul_nonneg ea0 (by omega)) (by omega))) (ptx.same s6) (fun c o c1 c2 e => s6 _ _ (bx _ _ c1 c2 e)) hv t ht Hz ((s5 _ _ hv).trans hv.symm) k5 s5
        exact ⟨td,Hw,rfl,g,r⟩
      · rintro σ Hx ⟨⟨v7,v8,f0,rfl,hx,nn⟩,ptx,bx⟩
        exact hR _ _ ⟨⟨v7,v8,f0,rfl,hx,nn⟩,ptx,bx⟩
  rintro _ H5 ⟨⟨v7,v8,f0,rfl,htd5,nn5⟩,pt5,b5⟩
  exact ⟨_,rfl,q td f0 H5 tdn htd5 nn5 pt5 fun c o nn e => b5 _ _ nn (fun z => by rw [z,tdn] at e; cases e) e⟩
end
theorem tab_nodup (f0 : Int × Int → Int) (m n : Nat) : ((byP (tabF f0 (partsL m n))).map (·.1)).Nodup := by
  have e : (byP (tabF f0 (partsL m n))).map (·.1) = (partsL m n).map pk := by
    unfold byP tabF
    rw [List.map_map,List.map_map]
    rfl
  rw [e]
  refine List.pairwise_map.mpr ((partsL_pair n m).imp fun {a b} h z => ?_)
  have z := pk_inj z
  rw [z] at h
  unfold ltP at h
  omega
theorem fset_back (f : Int × Int → Int) (p : Int × Int) (x : Int) : fset (fset f p x) p (f p) = f := by
  funext q
  unfold fset
  by_cases e : q = p
  · rw [if_pos e,e]
  · rw [if_neg e,if_neg e]
theorem fset_nn {f : Int × Int → Int} {ps : List (Int × Int)} (h : ∀ q ∈ ps,0 ≤ f q) {p : Int × Int} {x : Int} (h0 : 0 ≤ x) : ∀ q ∈ ps,0 ≤ fset f p x q := fun q hq => by
  unfold fset
  by_cases e : q = p
  · rw [if_pos e]; exact h0
  · rw [if_neg e]; exact h q hq
structure AE (C p sh fl pl t : Addr) (b : Int) (ys : List V) (ks : List Kd) (m n : Nat) (pp : Int × Int) (H : Hp) : Prop where
  sh : ShopAt C H sh b ks
  fl : H fl = some (.lst ys)
  pf : Paired (TtAt H) ys (fitL ks)
  pl : H pl = some (.tup [.int (m : Int),.int (n : Int)])
  t : H t = some (.tup [.int pp.1,.int pp.2])
  po : ∃ xs,H p = some (.lst xs)
theorem AE.but {C p sh fl pl t x : Addr} {b : Int} {ys : List V} {ks : List Kd} {m n : Nat} {pp : Int × Int} {kvs : List (List Key × V)} {H H' : Hp} (e : AE C p sh fl pl t b ys ks m n pp H) (hx : H x = some (.dT kvs)) (bt : But x H H') : AE C p sh fl pl t b ys ks m n pp H' := by
  have nt : ∀ {c o},H c = some o → (∀ k,o ≠ .dT k) → H' c = some o := fun {c o} h hn => bt _ _ (fun z => by rw [z,hx] at h; exact hn _ (Option.some.inj h).symm) h
  exact ⟨e.sh.keep (fun c xs h => nt h (fun _ z => by cases z)) (fun c C' d fs h => nt h (fun _ z => by cases z)),nt e.fl (fun _ z => by cases z),Paired.mapP e.pf (fun v q h => h.keep fun a xs h => nt h (fun _ z => by cases z)),nt e.pl (fun _ z => by cases z),nt e.t (fun _ z => by cases z),let ⟨xs,h⟩ := e.po; ⟨xs,nt h (fun _ z => by cases z)⟩⟩
theorem AE.same {C p sh fl pl t : Addr} {b : Int} {ys : List V} {ks : List Kd} {m n : Nat} {pp : Int × Int} {H H' : Hp} (e : AE C p sh fl pl t b ys ks m n pp H) (s : Same H H') : AE C p sh fl pl t b ys ks m n pp H' :=
  ⟨e.sh.keep (fun c xs h => s _ _ h) (fun c C' d fs h => s _ _ h),s _ _ e.fl,Paired.mapP e.pf (fun v q h => h.keep fun a xs h => s _ _ h),s _ _ e.pl,s _ _ e.t,let ⟨xs,h⟩ := e.po; ⟨xs,s _ _ h⟩⟩
theorem not_pot {H : Hp} {p c a : Addr} {xs : List V} (pt : PotB H p) (h : H c = some (.lst xs)) (h0 : xs[0]? = some (.ref a)) : c ≠ p := fun z => by
  obtain ⟨x,y,_,_,_,hp⟩ := pt
  rw [z,hp] at h
  cases h
  cases h0
theorem butU {x : Addr} {H H' : Hp} {o : HO} (b : But x H H') : But x H (upd H' x o) := fun c u nn e => by rw [upd_ne nn]; exact b _ _ nn e
theorem butN {p x : Addr} {H H1 H2 : Hp} (b : But p H H1) (hx : H x = none) (b2 : But x H1 H2) : But p H H2 := fun c o nn e => b2 _ _ (fun z => by rw [z,hx] at e; cases e) (b _ _ nn e)
section
variable {P : Program} {w : World} {K : PySem.W.Frag} {mg : Str → Option Value} {base : Heap}
def spBearsL : Sp := fun vs H Q _ => ∃ (fl td : Addr) (b : Int) (ys : List V) (ks : List Kd) (m n : Nat) (f0 : Int × Int → Int),vs = [.int b,.ref fl,.ref td] ∧ H fl = some (.lst ys) ∧ Paired (TtAt H) ys (fitL ks) ∧ ks.length ≤ 8 ∧ 0 ≤ b ∧ m ≤ 16 ∧ n ≤ 16 ∧ H td = some (.dT (byP (tabF f0 (partsL m n)))) ∧ ∀ (ob : Obj) (H' : Hp),H' td = some (.frz ob (.dT (byP (tabF f0 (partsL m n))))) → But td H H' → Q (.bl (bearsF b ks f0 m n)) H'
def spRightL (C : Addr) : Sp := fun vs H Q _ => ∃ (sh pl td : Addr) (b : Int) (ks : List Kd) (m n : Nat) (f0 : Int × Int → Int),vs = [.ref sh,.ref pl,.ref td,.bl (bearsF b ks f0 m n)] ∧ ShopAt C H sh b ks ∧ H pl = some (.tup [.int (m : Int),.int (n : Int)]) ∧ ks.length ≤ 8 ∧ 0 ≤ b ∧ 1 ≤ m ∧ m ≤ 16 ∧ 1 ≤ n ∧ n ≤ 16 ∧ H td = some (.dT (byP (tabF f0 (partsL m n)))) ∧ (∀ p ∈ partsL m n,0 ≤ f0 p) ∧ ∀ (ob : Obj) (H' : Hp),H' td = some (.frz ob (.dT (byP (tabF f0 (partsL m n))))) → But td H H' → Q (.bl true) H'
def spRight : Sp := fun vs H Q _ => ∃ (p : Addr),vs = [.ref p] ∧ PotB H p ∧ ∀ (H' : Hp),But p H H' → Q (.bl true) H'
def spLaw (K : PySem.W.Frag) : Sp := fun vs H Q _ => ∃ (a : Addr) (ns : List Int),vs = [.ref a] ∧ SqL K H a (ns.map V.int) ∧ ns.length ≤ 63 ∧ ∀ H',Q (.bl true) H'
theorem scbearsl : FnScope ["_law_blade_here","_law_fitting_here","_law_table_here"] ["_law_blade_here","_law_fitting_here","_law_table_here"] (defScope sLBears) := ⟨rfl,rfl,rfl,by decide +kernel,rfl,by decide +kernel,by decide +kernel⟩
theorem ok_bearsl {f : Addr} {fd : FuncData} (F : Fun K "_law_bears" "_law_bears" sLBears f fd) (B : Blt mg) (DDu : Dn P w K mg base "_law_due" ["_law_blade_here","_law_fitting_here","_law_table_here","_law_wide","_law_high"] 1 (spDueF)) : FnOk P w K mg base CX0 2 f fd ["_law_blade_here","_law_fitting_here","_law_table_here"] (spBearsL) := by
  refine F.ok scbearsl (fun vs H Q E h => ?_) (fun cdv A outer s H vs Q E hr h => ?_)
  · obtain ⟨fl,td,b,ys,ks,m,n,f0,rfl,_⟩ := h
    rfl
  obtain ⟨fl,td,b,ys,ks,m,n,f0,rfl,hfl,pf,k8,b0,m16,n16,htd,q⟩ := h
  have nd := scbearsl.nd
  have hu := hr.units
  have hu1 := Nat.lt_of_le_of_lt (Nat.add_le_add_left (show 1 ≤ 64 by decide) _) hu
  have hu2 := Nat.lt_of_le_of_lt (Nat.add_le_add_left (show 2 ≤ 64 by decide) _) hu
  refine ⟨_,(@pss_one _ _ _ (@ps_ret _ _ _ _ (@pe_callB _ _ _ _ _ _ _ _ _ (call_allB rfl) rfl B.all PyProof.Rows.boot_all (@pa_cons _ _ _ _ _ (pe_comp (own := ["_law_part"]) (cs := ["_law_blade_here","_law_fitting_here","_law_table_here"]) (cap := [0,1,2]) rfl (pi_dictT (pv 2)) (compOk_of (sc := defScope sLBears) (N := ["_law_blade_here","_law_fitting_here","_law_table_here"]) rfl rfl (by decide +kernel)) (fun _ _ _ _ _ => pg_name (i := 0) (by show List.Nodup (["_law_part","_law_blade_here","_law_fitting_here","_law_table_here"] : List Str) ; decide +kernel) rfl (Or.inl rfl) (Or.inr rfl)) (fun _ _ _ _ _ => pifs_nil) (fun _ _ _ _ _ => (@pe_cmpR _ _ _ _ _ _ _ _ op_ge (pe_dget hu1 (pv 3) (pv 0) (fun _ _ => rfl)) (@pe_cD _ _ _ _ _ _ _ _ _ _ DDu hr rfl (@pa_cons _ _ _ _ _ (pv 1) (@pa_cons _ _ _ _ _ (pv 2) (@pa_cons _ _ _ _ _ (pv 3) (@pa_cons _ _ _ _ _ (pe_ix (r := rIxT K) ix_tup (pv 0) pe_int (fun _ _ => rfl)) (@pa_cons _ _ _ _ _ (pe_ix (r := rIxT K) ix_tup (pv 0) pe_int (fun _ _ => rfl)) pa_nil rfl) rfl) rfl) rfl) rfl) (by decide) rfl rfl) (nomark _)))) pa_nil rfl) (by decide) (by decide) rfl rfl))),?_⟩
  have z4 : 4096 ≤ sizeLine := by decide
  have mn : m * n ≤ 256 := Nat.mul_le_mul m16 n16
  have tl : (byP (tabF f0 (partsL m n))).length = m * n := by rw [tabF_len,partsL_len]
  refine ⟨_,rfl,td,_,rfl,htd,fun ob => ?_⟩
  have hf : (upd H td (.frz ob (.dT (byP (tabF f0 (partsL m n)))))) td = some (.frz ob (.dT (byP (tabF f0 (partsL m n))))) := upd_same
  have bt : But td H (upd H td (.frz ob (.dT (byP (tabF f0 (partsL m n)))))) := fun c o nn e => by rw [upd_ne nn]; exact e
  generalize upd H td (.frz ob (.dT (byP (tabF f0 (partsL m n))))) = H1 at hf bt ⊢
  have nft : fl ≠ td := fun z => by rw [z,htd] at hfl; cases hfl
  have hfl1 := bt _ _ nft hfl
  have pf1 : Paired (TtAt H1) ys (fitL ks) := Paired.mapP pf (fun v q h => h.keep fun a xs e => bt _ _ (fun z => by rw [z,htd] at e; cases e) e)
  refine comp_dict (a := td) (ob := ob) (kvs := (byP (tabF f0 (partsL m n)))) (fun i us Hx => us = (((partsL m n).take i).map fun p => decide (dueV b ks f0 p.1 p.2 ≤ f0 p)).map V.bl ∧ Same H1 Hx) ⟨rfl,Same.refl _⟩ (fun i us Hx _ ⟨_,sx⟩ => sx _ _ hf) ?_ ?_ ?_
  · rintro i kk v qa us Hx hkv hqa ⟨rfl,sx⟩
    obtain ⟨pp,hpp,rfl,rfl⟩ := tabF_at hkv
    have pm := List.mem_of_getElem? hpp
    obtain ⟨⟨p1,p2⟩,p3,p4⟩ := partsL_mem.mp pm
    have il := (List.getElem?_eq_some_iff.mp hkv).1
    have hqa : Hx qa = some (.tup [.int pp.1,.int pp.2]) := hqa
    refine ⟨leS.set rfl,tYes_ite ?_⟩
    refine ⟨_,rfl,_,rfl,td,.int (f0 pp),rfl,.inr ⟨_,pk pp,qa,.inr ⟨ob,sx _ _ hf⟩,rfl,hqa,(tabF_get pm).symm⟩,_,rfl,_,rfl,_,rfl,_,rfl,qa,_,0,_,rfl,rfl,SqT.of hqa,rfl,_,rfl,qa,_,1,_,rfl,rfl,SqT.of hqa,rfl,b,fl,td,ys,ks,_,f0,pp.1,pp.2,rfl,sx _ _ hfl1,Paired.mapP pf1 (fun v q h => h.keep fun c xs e => sx _ _ e),k8,.inr ⟨ob,sx _ _ hf⟩,b0,p1,by omega,p3,by omega,(fun c hc => ?_),fun Hy sy => ⟨_,_,rfl,rfl,_,(by omega : (byP (tabF f0 (partsL m n))).length - (i + 1) < (byP (tabF f0 (partsL m n))).length - i),rfl,il,?_,sx.trans sy⟩⟩
    · obtain ⟨⟨a1,a2,a3,a4,_,_⟩,⟨c1,c2,c3,c4,_,_⟩⟩ := cut_less b0 p1 p3 hc
      exact ⟨tabF_get (partsL_mem.mpr ⟨⟨a1,by omega⟩,a2,by omega⟩),tabF_get (partsL_mem.mpr ⟨⟨c1,by omega⟩,c2,by omega⟩)⟩
    · rw [List.take_add_one,hpp,List.map_append,List.map_append]
      rfl
  · rintro i us Hx il ⟨rfl,sx⟩
    rw [List.length_map,List.length_map,List.length_take]; omega
  · rintro us Hx ⟨rfl,sx⟩
    rw [tl,← partsL_len m n,List.take_length,List.length_map,List.length_map,partsL_len]
    refine ⟨by omega,fun l hl => ⟨l,(partsL m n).map (fun p => decide (dueV b ks f0 p.1 p.2 ≤ f0 p)),rfl,SqL.of upd_same,?_⟩⟩
    rw [List.all_map]
    have sz := Same.new (o := .lst (((partsL m n).map (fun p => decide (dueV b ks f0 p.1 p.2 ≤ f0 p))).map V.bl)) hl
    exact q ob _ (sz _ _ (sx _ _ hf)) fun c o nn e => sz _ _ (sx _ _ (bt _ _ nn e))
theorem scrightl : FnScope ["_law_shop","_law_plate_here","_law_table_here","_law_due_here","_law_kept","_law_told"] ["_law_shop","_law_plate_here","_law_table_here","_law_due_here"] (defScope sRight) := ⟨rfl,rfl,rfl,by decide +kernel,rfl,by decide +kernel,by decide +kernel⟩
theorem ok_rightl {f C : Addr} {fd : FuncData} (F : Fun K "_law_right" "_law_right" sRight f fd) (B : Blt mg) (hdc : mg "dict" = none) (DBe : Dn P w K mg base "bears" ["shop","wide","high","table"] 7 (spBearsT C)) : FnOk P w K mg base CX0 8 f fd ["_law_shop","_law_plate_here","_law_table_here","_law_due_here"] (spRightL C) := by
  refine F.ok scrightl (fun vs H Q E h => ?_) (fun cdv A outer s H vs Q E hr h => ?_)
  · obtain ⟨sh,pl,td,b,ks,m,n,f0,rfl,_⟩ := h
    rfl
  obtain ⟨sh,pl,td,b,ks,m,n,f0,rfl,S0,hpl,k8,b0,m1,m16,n1,n16,htd,h0,q⟩ := h
  have nd := scrightl.nd
  have hu := hr.units
  have hu1 := Nat.lt_of_le_of_lt (Nat.add_le_add_left (show 1 ≤ 64 by decide) _) hu
  have hu2 := Nat.lt_of_le_of_lt (Nat.add_le_add_left (show 2 ≤ 64 by decide) _) hu
  refine ⟨_,(@pss_cons _ _ _ _ _ (@ps_set _ _ 4 _ _ _ _ nd rfl (Or.inl rfl) (@pe_callTy _ _ _ _ _ _ _ _ _ call_dictT rfl hdc PyProof.Rows.boot_dict (@pa_cons _ _ _ _ _ (pv 2) pa_nil rfl) (by decide) (by decide) rfl rfl) rfl (Or.inl rfl)) (@pss_cons _ _ _ _ _ (@ps_set _ _ 5 _ _ _ _ nd rfl (Or.inl rfl) (@pe_cD _ _ _ _ _ _ _ _ _ _ DBe hr rfl (@pa_cons _ _ _ _ _ (pv 0) (@pa_cons _ _ _ _ _ (@pe_ix _ _ _ _ _ _ _ ix_tup (pv 1) pe_int (fun _ _ => rfl)) (@pa_cons _ _ _ _ _ (@pe_ix _ _ _ _ _ _ _ ix_tup (pv 1) pe_int (fun _ _ => rfl)) (@pa_cons _ _ _ _ _ (pv 2) pa_nil rfl) rfl) rfl) rfl) (by decide) rfl rfl) rfl (Or.inl rfl)) (@pss_one _ _ _ (@ps_ret _ _ _ _ (pe_and (@pe_callB _ _ _ _ _ _ _ _ _ call_isinst rfl B.isi PyProof.Rows.boot_isinstance (@pa_cons _ _ _ _ _ (pv 5) (@pa_cons _ _ _ _ _ (pe_bltn (v := .ty "bool") rfl B.bool PyProof.Rows.boot_bool rfl) pa_nil rfl) rfl) (by decide) (by decide) rfl rfl) (pe_and (@pe_cmpR _ _ _ _ _ _ _ _ op_eq (pv 5) (pv 3) (nomark _)) (pe_one (@pe_cmpR _ _ _ _ _ _ _ _ (op_eqDT hu) (pv 2) (pv 4) (nomark _))))))))),?_⟩
  have z4 : 4096 ≤ sizeLine := by decide
  have tl : (byP (tabF f0 (partsL m n))).length = m * n := by rw [tabF_len,partsL_len]
  refine seqCut (fun σ' H' => ∃ ke : Addr,σ' = [some (.ref sh),some (.ref pl),some (.ref td),some (.bl (bearsF b ks f0 m n)),some (.ref ke),none] ∧ H ke = none ∧ H' ke = some (.dT (byP (tabF f0 (partsL m n)))) ∧ Same H H') (fun R hR => ?_) ?_
  · refine ⟨_,rfl,td,_,rfl,.inl htd,(fun z => ?_),byP_col _ _ m16 n16 (tabF_fst _ _),fun ke hke => ?_⟩
    · rw [z] at tl
      have : m * n = 0 := tl.symm
      have := Nat.mul_le_mul m1 n1
      omega
    obtain ⟨H1,e1,k1,s1⟩ : ∃ H',upd H ke (.dT (byP (tabF f0 (partsL m n)))) = H' ∧ H' ke = some (.dT (byP (tabF f0 (partsL m n)))) ∧ Same H H' := ⟨_,rfl,upd_same,Same.new hke⟩
    rw [show upd H ke _ = H1 from e1]
    exact hR _ _ ⟨ke,rfl,hke,k1,s1⟩
  rintro _ H1 ⟨ke,rfl,hke,hk1,s1⟩
  have S1 := S0.keep (fun c o e => s1 _ _ e) (fun c C' d fs e => s1 _ _ e)
  have hpl1 := s1 _ _ hpl
  have nke : ke ≠ td := fun z => by rw [z,htd] at hke; cases hke
  refine seqCut (fun σ' H' => ∃ ob : Obj,σ' = [some (.ref sh),some (.ref pl),some (.ref td),some (.bl (bearsF b ks f0 m n)),some (.ref ke),some (.bl (bearsF b ks f0 m n))] ∧ H' td = some (.frz ob (.dT (byP (tabF f0 (partsL m n))))) ∧ But td H1 H') (fun R hR => ?_) ?_
  · exact ⟨_,rfl,_,rfl,pl,_,0,_,rfl,rfl,SqT.of hpl1,rfl,_,rfl,pl,_,1,_,rfl,rfl,SqT.of hpl1,rfl,_,rfl,sh,td,b,ks,m,n,f0,rfl,S1,k8,b0,m1,m16,n1,n16,s1 _ _ htd,h0,fun ob H2 f2 b2 => hR _ _ ⟨ob,rfl,f2,b2⟩⟩
  rintro _ H2 ⟨ob,rfl,f2,b2⟩
  refine ⟨_,rfl,_,_,_,_,_,rfl,.bl _,rfl,kit_bb,_,rfl,iteT ?_⟩
  refine ⟨_,rfl,_,rfl,rfl,_,rfl,?_⟩
  rw [show decide (V.bl (bearsF b ks f0 m n) = V.bl (bearsF b ks f0 m n)) = true from decide_eq_true rfl]
  exact iteT ⟨_,rfl,_,rfl,td,ke,_,_,rfl,rfl,.inr ⟨ob,f2⟩,.inl (b2 _ _ nke hk1),tabF_same (fun _ _ => rfl),q ob H2 f2 fun c o nn e => b2 _ _ nn (s1 _ _ e)⟩
theorem scasked : FnScope ["_law_pot_here","_law_blade_here","_law_kinds_here","_law_plate_here","_law_fitting_here","_law_parts_here","_law_table_here","_law_part","_law_number_here","_law_shop","_law_due_here","_law_other","_law_more","_law_spoilt"] ["_law_pot_here"] (defScope sAsked) := ⟨rfl,rfl,rfl,by decide +kernel,rfl,by decide +kernel,by decide +kernel⟩
theorem ok_asked {f C : Addr} {fd : FuncData} (F : Fun K "_law_asked" "_law_asked" sAsked f fd) (B : Blt mg) (hdc : mg "dict" = none) (DD : Dn P w K mg base "_law_draw" ["_law_pot_here","_law_many"] 1 (spDrawB)) (DBl : Dn P w K mg base "_law_blade" ["_law_pot_here"] 3 (spBladeB)) (DKs : Dn P w K mg base "_law_kinds" ["_law_pot_here"] 4 (spKindsB)) (DPl : Dn P w K mg base "_law_plate" ["_law_pot_here"] 2 (spPlateB)) (DF : Dn P w K mg base "_law_fitting" ["_law_kinds_here"] 1 (spFit)) (DPa : Dn P w K mg base "_law_parts" ["_law_wide","_law_high"] 1 (spPartsL)) (DTa : Dn P w K mg base "_law_table" ["_law_pot_here","_law_blade_here","_law_fitting_here","_law_parts_here"] 4 (spTable)) (DBL : Dn P w K mg base "_law_bears" ["_law_blade_here","_law_fitting_here","_law_table_here"] 2 (spBearsL)) (DRi : Dn P w K mg base "_law_right" ["_law_shop","_law_plate_here","_law_table_here","_law_due_here"] 8 (spRightL C)) (DSh : Kn P w K mg base "Shop" C ["self","blade","kinds"] 3 (spInit C)) : FnOk P w K mg base CX0 9 f fd ["_law_pot_here"] (spRight) := by
  refine F.ok scasked (fun vs H Q E h => ?_) (fun cdv A outer s H vs Q E hr h => ?_)
  · obtain ⟨p,rfl,_⟩ := h
    rfl
  obtain ⟨p,rfl,pt,q⟩ := h
  have nd := scasked.nd
  have hu := hr.units
  have hu1 := Nat.lt_of_le_of_lt (Nat.add_le_add_left (show 1 ≤ 64 by decide) _) hu
  have hu2 := Nat.lt_of_le_of_lt (Nat.add_le_add_left (show 2 ≤ 64 by decide) _) hu
  refine ⟨_,(@pss_cons _ _ _ _ _ (@ps_set _ _ 1 _ _ _ _ nd rfl (Or.inl rfl) (@pe_cD _ _ _ _ _ _ _ _ _ _ DBl (hr.mono (by decide)) rfl (@pa_cons _ _ _ _ _ (pv 0) pa_nil rfl) (by decide) rfl rfl) rfl (Or.inl rfl)) (@pss_cons _ _ _ _ _ (@ps_set _ _ 2 _ _ _ _ nd rfl (Or.inl rfl) (@pe_cD _ _ _ _ _ _ _ _ _ _ DKs (hr.mono (by decide)) rfl (@pa_cons _ _ _ _ _ (pv 0) pa_nil rfl) (by decide) rfl rfl) rfl (Or.inl rfl)) (@pss_cons _ _ _ _ _ (@ps_set _ _ 3 _ _ _ _ nd rfl (Or.inl rfl) (@pe_cD _ _ _ _ _ _ _ _ _ _ DPl (hr.mono (by decide)) rfl (@pa_cons _ _ _ _ _ (pv 0) pa_nil rfl) (by decide) rfl rfl) rfl (Or.inl rfl)) (@pss_cons _ _ _ _ _ (@ps_set _ _ 4 _ _ _ _ nd rfl (Or.inl rfl) (@pe_cD _ _ _ _ _ _ _ _ _ _ DF (hr.mono (by decide)) rfl (@pa_cons _ _ _ _ _ (pv 2) pa_nil rfl) (by decide) rfl rfl) rfl (Or.inl rfl)) (@pss_cons _ _ _ _ _ (@ps_set _ _ 5 _ _ _ _ nd rfl (Or.inl rfl) (@pe_cD _ _ _ _ _ _ _ _ _ _ DPa (hr.mono (by decide)) rfl (@pa_cons _ _ _ _ _ (@pe_ix _ _ _ _ _ _ _ ix_tup (pv 3) pe_int (fun _ _ => rfl)) (@pa_cons _ _ _ _ _ (@pe_ix _ _ _ _ _ _ _ ix_tup (pv 3) pe_int (fun _ _ => rfl)) pa_nil rfl) rfl) (by decide) rfl rfl) rfl (Or.inl rfl)) (@pss_cons _ _ _ _ _ (@ps_set _ _ 6 _ _ _ _ nd rfl (Or.inr rfl) (@pe_cD _ _ _ _ _ _ _ _ _ _ DTa (hr.mono (by decide)) rfl (@pa_cons _ _ _ _ _ (pv 0) (@pa_cons _ _ _ _ _ (pv 1) (@pa_cons _ _ _ _ _ (pv 4) (@pa_cons _ _ _ _ _ (pv 5) pa_nil rfl) rfl) rfl) rfl) (by decide) rfl rfl) rfl (Or.inl rfl)) (@pss_cons _ _ _ _ _ (@ps_set _ _ 7 _ _ _ _ nd rfl (Or.inl rfl) (@pe_ix _ _ _ _ _ _ _ ix_list (pv 5) (@pe_cD _ _ _ _ _ _ _ _ _ _ DD (hr.mono (by decide)) rfl (@pa_cons _ _ _ _ _ (pv 0) (@pa_cons _ _ _ _ _ (@pe_callB _ _ _ _ _ _ _ _ _ call_len_seq rfl B.len PySem.boot_len (@pa_cons _ _ _ _ _ (pv 5) pa_nil rfl) (by decide) (by decide) rfl rfl) pa_nil rfl) rfl) (by decide) rfl rfl) (fun _ _ => rfl)) rfl (Or.inl rfl)) (@pss_cons _ _ _ _ _ (@ps_set _ _ 8 _ _ _ _ nd rfl (Or.inl rfl) (pe_dget hu1 (pv 6) (pv 7) (fun _ _ => rfl)) rfl (Or.inl rfl)) (@pss_cons _ _ _ _ _ (ps_dput hu1 (pv 6) (pv 7) (@pe_ix _ _ _ _ _ _ _ ix_list (@pe_lst _ _ _ _ (@pa_cons _ _ _ _ _ (pv 8) (@pa_cons _ _ _ _ _ (@pe_op _ _ _ _ _ _ _ _ op_add (pv 8) pe_int) (@pa_cons _ _ _ _ _ (@pe_callB _ _ _ _ _ _ _ _ _ (call_max2 rfl) rfl B.max PyProof.Rows.boot_max (@pa_cons _ _ _ _ _ pe_int (@pa_cons _ _ _ _ _ (@pe_op _ _ _ _ _ _ _ _ op_sub (pv 8) pe_int) pa_nil rfl) rfl) (by decide) (by decide) rfl rfl) (@pa_cons _ _ _ _ _ pe_int pa_nil rfl) rfl) rfl) rfl)) (@pe_cD _ _ _ _ _ _ _ _ _ _ DD (hr.mono (by decide)) rfl (@pa_cons _ _ _ _ _ (pv 0) (@pa_cons _ _ _ _ _ pe_int pa_nil rfl) rfl) (by decide) rfl rfl) (fun _ _ => rfl)) rfl) (@pss_cons _ _ _ _ _ (@ps_set _ _ 9 _ _ _ _ nd rfl (Or.inl rfl) (pe_kD DSh (hr.mono (by decide)) rfl (@pa_cons _ _ _ _ _ (pv 1) (@pa_cons _ _ _ _ _ (@pe_callTy _ _ _ _ _ _ _ _ _ call_list_of rfl B.list PyProof.Rows.boot_list (@pa_cons _ _ _ _ _ (pv 2) pa_nil rfl) (by decide) (by decide) rfl rfl) pa_nil rfl) rfl)) rfl (Or.inl rfl)) (@pss_cons _ _ _ _ _ (@ps_set _ _ 10 _ _ _ _ nd rfl (Or.inl rfl) (@pe_thaw _ _ _ (@pe_cD _ _ _ _ _ _ _ _ _ _ DBL (hr.mono (by decide)) rfl (@pa_cons _ _ _ _ _ (pv 1) (@pa_cons _ _ _ _ _ (pv 4) (@pa_cons _ _ _ _ _ (pv 6) pa_nil rfl) rfl) rfl) (by decide) rfl rfl)) rfl (Or.inl rfl)) (@pss_cons _ _ _ _ _ (@ps_if _ _ _ _ _ _ _ _ (@pt_not _ _ _ _ (@pt_val _ _ _ (@pe_thaw _ _ _ (@pe_cD _ _ _ _ _ _ _ _ _ _ DRi hr rfl (@pa_cons _ _ _ _ _ (pv 9) (@pa_cons _ _ _ _ _ (pv 3) (@pa_cons _ _ _ _ _ (pv 6) (@pa_cons _ _ _ _ _ (pv 10) pa_nil rfl) rfl) rfl) rfl) (by decide) rfl rfl)) (by intro _; rfl))) (@pss_one _ _ _ (@ps_ret _ _ _ _ pe_bl)) pss_nil) (@pss_cons _ _ _ _ _ (@ps_set _ _ 11 _ _ _ _ nd rfl (Or.inl rfl) (@pe_callTy _ _ _ _ _ _ _ _ _ call_dictT rfl hdc PyProof.Rows.boot_dict (@pa_cons _ _ _ _ _ (pv 6) pa_nil rfl) (by decide) (by decide) rfl rfl) rfl (Or.inl rfl)) (@pss_cons _ _ _ _ _ (ps_dput hu1 (pv 11) (pv 7) (pv 8) rfl) (@pss_cons _ _ _ _ _ (@ps_if _ _ _ _ _ _ _ _ (@pt_not _ _ _ _ (@pt_val _ _ _ (@pe_thaw _ _ _ (@pe_cD _ _ _ _ _ _ _ _ _ _ DRi hr rfl (@pa_cons _ _ _ _ _ (pv 9) (@pa_cons _ _ _ _ _ (pv 3) (@pa_cons _ _ _ _ _ (pv 11) (@pa_cons _ _ _ _ _ (@pe_thaw _ _ _ (@pe_cD _ _ _ _ _ _ _ _ _ _ DBL (hr.mono (by decide)) rfl (@pa_cons _ _ _ _ _ (pv 1) (@pa_cons _ _ _ _ _ (pv 4) (@pa_cons _ _ _ _ _ (pv 11) pa_nil rfl) rfl) rfl) (by decide) rfl rfl)) pa_nil rfl) rfl) rfl) rfl) (by decide) rfl rfl)) (by intro _; rfl))) (@pss_one _ _ _ (@ps_ret _ _ _ _ pe_bl)) pss_nil) (@pss_cons _ _ _ _ _ (@ps_set _ _ 12 _ _ _ _ nd rfl (Or.inl rfl) (@pe_thaw _ _ _ (@pe_callTy _ _ _ _ _ _ _ _ _ (call_dictP rfl hu2) rfl hdc PyProof.Rows.boot_dict (@pa_cons _ _ _ _ _ (pe_comp (own := ["_law_key"]) (cs := ["_law_table_here"]) (cap := [6]) rfl (pi_dictT (pv 6)) (compOk_of (sc := defScope sAsked) (N := ["_law_pot_here","_law_blade_here","_law_kinds_here","_law_plate_here","_law_fitting_here","_law_parts_here","_law_table_here","_law_part","_law_number_here","_law_shop","_law_due_here","_law_other","_law_more","_law_spoilt"]) rfl rfl (by decide +kernel)) (fun _ _ _ _ _ => pg_name (i := 0) (by show List.Nodup (["_law_key","_law_table_here"] : List Str) ; decide +kernel) rfl (Or.inl rfl) (Or.inr rfl)) (fun _ _ _ _ _ => pifs_nil) (fun _ _ _ _ _ => (@pe_tup _ _ _ _ _ (@pa_cons _ _ _ _ _ (pv 0) (@pa_cons _ _ _ _ _ (@pe_op _ _ _ _ _ _ _ _ op_add (pe_dget hu1 (pv 1) (pv 0) (fun _ _ => rfl)) (@pe_op _ _ _ _ _ _ _ _ op_mul (@pe_op _ _ _ _ _ _ _ _ op_mul (@pe_op _ _ _ _ _ _ _ _ op_pow pe_int pe_int) (pe_ix (r := rIxT K) ix_tup (pv 0) pe_int (fun _ _ => rfl))) (pe_ix (r := rIxT K) ix_tup (pv 0) pe_int (fun _ _ => rfl)))) pa_nil rfl) rfl)))) pa_nil rfl) (by decide) (by decide) rfl rfl)) rfl (Or.inl rfl)) (@pss_cons _ _ _ _ _ (@ps_if _ _ _ _ _ _ _ _ (@pt_not _ _ _ _ (@pt_val _ _ _ (@pe_thaw _ _ _ (@pe_cD _ _ _ _ _ _ _ _ _ _ DRi hr rfl (@pa_cons _ _ _ _ _ (pv 9) (@pa_cons _ _ _ _ _ (pv 3) (@pa_cons _ _ _ _ _ (pv 12) (@pa_cons _ _ _ _ _ (@pe_thaw _ _ _ (@pe_cD _ _ _ _ _ _ _ _ _ _ DBL (hr.mono (by decide)) rfl (@pa_cons _ _ _ _ _ (pv 1) (@pa_cons _ _ _ _ _ (pv 4) (@pa_cons _ _ _ _ _ (pv 12) pa_nil rfl) rfl) rfl) (by decide) rfl rfl)) pa_nil rfl) rfl) rfl) rfl) (by decide) rfl rfl)) (by intro _; rfl))) (@pss_one _ _ _ (@ps_ret _ _ _ _ pe_bl)) pss_nil) (@pss_cons _ _ _ _ _ (@ps_set _ _ 13 _ _ _ _ nd rfl (Or.inl rfl) (pe_dget hu1 (pv 6) (pv 7) (fun _ _ => rfl)) rfl (Or.inl rfl)) (@pss_cons _ _ _ _ _ (ps_dput hu1 (pv 6) (pv 7) (pv 8) rfl) (@pss_cons _ _ _ _ _ (@ps_if _ _ _ _ _ _ _ _ (@pt_not _ _ _ _ (@pt_val _ _ _ (@pe_thaw _ _ _ (@pe_cD _ _ _ _ _ _ _ _ _ _ DRi hr rfl (@pa_cons _ _ _ _ _ (pv 9) (@pa_cons _ _ _ _ _ (pv 3) (@pa_cons _ _ _ _ _ (pv 6) (@pa_cons _ _ _ _ _ (@pe_thaw _ _ _ (@pe_cD _ _ _ _ _ _ _ _ _ _ DBL (hr.mono (by decide)) rfl (@pa_cons _ _ _ _ _ (pv 1) (@pa_cons _ _ _ _ _ (pv 4) (@pa_cons _ _ _ _ _ (pv 6) pa_nil rfl) rfl) rfl) (by decide) rfl rfl)) pa_nil rfl) rfl) rfl) rfl) (by decide) rfl rfl)) (by intro _; rfl))) (@pss_one _ _ _ (@ps_ret _ _ _ _ pe_bl)) pss_nil) (@pss_cons _ _ _ _ _ (ps_dput hu1 (pv 6) (pv 7) (pv 13) rfl) (@pss_one _ _ _ (@ps_ret _ _ _ _ (@pe_thaw _ _ _ (@pe_cD _ _ _ _ _ _ _ _ _ _ DRi hr rfl (@pa_cons _ _ _ _ _ (pv 9) (@pa_cons _ _ _ _ _ (pv 3) (@pa_cons _ _ _ _ _ (pv 6) (@pa_cons _ _ _ _ _ (pv 10) pa_nil rfl) rfl) rfl) rfl) (by decide) rfl rfl))))))))))))))))))))))))),?_⟩
  have z4 : 4096 ≤ sizeLine := by decide
  have e60 : (100000 : Int) < 10 ^ 60 := by decide
  refine seqCut (fun σ' H' => ∃ b : Int,σ' = [some (.ref p),some (.int b),none,none,none,none,none,none,none,none,none,none,none,none] ∧ 0 ≤ b ∧ PotB H' p ∧ But p H H') (fun R hR => ?_) ?_
  · exact ⟨_,rfl,p,rfl,pt,fun b H1 h0 h1 pt1 b1 => hR _ _ ⟨b,rfl,h0,pt1,b1⟩⟩
  rintro _ H1 ⟨b,rfl,b0,pt1,b1⟩
  refine seqCut (fun σ' H' => ∃ (kl : Addr) (rs : List V) (ks : List Kd),σ' = [some (.ref p),some (.int b),some (.ref kl),none,none,none,none,none,none,none,none,none,none,none] ∧ kl ≠ p ∧ H' kl = some (.lst rs) ∧ Tups H' rs ks ∧ (∀ k ∈ ks,Good k) ∧ 1 ≤ rs.length ∧ rs.length ≤ 8 ∧ PotB H' p ∧ But p H H') (fun R hR => ?_) ?_
  · exact ⟨_,rfl,p,rfl,pt1,fun kl rs ks H3 nkp hkl hk tp gk r1 r8 pt3 b3 => hR _ _ ⟨kl,rs,ks,rfl,nkp,hk,tp,gk,r1,r8,pt3,b1.trans b3⟩⟩
  rintro _ H2 ⟨kl,rs,ks,rfl,nkp,hk2,tp2,gk,r1,r8,pt2,b2⟩
  have k8 : ks.length ≤ 8 := by have := Paired.length tp2; omega
  refine seqCut (fun σ' H' => ∃ (pl : Addr) (m n : Nat),σ' = [some (.ref p),some (.int b),some (.ref kl),some (.ref pl),none,none,none,none,none,none,none,none,none,none] ∧ H' pl = some (.tup [.int (m : Int),.int (n : Int)]) ∧ 1 ≤ m ∧ m ≤ 16 ∧ 1 ≤ n ∧ n ≤ 16 ∧ PotB H' p ∧ But p H2 H' ∧ But p H H') (fun R hR => ?_) ?_
  · exact ⟨_,rfl,p,rfl,pt2,fun pl m n H3 hpl m1 m16 n1 n16 pt3 b3 => hR _ _ ⟨pl,m,n,rfl,hpl,m1,m16,n1,n16,pt3,b3,b2.trans b3⟩⟩
  rintro _ H3 ⟨pl,m,n,rfl,hpl3,m1,m16,n1,n16,pt3,b23,b3⟩
  have hk3 := b23 _ _ nkp hk2
  have tp3 : Tups H3 rs ks := tupsB b23 pt2 tp2
  have mn : m * n ≤ 256 := Nat.mul_le_mul m16 n16
  have mn1 : 1 ≤ m * n := Nat.mul_le_mul m1 n1
  have pL := partsL_len m n
  refine seqCut (fun σ' H' => ∃ (fl : Addr) (ys : List V),σ' = [some (.ref p),some (.int b),some (.ref kl),some (.ref pl),some (.ref fl),none,none,none,none,none,none,none,none,none] ∧ H' fl = some (.lst ys) ∧ Paired (TtAt H') ys (fitL ks) ∧ Same H3 H') (fun R hR => ?_) ?_
  · exact ⟨_,rfl,kl,rs,ks,rfl,hk3,tp3,r8,fun fl ys H4 hfl pf s4 => hR _ _ ⟨fl,ys,rfl,hfl,pf,s4⟩⟩
  rintro _ H4 ⟨fl,ys,rfl,hfl4,pf4,s34⟩
  refine seqCut (fun σ' H' => ∃ (pa : Addr) (zs : List V),σ' = [some (.ref p),some (.int b),some (.ref kl),some (.ref pl),some (.ref fl),some (.ref pa),none,none,none,none,none,none,none,none] ∧ H' pa = some (.lst zs) ∧ Paired (PtAt H') zs (partsL m n) ∧ Same H4 H') (fun R hR => ?_) ?_
  · exact ⟨_,rfl,pl,_,0,_,rfl,rfl,SqT.of (s34 _ _ hpl3),rfl,_,rfl,pl,_,1,_,rfl,rfl,SqT.of (s34 _ _ hpl3),rfl,m,n,rfl,n1,m16,n16,fun pa zs H5 hpa pz s5 => hR _ _ ⟨pa,zs,rfl,hpa,pz,s5⟩⟩
  rintro _ H5 ⟨pa,zs,rfl,hpa5,pz5,s45⟩
  have s35 := s34.trans s45
  have pt5 := pt3.same s35
  have hfl5 := s45 _ _ hfl4
  have pf5 : Paired (TtAt H5) ys (fitL ks) := Paired.mapP pf4 (fun v q h => h.keep fun c xs e => s45 _ _ e)
  have zl0 := Paired.length pz5
  have yl0 := Paired.length pf5
  have rl0 := Paired.length tp2
  obtain ⟨_,_,aa,ea,_⟩ := Paired.getR pz5 (List.getElem?_eq_getElem (show 0 < zs.length by omega))
  have nap : pa ≠ p := not_pot pt5 hpa5 (by rw [List.getElem?_eq_getElem (show 0 < zs.length by omega),ea])
  have fl1 : 1 ≤ (fitL ks).length := by
    cases ks with
    | nil => have : rs.length = 0 := rl0; omega
    | cons k ks => show 1 ≤ (fit1 k ++ fitL ks).length; rw [List.length_append]; show 1 ≤ (_ + 1) + _; omega
  obtain ⟨_,_,ab,eb,_⟩ := Paired.getR pf5 (List.getElem?_eq_getElem (show 0 < ys.length by omega))
  have nfp : fl ≠ p := not_pot pt5 hfl5 (by rw [List.getElem?_eq_getElem (show 0 < ys.length by omega),eb])
  have b5 : But p H H5 := fun c o nn e => s35 _ _ (b3 _ _ nn e)
  refine seqCut (fun σ' H' => ∃ (td : Addr) (f0 : Int × Int → Int),σ' = [some (.ref p),some (.int b),some (.ref kl),some (.ref pl),some (.ref fl),some (.ref pa),some (.ref td),none,none,none,none,none,none,none] ∧ H td = none ∧ td ≠ p ∧ H5 td = none ∧ H' td = some (.dT (byP (tabF f0 (partsL m n)))) ∧ (∀ p ∈ partsL m n,0 ≤ f0 p) ∧ PotB H' p ∧ But p H5 H') (fun R hR => ?_) ?_
  · refine ⟨_,rfl,_,rfl,_,rfl,_,rfl,p,fl,pa,b,ys,zs,ks,m,n,rfl,pt5,nfp,nap,hfl5,pf5,k8,hpa5,pz5,b0,m16,n16,fun td f0 H6 tdn ht nn pt6 b6 => hR _ _ ⟨td,f0,rfl,?_,Ne.symm (pt5.ne tdn),tdn,ht,nn,pt6,b6⟩⟩
    cases e : H td with
    | none => rfl
    | some o => rw [b5 _ _ (Ne.symm (pt5.ne tdn)) e] at tdn; cases tdn
  rintro _ H6 ⟨td,f0,rfl,tdn,ntp,td5,htd6,nn0,pt6,b56⟩
  have zl := Paired.length pz5
  refine seqCut (fun σ' H' => ∃ (t : Addr) (pp : Int × Int),σ' = [some (.ref p),some (.int b),some (.ref kl),some (.ref pl),some (.ref fl),some (.ref pa),some (.ref td),some (.ref t),none,none,none,none,none,none] ∧ pp ∈ partsL m n ∧ H5 t = some (.tup [.int pp.1,.int pp.2]) ∧ H' td = some (.dT (byP (tabF f0 (partsL m n)))) ∧ PotB H' p ∧ But p H5 H') (fun R hR => ?_) ?_
  · refine ⟨_,rfl,_,rfl,_,rfl,pa,_,rfl,.inl (SqL.of (b56 _ _ nap hpa5)),p,_,rfl,pt6,by omega,by omega,fun z H7 z0 z1 pt7 b7 => ?_⟩
    have zi : z.toNat < zs.length := by omega
    obtain ⟨pp,hpp,t,et,ht⟩ := Paired.getR pz5 (List.getElem?_eq_getElem zi)
    have hat : atI zs z = some (.ref t) := atI_int z0 (by rw [List.getElem?_eq_getElem zi,et])
    exact ⟨pa,_,_,_,rfl,rfl,SqL.of (b7 _ _ nap (b56 _ _ nap hpa5)),hat,hR _ _ ⟨t,pp,rfl,List.mem_of_getElem? hpp,ht,b7 _ _ ntp htd6,pt7,b56.trans b7⟩⟩
  rintro _ H7 ⟨t,pp,rfl,pm,ht5,htd7,pt7,b57⟩
  have tup7 : ∀ {Hx : Hp},But p H5 Hx → ∀ c xs,H5 c = some (.tup xs) → Hx c = some (.tup xs) := fun {Hx} bx c xs e => bx _ _ (fun z => by obtain ⟨_,_,_,_,_,hp⟩ := pt5; rw [z,hp] at e; cases e) e
  refine seqCut (fun σ' H' => ∃ nu : Int,σ' = [some (.ref p),some (.int b),some (.ref kl),some (.ref pl),some (.ref fl),some (.ref pa),some (.ref td),some (.ref t),some (.int nu),none,none,none,none,none] ∧ 0 ≤ nu ∧ H7 = H') (fun R hR => ?_) ?_
  · exact ⟨_,rfl,_,rfl,td,.int (f0 pp),rfl,.inr ⟨_,pk pp,t,.inl htd7,rfl,tup7 b57 _ _ ht5,(tabF_get pm).symm⟩,hR _ _ ⟨f0 pp,rfl,nn0 pp pm,rfl⟩⟩
  rintro _ _ ⟨nu,rfl,nu0,rfl⟩
  refine seqCut (fun σ' H' => ∃ f1 : Int × Int → Int,σ' = [some (.ref p),some (.int b),some (.ref kl),some (.ref pl),some (.ref fl),some (.ref pa),some (.ref td),some (.ref t),some (.int nu),none,none,none,none,none] ∧ (∀ p ∈ partsL m n,0 ≤ f1 p) ∧ H' td = some (.dT (byP (tabF f1 (partsL m n)))) ∧ (∀ c o,c ≠ p → c ≠ td → H5 c = some o → H' c = some o) ∧ (∃ xs,H' p = some (.lst xs))) (fun R hR => ?_) ?_
  · refine ⟨_,rfl,_,rfl,_,_,rfl,rfl,_,rfl,_,_,rfl,rfl,_,_,rfl,(by show 4 ≤ sizeLine; decide),fun l hl => ?_⟩
    obtain ⟨H2,e2,k2,n2,s2,b2,pt2⟩ := put1 (o := .lst [.int nu,.int (nu + 1),.int (if nu - 1 > 0 then nu - 1 else 0),.int 0]) (But.refl (p := p) (H := H7)) pt7 hl
    rw [show upd H7 l _ = H2 from e2]
    refine ⟨_,rfl,p,4,rfl,pt2,by decide,by decide,fun z H8 z0 z1 pt8 b8 => ?_⟩
    obtain ⟨x,hx,x0⟩ : ∃ x : Int,atI [V.int nu,V.int (nu + 1),V.int (if nu - 1 > 0 then nu - 1 else 0),V.int 0] z = some (.int x) ∧ 0 ≤ x := by
      rcases (by omega : z = 0 ∨ z = 1 ∨ z = 2 ∨ z = 3) with rfl | rfl | rfl | rfl
      · exact ⟨_,rfl,nu0⟩
      · exact ⟨_,rfl,by omega⟩
      · exact ⟨_,rfl,by split <;> omega⟩
      · exact ⟨_,rfl,Int.le_refl _⟩
    have b58 := b57.trans (b2.trans b8)
    have htd8 := b8 _ _ ntp (b2 _ _ ntp htd7)
    refine ⟨l,_,_,_,rfl,rfl,SqL.of (b8 _ _ n2 k2),hx,_,rfl,_,rfl,td,_,rfl,.inr ⟨_,pk pp,t,htd8,rfl,tup7 b58 _ _ ht5,by rw [tabF_len,pL]; omega,rfl⟩,hR _ _ ⟨fset f0 pp x,rfl,fset_nn nn0 x0,?_,fun c o c1 c2 e => by rw [upd_ne c2]; exact b58 _ _ c1 e,?_⟩⟩
    · rw [upd_same,tabF_put pm]
    · obtain ⟨x,y,_,_,_,hp⟩ := pt8
      exact ⟨_,by rw [upd_ne (Ne.symm ntp)]; exact hp⟩
  rintro _ H8 ⟨f1,rfl,nn1,htd8,b58,⟨po8,hpo8⟩⟩
  have nep : ∀ {c : Addr} {o : HO},H5 c = some o → c ≠ td := fun {c o} e z => by rw [z,td5] at e; cases e
  have k5t : ∀ c xs,H5 c = some (.tup xs) → H8 c = some (.tup xs) := fun c xs e => b58 _ _ (fun z => by obtain ⟨_,_,_,_,_,hp⟩ := pt5; rw [z,hp] at e; cases e) (nep e) e
  have hk8 := b58 _ _ nkp (nep (s35 _ _ hk3)) (s35 _ _ hk3)
  have tp8 : Tups H8 rs ks := Tups.keep k5t (Tups.keep (fun c xs e => s35 _ _ e) tp3)
  have b8 : But p H H8 := fun c o nn e => b58 _ _ nn (nep (b5 _ _ nn e)) (b5 _ _ nn e)
  refine seqCut (fun σ' H' => ∃ sh : Addr,σ' = [some (.ref p),some (.int b),some (.ref kl),some (.ref pl),some (.ref fl),some (.ref pa),some (.ref td),some (.ref t),some (.int nu),some (.ref sh),none,none,none,none] ∧ AE C p sh fl pl t b ys ks m n pp H' ∧ H' td = some (.dT (byP (tabF f1 (partsL m n)))) ∧ But p H H') (fun R hR => ?_) ?_
  · refine ⟨_,rfl,_,rfl,kl,_,rfl,.inl (SqL.of hk8),fun l2 hl2 => ?_⟩
    obtain ⟨H9,e3,k3,s3⟩ : ∃ H',upd H8 l2 (.lst rs) = H' ∧ H' l2 = some (.lst rs) ∧ Same H8 H' := ⟨_,rfl,upd_same,Same.new hl2⟩
    rw [show upd H8 l2 _ = H9 from e3]
    refine fun x dx hx hdx ne0 => ?_
    have sm : Same H9 (upd (upd H9 dx (.own x)) x (.ins C dx [])) := made_same hx hdx
    refine ⟨x,dx,l2,b,rs,ks,rfl,upd_same,b0,.inl (sm _ _ k3),Paired.mapP (Tups.keep (fun c xs e => sm _ _ (s3 _ _ e)) tp8) (fun v k h => .inl h),gk,r1,r8,fun Hb Sb kb => ⟨rfl,?_⟩⟩
    have sb : Same H8 Hb := fun c o e => kb c o (ne_of_none (s3 _ _ e) hx) (sm _ _ (s3 _ _ e))
    exact hR _ _ ⟨x,rfl,⟨Sb,sb _ _ (b58 _ _ nfp (nep hfl5) hfl5),Paired.mapP pf5 (fun v q h => h.keep fun c xs e => sb _ _ (k5t _ _ e)),sb _ _ (k5t _ _ (s35 _ _ hpl3)),sb _ _ (k5t _ _ ht5),⟨_,sb _ _ hpo8⟩⟩,sb _ _ htd8,fun c o nn e => sb _ _ (b8 _ _ nn e)⟩
  rintro _ H9 ⟨sh,rfl,E9,htd9,b9⟩
  refine seqCut (fun σ' H' => σ' = [some (.ref p),some (.int b),some (.ref kl),some (.ref pl),some (.ref fl),some (.ref pa),some (.ref td),some (.ref t),some (.int nu),some (.ref sh),some (.bl (bearsF b ks f1 m n)),none,none,none] ∧ AE C p sh fl pl t b ys ks m n pp H' ∧ H' td = some (.dT (byP (tabF f1 (partsL m n)))) ∧ But p H H') (fun R hR => ?_) ?_
  · refine ⟨_,rfl,_,rfl,_,rfl,fl,td,b,ys,ks,m,n,f1,rfl,E9.fl,E9.pf,k8,b0,m16,n16,htd9,fun ob Hx fx bx => ?_⟩
    have bu := butU (o := (.dT (byP (tabF f1 (partsL m n))))) bx
    exact ⟨td,ob,_,fx,(fun o u e => nomatch (Eq.trans (Eq.symm tdn) e)),hR _ _ ⟨rfl,E9.but htd9 bu,upd_same,butN b9 tdn bu⟩⟩
  rintro _ Ha ⟨rfl,Ea,htda,ba⟩
  refine seqCut (fun σ' H' => σ' = [some (.ref p),some (.int b),some (.ref kl),some (.ref pl),some (.ref fl),some (.ref pa),some (.ref td),some (.ref t),some (.int nu),some (.ref sh),some (.bl (bearsF b ks f1 m n)),none,none,none] ∧ AE C p sh fl pl t b ys ks m n pp H' ∧ H' td = some (.dT (byP (tabF f1 (partsL m n)))) ∧ But p H H') (fun R hR => ?_) ?_
  · refine ⟨_,rfl,_,rfl,_,rfl,_,rfl,sh,pl,td,b,ks,m,n,f1,rfl,Ea.sh,Ea.pl,k8,b0,m1,m16,n1,n16,htda,nn1,fun ob2 Hy fy by2 => ?_⟩
    have bu := butU (o := (.dT (byP (tabF f1 (partsL m n))))) by2
    exact ⟨td,ob2,_,fy,(fun o u e => nomatch (Eq.trans (Eq.symm tdn) e)),_,rfl,iteF (hR _ _ ⟨rfl,Ea.but htda bu,upd_same,butN ba tdn bu⟩)⟩
  rintro _ Hb ⟨rfl,Eb,htdb,bb⟩
  refine seqCut (fun σ' H' => ∃ oa : Addr,σ' = [some (.ref p),some (.int b),some (.ref kl),some (.ref pl),some (.ref fl),some (.ref pa),some (.ref td),some (.ref t),some (.int nu),some (.ref sh),some (.bl (bearsF b ks f1 m n)),some (.ref oa),none,none] ∧ H oa = none ∧ oa ≠ td ∧ AE C p sh fl pl t b ys ks m n pp H' ∧ H' td = some (.dT (byP (tabF f1 (partsL m n)))) ∧ H' oa = some (.dT (byP (tabF f1 (partsL m n)))) ∧ But p H H') (fun R hR => ?_) ?_
  · refine ⟨_,rfl,td,_,rfl,.inl htdb,(fun z => ?_),byP_col _ _ m16 n16 (tabF_fst _ _),fun oa hoa => ?_⟩
    · have tl : (byP (tabF f1 (partsL m n))).length = m * n := by rw [tabF_len,pL]
      rw [z] at tl
      have : m * n = 0 := tl.symm
      omega
    obtain ⟨Hc,e1,k1,s1⟩ : ∃ H',upd Hb oa (.dT (byP (tabF f1 (partsL m n)))) = H' ∧ H' oa = some (.dT (byP (tabF f1 (partsL m n)))) ∧ Same Hb H' := ⟨_,rfl,upd_same,Same.new hoa⟩
    rw [show upd Hb oa _ = Hc from e1]
    have no : oa ≠ td := fun z => by rw [z,htdb] at hoa; cases hoa
    refine hR _ _ ⟨oa,rfl,?_,no,Eb.same s1,s1 _ _ htdb,k1,fun c o nn e => s1 _ _ (bb _ _ nn e)⟩
    cases e : H oa with
    | none => rfl
    | some o => rw [bb _ _ (fun z => by obtain ⟨xs,e2⟩ := Eb.po; rw [z,e2] at hoa; cases hoa) e] at hoa; cases hoa
  rintro _ Hc ⟨oa,rfl,oan,nod,Ec,htdc,hoac,bc⟩
  refine seqCut (fun σ' H' => σ' = [some (.ref p),some (.int b),some (.ref kl),some (.ref pl),some (.ref fl),some (.ref pa),some (.ref td),some (.ref t),some (.int nu),some (.ref sh),some (.bl (bearsF b ks f1 m n)),some (.ref oa),none,none] ∧ AE C p sh fl pl t b ys ks m n pp H' ∧ H' td = some (.dT (byP (tabF f1 (partsL m n)))) ∧ H' oa = some (.dT (byP (tabF (fset f1 pp nu) (partsL m n)))) ∧ But p H H') (fun R hR => ?_) ?_
  · have bu := butU (x := oa) (o := (.dT (byP (tabF (fset f1 pp nu) (partsL m n))))) (But.refl (p := oa) (H := Hc))
    refine ⟨_,rfl,_,rfl,_,rfl,oa,_,rfl,.inr ⟨_,pk pp,t,hoac,rfl,Ec.t,by rw [tabF_len,pL]; omega,rfl⟩,?_⟩
    rw [tabF_put pm]
    exact hR _ _ ⟨rfl,Ec.but hoac bu,by rw [upd_ne (Ne.symm nod)]; exact htdc,upd_same,butN bc oan bu⟩
  rintro _ Hd ⟨rfl,Ed,htdd,hoad,bd⟩
  refine seqCut (fun σ' H' => σ' = [some (.ref p),some (.int b),some (.ref kl),some (.ref pl),some (.ref fl),some (.ref pa),some (.ref td),some (.ref t),some (.int nu),some (.ref sh),some (.bl (bearsF b ks f1 m n)),some (.ref oa),none,none] ∧ AE C p sh fl pl t b ys ks m n pp H' ∧ H' td = some (.dT (byP (tabF f1 (partsL m n)))) ∧ H' oa = some (.dT (byP (tabF (fset f1 pp nu) (partsL m n)))) ∧ But p H H') (fun R hR => ?_) ?_
  · refine ⟨_,rfl,_,rfl,_,rfl,_,rfl,_,rfl,_,rfl,fl,oa,b,ys,ks,m,n,(fset f1 pp nu),rfl,Ed.fl,Ed.pf,k8,b0,m16,n16,hoad,fun ob Hx fx bx => ?_⟩
    have bu := butU (o := (.dT (byP (tabF (fset f1 pp nu) (partsL m n))))) bx
    refine ⟨oa,ob,_,fx,(fun o u e => nomatch (Eq.trans (Eq.symm oan) e)),?_⟩
    have Ex := Ed.but hoad bu
    refine ⟨sh,pl,oa,b,ks,m,n,(fset f1 pp nu),rfl,Ex.sh,Ex.pl,k8,b0,m1,m16,n1,n16,upd_same,(fset_nn nn1 nu0),fun ob2 Hy fy by2 => ?_⟩
    have bu2 := butU (o := (.dT (byP (tabF (fset f1 pp nu) (partsL m n))))) by2
    refine ⟨oa,ob2,_,fy,(fun o u e => nomatch (Eq.trans (Eq.symm oan) e)),_,rfl,iteF (hR _ _ ⟨rfl,Ex.but upd_same bu2,bu2 _ _ (Ne.symm nod) (bu _ _ (Ne.symm nod) htdd),upd_same,butN (butN bd oan bu) oan bu2⟩)⟩
  rintro _ He ⟨rfl,Ee,htde,hoae,be⟩
  have nn3 : ∀ q ∈ partsL m n,0 ≤ (fun q => f1 q + 10 ^ 57 * q.1 * q.2) q := fun q hq => by
    obtain ⟨⟨p1,_⟩,p3,_⟩ := partsL_mem.mp hq
    exact Int.add_nonneg (nn1 q hq) (Int.mul_nonneg (Int.mul_nonneg (by decide) (by omega)) (by omega))
  have tl1 : (byP (tabF f1 (partsL m n))).length = m * n := by rw [tabF_len,pL]
  refine seqCut (fun σ' H' => ∃ ma : Addr,σ' = [some (.ref p),some (.int b),some (.ref kl),some (.ref pl),some (.ref fl),some (.ref pa),some (.ref td),some (.ref t),some (.int nu),some (.ref sh),some (.bl (bearsF b ks f1 m n)),some (.ref oa),some (.ref ma),none] ∧ H ma = none ∧ ma ≠ td ∧ AE C p sh fl pl t b ys ks m n pp H' ∧ H' td = some (.dT (byP (tabF f1 (partsL m n)))) ∧ H' ma = some (.dT (byP (tabF (fun q => f1 q + 10 ^ 57 * q.1 * q.2) (partsL m n)))) ∧ But p H H') (fun R hR => ?_) ?_
  · refine ⟨_,rfl,td,_,rfl,htde,fun ob => ?_⟩
    have hfe : (upd He td (.frz ob (.dT (byP (tabF f1 (partsL m n)))))) td = some (.frz ob (.dT (byP (tabF f1 (partsL m n))))) := upd_same
    have bte : But td He (upd He td (.frz ob (.dT (byP (tabF f1 (partsL m n)))))) := fun c o nn e => by rw [upd_ne nn]; exact e
    generalize upd He td (.frz ob (.dT (byP (tabF f1 (partsL m n))))) = Hf at hfe bte ⊢
    refine comp_dict (a := td) (ob := ob) (kvs := (byP (tabF f1 (partsL m n)))) (fun i us Hx => Paired (PrAt Hx) us ((byP (tabF (fun q => f1 q + 10 ^ 57 * q.1 * q.2) (partsL m n))).take i) ∧ Same Hf Hx) ⟨.nil,Same.refl _⟩ (fun i us Hx _ ⟨_,sx⟩ => sx _ _ hfe) ?_ ?_ ?_
    · rintro i kk v qa us Hx hkv hqa ⟨pu,sx⟩
      obtain ⟨pq,hpq,rfl,rfl⟩ := tabF_at hkv
      have pmq := List.mem_of_getElem? hpq
      obtain ⟨⟨p1,p2⟩,p3,p4⟩ := partsL_mem.mp pmq
      have il := (List.getElem?_eq_some_iff.mp hkv).1
      have hqa : Hx qa = some (.tup [.int pq.1,.int pq.2]) := hqa
      refine ⟨leS.set rfl,tYes_ite ?_⟩
      refine ⟨_,rfl,_,rfl,_,rfl,td,.int (f1 pq),rfl,.inr ⟨_,pk pq,qa,.inr ⟨ob,sx _ _ hfe⟩,rfl,hqa,(tabF_get pmq).symm⟩,_,_,rfl,rfl,⟨by decide,by decide,by decide⟩,_,rfl,qa,_,0,_,rfl,rfl,SqT.of hqa,rfl,_,_,rfl,rfl,.inr ⟨by omega,by omega⟩,_,rfl,qa,_,1,_,rfl,rfl,SqT.of hqa,rfl,_,_,rfl,rfl,.inr ⟨by omega,by omega⟩,_,_,rfl,rfl,(by show 2 ≤ sizeLine; decide),fun t2 ht2 => ?_⟩
      obtain ⟨Hy,e1,k1,s1⟩ : ∃ H',upd Hx t2 (.tup [.ref qa,.int (f1 pq + 10 ^ (57 : Int).toNat * pq.1 * pq.2)]) = H' ∧ H' t2 = some (.tup [.ref qa,.int (f1 pq + 10 ^ (57 : Int).toNat * pq.1 * pq.2)]) ∧ Same Hx H' := ⟨_,rfl,upd_same,Same.new ht2⟩
      rw [show upd Hx t2 _ = Hy from e1]
      refine ⟨_,(by omega : (byP (tabF f1 (partsL m n))).length - (i + 1) < (byP (tabF f1 (partsL m n))).length - i),rfl,il,?_,sx.trans s1⟩
      have e3 : (byP (tabF (fun q => f1 q + 10 ^ 57 * q.1 * q.2) (partsL m n)))[i]? = some (pk pq,.int ((fun q => f1 q + 10 ^ 57 * q.1 * q.2) pq)) := by
        unfold byP tabF
        rw [List.map_map,List.getElem?_map,hpq]; rfl
      rw [List.take_add_one,e3]
      refine Paired.app (Paired.mapP pu fun v x h => ?_) (.cons ⟨t2,qa,rfl,k1,s1 _ _ hqa⟩ .nil)
      obtain ⟨a1,a2,a3,a4,a5⟩ := h
      exact ⟨a1,a2,a3,s1 _ _ a4,s1 _ _ a5⟩
    · rintro i us Hx il ⟨pu,sx⟩
      have := Paired.length pu
      rw [List.length_take] at this
      omega
    · rintro us Hx ⟨pu,sx⟩
      have ul := Paired.length pu
      rw [tl1,List.take_of_length_le (by rw [tabF_len,pL]; exact Nat.le_refl _)] at pu
      rw [List.length_take] at ul
      refine ⟨by omega,fun l hl => ?_⟩
      obtain ⟨Hy,e1,k1,s1⟩ : ∃ H',upd Hx l (.lst us) = H' ∧ H' l = some (.lst us) ∧ Same Hx H' := ⟨_,rfl,upd_same,Same.new hl⟩
      rw [show upd Hx l _ = Hy from e1]
      refine ⟨l,us,_,rfl,k1,Paired.mapP pu (fun v x h => ?_),fun ma hma => ?_⟩
      · obtain ⟨a1,a2,a3,a4,a5⟩ := h
        exact ⟨a1,a2,a3,s1 _ _ a4,s1 _ _ a5⟩
      rw [putAll_nodup _ [] (fun x _ => List.not_mem_nil) (tab_nodup _ m n),List.nil_append]
      obtain ⟨Hz,e2,k2,s2⟩ : ∃ H',upd Hy ma (.dT (byP (tabF (fun q => f1 q + 10 ^ 57 * q.1 * q.2) (partsL m n)))) = H' ∧ H' ma = some (.dT (byP (tabF (fun q => f1 q + 10 ^ 57 * q.1 * q.2) (partsL m n)))) ∧ Same Hy H' := ⟨_,rfl,upd_same,Same.new hma⟩
      rw [show upd Hy ma _ = Hz from e2]
      have fz := s2 _ _ (s1 _ _ (sx _ _ hfe))
      have nm : ma ≠ td := fun z => by rw [z,s1 _ _ (sx _ _ hfe)] at hma; cases hma
      have bz : But td He Hz := fun c o nn e => s2 _ _ (s1 _ _ (sx _ _ (bte _ _ nn e)))
      have bu := butU (o := (.dT (byP (tabF f1 (partsL m n))))) bz
      refine ⟨td,ob,_,fz,(fun o u e => nomatch (Eq.trans (Eq.symm tdn) e)),hR _ _ ⟨ma,rfl,?_,nm,Ee.but htde bu,upd_same,by rw [upd_ne nm]; exact k2,butN be tdn bu⟩⟩
      cases e : H ma with
      | none => rfl
      | some o =>
        have h1 := be _ _ (fun z => by obtain ⟨xs,e2⟩ := Ee.po; rw [z,s1 _ _ (sx _ _ (bte _ _ (fun y => by rw [y,htde] at e2; cases e2) e2))] at hma; cases hma) e
        rw [s1 _ _ (sx _ _ (bte _ _ nm h1))] at hma; cases hma
  rintro _ Hf ⟨ma,rfl,man,nmd,Ef,htdf,hmaf,bf⟩
  refine seqCut (fun σ' H' => σ' = [some (.ref p),some (.int b),some (.ref kl),some (.ref pl),some (.ref fl),some (.ref pa),some (.ref td),some (.ref t),some (.int nu),some (.ref sh),some (.bl (bearsF b ks f1 m n)),some (.ref oa),some (.ref ma),none] ∧ AE C p sh fl pl t b ys ks m n pp H' ∧ H' td = some (.dT (byP (tabF f1 (partsL m n)))) ∧ H' ma = some (.dT (byP (tabF (fun q => f1 q + 10 ^ 57 * q.1 * q.2) (partsL m n)))) ∧ But p H H') (fun R hR => ?_) ?_
  · refine ⟨_,rfl,_,rfl,_,rfl,_,rfl,_,rfl,_,rfl,fl,ma,b,ys,ks,m,n,(fun q => f1 q + 10 ^ 57 * q.1 * q.2),rfl,Ef.fl,Ef.pf,k8,b0,m16,n16,hmaf,fun ob Hx fx bx => ?_⟩
    have bu := butU (o := (.dT (byP (tabF (fun q => f1 q + 10 ^ 57 * q.1 * q.2) (partsL m n))))) bx
    refine ⟨ma,ob,_,fx,(fun o u e => nomatch (Eq.trans (Eq.symm man) e)),?_⟩
    have Ex := Ef.but hmaf bu
    refine ⟨sh,pl,ma,b,ks,m,n,(fun q => f1 q + 10 ^ 57 * q.1 * q.2),rfl,Ex.sh,Ex.pl,k8,b0,m1,m16,n1,n16,upd_same,nn3,fun ob2 Hy fy by2 => ?_⟩
    have bu2 := butU (o := (.dT (byP (tabF (fun q => f1 q + 10 ^ 57 * q.1 * q.2) (partsL m n))))) by2
    refine ⟨ma,ob2,_,fy,(fun o u e => nomatch (Eq.trans (Eq.symm man) e)),_,rfl,iteF (hR _ _ ⟨rfl,Ex.but upd_same bu2,bu2 _ _ (Ne.symm nmd) (bu _ _ (Ne.symm nmd) htdf),upd_same,butN (butN bf man bu) man bu2⟩)⟩
  rintro _ Hg ⟨rfl,Eg,htdg,hmag,bg⟩
  refine seqCut (fun σ' H' => σ' = [some (.ref p),some (.int b),some (.ref kl),some (.ref pl),some (.ref fl),some (.ref pa),some (.ref td),some (.ref t),some (.int nu),some (.ref sh),some (.bl (bearsF b ks f1 m n)),some (.ref oa),some (.ref ma),some (.int (f1 pp))] ∧ Hg = H') (fun R hR => ?_) ?_
  · exact ⟨_,rfl,_,rfl,td,.int (f1 pp),rfl,.inr ⟨_,pk pp,t,.inl htdg,rfl,Eg.t,(tabF_get pm).symm⟩,hR _ _ ⟨rfl,rfl⟩⟩
  rintro _ _ ⟨rfl,rfl⟩
  refine seqCut (fun σ' H' => σ' = [some (.ref p),some (.int b),some (.ref kl),some (.ref pl),some (.ref fl),some (.ref pa),some (.ref td),some (.ref t),some (.int nu),some (.ref sh),some (.bl (bearsF b ks f1 m n)),some (.ref oa),some (.ref ma),some (.int (f1 pp))] ∧ AE C p sh fl pl t b ys ks m n pp H' ∧ H' td = some (.dT (byP (tabF (fset f1 pp nu) (partsL m n)))) ∧ But p H H') (fun R hR => ?_) ?_
  · have bu := butU (x := td) (o := (.dT (byP (tabF (fset f1 pp nu) (partsL m n))))) (But.refl (p := td) (H := Hg))
    refine ⟨_,rfl,_,rfl,_,rfl,td,_,rfl,.inr ⟨_,pk pp,t,htdg,rfl,Eg.t,by rw [tabF_len,pL]; omega,rfl⟩,?_⟩
    rw [tabF_put pm]
    exact hR _ _ ⟨rfl,Eg.but htdg bu,upd_same,butN bg tdn bu⟩
  rintro _ Hh ⟨rfl,Eh,htdh,bh⟩
  refine seqCut (fun σ' H' => σ' = [some (.ref p),some (.int b),some (.ref kl),some (.ref pl),some (.ref fl),some (.ref pa),some (.ref td),some (.ref t),some (.int nu),some (.ref sh),some (.bl (bearsF b ks f1 m n)),some (.ref oa),some (.ref ma),some (.int (f1 pp))] ∧ AE C p sh fl pl t b ys ks m n pp H' ∧ H' td = some (.dT (byP (tabF (fset f1 pp nu) (partsL m n)))) ∧ But p H H') (fun R hR => ?_) ?_
  · refine ⟨_,rfl,_,rfl,_,rfl,_,rfl,_,rfl,_,rfl,fl,td,b,ys,ks,m,n,(fset f1 pp nu),rfl,Eh.fl,Eh.pf,k8,b0,m16,n16,htdh,fun ob Hx fx bx => ?_⟩
    have bu := butU (o := (.dT (byP (tabF (fset f1 pp nu) (partsL m n))))) bx
    refine ⟨td,ob,_,fx,(fun o u e => nomatch (Eq.trans (Eq.symm tdn) e)),?_⟩
    have Ex := Eh.but htdh bu
    refine ⟨sh,pl,td,b,ks,m,n,(fset f1 pp nu),rfl,Ex.sh,Ex.pl,k8,b0,m1,m16,n1,n16,upd_same,(fset_nn nn1 nu0),fun ob2 Hy fy by2 => ?_⟩
    have bu2 := butU (o := (.dT (byP (tabF (fset f1 pp nu) (partsL m n))))) by2
    refine ⟨td,ob2,_,fy,(fun o u e => nomatch (Eq.trans (Eq.symm tdn) e)),_,rfl,iteF (hR _ _ ⟨rfl,Ex.but upd_same bu2,upd_same,butN (butN bh tdn bu) tdn bu2⟩)⟩
  rintro _ Hi ⟨rfl,Ei,htdi,bi⟩
  refine seqCut (fun σ' H' => σ' = [some (.ref p),some (.int b),some (.ref kl),some (.ref pl),some (.ref fl),some (.ref pa),some (.ref td),some (.ref t),some (.int nu),some (.ref sh),some (.bl (bearsF b ks f1 m n)),some (.ref oa),some (.ref ma),some (.int (f1 pp))] ∧ AE C p sh fl pl t b ys ks m n pp H' ∧ H' td = some (.dT (byP (tabF f1 (partsL m n)))) ∧ But p H H') (fun R hR => ?_) ?_
  · have bu := butU (x := td) (o := (.dT (byP (tabF f1 (partsL m n))))) (But.refl (p := td) (H := Hi))
    refine ⟨_,rfl,_,rfl,_,rfl,td,_,rfl,.inr ⟨_,pk pp,t,htdi,rfl,Ei.t,by rw [tabF_len,pL]; omega,rfl⟩,?_⟩
    rw [tabF_put pm,fset_back]
    exact hR _ _ ⟨rfl,Ei.but htdi bu,upd_same,butN bi tdn bu⟩
  rintro _ Hj ⟨rfl,Ej,htdj,bj⟩
  exact ⟨_,rfl,_,rfl,_,rfl,_,rfl,sh,pl,td,b,ks,m,n,f1,rfl,Ej.sh,Ej.pl,k8,b0,m1,m16,n1,n16,htdj,nn1,fun ob2 Hy fy by2 => ⟨td,ob2,_,fy,(fun o u e => nomatch (Eq.trans (Eq.symm tdn) e)),q _ (butN bj tdn (butU by2))⟩⟩
theorem sclaw : FnScope ["_law_script","_law_cell"] ["_law_script"] (defScope sLaw) := ⟨rfl,rfl,rfl,by decide +kernel,rfl,by decide +kernel,by decide +kernel⟩
theorem ok_law {f : Addr} {fd : FuncData} (F : Fun K "law" "law" sLaw f fd) (B : Blt mg) (DP : Dn P w K mg base "_law_pot" ["_law_cell"] 1 (spPotB)) (DR : Dn P w K mg base "_law_asked" ["_law_pot_here"] 9 (spRight)) : FnOk P w K mg base CX0 10 f fd ["_law_script"] (spLaw K) := by
  refine F.ok sclaw (fun vs H Q E h => ?_) (fun cdv A outer s H vs Q E hr h => ?_)
  · obtain ⟨a,ns,rfl,_⟩ := h
    rfl
  obtain ⟨a,ns,rfl,hS,n63,q⟩ := h
  have nd := sclaw.nd
  refine ⟨_,(@pss_cons _ _ _ _ _ (@ps_for _ _ _ _ _ _ _ _ PassesOwn.never rfl (pi_list (@pe_slice _ _ _ _ _ _ _ _ _ _ sl_list (@pe_op _ _ _ _ _ _ _ _ op_catS (pv 0) (@pe_lst _ _ _ _ (@pa_cons _ _ _ _ _ pe_int pa_nil rfl))) po_none (po_some pe_int))) (pg_name (i := 1) nd rfl (Or.inl rfl)) (@pss_one _ _ _ (@ps_if _ _ _ _ _ _ _ _ (@pt_not _ _ _ _ (@pt_val _ _ _ (@pe_cD _ _ _ _ _ _ _ _ _ _ DR hr rfl (@pa_cons _ _ _ _ _ (@pe_cD _ _ _ _ _ _ _ _ _ _ DP (hr.mono (by decide)) rfl (@pa_cons _ _ _ _ _ (pv 1) pa_nil rfl) (by decide) rfl rfl) pa_nil rfl) (by decide) rfl rfl) (by intro _; rfl))) (@pss_one _ _ _ (@ps_ret _ _ _ _ pe_bl)) pss_nil)) (by intro _; rfl)) (@pss_one _ _ _ (@ps_ret _ _ _ _ pe_bl))),?_⟩
  have z4 : 4096 ≤ sizeLine := by decide
  have ln : (ns.map V.int).length = ns.length := List.length_map _
  refine seqCut (fun σ' H' => ∃ v1 : Option V,σ' = [some (.ref a),v1]) (fun R hR => ?_) ?_
  · refine ⟨_,rfl,(by show 1 ≤ sizeLine; decide),fun u hu => ?_⟩
    obtain ⟨H1,e1,k1,s1⟩ : ∃ H',upd H u (.lst [.int 0]) = H' ∧ H' u = some (.lst [.int 0]) ∧ Same H H' := ⟨_,rfl,upd_same,Same.new hu⟩
    rw [show upd H u _ = H1 from e1]
    refine ⟨a,u,_,_,rfl,rfl,hS.imp (fun h => rdSame h s1) id,SqL.of k1,(by show _ + 1 ≤ _; omega),fun l hl => ?_⟩
    obtain ⟨H2,e2,k2,s2⟩ : ∃ H',upd H1 l (.lst (ns.map V.int ++ [.int 0])) = H' ∧ H' l = some (.lst (ns.map V.int ++ [.int 0])) ∧ Same H1 H' := ⟨_,rfl,upd_same,Same.new hl⟩
    rw [show upd H1 l _ = H2 from e2]
    refine ⟨_,rfl,l,_,rfl,SqL.of k2,fun v hv => ?_⟩
    obtain ⟨H3,e3,k3,s3⟩ : ∃ H',upd H2 v (.lst (cutV (ns.map V.int ++ [.int 0]) none (some 3))) = H' ∧ H' v = some (.lst (cutV (ns.map V.int ++ [.int 0]) none (some 3))) ∧ Same H2 H' := ⟨_,rfl,upd_same,Same.new hv⟩
    rw [show upd H2 v _ = H3 from e3]
    refine ⟨v,rfl,⟨_,SqL.of k3⟩,for_list (xs := cutV (ns.map V.int ++ [.int 0]) none (some 3)) (fun i σ' H' => (∃ v1 : Option V,σ' = [some (.ref a),v1]) ∧ Same H3 H') ⟨⟨none,rfl⟩,Same.refl _⟩ (fun i σ Hx _ ⟨_,s⟩ => SqL.of (s _ _ k3)) ?_ (fun σ Hx ⟨e,s⟩ => hR _ _ e)⟩
    rintro i x _ Hx hi ⟨⟨v1,rfl⟩,sx⟩
    obtain ⟨c,rfl⟩ : ∃ c,x = V.int c := by
      have h := List.mem_of_getElem? hi
      unfold cutV at h
      rcases List.mem_append.mp (List.mem_of_mem_drop (List.mem_of_mem_take h)) with h | h
      · obtain ⟨c,_,e⟩ := List.mem_map.mp h
        exact ⟨c,e.symm⟩
      · exact ⟨0,List.mem_singleton.mp h⟩
    refine ⟨_,rfl,c,rfl,fun p Hy hp pt sy => ⟨p,rfl,pt,fun Hz bz => ⟨_,rfl,iteF ⟨⟨_,rfl⟩,?_⟩⟩⟩⟩
    exact fun c o e => bz _ _ (ne_of_none (sx _ _ e) hp) (sy _ _ (sx _ _ e))
  rintro _ H1 ⟨v1,rfl⟩
  exact q H1
end
theorem len1 {α : Type} {us : List α} (h : us.length = 1) : ∃ a,us = [a] := by
  match us,h with
  | [a],_ => exact ⟨a,rfl⟩
theorem len2 {α : Type} {us : List α} (h : us.length = 2) : ∃ a b,us = [a,b] := by
  match us,h with
  | [a,b],_ => exact ⟨a,b,rfl⟩
theorem len3 {α : Type} {us : List α} (h : us.length = 3) : ∃ a b c,us = [a,b,c] := by
  match us,h with
  | [a,b,c],_ => exact ⟨a,b,c,rfl⟩
theorem len4 {α : Type} {us : List α} (h : us.length = 4) : ∃ a b c d,us = [a,b,c,d] := by
  match us,h with
  | [a,b,c,d],_ => exact ⟨a,b,c,d,rfl⟩
theorem len5 {α : Type} {us : List α} (h : us.length = 5) : ∃ a b c d e,us = [a,b,c,d,e] := by
  match us,h with
  | [a,b,c,d,e],_ => exact ⟨a,b,c,d,e,rfl⟩
theorem len6 {α : Type} {us : List α} (h : us.length = 6) : ∃ a b c d e f,us = [a,b,c,d,e,f] := by
  match us,h with
  | [a,b,c,d,e,f],_ => exact ⟨a,b,c,d,e,f,rfl⟩
theorem len7 {α : Type} {us : List α} (h : us.length = 7) : ∃ a b c d e f g,us = [a,b,c,d,e,f,g] := by
  match us,h with
  | [a,b,c,d,e,f,g],_ => exact ⟨a,b,c,d,e,f,g,rfl⟩
open PySem.W in
theorem all_mk {l : OpenLaw} {w : World} {K : Frag} {h : Heap} {mg : Str → Option Value} {fa f0 f1 f2 f3 f4 f5 f6 f7 f8 f9 f10 f11 f12 f13 f14 f15 f16 f17 f18 f19 f20 f21 f22 f23 f24 f25 f26 f27 f28 f29 f30 f31 C fm0 fm1 fm2 fm3 fm4 fm5 xNoLying : Addr} (X : K.In h) (G : h.Ns mainGlobals mg) (hfa : mg "law" = some (.ref fa))
    {od0 an0 : Option Addr} {sl0 : Array (Option Value)} {oc0 kV0 dc0 pm0 cd0 ct0 : Value} {od1 an1 : Option Addr} {sl1 : Array (Option Value)} {oc1 kV1 dc1 pm1 cd1 ct1 : Value} {od2 an2 : Option Addr} {sl2 : Array (Option Value)} {oc2 kV2 dc2 pm2 cd2 ct2 : Value} {od3 an3 : Option Addr} {sl3 : Array (Option Value)} {oc3 kV3 dc3 pm3 cd3 ct3 : Value} {od4 an4 : Option Addr} {sl4 : Array (Option Value)} {oc4 kV4 dc4 pm4 cd4 ct4 : Value} {od5 an5 : Option Addr} {sl5 : Array (Option Value)} {oc5 kV5 dc5 pm5 cd5 ct5 : Value} {od6 an6 : Option Addr} {sl6 : Array (Option Value)} {oc6 kV6 dc6 pm6 cd6 ct6 : Value} {od7 an7 : Option Addr} {sl7 : Array (Option Value)} {oc7 kV7 dc7 pm7 cd7 ct7 : Value} {od8 an8 : Option Addr} {sl8 : Array (Option Value)} {oc8 kV8 dc8 pm8 cd8 ct8 : Value} {od9 an9 : Option Addr} {sl9 : Array (Option Value)} {oc9 kV9 dc9 pm9 cd9 ct9 : Value} {od10 an10 : Option Addr} {sl10 : Array (Option Value)} {oc10 kV10 dc10 pm10 cd10 ct10 : Value} {od11 an11 : Option Addr} {sl11 : Array (Option Value)} {oc11 kV11 dc11 pm11 cd11 ct11 : Value} {od12 an12 : Option Addr} {sl12 : Array (Option Value)} {oc12 kV12 dc12 pm12 cd12 ct12 : Value} {od13 an13 : Option Addr} {sl13 : Array (Option Value)} {oc13 kV13 dc13 pm13 cd13 ct13 : Value} {od14 an14 : Option Addr} {sl14 : Array (Option Value)} {oc14 kV14 dc14 pm14 cd14 ct14 : Value} {od15 an15 : Option Addr} {sl15 : Array (Option Value)} {oc15 kV15 dc15 pm15 cd15 ct15 : Value} {od16 an16 : Option Addr} {sl16 : Array (Option Value)} {oc16 kV16 dc16 pm16 cd16 ct16 : Value} {od17 an17 : Option Addr} {sl17 : Array (Option Value)} {oc17 kV17 dc17 pm17 cd17 ct17 : Value} {od18 an18 : Option Addr} {sl18 : Array (Option Value)} {oc18 kV18 dc18 pm18 cd18 ct18 : Value} {od19 an19 : Option Addr} {sl19 : Array (Option Value)} {oc19 kV19 dc19 pm19 cd19 ct19 : Value} {od20 an20 : Option Addr} {sl20 : Array (Option Value)} {oc20 kV20 dc20 pm20 cd20 ct20 : Value} {od21 an21 : Option Addr} {sl21 : Array (Option Value)} {oc21 kV21 dc21 pm21 cd21 ct21 : Value} {od22 an22 : Option Addr} {sl22 : Array (Option Value)} {oc22 kV22 dc22 pm22 cd22 ct22 : Value} {od23 an23 : Option Addr} {sl23 : Array (Option Value)} {oc23 kV23 dc23 pm23 cd23 ct23 : Value} {od24 an24 : Option Addr} {sl24 : Array (Option Value)} {oc24 kV24 dc24 pm24 cd24 ct24 : Value} {od25 an25 : Option Addr} {sl25 : Array (Option Value)} {oc25 kV25 dc25 pm25 cd25 ct25 : Value} {od26 an26 : Option Addr} {sl26 : Array (Option Value)} {oc26 kV26 dc26 pm26 cd26 ct26 : Value} {od27 an27 : Option Addr} {sl27 : Array (Option Value)} {oc27 kV27 dc27 pm27 cd27 ct27 : Value} {od28 an28 : Option Addr} {sl28 : Array (Option Value)} {oc28 kV28 dc28 pm28 cd28 ct28 : Value} {od29 an29 : Option Addr} {sl29 : Array (Option Value)} {oc29 kV29 dc29 pm29 cd29 ct29 : Value} {od30 an30 : Option Addr} {sl30 : Array (Option Value)} {oc30 kV30 dc30 pm30 cd30 ct30 : Value} {od31 an31 : Option Addr} {sl31 : Array (Option Value)} {oc31 kV31 dc31 pm31 cd31 ct31 : Value} {odm0 anm0 : Option Addr} {slm0 : Array (Option Value)} {ocm0 kVm0 dcm0 pmm0 cdm0 ctm0 : Value} {odm1 anm1 : Option Addr} {slm1 : Array (Option Value)} {ocm1 kVm1 dcm1 pmm1 cdm1 ctm1 : Value} {odm2 anm2 : Option Addr} {slm2 : Array (Option Value)} {ocm2 kVm2 dcm2 pmm2 cdm2 ctm2 : Value} {odm3 anm3 : Option Addr} {slm3 : Array (Option Value)} {ocm3 kVm3 dcm3 pmm3 cdm3 ctm3 : Value} {odm4 anm4 : Option Addr} {slm4 : Array (Option Value)} {ocm4 kVm4 dcm4 pmm4 cdm4 ctm4 : Value} {odm5 anm5 : Option Addr} {slm5 : Array (Option Value)} {ocm5 kVm5 dcm5 pmm5 cdm5 ctm5 : Value} {tc0 : Tok} {tc1 : Tok} {tc2 : Tok} {tc3 : Tok} {tc4 : Tok}
    (a0 : nsIn K mainGlobals "is_whole" = some (some (.ref f0)))
    (l0 : K.lookup f0 = some ⟨oc0,od0,.func (fnOf "is_whole" "is_whole" (defArgs sWhole) (defBody sWhole) (defScope sWhole) .none kV0 dc0 pm0 an0 cd0 ct0),sl0⟩)
    (c0 : codeIn K cd0 "is_whole" = true)
    (k0 : keepIn K (.ref f0) = true)
    (a1 : nsIn K mainGlobals "is_truth" = some (some (.ref f1)))
    (l1 : K.lookup f1 = some ⟨oc1,od1,.func (fnOf "is_truth" "is_truth" (defArgs sTruth) (defBody sTruth) (defScope sTruth) .none kV1 dc1 pm1 an1 cd1 ct1),sl1⟩)
    (c1 : codeIn K cd1 "is_truth" = true)
    (k1 : keepIn K (.ref f1) = true)
    (a2 : nsIn K mainGlobals "is_row" = some (some (.ref f2)))
    (l2 : K.lookup f2 = some ⟨oc2,od2,.func (fnOf "is_row" "is_row" (defArgs sRow) (defBody sRow) (defScope sRow) .none kV2 dc2 pm2 an2 cd2 ct2),sl2⟩)
    (c2 : codeIn K cd2 "is_row" = true)
    (k2 : keepIn K (.ref f2) = true)
    (a3 : nsIn K mainGlobals "is_kind" = some (some (.ref f3)))
    (l3 : K.lookup f3 = some ⟨oc3,od3,.func (fnOf "is_kind" "is_kind" (defArgs sIsKind) (defBody sIsKind) (defScope sIsKind) .none kV3 dc3 pm3 an3 cd3 ct3),sl3⟩)
    (c3 : codeIn K cd3 "is_kind" = true)
    (k3 : keepIn K (.ref f3) = true)
    (a4 : nsIn K mainGlobals "can_lie_turned" = some (some (.ref f4)))
    (l4 : K.lookup f4 = some ⟨oc4,od4,.func (fnOf "can_lie_turned" "can_lie_turned" (defArgs sTurned) (defBody sTurned) (defScope sTurned) .none kV4 dc4 pm4 an4 cd4 ct4),sl4⟩)
    (c4 : codeIn K cd4 "can_lie_turned" = true)
    (k4 : keepIn K (.ref f4) = true)
    (a5 : nsIn K mainGlobals "check_plate" = some (some (.ref f5)))
    (l5 : K.lookup f5 = some ⟨oc5,od5,.func (fnOf "check_plate" "check_plate" (defArgs sCheckPlate) (defBody sCheckPlate) (defScope sCheckPlate) .none kV5 dc5 pm5 an5 cd5 ct5),sl5⟩)
    (c5 : codeIn K cd5 "check_plate" = true)
    (k5 : keepIn K (.ref f5) = true)
    (a6 : nsIn K mainGlobals "check_sides" = some (some (.ref f6)))
    (l6 : K.lookup f6 = some ⟨oc6,od6,.func (fnOf "check_sides" "check_sides" (defArgs sCheckSides) (defBody sCheckSides) (defScope sCheckSides) .none kV6 dc6 pm6 an6 cd6 ct6),sl6⟩)
    (c6 : codeIn K cd6 "check_sides" = true)
    (k6 : keepIn K (.ref f6) = true)
    (a7 : nsIn K mainGlobals "lies_in" = some (some (.ref f7)))
    (l7 : K.lookup f7 = some ⟨oc7,od7,.func (fnOf "lies_in" "lies_in" (defArgs sLiesIn) (defBody sLiesIn) (defScope sLiesIn) .none kV7 dc7 pm7 an7 cd7 ct7),sl7⟩)
    (c7 : codeIn K cd7 "lies_in" = true)
    (k7 : keepIn K (.ref f7) = true)
    (a8 : nsIn K mainGlobals "lyings_in" = some (some (.ref f8)))
    (l8 : K.lookup f8 = some ⟨oc8,od8,.func (fnOf "lyings_in" "lyings_in" (defArgs sLyingsIn) (defBody sLyingsIn) (defScope sLyingsIn) .none kV8 dc8 pm8 an8 cd8 ct8),sl8⟩)
    (c8 : codeIn K cd8 "lyings_in" = true)
    (k8 : keepIn K (.ref f8) = true)
    (a9 : nsIn K mainGlobals "parts_up_to" = some (some (.ref f9)))
    (l9 : K.lookup f9 = some ⟨oc9,od9,.func (fnOf "parts_up_to" "parts_up_to" (defArgs sPartsUpTo) (defBody sPartsUpTo) (defScope sPartsUpTo) .none kV9 dc9 pm9 an9 cd9 ct9),sl9⟩)
    (c9 : codeIn K cd9 "parts_up_to" = true)
    (k9 : keepIn K (.ref f9) = true)
    (a10 : nsIn K mainGlobals "cut_parts" = some (some (.ref f10)))
    (l10 : K.lookup f10 = some ⟨oc10,od10,.func (fnOf "cut_parts" "cut_parts" (defArgs sCutParts) (defBody sCutParts) (defScope sCutParts) .none kV10 dc10 pm10 an10 cd10 ct10),sl10⟩)
    (c10 : codeIn K cd10 "cut_parts" = true)
    (k10 : keepIn K (.ref f10) = true)
    (a11 : nsIn K mainGlobals "cuts_of" = some (some (.ref f11)))
    (l11 : K.lookup f11 = some ⟨oc11,od11,.func (fnOf "cuts_of" "cuts_of" (defArgs sCutsOf) (defBody sCutsOf) (defScope sCutsOf) .none kV11 dc11 pm11 an11 cd11 ct11),sl11⟩)
    (c11 : codeIn K cd11 "cuts_of" = true)
    (k11 : keepIn K (.ref f11) = true)
    (a12 : nsIn K mainGlobals "is_key" = some (some (.ref f12)))
    (l12 : K.lookup f12 = some ⟨oc12,od12,.func (fnOf "is_key" "is_key" (defArgs sIsKey) (defBody sIsKey) (defScope sIsKey) .none kV12 dc12 pm12 an12 cd12 ct12),sl12⟩)
    (c12 : codeIn K cd12 "is_key" = true)
    (k12 : keepIn K (.ref f12) = true)
    (a13 : nsIn K mainGlobals "is_table" = some (some (.ref f13)))
    (l13 : K.lookup f13 = some ⟨oc13,od13,.func (fnOf "is_table" "is_table" (defArgs sIsTable) (defBody sIsTable) (defScope sIsTable) .none kV13 dc13 pm13 an13 cd13 ct13),sl13⟩)
    (c13 : codeIn K cd13 "is_table" = true)
    (k13 : keepIn K (.ref f13) = true)
    (a14 : nsIn K mainGlobals "bears_part" = some (some (.ref f14)))
    (l14 : K.lookup f14 = some ⟨oc14,od14,.func (fnOf "bears_part" "bears_part" (defArgs sBearsPart) (defBody sBearsPart) (defScope sBearsPart) .none kV14 dc14 pm14 an14 cd14 ct14),sl14⟩)
    (c14 : codeIn K cd14 "bears_part" = true)
    (k14 : keepIn K (.ref f14) = true)
    (a15 : nsIn K mainGlobals "bears" = some (some (.ref f15)))
    (l15 : K.lookup f15 = some ⟨oc15,od15,.func (fnOf "bears" "bears" (defArgs sBears) (defBody sBears) (defScope sBears) .none kV15 dc15 pm15 an15 cd15 ct15),sl15⟩)
    (c15 : codeIn K cd15 "bears" = true)
    (k15 : keepIn K (.ref f15) = true)
    (a16 : nsIn K mainGlobals "_law_pot" = some (some (.ref f16)))
    (l16 : K.lookup f16 = some ⟨oc16,od16,.func (fnOf "_law_pot" "_law_pot" (defArgs sPot) (defBody sPot) (defScope sPot) .none kV16 dc16 pm16 an16 cd16 ct16),sl16⟩)
    (c16 : codeIn K cd16 "_law_pot" = true)
    (k16 : keepIn K (.ref f16) = true)
    (a17 : nsIn K mainGlobals "_law_draw" = some (some (.ref f17)))
    (l17 : K.lookup f17 = some ⟨oc17,od17,.func (fnOf "_law_draw" "_law_draw" (defArgs sDraw) (defBody sDraw) (defScope sDraw) .none kV17 dc17 pm17 an17 cd17 ct17),sl17⟩)
    (c17 : codeIn K cd17 "_law_draw" = true)
    (k17 : keepIn K (.ref f17) = true)
    (a18 : nsIn K mainGlobals "_law_great" = some (some (.ref f18)))
    (l18 : K.lookup f18 = some ⟨oc18,od18,.func (fnOf "_law_great" "_law_great" (defArgs sGreat) (defBody sGreat) (defScope sGreat) .none kV18 dc18 pm18 an18 cd18 ct18),sl18⟩)
    (c18 : codeIn K cd18 "_law_great" = true)
    (k18 : keepIn K (.ref f18) = true)
    (a19 : nsIn K mainGlobals "_law_blade" = some (some (.ref f19)))
    (l19 : K.lookup f19 = some ⟨oc19,od19,.func (fnOf "_law_blade" "_law_blade" (defArgs sBlade) (defBody sBlade) (defScope sBlade) .none kV19 dc19 pm19 an19 cd19 ct19),sl19⟩)
    (c19 : codeIn K cd19 "_law_blade" = true)
    (k19 : keepIn K (.ref f19) = true)
    (a20 : nsIn K mainGlobals "_law_side" = some (some (.ref f20)))
    (l20 : K.lookup f20 = some ⟨oc20,od20,.func (fnOf "_law_side" "_law_side" (defArgs sSide) (defBody sSide) (defScope sSide) .none kV20 dc20 pm20 an20 cd20 ct20),sl20⟩)
    (c20 : codeIn K cd20 "_law_side" = true)
    (k20 : keepIn K (.ref f20) = true)
    (a21 : nsIn K mainGlobals "_law_number" = some (some (.ref f21)))
    (l21 : K.lookup f21 = some ⟨oc21,od21,.func (fnOf "_law_number" "_law_number" (defArgs sNumber) (defBody sNumber) (defScope sNumber) .none kV21 dc21 pm21 an21 cd21 ct21),sl21⟩)
    (c21 : codeIn K cd21 "_law_number" = true)
    (k21 : keepIn K (.ref f21) = true)
    (a22 : nsIn K mainGlobals "_law_kinds" = some (some (.ref f22)))
    (l22 : K.lookup f22 = some ⟨oc22,od22,.func (fnOf "_law_kinds" "_law_kinds" (defArgs sKinds) (defBody sKinds) (defScope sKinds) .none kV22 dc22 pm22 an22 cd22 ct22),sl22⟩)
    (c22 : codeIn K cd22 "_law_kinds" = true)
    (k22 : keepIn K (.ref f22) = true)
    (a23 : nsIn K mainGlobals "_law_plate" = some (some (.ref f23)))
    (l23 : K.lookup f23 = some ⟨oc23,od23,.func (fnOf "_law_plate" "_law_plate" (defArgs sPlate) (defBody sPlate) (defScope sPlate) .none kV23 dc23 pm23 an23 cd23 ct23),sl23⟩)
    (c23 : codeIn K cd23 "_law_plate" = true)
    (k23 : keepIn K (.ref f23) = true)
    (a24 : nsIn K mainGlobals "_law_fitting" = some (some (.ref f24)))
    (l24 : K.lookup f24 = some ⟨oc24,od24,.func (fnOf "_law_fitting" "_law_fitting" (defArgs sFitting) (defBody sFitting) (defScope sFitting) .none kV24 dc24 pm24 an24 cd24 ct24),sl24⟩)
    (c24 : codeIn K cd24 "_law_fitting" = true)
    (k24 : keepIn K (.ref f24) = true)
    (a25 : nsIn K mainGlobals "_law_due" = some (some (.ref f25)))
    (l25 : K.lookup f25 = some ⟨oc25,od25,.func (fnOf "_law_due" "_law_due" (defArgs sDue) (defBody sDue) (defScope sDue) .none kV25 dc25 pm25 an25 cd25 ct25),sl25⟩)
    (c25 : codeIn K cd25 "_law_due" = true)
    (k25 : keepIn K (.ref f25) = true)
    (a26 : nsIn K mainGlobals "_law_parts" = some (some (.ref f26)))
    (l26 : K.lookup f26 = some ⟨oc26,od26,.func (fnOf "_law_parts" "_law_parts" (defArgs sParts) (defBody sParts) (defScope sParts) .none kV26 dc26 pm26 an26 cd26 ct26),sl26⟩)
    (c26 : codeIn K cd26 "_law_parts" = true)
    (k26 : keepIn K (.ref f26) = true)
    (a27 : nsIn K mainGlobals "_law_table" = some (some (.ref f27)))
    (l27 : K.lookup f27 = some ⟨oc27,od27,.func (fnOf "_law_table" "_law_table" (defArgs sTable) (defBody sTable) (defScope sTable) .none kV27 dc27 pm27 an27 cd27 ct27),sl27⟩)
    (c27 : codeIn K cd27 "_law_table" = true)
    (k27 : keepIn K (.ref f27) = true)
    (a28 : nsIn K mainGlobals "_law_bears" = some (some (.ref f28)))
    (l28 : K.lookup f28 = some ⟨oc28,od28,.func (fnOf "_law_bears" "_law_bears" (defArgs sLBears) (defBody sLBears) (defScope sLBears) .none kV28 dc28 pm28 an28 cd28 ct28),sl28⟩)
    (c28 : codeIn K cd28 "_law_bears" = true)
    (k28 : keepIn K (.ref f28) = true)
    (a29 : nsIn K mainGlobals "_law_right" = some (some (.ref f29)))
    (l29 : K.lookup f29 = some ⟨oc29,od29,.func (fnOf "_law_right" "_law_right" (defArgs sRight) (defBody sRight) (defScope sRight) .none kV29 dc29 pm29 an29 cd29 ct29),sl29⟩)
    (c29 : codeIn K cd29 "_law_right" = true)
    (k29 : keepIn K (.ref f29) = true)
    (a30 : nsIn K mainGlobals "_law_asked" = some (some (.ref f30)))
    (l30 : K.lookup f30 = some ⟨oc30,od30,.func (fnOf "_law_asked" "_law_asked" (defArgs sAsked) (defBody sAsked) (defScope sAsked) .none kV30 dc30 pm30 an30 cd30 ct30),sl30⟩)
    (c30 : codeIn K cd30 "_law_asked" = true)
    (k30 : keepIn K (.ref f30) = true)
    (a31 : nsIn K mainGlobals "law" = some (some (.ref f31)))
    (l31 : K.lookup f31 = some ⟨oc31,od31,.func (fnOf "law" "law" (defArgs sLaw) (defBody sLaw) (defScope sLaw) .none kV31 dc31 pm31 an31 cd31 ct31),sl31⟩)
    (c31 : codeIn K cd31 "law" = true)
    (k31 : keepIn K (.ref f31) = true)
    (aC : nsIn K mainGlobals "Shop" = some (some (.ref C)))
    (am0 : findIn K (.ref C) "__init__" = some (some (.ref fm0)))
    (im0 : isFn K (.ref fm0) = true)
    (lm0 : K.lookup fm0 = some ⟨ocm0,odm0,.func (fnOf "__init__" "Shop.__init__" (defArgs sShopInit) (defBody sShopInit) (defScope sShopInit) .none kVm0 dcm0 pmm0 anm0 cdm0 ctm0),slm0⟩)
    (cm0 : codeIn K cdm0 "Shop.__init__" = true)
    (km0 : keepIn K (.ref fm0) = true)
    (am1 : findIn K (.ref C) "blade" = some (some (.ref fm1)))
    (im1 : isFn K (.ref fm1) = true)
    (lm1 : K.lookup fm1 = some ⟨ocm1,odm1,.func (fnOf "blade" "Shop.blade" (defArgs sShopBlade) (defBody sShopBlade) (defScope sShopBlade) .none kVm1 dcm1 pmm1 anm1 cdm1 ctm1),slm1⟩)
    (cm1 : codeIn K cdm1 "Shop.blade" = true)
    (km1 : keepIn K (.ref fm1) = true)
    (am2 : findIn K (.ref C) "kinds" = some (some (.ref fm2)))
    (im2 : isFn K (.ref fm2) = true)
    (lm2 : K.lookup fm2 = some ⟨ocm2,odm2,.func (fnOf "kinds" "Shop.kinds" (defArgs sShopKinds) (defBody sShopKinds) (defScope sShopKinds) .none kVm2 dcm2 pmm2 anm2 cdm2 ctm2),slm2⟩)
    (cm2 : codeIn K cdm2 "Shop.kinds" = true)
    (km2 : keepIn K (.ref fm2) = true)
    (am3 : findIn K (.ref C) "lyings" = some (some (.ref fm3)))
    (im3 : isFn K (.ref fm3) = true)
    (lm3 : K.lookup fm3 = some ⟨ocm3,odm3,.func (fnOf "lyings" "Shop.lyings" (defArgs sShopLyings) (defBody sShopLyings) (defScope sShopLyings) .none kVm3 dcm3 pmm3 anm3 cdm3 ctm3),slm3⟩)
    (cm3 : codeIn K cdm3 "Shop.lyings" = true)
    (km3 : keepIn K (.ref fm3) = true)
    (am4 : findIn K (.ref C) "is_lying" = some (some (.ref fm4)))
    (im4 : isFn K (.ref fm4) = true)
    (lm4 : K.lookup fm4 = some ⟨ocm4,odm4,.func (fnOf "is_lying" "Shop.is_lying" (defArgs sShopIsLying) (defBody sShopIsLying) (defScope sShopIsLying) .none kVm4 dcm4 pmm4 anm4 cdm4 ctm4),slm4⟩)
    (cm4 : codeIn K cdm4 "Shop.is_lying" = true)
    (km4 : keepIn K (.ref fm4) = true)
    (am5 : findIn K (.ref C) "sides" = some (some (.ref fm5)))
    (im5 : isFn K (.ref fm5) = true)
    (lm5 : K.lookup fm5 = some ⟨ocm5,odm5,.func (fnOf "sides" "Shop.sides" (defArgs sShopSides) (defBody sShopSides) (defScope sShopSides) .none kVm5 dcm5 pmm5 anm5 cdm5 ctm5),slm5⟩)
    (cm5 : codeIn K cdm5 "Shop.sides" = true)
    (km5 : keepIn K (.ref fm5) = true)
    (pg : plainGet K C Str.empty = true)
    (hd : hasDictIn K C = true)
    (po : plainOver K C = true)
    (sa : findIn K (.ref C) "__setattr__" = some (some (.builtin "object.__setattr__")))
    (mk : makesIn K C = true)
    (kc : keepIn K (.ref C) = true)
    (n0 : findIn K (.ref C) "blade_width" = some none)
    (n1 : findIn K (.ref C) "kind_rows" = some none)
    (eNoLying : nsIn K mainGlobals "NoLying" = some (some (.ref xNoLying)))
    (cNoLying : excIn K xNoLying L2.bmVE "ValueError.__new__" = true)
    (z0 : nsIn K mainGlobals "isinstance" = some none)
    (z1 : nsIn K mainGlobals "int" = some none)
    (z2 : nsIn K mainGlobals "bool" = some none)
    (z3 : nsIn K mainGlobals "list" = some none)
    (z4 : nsIn K mainGlobals "tuple" = some none)
    (z5 : nsIn K mainGlobals "len" = some none)
    (z6 : nsIn K mainGlobals "range" = some none)
    (z7 : nsIn K mainGlobals "max" = some none)
    (z8 : nsIn K mainGlobals "min" = some none)
    (z9 : nsIn K mainGlobals "abs" = some none)
    (z10 : nsIn K mainGlobals "divmod" = some none)
    (z11 : nsIn K mainGlobals "sum" = some none)
    (z12 : nsIn K mainGlobals "sorted" = some none)
    (z13 : nsIn K mainGlobals "all" = some none)
    (z14 : nsIn K mainGlobals "repr" = some none)
    (z15 : nsIn K mainGlobals "zip" = some none)
    (z16 : nsIn K mainGlobals "enumerate" = some none)
    (z17 : nsIn K mainGlobals "str" = some none)
    (z18 : nsIn K mainGlobals "dict" = some none)
    (uc0 : nsIn K mainGlobals "MOST_KINDS" = some (some (.int 8 tc0)))
    (uc1 : nsIn K mainGlobals "THINGS_OF_A_KIND" = some (some (.int 5 tc1)))
    (uc2 : nsIn K mainGlobals "DOWN" = some (some (.str "down" tc2)))
    (uc3 : nsIn K mainGlobals "ACROSS" = some (some (.str "across" tc3)))
    (uc4 : nsIn K mainGlobals "MOST_SIDE" = some (some (.int 16 tc4))) :
    ∃ fd : FuncData,(∀ (s : Shared) (v : Value),BindsTo s fd ⟨[v],[]⟩ [("_law_script",v)]) ∧ ∀ base : Heap,K.In base → base.Ns mainGlobals mg → FnOk l.prog w K mg base CX0 10 fa fd ["_law_script"] (spLaw K) := by
  have e := hfa.symm.trans (mg_of X G a31)
  cases e
  have F0 := fun_mk (st := sWhole) l0 c0 k0
  have b0 := F0.binds (ps := ["thing","least"]) fun _ _ _ _ _ _ us hl => by obtain ⟨_,_,rfl⟩ := len2 hl; rfl
  have F1 := fun_mk (st := sTruth) l1 c1 k1
  have b1 := F1.binds (ps := ["thing"]) fun _ _ _ _ _ _ us hl => by obtain ⟨_,rfl⟩ := len1 hl; rfl
  have F2 := fun_mk (st := sRow) l2 c2 k2
  have b2 := F2.binds (ps := ["thing"]) fun _ _ _ _ _ _ us hl => by obtain ⟨_,rfl⟩ := len1 hl; rfl
  have F3 := fun_mk (st := sIsKind) l3 c3 k3
  have b3 := F3.binds (ps := ["thing"]) fun _ _ _ _ _ _ us hl => by obtain ⟨_,rfl⟩ := len1 hl; rfl
  have F4 := fun_mk (st := sTurned) l4 c4 k4
  have b4 := F4.binds (ps := ["kind"]) fun _ _ _ _ _ _ us hl => by obtain ⟨_,rfl⟩ := len1 hl; rfl
  have F5 := fun_mk (st := sCheckPlate) l5 c5 k5
  have b5 := F5.binds (ps := ["wide","high"]) fun _ _ _ _ _ _ us hl => by obtain ⟨_,_,rfl⟩ := len2 hl; rfl
  have F6 := fun_mk (st := sCheckSides) l6 c6 k6
  have b6 := F6.binds (ps := ["wide","high","most"]) fun _ _ _ _ _ _ us hl => by obtain ⟨_,_,_,rfl⟩ := len3 hl; rfl
  have F7 := fun_mk (st := sLiesIn) l7 c7 k7
  have b7 := F7.binds (ps := ["shop","wide","high","kind","turned","x","y"]) fun _ _ _ _ _ _ us hl => by obtain ⟨_,_,_,_,_,_,_,rfl⟩ := len7 hl; rfl
  have F8 := fun_mk (st := sLyingsIn) l8 c8 k8
  have b8 := F8.binds (ps := ["shop","part"]) fun _ _ _ _ _ _ us hl => by obtain ⟨_,_,rfl⟩ := len2 hl; rfl
  have F9 := fun_mk (st := sPartsUpTo) l9 c9 k9
  have b9 := F9.binds (ps := ["wide","high"]) fun _ _ _ _ _ _ us hl => by obtain ⟨_,_,rfl⟩ := len2 hl; rfl
  have F10 := fun_mk (st := sCutParts) l10 c10 k10
  have b10 := F10.binds (ps := ["blade","part","way","p"]) fun _ _ _ _ _ _ us hl => by obtain ⟨_,_,_,_,rfl⟩ := len4 hl; rfl
  have F11 := fun_mk (st := sCutsOf) l11 c11 k11
  have b11 := F11.binds (ps := ["blade","part"]) fun _ _ _ _ _ _ us hl => by obtain ⟨_,_,rfl⟩ := len2 hl; rfl
  have F12 := fun_mk (st := sIsKey) l12 c12 k12
  have b12 := F12.binds (ps := ["wide","high","thing"]) fun _ _ _ _ _ _ us hl => by obtain ⟨_,_,_,rfl⟩ := len3 hl; rfl
  have F13 := fun_mk (st := sIsTable) l13 c13 k13
  have b13 := F13.binds (ps := ["wide","high","thing"]) fun _ _ _ _ _ _ us hl => by obtain ⟨_,_,_,rfl⟩ := len3 hl; rfl
  have F14 := fun_mk (st := sBearsPart) l14 c14 k14
  have b14 := F14.binds (ps := ["shop","part","table"]) fun _ _ _ _ _ _ us hl => by obtain ⟨_,_,_,rfl⟩ := len3 hl; rfl
  have F15 := fun_mk (st := sBears) l15 c15 k15
  have b15 := F15.binds (ps := ["shop","wide","high","table"]) fun _ _ _ _ _ _ us hl => by obtain ⟨_,_,_,_,rfl⟩ := len4 hl; rfl
  have F16 := fun_mk (st := sPot) l16 c16 k16
  have b16 := F16.binds (ps := ["_law_cell"]) fun _ _ _ _ _ _ us hl => by obtain ⟨_,rfl⟩ := len1 hl; rfl
  have F17 := fun_mk (st := sDraw) l17 c17 k17
  have b17 := F17.binds (ps := ["_law_pot_here","_law_many"]) fun _ _ _ _ _ _ us hl => by obtain ⟨_,_,rfl⟩ := len2 hl; rfl
  have F18 := fun_mk (st := sGreat) l18 c18 k18
  have b18 := F18.binds (ps := ["_law_pot_here","_law_many"]) fun _ _ _ _ _ _ us hl => by obtain ⟨_,_,rfl⟩ := len2 hl; rfl
  have F19 := fun_mk (st := sBlade) l19 c19 k19
  have b19 := F19.binds (ps := ["_law_pot_here"]) fun _ _ _ _ _ _ us hl => by obtain ⟨_,rfl⟩ := len1 hl; rfl
  have F20 := fun_mk (st := sSide) l20 c20 k20
  have b20 := F20.binds (ps := ["_law_pot_here"]) fun _ _ _ _ _ _ us hl => by obtain ⟨_,rfl⟩ := len1 hl; rfl
  have F21 := fun_mk (st := sNumber) l21 c21 k21
  have b21 := F21.binds (ps := ["_law_pot_here"]) fun _ _ _ _ _ _ us hl => by obtain ⟨_,rfl⟩ := len1 hl; rfl
  have F22 := fun_mk (st := sKinds) l22 c22 k22
  have b22 := F22.binds (ps := ["_law_pot_here"]) fun _ _ _ _ _ _ us hl => by obtain ⟨_,rfl⟩ := len1 hl; rfl
  have F23 := fun_mk (st := sPlate) l23 c23 k23
  have b23 := F23.binds (ps := ["_law_pot_here"]) fun _ _ _ _ _ _ us hl => by obtain ⟨_,rfl⟩ := len1 hl; rfl
  have F24 := fun_mk (st := sFitting) l24 c24 k24
  have b24 := F24.binds (ps := ["_law_kinds_here"]) fun _ _ _ _ _ _ us hl => by obtain ⟨_,rfl⟩ := len1 hl; rfl
  have F25 := fun_mk (st := sDue) l25 c25 k25
  have b25 := F25.binds (ps := ["_law_blade_here","_law_fitting_here","_law_table_here","_law_wide","_law_high"]) fun _ _ _ _ _ _ us hl => by obtain ⟨_,_,_,_,_,rfl⟩ := len5 hl; rfl
  have F26 := fun_mk (st := sParts) l26 c26 k26
  have b26 := F26.binds (ps := ["_law_wide","_law_high"]) fun _ _ _ _ _ _ us hl => by obtain ⟨_,_,rfl⟩ := len2 hl; rfl
  have F27 := fun_mk (st := sTable) l27 c27 k27
  have b27 := F27.binds (ps := ["_law_pot_here","_law_blade_here","_law_fitting_here","_law_parts_here"]) fun _ _ _ _ _ _ us hl => by obtain ⟨_,_,_,_,rfl⟩ := len4 hl; rfl
  have F28 := fun_mk (st := sLBears) l28 c28 k28
  have b28 := F28.binds (ps := ["_law_blade_here","_law_fitting_here","_law_table_here"]) fun _ _ _ _ _ _ us hl => by obtain ⟨_,_,_,rfl⟩ := len3 hl; rfl
  have F29 := fun_mk (st := sRight) l29 c29 k29
  have b29 := F29.binds (ps := ["_law_shop","_law_plate_here","_law_table_here","_law_due_here"]) fun _ _ _ _ _ _ us hl => by obtain ⟨_,_,_,_,rfl⟩ := len4 hl; rfl
  have F30 := fun_mk (st := sAsked) l30 c30 k30
  have b30 := F30.binds (ps := ["_law_pot_here"]) fun _ _ _ _ _ _ us hl => by obtain ⟨_,rfl⟩ := len1 hl; rfl
  have F31 := fun_mk (st := sLaw) l31 c31 k31
  have b31 := F31.binds (ps := ["_law_script"]) fun _ _ _ _ _ _ us hl => by obtain ⟨_,rfl⟩ := len1 hl; rfl
  have Fm0 := fun_mk (st := sShopInit) lm0 cm0 km0
  have bm0 := Fm0.binds (ps := ["self","blade","kinds"]) fun _ _ _ _ _ _ us hl => by obtain ⟨_,_,_,rfl⟩ := len3 hl; rfl
  have Fm1 := fun_mk (st := sShopBlade) lm1 cm1 km1
  have bm1 := Fm1.binds (ps := ["self"]) fun _ _ _ _ _ _ us hl => by obtain ⟨_,rfl⟩ := len1 hl; rfl
  have Fm2 := fun_mk (st := sShopKinds) lm2 cm2 km2
  have bm2 := Fm2.binds (ps := ["self"]) fun _ _ _ _ _ _ us hl => by obtain ⟨_,rfl⟩ := len1 hl; rfl
  have Fm3 := fun_mk (st := sShopLyings) lm3 cm3 km3
  have bm3 := Fm3.binds (ps := ["self"]) fun _ _ _ _ _ _ us hl => by obtain ⟨_,rfl⟩ := len1 hl; rfl
  have Fm4 := fun_mk (st := sShopIsLying) lm4 cm4 km4
  have bm4 := Fm4.binds (ps := ["self","kind","turned"]) fun _ _ _ _ _ _ us hl => by obtain ⟨_,_,_,rfl⟩ := len3 hl; rfl
  have Fm5 := fun_mk (st := sShopSides) lm5 cm5 km5
  have bm5 := Fm5.binds (ps := ["self","kind","turned"]) fun _ _ _ _ _ _ us hl => by obtain ⟨_,_,_,rfl⟩ := len3 hl; rfl
  have y0 := mg_none_of X G z0
  have y1 := mg_none_of X G z1
  have y2 := mg_none_of X G z2
  have y3 := mg_none_of X G z3
  have y4 := mg_none_of X G z4
  have y5 := mg_none_of X G z5
  have y6 := mg_none_of X G z6
  have y7 := mg_none_of X G z7
  have y8 := mg_none_of X G z8
  have y9 := mg_none_of X G z9
  have y10 := mg_none_of X G z10
  have y11 := mg_none_of X G z11
  have y12 := mg_none_of X G z12
  have y13 := mg_none_of X G z13
  have y14 := mg_none_of X G z14
  have y15 := mg_none_of X G z15
  have y16 := mg_none_of X G z16
  have y17 := mg_none_of X G z17
  have y18 := mg_none_of X G z18
  have gNoLying := mg_of X G eNoLying
  have u0 := mg_of X G uc0
  have u1 := mg_of X G uc1
  have u2 := mg_of X G uc2
  have u3 := mg_of X G uc3
  have u4 := mg_of X G uc4
  have q0 := mg_of X G a0
  have q1 := mg_of X G a1
  have q2 := mg_of X G a2
  have q3 := mg_of X G a3
  have q4 := mg_of X G a4
  have q5 := mg_of X G a5
  have q6 := mg_of X G a6
  have q7 := mg_of X G a7
  have q8 := mg_of X G a8
  have q9 := mg_of X G a9
  have q10 := mg_of X G a10
  have q11 := mg_of X G a11
  have q12 := mg_of X G a12
  have q13 := mg_of X G a13
  have q14 := mg_of X G a14
  have q15 := mg_of X G a15
  have q16 := mg_of X G a16
  have q17 := mg_of X G a17
  have q18 := mg_of X G a18
  have q19 := mg_of X G a19
  have q20 := mg_of X G a20
  have q21 := mg_of X G a21
  have q22 := mg_of X G a22
  have q23 := mg_of X G a23
  have q24 := mg_of X G a24
  have q25 := mg_of X G a25
  have q26 := mg_of X G a26
  have q27 := mg_of X G a27
  have q28 := mg_of X G a28
  have q29 := mg_of X G a29
  have q30 := mg_of X G a30
  have q31 := mg_of X G a31
  have qC := mg_of X G aC
  refine ⟨fnOf "law" "law" (defArgs sLaw) (defBody sLaw) (defScope sLaw) .none kV31 dc31 pm31 an31 cd31 ct31,fun s v => .of_eq rfl,fun base _ _ => ?_⟩
  have B : Blt mg := ⟨y0,y1,y2,y3,y4,y5,y6,y7,y8,y9,y10,y11,y12,y13,y14,y15,y16,⟨_,u0⟩,⟨_,u1⟩⟩
  have T : ShopTxt K C := ⟨⟨pg,hd,po,sa⟩,n0,n1⟩
  have Z : BeC K mg C := ⟨⟨_,u2⟩,⟨_,u3⟩,⟨_,u4⟩⟩
  have D0 : Dn l.prog w K mg base "is_whole" ["thing","least"] 1 (spWhole K) := ⟨_,_,ok_whole F0 B,b0,k0,q0⟩
  have D1 : Dn l.prog w K mg base "is_truth" ["thing"] 1 (spTruth K) := ⟨_,_,ok_truth F1 B,b1,k1,q1⟩
  have D2 : Dn l.prog w K mg base "is_row" ["thing"] 1 (spRow K) := ⟨_,_,ok_row F2 B,b2,k2,q2⟩
  have D3 : Dn l.prog w K mg base "is_kind" ["thing"] 2 (spIsKind K) := ⟨_,_,ok_iskind F3 B D0 D1 D2,b3,k3,q3⟩
  have D4 : Dn l.prog w K mg base "can_lie_turned" ["kind"] 1 (spTurned K) := ⟨_,_,ok_turned F4,b4,k4,q4⟩
  have MB : Mn l.prog w K mg base C "blade" ["self"] 1 (spBlade C) := ⟨_,_,ok_blade Fm1 T,bm1,⟨am1,im1,km1⟩⟩
  have MK : Mn l.prog w K mg base C "kinds" ["self"] 1 (spKinds C) := ⟨_,_,ok_kinds Fm2 T y3,bm2,⟨am2,im2,km2⟩⟩
  have ML : Mn l.prog w K mg base C "lyings" ["self"] 2 (spLyings C) := ⟨_,_,ok_lyings Fm3 T y16 D4,bm3,⟨am3,im3,km3⟩⟩
  have MI : Mn l.prog w K mg base C "is_lying" ["self","kind","turned"] 2 (spIsLying K C) := ⟨_,_,ok_islying Fm4 B T D0 D1 D4,bm4,⟨am4,im4,km4⟩⟩
  have MS : MnX l.prog w K mg base C "sides" ["self","kind","turned"] 3 (spSides K C xNoLying) := ⟨_,_,ok_sides Fm5 T MI gNoLying cNoLying,bm5,⟨am5,im5,km5⟩⟩
  have DS : Kn l.prog w K mg base "Shop" C ["self","blade","kinds"] 3 (spInit C) := ⟨_,_,⟨mk,am0,im0,kc⟩,ok_init Fm0 B T D0 D2 D3,bm0,qC⟩
  have D5 : Dn l.prog w K mg base "check_plate" ["wide","high"] 2 (spCP) := ⟨_,_,ok_cplate F5 D0,b5,k5,q5⟩
  have D6 : Dn l.prog w K mg base "check_sides" ["wide","high","most"] 1 (spCS) := ⟨_,_,ok_csides F6,b6,k6,q6⟩
  have D7 : Dn l.prog w K mg base "lies_in" ["shop","wide","high","kind","turned","x","y"] 4 (spLies C) := ⟨_,_,ok_lies F7 T D0 MI MS,b7,k7,q7⟩
  have D8 : Dn l.prog w K mg base "lyings_in" ["shop","part"] 5 (spLyIn C) := ⟨_,_,ok_lyin F8 T ML D7,b8,k8,q8⟩
  have D9 : Dn l.prog w K mg base "parts_up_to" ["wide","high"] 1 (spParts) := ⟨_,_,ok_parts F9 B,b9,k9,q9⟩
  have D10 : Dn l.prog w K mg base "cut_parts" ["blade","part","way","p"] 1 (spParts2) := ⟨_,_,ok_parts2 F10 Z,b10,k10,q10⟩
  have D11 : Dn l.prog w K mg base "cuts_of" ["blade","part"] 2 (spCuts) := ⟨_,_,ok_cuts F11 B Z D10,b11,k11,q11⟩
  have D12 : Dn l.prog w K mg base "is_key" ["wide","high","thing"] 2 (spIsKey) := ⟨_,_,ok_iskey F12 B D0,b12,k12,q12⟩
  have D13 : Dn l.prog w K mg base "is_table" ["wide","high","thing"] 3 (spIsTab) := ⟨_,_,ok_istab F13 B y18 D0 D12,b13,k13,q13⟩
  have D14 : Dn l.prog w K mg base "bears_part" ["shop","part","table"] 6 (spBearsP C) := ⟨_,_,ok_bearsp F14 B T MB MK D8 D11,b14,k14,q14⟩
  have D15 : Dn l.prog w K mg base "bears" ["shop","wide","high","table"] 7 (spBearsT C) := ⟨_,_,ok_bearst F15 Z B D5 D6 D13 D14 D9,b15,k15,q15⟩
  have D16 : Dn l.prog w K mg base "_law_pot" ["_law_cell"] 1 (spPotB) := ⟨_,_,ok_pot F16 B,b16,k16,q16⟩
  have D17 : Dn l.prog w K mg base "_law_draw" ["_law_pot_here","_law_many"] 1 (spDrawB) := ⟨_,_,ok_draw F17 B,b17,k17,q17⟩
  have D18 : Dn l.prog w K mg base "_law_great" ["_law_pot_here","_law_many"] 2 (spGreatM) := ⟨_,_,ok_greatm F18 B D17,b18,k18,q18⟩
  have D19 : Dn l.prog w K mg base "_law_blade" ["_law_pot_here"] 3 (spBladeB) := ⟨_,_,ok_bladeb F19 B D17 D18,b19,k19,q19⟩
  have D20 : Dn l.prog w K mg base "_law_side" ["_law_pot_here"] 3 (spSideB) := ⟨_,_,ok_sidec F20 B D17 D18,b20,k20,q20⟩
  have D21 : Dn l.prog w K mg base "_law_number" ["_law_pot_here"] 3 (spNumB) := ⟨_,_,ok_numb F21 B D17 D18,b21,k21,q21⟩
  have D22 : Dn l.prog w K mg base "_law_kinds" ["_law_pot_here"] 4 (spKindsB) := ⟨_,_,ok_kindsn F22 B D17 D20 D21,b22,k22,q22⟩
  have D23 : Dn l.prog w K mg base "_law_plate" ["_law_pot_here"] 2 (spPlateB) := ⟨_,_,ok_platec F23 B D17,b23,k23,q23⟩
  have D24 : Dn l.prog w K mg base "_law_fitting" ["_law_kinds_here"] 1 (spFit) := ⟨_,_,ok_fitx F24 B,b24,k24,q24⟩
  have D25 : Dn l.prog w K mg base "_law_due" ["_law_blade_here","_law_fitting_here","_law_table_here","_law_wide","_law_high"] 1 (spDueF) := ⟨_,_,ok_duef F25 B,b25,k25,q25⟩
  have D26 : Dn l.prog w K mg base "_law_parts" ["_law_wide","_law_high"] 1 (spPartsL) := ⟨_,_,ok_partsl F26 B,b26,k26,q26⟩
  have D27 : Dn l.prog w K mg base "_law_table" ["_law_pot_here","_law_blade_here","_law_fitting_here","_law_parts_here"] 4 (spTable) := ⟨_,_,ok_table F27 B D17 D21 D25,b27,k27,q27⟩
  have D28 : Dn l.prog w K mg base "_law_bears" ["_law_blade_here","_law_fitting_here","_law_table_here"] 2 (spBearsL) := ⟨_,_,ok_bearsl F28 B D25,b28,k28,q28⟩
  have D29 : Dn l.prog w K mg base "_law_right" ["_law_shop","_law_plate_here","_law_table_here","_law_due_here"] 8 (spRightL C) := ⟨_,_,ok_rightl F29 B y18 D15,b29,k29,q29⟩
  have D30 : Dn l.prog w K mg base "_law_asked" ["_law_pot_here"] 9 (spRight) := ⟨_,_,ok_asked F30 B y18 D17 D19 D22 D23 D24 D26 D27 D28 D29 DS,b30,k30,q30⟩
  exact ok_law F31 B D16 D30
theorem walk {l : PySem.W.OpenLaw} {q : Program} {loose : List Str} {XP : (Str → Option Value) → Heap → Prop} {YP : World → Heap → Prop} {d : DefRec} {K : Params → PySem.W.Frag} (hn : l.most = some 63) (hdf : d.params.defaults = [])
    (hY : ∀ (w : World) (h : Heap),YP w h → (K w.params).In h)
    (F : ∀ (w : World) (mg : Str → Option Value) (fa : Addr) (h : Heap),(K w.params).In h → h.Ns mainGlobals mg → mg d.name = some (.ref fa) →
      ∃ fd : FuncData,(∀ (s : Shared) (u : Value),BindsTo s fd ⟨[u],[]⟩ [("_law_script",u)]) ∧ ∀ base : Heap,(K w.params).In base → base.Ns mainGlobals mg → FnOk l.prog w (K w.params) mg base CX0 10 fa fd ["_law_script"] (spLaw (K w.params))) :
    PySem.W.WalkO q loose XP YP l.row.toRowW d [] (fun f vs => PySem.call f vs) :=
  L2.walk_of (n := 63) (k := 10) (x := "_law_script") (CX := fun _ => CX0) (sp := fun w => spLaw (K w.params)) hn (by decide) hdf ⟨rfl,by decide,by decide,rfl⟩ hY F (fun _ _ a ns hl _ hS => ⟨a,ns,rfl,hS,hl,fun _ => rfl⟩) fun _ _ _ _ _ z => z
end Pc
namespace Pc
open PySem L2
section
open PySem.W
noncomputable def kE (P : Params) (n : Str) (t : Nat) (v : Value) : DictEntry := ⟨PyData.keyHash P n,.str n t,v⟩
noncomputable def kO3 (P : Params) : Obj := ⟨(.type "dict"),none,(.dict #[kE P "__name__" 165 (.str "law_platecuts_k44_tables_that_bear" 556),kE P "__doc__" 166 .none,kE P "__package__" 167 .none,kE P "__loader__" 168 (.builtin "__main__.__loader__#opaque"),kE P "__spec__" 169 .none,kE P "__annotations__" 170 (.ref 6),kE P "__builtins__" 171 (.ref 4),kE P "__file__" 173 (.str "/claim/cut.py" 172),kE P "__cached__" 174 .none,kE P "PlateError" 206 (.ref 24),kE P "NoBlade" 222 (.ref 37),kE P "NoKinds" 238 (.ref 49),kE P "NoKind" 254 (.ref 61),kE P "NoLying" 270 (.ref 73),kE P "NoPlate" 286 (.ref 85),kE P "TooLarge" 302 (.ref 97),kE P "NoTable" 318 (.ref 109),kE P "is_whole" 328 (.ref 118),kE P "is_truth" 335 (.ref 125),kE P "is_row" 342 (.ref 132),kE P "check_plate" 350 (.ref 139),kE P "check_sides" 359 (.ref 146),kE P "DOWN" 363 (.str "down" 362),kE P "ACROSS" 365 (.str "across" 364),kE P "lies_in" 380 (.ref 153),kE P "lyings_in" 386 (.ref 158),kE P "cut_parts" 398 (.ref 165),kE P "cuts_of" 404 (.ref 170),kE P "parts_up_to" 410 (.ref 175),kE P "MOST_SIDE" 412 (.int (16) 411),kE P "is_key" 425 (.ref 182),kE P "is_table" 431 (.ref 187),kE P "bears_part" 447 (.ref 194),kE P "bears" 453 (.ref 199),kE P "MOST_KINDS" 457 (.int (8) 456),kE P "THINGS_OF_A_KIND" 459 (.int (5) 458),kE P "is_kind" 471 (.ref 206),kE P "can_lie_turned" 478 (.ref 213),kE P "Shop" 555 (.ref 268),kE P "_law_pot" 564 (.ref 279),kE P "_law_draw" 573 (.ref 286),kE P "_law_great" 583 (.ref 293),kE P "_law_blade" 591 (.ref 300),kE P "_law_side" 599 (.ref 307),kE P "_law_number" 606 (.ref 314),kE P "_law_kinds" 617 (.ref 321),kE P "_law_plate" 627 (.ref 328),kE P "_law_fitting" 640 (.ref 335),kE P "_law_due" 646 (.ref 340),kE P "_law_parts" 652 (.ref 345),kE P "_law_table" 667 (.ref 352),kE P "_law_bears" 673 (.ref 357),kE P "_law_right" 685 (.ref 364),kE P "_law_asked" 691 (.ref 369),kE P "law" 699 (.ref 376)] 55),#[]⟩
noncomputable def kO23 (P : Params) : Obj := ⟨(.type "dict"),none,(.dict #[kE P "__module__" 196 (.str "platecuts.errors" 187),kE P "__firstlineno__" 200 (.int (2) 199),kE P "__static_attributes__" 201 (.ref 22),kE P "__weakref__" 203 (.ref 25),kE P "__doc__" 204 .none] 3),#[]⟩
noncomputable def kO24 (P : Params) : Obj := ⟨(.type "type"),none,(.cls ⟨"PlateError",[(.type "ValueError")],[(.ref 24),(.type "ValueError"),(.type "Exception"),(.type "BaseException"),(.type "object")],23,"PlateError",true,[],[(.ref 37),(.ref 49),(.ref 61),(.ref 73),(.ref 85),(.ref 97),(.ref 109)],false,none,false⟩),#[(some (.ref 15)),none,(some (.str "PlateError" 189)),(some (.str "PlateError" 197)),(some (.builtin "ValueError.__new__")),(some (.bool true))]⟩
noncomputable def kO36 (P : Params) : Obj := ⟨(.type "dict"),none,(.dict #[kE P "__module__" 214 (.str "platecuts.errors" 187),kE P "__firstlineno__" 218 (.int (4) 217),kE P "__static_attributes__" 219 (.ref 35),kE P "__doc__" 220 .none] 2),#[]⟩
noncomputable def kO37 (P : Params) : Obj := ⟨(.type "type"),none,(.cls ⟨"NoBlade",[(.ref 24)],[(.ref 37),(.ref 24),(.type "ValueError"),(.type "Exception"),(.type "BaseException"),(.type "object")],36,"NoBlade",true,[],[],false,none,false⟩),#[(some (.ref 28)),none,(some (.str "NoBlade" 207)),(some (.str "NoBlade" 215)),(some (.builtin "ValueError.__new__")),(some (.bool true))]⟩
noncomputable def kO48 (P : Params) : Obj := ⟨(.type "dict"),none,(.dict #[kE P "__module__" 230 (.str "platecuts.errors" 187),kE P "__firstlineno__" 234 (.int (6) 233),kE P "__static_attributes__" 235 (.ref 47),kE P "__doc__" 236 .none] 2),#[]⟩
noncomputable def kO49 (P : Params) : Obj := ⟨(.type "type"),none,(.cls ⟨"NoKinds",[(.ref 24)],[(.ref 49),(.ref 24),(.type "ValueError"),(.type "Exception"),(.type "BaseException"),(.type "object")],48,"NoKinds",true,[],[],false,none,false⟩),#[(some (.ref 40)),none,(some (.str "NoKinds" 223)),(some (.str "NoKinds" 231)),(some (.builtin "ValueError.__new__")),(some (.bool true))]⟩
noncomputable def kO60 (P : Params) : Obj := ⟨(.type "dict"),none,(.dict #[kE P "__module__" 246 (.str "platecuts.errors" 187),kE P "__firstlineno__" 250 (.int (8) 249),kE P "__static_attributes__" 251 (.ref 59),kE P "__doc__" 252 .none] 2),#[]⟩
noncomputable def kO61 (P : Params) : Obj := ⟨(.type "type"),none,(.cls ⟨"NoKind",[(.ref 24)],[(.ref 61),(.ref 24),(.type "ValueError"),(.type "Exception"),(.type "BaseException"),(.type "object")],60,"NoKind",true,[],[],false,none,false⟩),#[(some (.ref 52)),none,(some (.str "NoKind" 239)),(some (.str "NoKind" 247)),(some (.builtin "ValueError.__new__")),(some (.bool true))]⟩
noncomputable def kO72 (P : Params) : Obj := ⟨(.type "dict"),none,(.dict #[kE P "__module__" 262 (.str "platecuts.errors" 187),kE P "__firstlineno__" 266 (.int (10) 265),kE P "__static_attributes__" 267 (.ref 71),kE P "__doc__" 268 .none] 2),#[]⟩
noncomputable def kO73 (P : Params) : Obj := ⟨(.type "type"),none,(.cls ⟨"NoLying",[(.ref 24)],[(.ref 73),(.ref 24),(.type "ValueError"),(.type "Exception"),(.type "BaseException"),(.type "object")],72,"NoLying",true,[],[],false,none,false⟩),#[(some (.ref 64)),none,(some (.str "NoLying" 255)),(some (.str "NoLying" 263)),(some (.builtin "ValueError.__new__")),(some (.bool true))]⟩
noncomputable def kO84 (P : Params) : Obj := ⟨(.type "dict"),none,(.dict #[kE P "__module__" 278 (.str "platecuts.errors" 187),kE P "__firstlineno__" 282 (.int (12) 281),kE P "__static_attributes__" 283 (.ref 83),kE P "__doc__" 284 .none] 2),#[]⟩
noncomputable def kO85 (P : Params) : Obj := ⟨(.type "type"),none,(.cls ⟨"NoPlate",[(.ref 24)],[(.ref 85),(.ref 24),(.type "ValueError"),(.type "Exception"),(.type "BaseException"),(.type "object")],84,"NoPlate",true,[],[],false,none,false⟩),#[(some (.ref 76)),none,(some (.str "NoPlate" 271)),(some (.str "NoPlate" 279)),(some (.builtin "ValueError.__new__")),(some (.bool true))]⟩
noncomputable def kO96 (P : Params) : Obj := ⟨(.type "dict"),none,(.dict #[kE P "__module__" 294 (.str "platecuts.errors" 187),kE P "__firstlineno__" 298 (.int (14) 297),kE P "__static_attributes__" 299 (.ref 95),kE P "__doc__" 300 .none] 2),#[]⟩
noncomputable def kO97 (P : Params) : Obj := ⟨(.type "type"),none,(.cls ⟨"TooLarge",[(.ref 24)],[(.ref 97),(.ref 24),(.type "ValueError"),(.type "Exception"),(.type "BaseException"),(.type "object")],96,"TooLarge",true,[],[],false,none,false⟩),#[(some (.ref 88)),none,(some (.str "TooLarge" 287)),(some (.str "TooLarge" 295)),(some (.builtin "ValueError.__new__")),(some (.bool true))]⟩
noncomputable def kO108 (P : Params) : Obj := ⟨(.type "dict"),none,(.dict #[kE P "__module__" 310 (.str "platecuts.errors" 187),kE P "__firstlineno__" 314 (.int (16) 313),kE P "__static_attributes__" 315 (.ref 107),kE P "__doc__" 316 .none] 2),#[]⟩
noncomputable def kO109 (P : Params) : Obj := ⟨(.type "type"),none,(.cls ⟨"NoTable",[(.ref 24)],[(.ref 109),(.ref 24),(.type "ValueError"),(.type "Exception"),(.type "BaseException"),(.type "object")],108,"NoTable",true,[],[],false,none,false⟩),#[(some (.ref 100)),none,(some (.str "NoTable" 303)),(some (.str "NoTable" 311)),(some (.builtin "ValueError.__new__")),(some (.bool true))]⟩
noncomputable def kO117 (P : Params) : Obj := ⟨(.type "code"),none,(.fields #[(.str "is_whole" 321),(.str "is_whole" 322),(.str "/claim/cut.py" 323),(.int (19) 0),(.int (2) 0),(.int (0) 0),(.int (0) 0),(.int (3) 0),(.ref 112),(.bool true),(.int (181) 0),(.ref 113),.none,(.ref 114),(.ref 115),(.ref 116),(.int (326) 0),(.int (19) 0),(.str "/claim/cut.py" 327)]),#[]⟩
noncomputable def kO118 (P : Params) : Obj := ⟨(.type "function"),none,(.func (fnOf "is_whole" "is_whole" (defArgs sWhole) (defBody sWhole) (defScope sWhole) .none .none .none (.str "platecuts.checks" 319) none (.ref 117) .none)),#[]⟩
noncomputable def kO124 (P : Params) : Obj := ⟨(.type "code"),none,(.fields #[(.str "is_truth" 329),(.str "is_truth" 330),(.str "/claim/cut.py" 331),(.int (21) 0),(.int (1) 0),(.int (0) 0),(.int (0) 0),(.int (3) 0),(.ref 119),(.bool true),(.int (181) 0),(.ref 120),.none,(.ref 121),(.ref 122),(.ref 123),(.int (333) 0),(.int (21) 0),(.str "/claim/cut.py" 334)]),#[]⟩
noncomputable def kO125 (P : Params) : Obj := ⟨(.type "function"),none,(.func (fnOf "is_truth" "is_truth" (defArgs sTruth) (defBody sTruth) (defScope sTruth) .none .none .none (.str "platecuts.checks" 319) none (.ref 124) .none)),#[]⟩
noncomputable def kO131 (P : Params) : Obj := ⟨(.type "code"),none,(.fields #[(.str "is_row" 336),(.str "is_row" 337),(.str "/claim/cut.py" 338),(.int (23) 0),(.int (1) 0),(.int (0) 0),(.int (0) 0),(.int (3) 0),(.ref 126),(.bool true),(.int (181) 0),(.ref 127),.none,(.ref 128),(.ref 129),(.ref 130),(.int (340) 0),(.int (23) 0),(.str "/claim/cut.py" 341)]),#[]⟩
noncomputable def kO132 (P : Params) : Obj := ⟨(.type "function"),none,(.func (fnOf "is_row" "is_row" (defArgs sRow) (defBody sRow) (defScope sRow) .none .none .none (.str "platecuts.checks" 319) none (.ref 131) .none)),#[]⟩
noncomputable def kO138 (P : Params) : Obj := ⟨(.type "code"),none,(.fields #[(.str "check_plate" 343),(.str "check_plate" 344),(.str "/claim/cut.py" 345),(.int (25) 0),(.int (2) 0),(.int (0) 0),(.int (0) 0),(.int (3) 0),(.ref 133),(.bool true),(.int (181) 0),(.ref 134),.none,(.ref 135),(.ref 136),(.ref 137),(.int (348) 0),(.int (25) 0),(.str "/claim/cut.py" 349)]),#[]⟩
noncomputable def kO139 (P : Params) : Obj := ⟨(.type "function"),none,(.func (fnOf "check_plate" "check_plate" (defArgs sCheckPlate) (defBody sCheckPlate) (defScope sCheckPlate) .none .none .none (.str "platecuts.checks" 319) none (.ref 138) .none)),#[]⟩
noncomputable def kO145 (P : Params) : Obj := ⟨(.type "code"),none,(.fields #[(.str "check_sides" 351),(.str "check_sides" 352),(.str "/claim/cut.py" 353),(.int (28) 0),(.int (3) 0),(.int (0) 0),(.int (0) 0),(.int (3) 0),(.ref 140),(.bool true),(.int (181) 0),(.ref 141),.none,(.ref 142),(.ref 143),(.ref 144),(.int (357) 0),(.int (28) 0),(.str "/claim/cut.py" 358)]),#[]⟩
noncomputable def kO146 (P : Params) : Obj := ⟨(.type "function"),none,(.func (fnOf "check_sides" "check_sides" (defArgs sCheckSides) (defBody sCheckSides) (defScope sCheckSides) .none .none .none (.str "platecuts.checks" 319) none (.ref 145) .none)),#[]⟩
noncomputable def kO152 (P : Params) : Obj := ⟨(.type "code"),none,(.fields #[(.str "lies_in" 366),(.str "lies_in" 367),(.str "/claim/cut.py" 368),(.int (34) 0),(.int (7) 0),(.int (0) 0),(.int (0) 0),(.int (3) 0),(.ref 147),(.bool true),(.int (181) 0),(.ref 148),.none,(.ref 149),(.ref 150),(.ref 151),(.int (378) 0),(.int (34) 0),(.str "/claim/cut.py" 379)]),#[]⟩
noncomputable def kO153 (P : Params) : Obj := ⟨(.type "function"),none,(.func (fnOf "lies_in" "lies_in" (defArgs sLiesIn) (defBody sLiesIn) (defScope sLiesIn) .none .none .none (.str "platecuts.parts" 360) none (.ref 152) .none)),#[]⟩
noncomputable def kO157 (P : Params) : Obj := ⟨(.type "code"),none,(.fields #[(.str "lyings_in" 381),(.str "lyings_in" 382),(.str "/claim/cut.py" 383),(.int (39) 0),(.int (2) 0),(.int (0) 0),(.int (0) 0),(.int (3) 0),(.ref 154),(.bool true),(.int (181) 0),(.ref 155),.none,.none,.none,(.ref 156),(.int (384) 0),(.int (39) 0),(.str "/claim/cut.py" 385)]),#[]⟩
noncomputable def kO158 (P : Params) : Obj := ⟨(.type "function"),none,(.func (fnOf "lyings_in" "lyings_in" (defArgs sLyingsIn) (defBody sLyingsIn) (defScope sLyingsIn) .none .none .none (.str "platecuts.parts" 360) none (.ref 157) .none)),#[]⟩
noncomputable def kO164 (P : Params) : Obj := ⟨(.type "code"),none,(.fields #[(.str "cut_parts" 387),(.str "cut_parts" 388),(.str "/claim/cut.py" 389),(.int (42) 0),(.int (4) 0),(.int (0) 0),(.int (0) 0),(.int (3) 0),(.ref 159),(.bool true),(.int (181) 0),(.ref 160),.none,(.ref 161),(.ref 162),(.ref 163),(.int (396) 0),(.int (42) 0),(.str "/claim/cut.py" 397)]),#[]⟩
noncomputable def kO165 (P : Params) : Obj := ⟨(.type "function"),none,(.func (fnOf "cut_parts" "cut_parts" (defArgs sCutParts) (defBody sCutParts) (defScope sCutParts) .none .none .none (.str "platecuts.parts" 360) none (.ref 164) .none)),#[]⟩
noncomputable def kO169 (P : Params) : Obj := ⟨(.type "code"),none,(.fields #[(.str "cuts_of" 399),(.str "cuts_of" 400),(.str "/claim/cut.py" 401),(.int (47) 0),(.int (2) 0),(.int (0) 0),(.int (0) 0),(.int (3) 0),(.ref 166),(.bool true),(.int (181) 0),(.ref 167),.none,.none,.none,(.ref 168),(.int (402) 0),(.int (47) 0),(.str "/claim/cut.py" 403)]),#[]⟩
noncomputable def kO170 (P : Params) : Obj := ⟨(.type "function"),none,(.func (fnOf "cuts_of" "cuts_of" (defArgs sCutsOf) (defBody sCutsOf) (defScope sCutsOf) .none .none .none (.str "platecuts.parts" 360) none (.ref 169) .none)),#[]⟩
noncomputable def kO174 (P : Params) : Obj := ⟨(.type "code"),none,(.fields #[(.str "parts_up_to" 405),(.str "parts_up_to" 406),(.str "/claim/cut.py" 407),(.int (51) 0),(.int (2) 0),(.int (0) 0),(.int (0) 0),(.int (3) 0),(.ref 171),(.bool true),(.int (181) 0),(.ref 172),.none,.none,.none,(.ref 173),(.int (408) 0),(.int (51) 0),(.str "/claim/cut.py" 409)]),#[]⟩
noncomputable def kO175 (P : Params) : Obj := ⟨(.type "function"),none,(.func (fnOf "parts_up_to" "parts_up_to" (defArgs sPartsUpTo) (defBody sPartsUpTo) (defScope sPartsUpTo) .none .none .none (.str "platecuts.parts" 360) none (.ref 174) .none)),#[]⟩
noncomputable def kO181 (P : Params) : Obj := ⟨(.type "code"),none,(.fields #[(.str "is_key" 415),(.str "is_key" 416),(.str "/claim/cut.py" 417),(.int (55) 0),(.int (3) 0),(.int (0) 0),(.int (0) 0),(.int (3) 0),(.ref 176),(.bool true),(.int (181) 0),(.ref 177),.none,(.ref 178),(.ref 179),(.ref 180),(.int (423) 0),(.int (55) 0),(.str "/claim/cut.py" 424)]),#[]⟩
noncomputable def kO182 (P : Params) : Obj := ⟨(.type "function"),none,(.func (fnOf "is_key" "is_key" (defArgs sIsKey) (defBody sIsKey) (defScope sIsKey) .none .none .none (.str "platecuts.tables" 413) none (.ref 181) .none)),#[]⟩
noncomputable def kO186 (P : Params) : Obj := ⟨(.type "code"),none,(.fields #[(.str "is_table" 426),(.str "is_table" 427),(.str "/claim/cut.py" 428),(.int (60) 0),(.int (3) 0),(.int (0) 0),(.int (0) 0),(.int (3) 0),(.ref 183),(.bool true),(.int (181) 0),(.ref 184),.none,.none,.none,(.ref 185),(.int (429) 0),(.int (60) 0),(.str "/claim/cut.py" 430)]),#[]⟩
noncomputable def kO187 (P : Params) : Obj := ⟨(.type "function"),none,(.func (fnOf "is_table" "is_table" (defArgs sIsTable) (defBody sIsTable) (defScope sIsTable) .none .none .none (.str "platecuts.tables" 413) none (.ref 186) .none)),#[]⟩
noncomputable def kO193 (P : Params) : Obj := ⟨(.type "code"),none,(.fields #[(.str "bears_part" 432),(.str "bears_part" 433),(.str "/claim/cut.py" 434),(.int (64) 0),(.int (3) 0),(.int (0) 0),(.int (0) 0),(.int (3) 0),(.ref 188),(.bool true),(.int (181) 0),(.ref 189),.none,(.ref 190),(.ref 191),(.ref 192),(.int (445) 0),(.int (64) 0),(.str "/claim/cut.py" 446)]),#[]⟩
noncomputable def kO194 (P : Params) : Obj := ⟨(.type "function"),none,(.func (fnOf "bears_part" "bears_part" (defArgs sBearsPart) (defBody sBearsPart) (defScope sBearsPart) .none .none .none (.str "platecuts.tables" 413) none (.ref 193) .none)),#[]⟩
noncomputable def kO198 (P : Params) : Obj := ⟨(.type "code"),none,(.fields #[(.str "bears" 448),(.str "bears" 449),(.str "/claim/cut.py" 450),(.int (73) 0),(.int (4) 0),(.int (0) 0),(.int (0) 0),(.int (3) 0),(.ref 195),(.bool true),(.int (181) 0),(.ref 196),.none,.none,.none,(.ref 197),(.int (451) 0),(.int (73) 0),(.str "/claim/cut.py" 452)]),#[]⟩
noncomputable def kO199 (P : Params) : Obj := ⟨(.type "function"),none,(.func (fnOf "bears" "bears" (defArgs sBears) (defBody sBears) (defScope sBears) .none .none .none (.str "platecuts.tables" 413) none (.ref 198) .none)),#[]⟩
noncomputable def kO205 (P : Params) : Obj := ⟨(.type "code"),none,(.fields #[(.str "is_kind" 460),(.str "is_kind" 461),(.str "/claim/cut.py" 462),(.int (82) 0),(.int (1) 0),(.int (0) 0),(.int (0) 0),(.int (3) 0),(.ref 200),(.bool true),(.int (181) 0),(.ref 201),.none,(.ref 202),(.ref 203),(.ref 204),(.int (469) 0),(.int (82) 0),(.str "/claim/cut.py" 470)]),#[]⟩
noncomputable def kO206 (P : Params) : Obj := ⟨(.type "function"),none,(.func (fnOf "is_kind" "is_kind" (defArgs sIsKind) (defBody sIsKind) (defScope sIsKind) .none .none .none (.str "platecuts.shops" 454) none (.ref 205) .none)),#[]⟩
noncomputable def kO212 (P : Params) : Obj := ⟨(.type "code"),none,(.fields #[(.str "can_lie_turned" 472),(.str "can_lie_turned" 473),(.str "/claim/cut.py" 474),(.int (89) 0),(.int (1) 0),(.int (0) 0),(.int (0) 0),(.int (3) 0),(.ref 207),(.bool true),(.int (181) 0),(.ref 208),.none,(.ref 209),(.ref 210),(.ref 211),(.int (476) 0),(.int (89) 0),(.str "/claim/cut.py" 477)]),#[]⟩
noncomputable def kO213 (P : Params) : Obj := ⟨(.type "function"),none,(.func (fnOf "can_lie_turned" "can_lie_turned" (defArgs sTurned) (defBody sTurned) (defScope sTurned) .none .none .none (.str "platecuts.shops" 454) none (.ref 212) .none)),#[]⟩
noncomputable def kO224 (P : Params) : Obj := ⟨(.type "code"),none,(.fields #[(.str "__init__" 491),(.str "Shop.__init__" 492),(.str "/claim/cut.py" 493),(.int (93) 0),(.int (3) 0),(.int (0) 0),(.int (0) 0),(.int (3) 0),(.ref 221),(.bool true),(.int (181) 0),(.ref 222),.none,.none,.none,(.ref 223),(.int (494) 0),(.int (93) 0),(.str "/claim/cut.py" 495)]),#[]⟩
noncomputable def kO225 (P : Params) : Obj := ⟨(.type "function"),none,(.func (fnOf "__init__" "Shop.__init__" (defArgs sShopInit) (defBody sShopInit) (defScope sShopInit) .none .none .none (.str "platecuts.shops" 454) none (.ref 224) .none)),#[]⟩
noncomputable def kO231 (P : Params) : Obj := ⟨(.type "code"),none,(.fields #[(.str "blade" 497),(.str "Shop.blade" 498),(.str "/claim/cut.py" 499),(.int (104) 0),(.int (1) 0),(.int (0) 0),(.int (0) 0),(.int (3) 0),(.ref 226),(.bool true),(.int (181) 0),(.ref 227),.none,(.ref 228),(.ref 229),(.ref 230),(.int (501) 0),(.int (104) 0),(.str "/claim/cut.py" 502)]),#[]⟩
noncomputable def kO232 (P : Params) : Obj := ⟨(.type "function"),none,(.func (fnOf "blade" "Shop.blade" (defArgs sShopBlade) (defBody sShopBlade) (defScope sShopBlade) .none .none .none (.str "platecuts.shops" 454) none (.ref 231) .none)),#[]⟩
noncomputable def kO238 (P : Params) : Obj := ⟨(.type "code"),none,(.fields #[(.str "kinds" 504),(.str "Shop.kinds" 505),(.str "/claim/cut.py" 506),(.int (107) 0),(.int (1) 0),(.int (0) 0),(.int (0) 0),(.int (3) 0),(.ref 233),(.bool true),(.int (181) 0),(.ref 234),.none,(.ref 235),(.ref 236),(.ref 237),(.int (508) 0),(.int (107) 0),(.str "/claim/cut.py" 509)]),#[]⟩
noncomputable def kO239 (P : Params) : Obj := ⟨(.type "function"),none,(.func (fnOf "kinds" "Shop.kinds" (defArgs sShopKinds) (defBody sShopKinds) (defScope sShopKinds) .none .none .none (.str "platecuts.shops" 454) none (.ref 238) .none)),#[]⟩
noncomputable def kO243 (P : Params) : Obj := ⟨(.type "code"),none,(.fields #[(.str "wanted" 511),(.str "Shop.wanted" 512),(.str "/claim/cut.py" 513),(.int (110) 0),(.int (1) 0),(.int (0) 0),(.int (0) 0),(.int (3) 0),(.ref 240),(.bool true),(.int (181) 0),(.ref 241),.none,.none,.none,(.ref 242),(.int (514) 0),(.int (110) 0),(.str "/claim/cut.py" 515)]),#[]⟩
noncomputable def kO244 (P : Params) : Obj := ⟨(.type "function"),none,(.func (fnOf "wanted" "Shop.wanted" (defArgs sShopWanted) (defBody sShopWanted) (defScope sShopWanted) .none .none .none (.str "platecuts.shops" 454) none (.ref 243) .none)),#[]⟩
noncomputable def kO250 (P : Params) : Obj := ⟨(.type "code"),none,(.fields #[(.str "lyings" 517),(.str "Shop.lyings" 518),(.str "/claim/cut.py" 519),(.int (113) 0),(.int (1) 0),(.int (0) 0),(.int (0) 0),(.int (3) 0),(.ref 245),(.bool true),(.int (181) 0),(.ref 246),.none,(.ref 247),(.ref 248),(.ref 249),(.int (524) 0),(.int (113) 0),(.str "/claim/cut.py" 525)]),#[]⟩
noncomputable def kO251 (P : Params) : Obj := ⟨(.type "function"),none,(.func (fnOf "lyings" "Shop.lyings" (defArgs sShopLyings) (defBody sShopLyings) (defScope sShopLyings) .none .none .none (.str "platecuts.shops" 454) none (.ref 250) .none)),#[]⟩
noncomputable def kO257 (P : Params) : Obj := ⟨(.type "code"),none,(.fields #[(.str "is_lying" 527),(.str "Shop.is_lying" 528),(.str "/claim/cut.py" 529),(.int (121) 0),(.int (3) 0),(.int (0) 0),(.int (0) 0),(.int (3) 0),(.ref 252),(.bool true),(.int (181) 0),(.ref 253),.none,(.ref 254),(.ref 255),(.ref 256),(.int (533) 0),(.int (121) 0),(.str "/claim/cut.py" 534)]),#[]⟩
noncomputable def kO258 (P : Params) : Obj := ⟨(.type "function"),none,(.func (fnOf "is_lying" "Shop.is_lying" (defArgs sShopIsLying) (defBody sShopIsLying) (defScope sShopIsLying) .none .none .none (.str "platecuts.shops" 454) none (.ref 257) .none)),#[]⟩
noncomputable def kO264 (P : Params) : Obj := ⟨(.type "code"),none,(.fields #[(.str "sides" 536),(.str "Shop.sides" 537),(.str "/claim/cut.py" 538),(.int (126) 0),(.int (3) 0),(.int (0) 0),(.int (0) 0),(.int (3) 0),(.ref 259),(.bool true),(.int (181) 0),(.ref 260),.none,(.ref 261),(.ref 262),(.ref 263),(.int (543) 0),(.int (126) 0),(.str "/claim/cut.py" 544)]),#[]⟩
noncomputable def kO265 (P : Params) : Obj := ⟨(.type "function"),none,(.func (fnOf "sides" "Shop.sides" (defArgs sShopSides) (defBody sShopSides) (defScope sShopSides) .none .none .none (.str "platecuts.shops" 454) none (.ref 264) .none)),#[]⟩
noncomputable def kO267 (P : Params) : Obj := ⟨(.type "dict"),none,(.dict #[kE P "__module__" 486 (.str "platecuts.shops" 454),kE P "__firstlineno__" 490 (.int (91) 489),kE P "__init__" 496 (.ref 225),kE P "blade" 503 (.ref 232),kE P "kinds" 510 (.ref 239),kE P "wanted" 516 (.ref 244),kE P "lyings" 526 (.ref 251),kE P "is_lying" 535 (.ref 258),kE P "sides" 545 (.ref 265),kE P "__static_attributes__" 548 (.ref 266),kE P "__dict__" 550 (.ref 269),kE P "__weakref__" 552 (.ref 270),kE P "__doc__" 553 .none] 4),#[]⟩
noncomputable def kO268 (P : Params) : Obj := ⟨(.type "type"),none,(.cls ⟨"Shop",[(.type "object")],[(.ref 268),(.type "object")],267,"Shop",true,[],[],false,none,false⟩),#[none,none,(some (.str "Shop" 479)),(some (.str "Shop" 487)),(some (.builtin "object.__new__")),(some (.bool true))]⟩
noncomputable def kO278 (P : Params) : Obj := ⟨(.type "code"),none,(.fields #[(.str "_law_pot" 558),(.str "_law_pot" 559),(.str "/claim/cut.py" 560),(.int (134) 0),(.int (1) 0),(.int (0) 0),(.int (0) 0),(.int (3) 0),(.ref 273),(.bool true),(.int (181) 0),(.ref 274),.none,(.ref 275),(.ref 276),(.ref 277),(.int (562) 0),(.int (134) 0),(.str "/claim/cut.py" 563)]),#[]⟩
noncomputable def kO279 (P : Params) : Obj := ⟨(.type "function"),none,(.func (fnOf "_law_pot" "_law_pot" (defArgs sPot) (defBody sPot) (defScope sPot) .none .none .none (.str "law_platecuts_k44_tables_that_bear" 556) none (.ref 278) .none)),#[]⟩
noncomputable def kO285 (P : Params) : Obj := ⟨(.type "code"),none,(.fields #[(.str "_law_draw" 565),(.str "_law_draw" 566),(.str "/claim/cut.py" 567),(.int (136) 0),(.int (2) 0),(.int (0) 0),(.int (0) 0),(.int (3) 0),(.ref 280),(.bool true),(.int (181) 0),(.ref 281),.none,(.ref 282),(.ref 283),(.ref 284),(.int (571) 0),(.int (136) 0),(.str "/claim/cut.py" 572)]),#[]⟩
noncomputable def kO286 (P : Params) : Obj := ⟨(.type "function"),none,(.func (fnOf "_law_draw" "_law_draw" (defArgs sDraw) (defBody sDraw) (defScope sDraw) .none .none .none (.str "law_platecuts_k44_tables_that_bear" 556) none (.ref 285) .none)),#[]⟩
noncomputable def kO292 (P : Params) : Obj := ⟨(.type "code"),none,(.fields #[(.str "_law_great" 574),(.str "_law_great" 575),(.str "/claim/cut.py" 576),(.int (143) 0),(.int (2) 0),(.int (0) 0),(.int (0) 0),(.int (3) 0),(.ref 287),(.bool true),(.int (181) 0),(.ref 288),.none,(.ref 289),(.ref 290),(.ref 291),(.int (581) 0),(.int (143) 0),(.str "/claim/cut.py" 582)]),#[]⟩
noncomputable def kO293 (P : Params) : Obj := ⟨(.type "function"),none,(.func (fnOf "_law_great" "_law_great" (defArgs sGreat) (defBody sGreat) (defScope sGreat) .none .none .none (.str "law_platecuts_k44_tables_that_bear" 556) none (.ref 292) .none)),#[]⟩
noncomputable def kO299 (P : Params) : Obj := ⟨(.type "code"),none,(.fields #[(.str "_law_blade" 584),(.str "_law_blade" 585),(.str "/claim/cut.py" 586),(.int (150) 0),(.int (1) 0),(.int (0) 0),(.int (0) 0),(.int (3) 0),(.ref 294),(.bool true),(.int (181) 0),(.ref 295),.none,(.ref 296),(.ref 297),(.ref 298),(.int (589) 0),(.int (150) 0),(.str "/claim/cut.py" 590)]),#[]⟩
noncomputable def kO300 (P : Params) : Obj := ⟨(.type "function"),none,(.func (fnOf "_law_blade" "_law_blade" (defArgs sBlade) (defBody sBlade) (defScope sBlade) .none .none .none (.str "law_platecuts_k44_tables_that_bear" 556) none (.ref 299) .none)),#[]⟩
noncomputable def kO306 (P : Params) : Obj := ⟨(.type "code"),none,(.fields #[(.str "_law_side" 592),(.str "_law_side" 593),(.str "/claim/cut.py" 594),(.int (155) 0),(.int (1) 0),(.int (0) 0),(.int (0) 0),(.int (3) 0),(.ref 301),(.bool true),(.int (181) 0),(.ref 302),.none,(.ref 303),(.ref 304),(.ref 305),(.int (597) 0),(.int (155) 0),(.str "/claim/cut.py" 598)]),#[]⟩
noncomputable def kO307 (P : Params) : Obj := ⟨(.type "function"),none,(.func (fnOf "_law_side" "_law_side" (defArgs sSide) (defBody sSide) (defScope sSide) .none .none .none (.str "law_platecuts_k44_tables_that_bear" 556) none (.ref 306) .none)),#[]⟩
noncomputable def kO313 (P : Params) : Obj := ⟨(.type "code"),none,(.fields #[(.str "_law_number" 600),(.str "_law_number" 601),(.str "/claim/cut.py" 602),(.int (160) 0),(.int (1) 0),(.int (0) 0),(.int (0) 0),(.int (3) 0),(.ref 308),(.bool true),(.int (181) 0),(.ref 309),.none,(.ref 310),(.ref 311),(.ref 312),(.int (604) 0),(.int (160) 0),(.str "/claim/cut.py" 605)]),#[]⟩
noncomputable def kO314 (P : Params) : Obj := ⟨(.type "function"),none,(.func (fnOf "_law_number" "_law_number" (defArgs sNumber) (defBody sNumber) (defScope sNumber) .none .none .none (.str "law_platecuts_k44_tables_that_bear" 556) none (.ref 313) .none)),#[]⟩
noncomputable def kO320 (P : Params) : Obj := ⟨(.type "code"),none,(.fields #[(.str "_law_kinds" 607),(.str "_law_kinds" 608),(.str "/claim/cut.py" 609),(.int (164) 0),(.int (1) 0),(.int (0) 0),(.int (0) 0),(.int (3) 0),(.ref 315),(.bool true),(.int (181) 0),(.ref 316),.none,(.ref 317),(.ref 318),(.ref 319),(.int (615) 0),(.int (164) 0),(.str "/claim/cut.py" 616)]),#[]⟩
noncomputable def kO321 (P : Params) : Obj := ⟨(.type "function"),none,(.func (fnOf "_law_kinds" "_law_kinds" (defArgs sKinds) (defBody sKinds) (defScope sKinds) .none .none .none (.str "law_platecuts_k44_tables_that_bear" 556) none (.ref 320) .none)),#[]⟩
noncomputable def kO327 (P : Params) : Obj := ⟨(.type "code"),none,(.fields #[(.str "_law_plate" 618),(.str "_law_plate" 619),(.str "/claim/cut.py" 620),(.int (170) 0),(.int (1) 0),(.int (0) 0),(.int (0) 0),(.int (3) 0),(.ref 322),(.bool true),(.int (181) 0),(.ref 323),.none,(.ref 324),(.ref 325),(.ref 326),(.int (625) 0),(.int (170) 0),(.str "/claim/cut.py" 626)]),#[]⟩
noncomputable def kO328 (P : Params) : Obj := ⟨(.type "function"),none,(.func (fnOf "_law_plate" "_law_plate" (defArgs sPlate) (defBody sPlate) (defScope sPlate) .none .none .none (.str "law_platecuts_k44_tables_that_bear" 556) none (.ref 327) .none)),#[]⟩
noncomputable def kO334 (P : Params) : Obj := ⟨(.type "code"),none,(.fields #[(.str "_law_fitting" 628),(.str "_law_fitting" 629),(.str "/claim/cut.py" 630),(.int (176) 0),(.int (1) 0),(.int (0) 0),(.int (0) 0),(.int (3) 0),(.ref 329),(.bool true),(.int (181) 0),(.ref 330),.none,(.ref 331),(.ref 332),(.ref 333),(.int (638) 0),(.int (176) 0),(.str "/claim/cut.py" 639)]),#[]⟩
noncomputable def kO335 (P : Params) : Obj := ⟨(.type "function"),none,(.func (fnOf "_law_fitting" "_law_fitting" (defArgs sFitting) (defBody sFitting) (defScope sFitting) .none .none .none (.str "law_platecuts_k44_tables_that_bear" 556) none (.ref 334) .none)),#[]⟩
noncomputable def kO339 (P : Params) : Obj := ⟨(.type "code"),none,(.fields #[(.str "_law_due" 641),(.str "_law_due" 642),(.str "/claim/cut.py" 643),(.int (183) 0),(.int (5) 0),(.int (0) 0),(.int (0) 0),(.int (3) 0),(.ref 336),(.bool true),(.int (181) 0),(.ref 337),.none,.none,.none,(.ref 338),(.int (644) 0),(.int (183) 0),(.str "/claim/cut.py" 645)]),#[]⟩
noncomputable def kO340 (P : Params) : Obj := ⟨(.type "function"),none,(.func (fnOf "_law_due" "_law_due" (defArgs sDue) (defBody sDue) (defScope sDue) .none .none .none (.str "law_platecuts_k44_tables_that_bear" 556) none (.ref 339) .none)),#[]⟩
noncomputable def kO344 (P : Params) : Obj := ⟨(.type "code"),none,(.fields #[(.str "_law_parts" 647),(.str "_law_parts" 648),(.str "/claim/cut.py" 649),(.int (191) 0),(.int (2) 0),(.int (0) 0),(.int (0) 0),(.int (3) 0),(.ref 341),(.bool true),(.int (181) 0),(.ref 342),.none,.none,.none,(.ref 343),(.int (650) 0),(.int (191) 0),(.str "/claim/cut.py" 651)]),#[]⟩
noncomputable def kO345 (P : Params) : Obj := ⟨(.type "function"),none,(.func (fnOf "_law_parts" "_law_parts" (defArgs sParts) (defBody sParts) (defScope sParts) .none .none .none (.str "law_platecuts_k44_tables_that_bear" 556) none (.ref 344) .none)),#[]⟩
noncomputable def kO351 (P : Params) : Obj := ⟨(.type "code"),none,(.fields #[(.str "_law_table" 653),(.str "_law_table" 654),(.str "/claim/cut.py" 655),(.int (193) 0),(.int (4) 0),(.int (0) 0),(.int (0) 0),(.int (3) 0),(.ref 346),(.bool true),(.int (181) 0),(.ref 347),.none,(.ref 348),(.ref 349),(.ref 350),(.int (665) 0),(.int (193) 0),(.str "/claim/cut.py" 666)]),#[]⟩
noncomputable def kO352 (P : Params) : Obj := ⟨(.type "function"),none,(.func (fnOf "_law_table" "_law_table" (defArgs sTable) (defBody sTable) (defScope sTable) .none .none .none (.str "law_platecuts_k44_tables_that_bear" 556) none (.ref 351) .none)),#[]⟩
noncomputable def kO356 (P : Params) : Obj := ⟨(.type "code"),none,(.fields #[(.str "_law_bears" 668),(.str "_law_bears" 669),(.str "/claim/cut.py" 670),(.int (208) 0),(.int (3) 0),(.int (0) 0),(.int (0) 0),(.int (3) 0),(.ref 353),(.bool true),(.int (181) 0),(.ref 354),.none,.none,.none,(.ref 355),(.int (671) 0),(.int (208) 0),(.str "/claim/cut.py" 672)]),#[]⟩
noncomputable def kO357 (P : Params) : Obj := ⟨(.type "function"),none,(.func (fnOf "_law_bears" "_law_bears" (defArgs sLBears) (defBody sLBears) (defScope sLBears) .none .none .none (.str "law_platecuts_k44_tables_that_bear" 556) none (.ref 356) .none)),#[]⟩
noncomputable def kO363 (P : Params) : Obj := ⟨(.type "code"),none,(.fields #[(.str "_law_right" 674),(.str "_law_right" 675),(.str "/claim/cut.py" 676),(.int (210) 0),(.int (4) 0),(.int (0) 0),(.int (0) 0),(.int (3) 0),(.ref 358),(.bool true),(.int (181) 0),(.ref 359),.none,(.ref 360),(.ref 361),(.ref 362),(.int (683) 0),(.int (210) 0),(.str "/claim/cut.py" 684)]),#[]⟩
noncomputable def kO364 (P : Params) : Obj := ⟨(.type "function"),none,(.func (fnOf "_law_right" "_law_right" (defArgs sRight) (defBody sRight) (defScope sRight) .none .none .none (.str "law_platecuts_k44_tables_that_bear" 556) none (.ref 363) .none)),#[]⟩
noncomputable def kO368 (P : Params) : Obj := ⟨(.type "code"),none,(.fields #[(.str "_law_asked" 686),(.str "_law_asked" 687),(.str "/claim/cut.py" 688),(.int (214) 0),(.int (1) 0),(.int (0) 0),(.int (0) 0),(.int (3) 0),(.ref 365),(.bool true),(.int (181) 0),(.ref 366),.none,.none,.none,(.ref 367),(.int (689) 0),(.int (214) 0),(.str "/claim/cut.py" 690)]),#[]⟩
noncomputable def kO369 (P : Params) : Obj := ⟨(.type "function"),none,(.func (fnOf "_law_asked" "_law_asked" (defArgs sAsked) (defBody sAsked) (defScope sAsked) .none .none .none (.str "law_platecuts_k44_tables_that_bear" 556) none (.ref 368) .none)),#[]⟩
noncomputable def kO375 (P : Params) : Obj := ⟨(.type "code"),none,(.fields #[(.str "law" 692),(.str "law" 693),(.str "/claim/cut.py" 694),(.int (241) 0),(.int (1) 0),(.int (0) 0),(.int (0) 0),(.int (3) 0),(.ref 370),(.bool true),(.int (181) 0),(.ref 371),.none,(.ref 372),(.ref 373),(.ref 374),(.int (697) 0),(.int (241) 0),(.str "/claim/cut.py" 698)]),#[]⟩
noncomputable def kO376 (P : Params) : Obj := ⟨(.type "function"),none,(.func (fnOf "law" "law" (defArgs sLaw) (defBody sLaw) (defScope sLaw) .none .none .none (.str "law_platecuts_k44_tables_that_bear" 556) none (.ref 375) .none)),#[]⟩
noncomputable def kK : Params → Frag := fun P => (nat_lit 3,kO3 P) :: (nat_lit 23,kO23 P) :: (nat_lit 24,kO24 P) :: (nat_lit 36,kO36 P) :: (nat_lit 37,kO37 P) :: (nat_lit 48,kO48 P) :: (nat_lit 49,kO49 P) :: (nat_lit 60,kO60 P) :: (nat_lit 61,kO61 P) :: (nat_lit 72,kO72 P) :: (nat_lit 73,kO73 P) :: (nat_lit 84,kO84 P) :: (nat_lit 85,kO85 P) :: (nat_lit 96,kO96 P) :: (nat_lit 97,kO97 P) :: (nat_lit 108,kO108 P) :: (nat_lit 109,kO109 P) :: (nat_lit 117,kO117 P) :: (nat_lit 118,kO118 P) :: (nat_lit 124,kO124 P) :: (nat_lit 125,kO125 P) :: (nat_lit 131,kO131 P) :: (nat_lit 132,kO132 P) :: (nat_lit 138,kO138 P) :: (nat_lit 139,kO139 P) :: (nat_lit 145,kO145 P) :: (nat_lit 146,kO146 P) :: (nat_lit 152,kO152 P) :: (nat_lit 153,kO153 P) :: (nat_lit 157,kO157 P) :: (nat_lit 158,kO158 P) :: (nat_lit 164,kO164 P) :: (nat_lit 165,kO165 P) :: (nat_lit 169,kO169 P) :: (nat_lit 170,kO170 P) :: (nat_lit 174,kO174 P) :: (nat_lit 175,kO175 P) :: (nat_lit 181,kO181 P) :: (nat_lit 182,kO182 P) :: (nat_lit 186,kO186 P) :: (nat_lit 187,kO187 P) :: (nat_lit 193,kO193 P) :: (nat_lit 194,kO194 P) :: (nat_lit 198,kO198 P) :: (nat_lit 199,kO199 P) :: (nat_lit 205,kO205 P) :: (nat_lit 206,kO206 P) :: (nat_lit 212,kO212 P) :: (nat_lit 213,kO213 P) :: (nat_lit 224,kO224 P) :: (nat_lit 225,kO225 P) :: (nat_lit 231,kO231 P) :: (nat_lit 232,kO232 P) :: (nat_lit 238,kO238 P) :: (nat_lit 239,kO239 P) :: (nat_lit 243,kO243 P) :: (nat_lit 244,kO244 P) :: (nat_lit 250,kO250 P) :: (nat_lit 251,kO251 P) :: (nat_lit 257,kO257 P) :: (nat_lit 258,kO258 P) :: (nat_lit 264,kO264 P) :: (nat_lit 265,kO265 P) :: (nat_lit 267,kO267 P) :: (nat_lit 268,kO268 P) :: (nat_lit 278,kO278 P) :: (nat_lit 279,kO279 P) :: (nat_lit 285,kO285 P) :: (nat_lit 286,kO286 P) :: (nat_lit 292,kO292 P) :: (nat_lit 293,kO293 P) :: (nat_lit 299,kO299 P) :: (nat_lit 300,kO300 P) :: (nat_lit 306,kO306 P) :: (nat_lit 307,kO307 P) :: (nat_lit 313,kO313 P) :: (nat_lit 314,kO314 P) :: (nat_lit 320,kO320 P) :: (nat_lit 321,kO321 P) :: (nat_lit 327,kO327 P) :: (nat_lit 328,kO328 P) :: (nat_lit 334,kO334 P) :: (nat_lit 335,kO335 P) :: (nat_lit 339,kO339 P) :: (nat_lit 340,kO340 P) :: (nat_lit 344,kO344 P) :: (nat_lit 345,kO345 P) :: (nat_lit 351,kO351 P) :: (nat_lit 352,kO352 P) :: (nat_lit 356,kO356 P) :: (nat_lit 357,kO357 P) :: (nat_lit 363,kO363 P) :: (nat_lit 364,kO364 P) :: (nat_lit 368,kO368 P) :: (nat_lit 369,kO369 P) :: (nat_lit 375,kO375 P) :: (nat_lit 376,kO376 P) :: []
end
end Pc
set_option maxHeartbeats 0
lay_quick PySem.Challenge.pw_platecuts_k44_tables_that_bear
namespace Hd
open PySem PySem.W
noncomputable def S0 : Str := ⟨⟨[95,95,110,97,109,101,95,95]⟩⟩
noncomputable def S2 : Str := ⟨⟨[95,95,100,111,99,95,95]⟩⟩
noncomputable def S3 : Str := ⟨⟨[95,95,112,97,99,107,97,103,101,95,95]⟩⟩
noncomputable def S4 : Str := ⟨⟨[95,95,108,111,97,100,101,114,95,95]⟩⟩
noncomputable def S5 : Str := ⟨⟨[95,95,115,112,101,99,95,95]⟩⟩
noncomputable def S160 : Str := ⟨⟨[95,95,109,97,105,110,95,95]⟩⟩
noncomputable def S161 : Str := ⟨⟨[95,95,97,110,110,111,116,97,116,105,111,110,115,95,95]⟩⟩
noncomputable def S162 : Str := ⟨⟨[95,95,98,117,105,108,116,105,110,115,95,95]⟩⟩
noncomputable def S163 : Str := ⟨⟨[95,95,102,105,108,101,95,95]⟩⟩
noncomputable def S164 : Str := ⟨⟨[47,99,108,97,105,109,47,99,117,116,46,112,121]⟩⟩
noncomputable def S165 : Str := ⟨⟨[95,95,99,97,99,104,101,100,95,95]⟩⟩
noncomputable def S166 : Str := ⟨⟨[60,109,111,100,117,108,101,62]⟩⟩
noncomputable def S167 : Str := ⟨⟨[112,108,97,116,101,99,117,116,115,46,112,97,114,116,115]⟩⟩
noncomputable def S168 : Str := ⟨⟨[80,108,97,116,101,69,114,114,111,114]⟩⟩
noncomputable def S169 : Str := ⟨⟨[78,111,66,108,97,100,101]⟩⟩
noncomputable def S170 : Str := ⟨⟨[78,111,75,105,110,100,115]⟩⟩
noncomputable def S171 : Str := ⟨⟨[78,111,75,105,110,100]⟩⟩
noncomputable def S172 : Str := ⟨⟨[78,111,76,121,105,110,103]⟩⟩
noncomputable def S173 : Str := ⟨⟨[78,111,80,108,97,116,101]⟩⟩
noncomputable def S174 : Str := ⟨⟨[84,111,111,76,97,114,103,101]⟩⟩
noncomputable def S175 : Str := ⟨⟨[78,111,84,97,98,108,101]⟩⟩
noncomputable def S176 : Str := ⟨⟨[105,115,95,119,104,111,108,101]⟩⟩
noncomputable def S177 : Str := ⟨⟨[105,115,95,116,114,117,116,104]⟩⟩
noncomputable def S178 : Str := ⟨⟨[105,115,95,114,111,119]⟩⟩
noncomputable def S179 : Str := ⟨⟨[99,104,101,99,107,95,112,108,97,116,101]⟩⟩
noncomputable def S180 : Str := ⟨⟨[99,104,101,99,107,95,115,105,100,101,115]⟩⟩
noncomputable def S181 : Str := ⟨⟨[68,79,87,78]⟩⟩
noncomputable def S182 : Str := ⟨⟨[100,111,119,110]⟩⟩
noncomputable def S183 : Str := ⟨⟨[65,67,82,79,83,83]⟩⟩
noncomputable def S184 : Str := ⟨⟨[97,99,114,111,115,115]⟩⟩
noncomputable def S185 : Str := ⟨⟨[108,105,101,115,95,105,110]⟩⟩
noncomputable def S186 : Str := ⟨⟨[108,121,105,110,103,115,95,105,110]⟩⟩
noncomputable def S187 : Str := ⟨⟨[99,117,116,95,112,97,114,116,115]⟩⟩
noncomputable def S188 : Str := ⟨⟨[99,117,116,115,95,111,102]⟩⟩
noncomputable def S189 : Str := ⟨⟨[95,95,109,111,100,117,108,101,95,95]⟩⟩
noncomputable def S190 : Str := ⟨⟨[112,108,97,116,101,99,117,116,115,46,101,114,114,111,114,115]⟩⟩
noncomputable def S191 : Str := ⟨⟨[95,95,113,117,97,108,110,97,109,101,95,95]⟩⟩
noncomputable def S192 : Str := ⟨⟨[95,95,102,105,114,115,116,108,105,110,101,110,111,95,95]⟩⟩
noncomputable def S193 : Str := ⟨⟨[95,95,115,116,97,116,105,99,95,97,116,116,114,105,98,117,116,101,115,95,95]⟩⟩
noncomputable def S194 : Str := ⟨⟨[95,95,119,101,97,107,114,101,102,95,95]⟩⟩
noncomputable def S195 : Str := ⟨⟨[116,104,105,110,103]⟩⟩
noncomputable def S196 : Str := ⟨⟨[108,101,97,115,116]⟩⟩
noncomputable def S197 : Str := ⟨⟨[112,108,97,116,101,99,117,116,115,46,99,104,101,99,107,115]⟩⟩
noncomputable def S198 : Str := ⟨⟨[119,105,100,101]⟩⟩
noncomputable def S199 : Str := ⟨⟨[104,105,103,104]⟩⟩
noncomputable def S200 : Str := ⟨⟨[109,111,115,116]⟩⟩
noncomputable def S201 : Str := ⟨⟨[115,104,111,112]⟩⟩
noncomputable def S202 : Str := ⟨⟨[107,105,110,100]⟩⟩
noncomputable def S203 : Str := ⟨⟨[116,117,114,110,101,100]⟩⟩
noncomputable def S204 : Str := ⟨⟨[120]⟩⟩
noncomputable def S205 : Str := ⟨⟨[121]⟩⟩
noncomputable def S206 : Str := ⟨⟨[112,105,101,99,101,95,119,105,100,101]⟩⟩
noncomputable def S207 : Str := ⟨⟨[112,105,101,99,101,95,104,105,103,104]⟩⟩
noncomputable def S208 : Str := ⟨⟨[98,108,97,100,101]⟩⟩
noncomputable def S209 : Str := ⟨⟨[112,97,114,116]⟩⟩
noncomputable def S210 : Str := ⟨⟨[119,97,121]⟩⟩
noncomputable def S211 : Str := ⟨⟨[112]⟩⟩
noncomputable def S212 : Str := ⟨⟨[108,97,119,95,112,108,97,116,101,99,117,116,115,95,107,52,52,95,116,97,98,108,101,115,95,116,104,97,116,95,98,101,97,114]⟩⟩
noncomputable def S213 : Str := ⟨⟨[112,97,114,116,115,95,117,112,95,116,111]⟩⟩
noncomputable def S214 : Str := ⟨⟨[77,79,83,84,95,83,73,68,69]⟩⟩
noncomputable def S215 : Str := ⟨⟨[105,115,95,107,101,121]⟩⟩
noncomputable def S216 : Str := ⟨⟨[105,115,95,116,97,98,108,101]⟩⟩
noncomputable def S217 : Str := ⟨⟨[98,101,97,114,115,95,112,97,114,116]⟩⟩
noncomputable def S218 : Str := ⟨⟨[98,101,97,114,115]⟩⟩
noncomputable def S219 : Str := ⟨⟨[77,79,83,84,95,75,73,78,68,83]⟩⟩
noncomputable def S220 : Str := ⟨⟨[84,72,73,78,71,83,95,79,70,95,65,95,75,73,78,68]⟩⟩
noncomputable def S221 : Str := ⟨⟨[105,115,95,107,105,110,100]⟩⟩
noncomputable def S222 : Str := ⟨⟨[99,97,110,95,108,105,101,95,116,117,114,110,101,100]⟩⟩
noncomputable def S223 : Str := ⟨⟨[83,104,111,112]⟩⟩
noncomputable def S224 : Str := ⟨⟨[95,108,97,119,95,112,111,116]⟩⟩
noncomputable def S225 : Str := ⟨⟨[95,108,97,119,95,100,114,97,119]⟩⟩
noncomputable def S226 : Str := ⟨⟨[95,108,97,119,95,103,114,101,97,116]⟩⟩
noncomputable def S227 : Str := ⟨⟨[95,108,97,119,95,98,108,97,100,101]⟩⟩
noncomputable def S228 : Str := ⟨⟨[95,108,97,119,95,115,105,100,101]⟩⟩
noncomputable def S229 : Str := ⟨⟨[95,108,97,119,95,110,117,109,98,101,114]⟩⟩
noncomputable def S230 : Str := ⟨⟨[95,108,97,119,95,107,105,110,100,115]⟩⟩
noncomputable def S231 : Str := ⟨⟨[95,108,97,119,95,112,108,97,116,101]⟩⟩
noncomputable def S232 : Str := ⟨⟨[95,108,97,119,95,102,105,116,116,105,110,103]⟩⟩
noncomputable def S233 : Str := ⟨⟨[95,108,97,119,95,100,117,101]⟩⟩
noncomputable def S234 : Str := ⟨⟨[95,108,97,119,95,112,97,114,116,115]⟩⟩
noncomputable def S235 : Str := ⟨⟨[95,108,97,119,95,116,97,98,108,101]⟩⟩
noncomputable def S236 : Str := ⟨⟨[95,108,97,119,95,98,101,97,114,115]⟩⟩
noncomputable def S237 : Str := ⟨⟨[95,108,97,119,95,114,105,103,104,116]⟩⟩
noncomputable def S238 : Str := ⟨⟨[95,108,97,119,95,97,115,107,101,100]⟩⟩
noncomputable def S239 : Str := ⟨⟨[108,97,119]⟩⟩
noncomputable def S240 : Str := ⟨⟨[97]⟩⟩
noncomputable def S241 : Str := ⟨⟨[98]⟩⟩
noncomputable def S242 : Str := ⟨⟨[112,108,97,116,101,99,117,116,115,46,116,97,98,108,101,115]⟩⟩
noncomputable def S243 : Str := ⟨⟨[116,97,98,108,101]⟩⟩
noncomputable def S244 : Str := ⟨⟨[107,105,110,100,115]⟩⟩
noncomputable def S245 : Str := ⟨⟨[102,105,114,115,116]⟩⟩
noncomputable def S246 : Str := ⟨⟨[115,101,99,111,110,100]⟩⟩
noncomputable def S247 : Str := ⟨⟨[119,111,114,116,104]⟩⟩
noncomputable def S248 : Str := ⟨⟨[119,97,110,116,101,100]⟩⟩
noncomputable def S249 : Str := ⟨⟨[116,117,114,110,115]⟩⟩
noncomputable def S250 : Str := ⟨⟨[112,108,97,116,101,99,117,116,115,46,115,104,111,112,115]⟩⟩
noncomputable def S251 : Str := ⟨⟨[95,95,105,110,105,116,95,95]⟩⟩
noncomputable def S252 : Str := ⟨⟨[108,121,105,110,103,115]⟩⟩
noncomputable def S253 : Str := ⟨⟨[105,115,95,108,121,105,110,103]⟩⟩
noncomputable def S254 : Str := ⟨⟨[115,105,100,101,115]⟩⟩
noncomputable def S255 : Str := ⟨⟨[83,104,111,112,46,95,95,105,110,105,116,95,95]⟩⟩
noncomputable def S256 : Str := ⟨⟨[115,101,108,102]⟩⟩
noncomputable def S257 : Str := ⟨⟨[83,104,111,112,46,98,108,97,100,101]⟩⟩
noncomputable def S258 : Str := ⟨⟨[83,104,111,112,46,107,105,110,100,115]⟩⟩
noncomputable def S259 : Str := ⟨⟨[83,104,111,112,46,119,97,110,116,101,100]⟩⟩
noncomputable def S260 : Str := ⟨⟨[116,111,108,100]⟩⟩
noncomputable def S261 : Str := ⟨⟨[110,117,109,98,101,114]⟩⟩
noncomputable def S262 : Str := ⟨⟨[83,104,111,112,46,108,121,105,110,103,115]⟩⟩
noncomputable def S263 : Str := ⟨⟨[83,104,111,112,46,105,115,95,108,121,105,110,103]⟩⟩
noncomputable def S264 : Str := ⟨⟨[114,111,119]⟩⟩
noncomputable def S265 : Str := ⟨⟨[83,104,111,112,46,115,105,100,101,115]⟩⟩
noncomputable def S266 : Str := ⟨⟨[98,108,97,100,101,95,119,105,100,116,104]⟩⟩
noncomputable def S267 : Str := ⟨⟨[107,105,110,100,95,114,111,119,115]⟩⟩
noncomputable def S268 : Str := ⟨⟨[95,95,100,105,99,116,95,95]⟩⟩
noncomputable def S269 : Str := ⟨⟨[95,108,97,119,95,99,101,108,108]⟩⟩
noncomputable def S270 : Str := ⟨⟨[95,108,97,119,95,112,111,116,95,104,101,114,101]⟩⟩
noncomputable def S271 : Str := ⟨⟨[95,108,97,119,95,109,97,110,121]⟩⟩
noncomputable def S272 : Str := ⟨⟨[95,108,97,119,95,110,117,109,98,101,114,95,104,101,114,101]⟩⟩
noncomputable def S273 : Str := ⟨⟨[95,108,97,119,95,102,111,117,110,100]⟩⟩
noncomputable def S274 : Str := ⟨⟨[95,108,97,119,95,107]⟩⟩
noncomputable def S275 : Str := ⟨⟨[95,108,97,119,95,119,97,121]⟩⟩
noncomputable def S276 : Str := ⟨⟨[95,108,97,119,95,107,105,110,100,115,95,104,101,114,101]⟩⟩
noncomputable def S277 : Str := ⟨⟨[95,108,97,119,95,119,105,100,101]⟩⟩
noncomputable def S278 : Str := ⟨⟨[95,108,97,119,95,104,105,103,104]⟩⟩
noncomputable def S279 : Str := ⟨⟨[95,108,97,119,95,119,111,114,116,104]⟩⟩
noncomputable def S280 : Str := ⟨⟨[95,108,97,119,95,119,97,110,116,101,100]⟩⟩
noncomputable def S281 : Str := ⟨⟨[95,108,97,119,95,116,117,114,110,115]⟩⟩
noncomputable def S282 : Str := ⟨⟨[95,108,97,119,95,98,108,97,100,101,95,104,101,114,101]⟩⟩
noncomputable def S283 : Str := ⟨⟨[95,108,97,119,95,102,105,116,116,105,110,103,95,104,101,114,101]⟩⟩
noncomputable def S284 : Str := ⟨⟨[95,108,97,119,95,112,97,114,116,115,95,104,101,114,101]⟩⟩
noncomputable def S285 : Str := ⟨⟨[95,108,97,119,95,101,97,99,104]⟩⟩
noncomputable def S286 : Str := ⟨⟨[95,108,97,119,95,116,97,98,108,101,95,104,101,114,101]⟩⟩
noncomputable def S287 : Str := ⟨⟨[95,108,97,119,95,115,104,111,112]⟩⟩
noncomputable def S288 : Str := ⟨⟨[95,108,97,119,95,112,108,97,116,101,95,104,101,114,101]⟩⟩
noncomputable def S289 : Str := ⟨⟨[95,108,97,119,95,100,117,101,95,104,101,114,101]⟩⟩
noncomputable def S290 : Str := ⟨⟨[95,108,97,119,95,107,101,112,116]⟩⟩
noncomputable def S291 : Str := ⟨⟨[95,108,97,119,95,116,111,108,100]⟩⟩
noncomputable def S292 : Str := ⟨⟨[95,108,97,119,95,115,99,114,105,112,116]⟩⟩
noncomputable abbrev HK : Hook := kHook Pc.kK [nat_lit 3,nat_lit 23,nat_lit 24,nat_lit 36,nat_lit 37,nat_lit 48,nat_lit 49,nat_lit 60,nat_lit 61,nat_lit 72,nat_lit 73,nat_lit 84,nat_lit 85,nat_lit 96,nat_lit 97,nat_lit 108,nat_lit 109,nat_lit 117,nat_lit 118,nat_lit 124,nat_lit 125,nat_lit 131,nat_lit 132,nat_lit 138,nat_lit 139,nat_lit 145,nat_lit 146,nat_lit 152,nat_lit 153,nat_lit 157,nat_lit 158,nat_lit 164,nat_lit 165,nat_lit 169,nat_lit 170,nat_lit 174,nat_lit 175,nat_lit 181,nat_lit 182,nat_lit 186,nat_lit 187,nat_lit 193,nat_lit 194,nat_lit 198,nat_lit 199,nat_lit 205,nat_lit 206,nat_lit 212,nat_lit 213,nat_lit 224,nat_lit 225,nat_lit 231,nat_lit 232,nat_lit 238,nat_lit 239,nat_lit 243,nat_lit 244,nat_lit 250,nat_lit 251,nat_lit 257,nat_lit 258,nat_lit 264,nat_lit 265,nat_lit 267,nat_lit 268,nat_lit 278,nat_lit 279,nat_lit 285,nat_lit 286,nat_lit 292,nat_lit 293,nat_lit 299,nat_lit 300,nat_lit 306,nat_lit 307,nat_lit 313,nat_lit 314,nat_lit 320,nat_lit 321,nat_lit 327,nat_lit 328,nat_lit 334,nat_lit 335,nat_lit 339,nat_lit 340,nat_lit 344,nat_lit 345,nat_lit 351,nat_lit 352,nat_lit 356,nat_lit 357,nat_lit 363,nat_lit 364,nat_lit 368,nat_lit 369,nat_lit 375,nat_lit 376] (fun _ => by kernel_rfl)
noncomputable abbrev pt : Program := PySem.W.Fast.tw13438595282596870472
theorem pt_eq : PySem.Challenge.pw_platecuts_k44_tables_that_bear = pt := PySem.W.Fast.te13438595282596870472
noncomputable def tp (i : Nat) : Stmt := pt.main.body.getD i (.Pass ⟨0,0,0,0⟩)
noncomputable abbrev f (o : Params → Obj) (l r : Params → BT) : Params → BT := fun P => .node (o P) (l P) (r P)
noncomputable abbrev z : Params → BT := fun _ => .nil
noncomputable abbrev e (P : Params) (n : Str) (t : Nat) (v : Value) : DictEntry := ⟨PyData.keyHash P n,.str n t,v⟩
noncomputable abbrev m0 : Nat := nat_lit 11
noncomputable abbrev an : Option Value := (some (.ref 6))
noncomputable abbrev en : Env := { scope := pt.main.scope,locals := mainNs,globals := mainNs,cells := [],code := (.ref 13),frame := some 14 }
noncomputable abbrev cE : Code := .body (behindTheImports pt) en
noncomputable abbrev qP : Pos := ⟨0,0,0,0⟩
noncomputable abbrev B : List Frame := [topFrame qP]
noncomputable abbrev L0 : String := PySem.W.SL.s14018661285674007319x4
noncomputable abbrev L1 : String := PySem.W.SL.s11665532747177232413x24
noncomputable abbrev L2 : String := PySem.W.SL.s15183661809925369436x15
noncomputable abbrev L3 : String := PySem.W.SL.s13915890719876406383x10
noncomputable abbrev L4 : String := PySem.W.SL.s13459172003223722735x3
noncomputable abbrev L5 : String := PySem.W.SL.s10557405761357834076x3
noncomputable abbrev L6 : String := PySem.W.SL.s4233737765568776869x3
noncomputable abbrev L7 : String := PySem.W.SL.s2508922471967985374x5
noncomputable abbrev L8 : String := PySem.W.SL.s15574269061696679450x3
noncomputable abbrev L9 : String := PySem.W.SL.s6016482663378992977x10
noncomputable abbrev L10 : String := PySem.W.SL.s5596568736180474577x8
noncomputable abbrev L11 : String := PySem.W.SL.s2839554839881490554x3
noncomputable abbrev L12 : String := PySem.W.SL.s725004073602090463x7
noncomputable abbrev L13 : String := PySem.W.SL.s9436932552931045734x7
noncomputable abbrev L14 : String := PySem.W.SL.s2754603736356183583x3
noncomputable abbrev L15 : String := PySem.W.SL.s15185746759980889043x6
noncomputable abbrev L16 : String := PySem.W.SL.s8192189862530294059x4
noncomputable abbrev L17 : String := PySem.W.SL.s7038307821325472102x4
noncomputable abbrev L18 : String := PySem.W.SL.s5662562618415449548x6
noncomputable abbrev L19 : String := PySem.W.SL.s15281542589158584767x7
noncomputable abbrev L20 : String := PySem.W.SL.s17651547275483570877x7
noncomputable abbrev L21 : String := PySem.W.SL.s4036449017235975746x7
noncomputable abbrev L22 : String := PySem.W.SL.s8879979712987360175x4
noncomputable abbrev L23 : String := PySem.W.SL.s1801250619170735830x3
noncomputable abbrev L24 : String := PySem.W.SL.s17659931425627118568x2
noncomputable abbrev L25 : String := PySem.W.SL.s6063217899685152688x5
noncomputable abbrev L26 : String := PySem.W.SL.s8008927332132565319x10
noncomputable abbrev L27 : String := PySem.W.SL.s3544116645089599534x10
noncomputable abbrev L28 : String := PySem.W.SL.s13761710972054866084x4
noncomputable abbrev L29 : String := PySem.W.SL.s12896375587409280029x5
noncomputable abbrev L30 : String := PySem.W.SL.s13014049009108672802x3
noncomputable abbrev L31 : String := PySem.W.SL.s13935586738268321596x6
noncomputable abbrev L32 : String := PySem.W.SL.s8200498257699607233x3
noncomputable abbrev L33 : String := PySem.W.SL.s14114244577727609259x3
noncomputable abbrev L34 : String := PySem.W.SL.s1499430450269397089x4
noncomputable abbrev L35 : String := PySem.W.SL.s8755793994789770505x5
noncomputable abbrev L36 : String := PySem.W.SL.s15725212667919936108x3
noncomputable abbrev L37 : String := PySem.W.SL.s15791221867095933363x3
noncomputable abbrev L38 : String := PySem.W.SL.s81309575031448614x3
noncomputable abbrev L39 : String := PySem.W.SL.s8069831620301644142x5
noncomputable abbrev L40 : String := PySem.W.SL.s10061844253413749634x4
noncomputable abbrev L41 : String := PySem.W.SL.s9496514870978017513x5
noncomputable abbrev L42 : String := PySem.W.SL.s8899691144933366716x7
noncomputable abbrev L43 : String := PySem.W.SL.s15201008993051130160x6
noncomputable abbrev L44 : String := PySem.W.SL.s741896355592496720x3
noncomputable abbrev L45 : String := PySem.W.SL.s17925004256654032244x4
noncomputable abbrev L46 : String := PySem.W.SL.s11695548795398191787x4
noncomputable abbrev L47 : String := PySem.W.SL.s4156966113859768872x10
noncomputable abbrev L48 : String := PySem.W.SL.s9501651726347032510x9
noncomputable abbrev L49 : String := PySem.W.SL.s15722918466584999320x5
noncomputable abbrev L50 : String := PySem.W.SL.s591115383303110208x11
noncomputable abbrev L51 : String := PySem.W.SL.s15721156781594690315x7
noncomputable abbrev L52 : String := PySem.W.SL.s14340494229221121180x9
noncomputable abbrev L53 : String := PySem.W.SL.s13429844117177748173x6
noncomputable abbrev L54 : String := PySem.W.SL.s16463266125957815391x5
noncomputable abbrev L55 : String := PySem.W.SL.s4922535414793169389x9
noncomputable abbrev L56 : String := PySem.W.SL.s8101838861749082086x8
noncomputable abbrev L57 : String := PySem.W.SL.s7066276694103001551x3
noncomputable abbrev L58 : String := PySem.W.SL.s9222952809800978799x4
noncomputable abbrev L59 : String := PySem.W.SL.s462964344163437139x3
noncomputable abbrev L60 : String := PySem.W.SL.s2742458400755230247x6
noncomputable abbrev L61 : String := PySem.W.SL.s1438033511350832697x5
noncomputable abbrev L62 : String := PySem.W.SL.s14365286008749172514x8
noncomputable abbrev L63 : String := PySem.W.SL.s3642769012341782148x3
noncomputable abbrev L64 : String := PySem.W.SL.s4674234679698826739x5
noncomputable abbrev L65 : String := PySem.W.SL.s16656946322747308186x12
noncomputable abbrev L66 : String := PySem.W.SL.s10796804682411823810x3
noncomputable abbrev L67 : String := PySem.W.SL.s4290257624100764138x5
noncomputable abbrev L68 : String := PySem.W.SL.s2766695959194262286x5
noncomputable abbrev L69 : String := PySem.W.SL.s17162191345867700912x4
noncomputable abbrev L70 : String := PySem.W.SL.s14339709457334898076x3
noncomputable abbrev L71 : String := PySem.W.SL.s4278001404047624695x13
noncomputable abbrev L72 : String := PySem.W.SL.s6585700554429387442x18
noncomputable abbrev L73 : String := PySem.W.SL.s5946037652744460706x9
noncomputable abbrev L74 : String := PySem.W.SL.s7410770068591931388x13
noncomputable abbrev L75 : String := PySem.W.SL.s11817881795495490833x17
noncomputable abbrev L76 : String := PySem.W.SL.s15679963881808890155x10
noncomputable abbrev L77 : String := PySem.W.SL.s3871700062485845797x15
noncomputable abbrev L78 : String := PySem.W.SL.s7689518266570723881x14
noncomputable abbrev L79 : String := PySem.W.SL.s9001593270443806431x14
noncomputable abbrev L80 : String := PySem.W.SL.s6882542574934516792x11
noncomputable abbrev L81 : String := PySem.W.SL.s14403400214490484960x8
noncomputable abbrev L82 : String := PySem.W.SL.s14457978657717015782x11
noncomputable abbrev L83 : String := PySem.W.SL.s1753610191782819921x11
noncomputable abbrev L84 : String := PySem.W.SL.s14119380538032626715x11
noncomputable abbrev L85 : String := PySem.W.SL.s11437920000406562045x9
noncomputable abbrev L86 : String := PySem.W.SL.s10852414792293593619x7
noncomputable abbrev L87 : String := PySem.W.SL.s14816307405966870543x14
noncomputable abbrev L88 : String := PySem.W.SL.s8682627914449686677x12
noncomputable abbrev L89 : String := PySem.W.SL.s4428170145600203450x18
noncomputable abbrev L90 : String := PySem.W.SL.s5991306692159431302x13
noncomputable abbrev L91 : String := PySem.W.SL.s16067994140765818257x11
noncomputable abbrev L92 : String := PySem.W.SL.s2327743974964600596x11
noncomputable abbrev L93 : String := PySem.W.SL.s2804747833354056582x9
noncomputable abbrev L94 : String := PySem.W.SL.s6070975301684473832x10
noncomputable abbrev L95 : String := PySem.W.SL.s14270485950484850486x7
noncomputable abbrev L96 : String := PySem.W.SL.s12041534306414923332x18
noncomputable abbrev L97 : String := PySem.W.SL.s2531307568338490285x13
noncomputable abbrev L98 : String := PySem.W.SL.s631175304937289666x17
noncomputable abbrev L99 : String := PySem.W.SL.s5144983644357021410x12
noncomputable abbrev L100 : String := PySem.W.SL.s18039099521571816885x18
noncomputable abbrev L101 : String := PySem.W.SL.s6011586214260557989x15
noncomputable abbrev L102 : String := PySem.W.SL.s5430567037509283100x13
noncomputable abbrev L103 : String := PySem.W.SL.s8117915138073963741x13
noncomputable abbrev L104 : String := PySem.W.SL.s3423317712779056401x25
noncomputable abbrev L105 : String := PySem.W.SL.s2007317383269046180x15
noncomputable abbrev L106 : String := PySem.W.SL.s17481586968713580700x14
noncomputable abbrev L107 : String := PySem.W.SL.s2450899226349176912x13
noncomputable abbrev L108 : String := PySem.W.SL.s16626165730633575011x14
noncomputable abbrev L109 : String := PySem.W.SL.s14288496050688921416x11
noncomputable abbrev L110 : String := PySem.W.SL.s5735081916595925998x15
noncomputable abbrev L111 : String := PySem.W.SL.s3865607918536308442x17
noncomputable abbrev L112 : String := PySem.W.SL.s13337502604062700212x15
noncomputable abbrev L113 : String := PySem.W.SL.s13114017843053701147x15
noncomputable abbrev L114 : String := PySem.W.SL.s17467278006356818441x17
noncomputable abbrev L115 : String := PySem.W.SL.s17722149559621369488x16
noncomputable abbrev L116 : String := PySem.W.SL.s7855274175708717672x17
noncomputable abbrev L117 : String := PySem.W.SL.s13351283678309829046x18
noncomputable abbrev L118 : String := PySem.W.SL.s6668348653404991179x15
noncomputable abbrev L119 : String := PySem.W.SL.s12913350958174193794x18
noncomputable abbrev L120 : String := PySem.W.SL.s16115879512475548326x12
noncomputable abbrev L121 : String := PySem.W.SL.s15920661018069861047x16
noncomputable abbrev L122 : String := PySem.W.SL.s10779130036587390575x21
noncomputable abbrev L123 : String := PySem.W.SL.s7801419657504700863x10
noncomputable abbrev L124 : String := PySem.W.SL.s1688129525768580628x8
noncomputable abbrev L125 : String := PySem.W.SL.s1031832959479892071x19
noncomputable abbrev L126 : String := PySem.W.SL.s8991790508128307865x19
noncomputable abbrev L127 : String := PySem.W.SL.s14539662485746970245x23
noncomputable abbrev L128 : String := PySem.W.SL.s11643622729373238714x14
noncomputable abbrev L129 : String := PySem.W.SL.s3386828779285465597x17
noncomputable abbrev L130 : String := PySem.W.SL.s13042696260734638735x12
noncomputable abbrev L131 : String := PySem.W.SL.s18239426817015966623x15
noncomputable abbrev L132 : String := PySem.W.SL.s1270395311379034370x22
noncomputable abbrev L133 : String := PySem.W.SL.s10696252587037064777x22
noncomputable abbrev L134 : String := PySem.W.SL.s7852717498200857586x20
noncomputable abbrev L135 : String := PySem.W.SL.s6377248116197321094x8
noncomputable abbrev L136 : String := PySem.W.SL.s3834378056692298002x18
noncomputable abbrev L137 : String := PySem.W.SL.s17586630440231065808x18
noncomputable abbrev L138 : String := PySem.W.SL.s15234114252648025395x21
noncomputable abbrev L139 : String := PySem.W.SL.s8496462677383758984x14
noncomputable abbrev L140 : String := PySem.W.SL.s16789243406116112673x4
noncomputable abbrev L141 : String := PySem.W.SL.s14400166428656793546x20
noncomputable abbrev L142 : String := PySem.W.SL.s5857708277339239366x20
noncomputable abbrev L143 : String := PySem.W.SL.s7804999707787243718x20
noncomputable abbrev L144 : String := PySem.W.SL.s7097527257260152453x26
noncomputable abbrev L145 : String := PySem.W.SL.s6658869562736209489x6
noncomputable abbrev L146 : String := PySem.W.SL.s5856160107412720595x4
noncomputable abbrev L147 : String := PySem.W.SL.s658472552662922059x5
noncomputable abbrev sZ (w : World) (os : OsState) : Shared := ⟨boot_heap w.params,Array.mk [],boot_drawn,boot_toks,os⟩
noncomputable def o11 (P : Params) : Obj := ⟨(.type L68),none,(.seq #[] 0),#[]⟩
noncomputable def o12 (P : Params) : Obj := ⟨.none,none,(.fields #[]),#[]⟩
noncomputable def o13 (P : Params) : Obj := ⟨(.type L146),none,(.fields #[.str S166 182,.str S166 183,.str S164 184,.int 1 0,.int 0 0,.int 0 0,.int 0 0,.int 0 0,.ref 11,.bool false,.int 181 0,.ref 12,.none,.none,.none,.none,.int 185 0,.int 1 0,.str S164 186]),#[]⟩
noncomputable def o14 (P : Params) : Obj := ⟨(.type L147),none,.plain,#[some (.ref 13),some (.ref 3),some (.ref 3),none,some (.str S160 164),none,some (.ref 0)]⟩
noncomputable def hA (P : Params) : Heap := ⟨⟨[boot_o_0 P,boot_o_1 P,boot_o_2 P,boot_o_3 P,boot_o_4 P,boot_o_5 P,boot_o_6 P,boot_o_7 P,boot_o_8 P,boot_o_9 P,boot_o_10 P,o11 P,o12 P,o13 P,o14 P]⟩,{ }⟩
noncomputable abbrev sA (w : World) (os : OsState) : Shared := ⟨hA w.params,(Array.mk []),⟨0,0,0,0⟩,187,os⟩
noncomputable abbrev pA : Pos := ⟨0,0,0,0⟩
theorem pre (w : World) : (fun os => topGo treeTable pt w m0 an 12 (sZ w os) (topStub pt)) = fun os => some (sA w os,(⟨denote treeTable cE,cE,pA,B⟩ : Thread)) := by
  rw [PySem.W.Fast.te15667345088766844465,PySem.W.Fast.te14364793385576792824,PySem.W.Fast.te11892475500146522536]; kernel_rfl
noncomputable def tB : Params → BT := (f boot_o_0 (f boot_o_1 (f boot_o_3 (f boot_o_7 z z) (f o11 z z)) (f boot_o_5 (f boot_o_9 z z) (f o13 z z))) (f boot_o_2 (f boot_o_4 (f boot_o_8 z z) (f o12 z z)) (f boot_o_6 (f boot_o_10 z z) (f o14 z z))))
noncomputable abbrev sB (w : World) (os : OsState) : SharedT := ⟨tB w.params,15,{ },(Array.mk []),⟨0,0,0,0⟩,187,os⟩
noncomputable abbrev pB : Pos := ⟨0,0,0,0⟩
theorem blk (w : World) : (fun os => segRun treeTable pt w m0 an 1 1 (sA w os) ⟨(blockStart (behindTheImports pt) en).wrap (fun _ => doneF .next) deadEnd id id,cE,pA,B⟩) = fun os => some (.next,(sB w os).abs,cE,pB) := by
  rw [PySem.W.Fast.te14374325043358763698,PySem.W.Fast.te14364793385576792824,PySem.W.Fast.te1066825118222455980]; kernel_rfl
noncomputable def o3v1 (P : Params) : Obj := ⟨(.type L0),none,(.dict #[e P S0 165 (.str S167 360),e P S2 166 .none,e P S3 167 .none,e P S4 168 (.builtin L144),e P S5 169 .none,e P S161 170 (.ref 6),e P S162 171 (.ref 4),e P S163 173 (.str S164 172),e P S165 174 .none,e P S168 206 (.ref 24),e P S169 222 (.ref 37),e P S170 238 (.ref 49),e P S171 254 (.ref 61),e P S172 270 (.ref 73),e P S173 286 (.ref 85),e P S174 302 (.ref 97),e P S175 318 (.ref 109),e P S176 328 (.ref 118),e P S177 335 (.ref 125),e P S178 342 (.ref 132),e P S179 350 (.ref 139),e P S180 359 (.ref 146),e P S181 363 (.str S182 362),e P S183 365 (.str S184 364),e P S185 380 (.ref 153),e P S186 386 (.ref 158),e P S187 398 (.ref 165),e P S188 404 (.ref 170)] 28),#[]⟩
noncomputable def o12v1 (P : Params) : Obj := ⟨.none,none,(.fields #[.int 2 0,.int 0 0,.ref 20,.int 4 0,.int 0 0,.ref 33,.int 6 0,.int 0 0,.ref 45,.int 8 0,.int 0 0,.ref 57,.int 10 0,.int 0 0,.ref 69,.int 12 0,.int 0 0,.ref 81,.int 14 0,.int 0 0,.ref 93,.int 16 0,.int 0 0,.ref 105,.int 19 0,.int 0 0,.ref 117,.int 21 0,.int 0 0,.ref 124,.int 23 0,.int 0 0,.ref 131,.int 25 0,.int 0 0,.ref 138,.int 28 0,.int 0 0,.ref 145,.int 34 0,.int 0 0,.ref 152,.int 39 0,.int 0 0,.ref 157,.int 42 0,.int 0 0,.ref 164,.int 47 0,.int 0 0,.ref 169]),#[]⟩
noncomputable def o15 (P : Params) : Obj := ⟨(.type L68),none,(.seq #[.type L94] 0),#[]⟩
noncomputable abbrev L148 : String := PySem.W.SL.s11030030927630378310x26
noncomputable abbrev L149 : String := PySem.W.SL.s10062305145149207511x16
noncomputable def o16 (P : Params) : Obj := ⟨(.type L148),none,(.fields #[.builtin L149,.type L69]),#[]⟩
noncomputable def o17 (P : Params) : Obj := ⟨(.type L0),none,(.dict #[e P S189 196 (.str S190 187),e P S191 198 (.str S168 197),e P S192 200 (.int 2 199),e P S193 201 (.ref 22)] 4),#[]⟩
noncomputable def o18 (P : Params) : Obj := ⟨(.type L68),none,(.seq #[] 0),#[]⟩
noncomputable def o19 (P : Params) : Obj := ⟨.none,none,(.fields #[]),#[]⟩
noncomputable def o20 (P : Params) : Obj := ⟨(.type L146),none,(.fields #[.str S168 191,.str S168 192,.str S164 193,.int 2 0,.int 0 0,.int 0 0,.int 0 0,.int 0 0,.ref 18,.bool false,.int 181 0,.ref 19,.none,.none,.none,.none,.int 194 0,.int 2 0,.str S164 195]),#[]⟩
noncomputable def o21 (P : Params) : Obj := ⟨(.type L147),none,.plain,#[some (.ref 20),some (.ref 3),some (.ref 17),none,some (.str S190 187),none,some (.ref 0)]⟩
noncomputable def o22 (P : Params) : Obj := ⟨(.type L68),none,(.seq #[] 0),#[]⟩
noncomputable def o23 (P : Params) : Obj := ⟨(.type L0),none,(.dict #[e P S189 196 (.str S190 187),e P S192 200 (.int 2 199),e P S193 201 (.ref 22),e P S194 203 (.ref 25),e P S2 204 .none] 3),#[]⟩
noncomputable abbrev L150 : String := PySem.W.SL.s4209523147560561109x18
noncomputable def o24 (P : Params) : Obj := ⟨(.type L69),none,(.cls ⟨S168,[.type L94],[.ref 24,.type L94,.type L73,.type L71,.type L60],23,S168,true,[],[.ref 37,.ref 49,.ref 61,.ref 73,.ref 85,.ref 97,.ref 109],false,none,false⟩),#[some (.ref 15),none,some (.str S168 189),some (.str S168 197),some (.builtin L150),some (.bool true)]⟩
noncomputable abbrev L151 : String := PySem.W.SL.s14755015743595814543x17
noncomputable abbrev L152 : String := PySem.W.SL.s10220274742760427390x26
noncomputable def o25 (P : Params) : Obj := ⟨(.type L151),none,(.fields #[.str S194 202,.ref 24,.builtin L152,.none]),#[]⟩
noncomputable def o26 (P : Params) : Obj := ⟨(.type L67),none,(.fields #[.ref 24,.ref 24,.ref 24]),#[]⟩
noncomputable abbrev L153 : String := PySem.W.SL.s4860613602091757760x24
noncomputable def o27 (P : Params) : Obj := ⟨(.type L148),none,(.fields #[.builtin L153,.ref 24]),#[]⟩
noncomputable def o28 (P : Params) : Obj := ⟨(.type L68),none,(.seq #[.ref 24] 0),#[]⟩
noncomputable def o29 (P : Params) : Obj := ⟨(.type L148),none,(.fields #[.builtin L149,.type L69]),#[]⟩
noncomputable def o30 (P : Params) : Obj := ⟨(.type L0),none,(.dict #[e P S189 214 (.str S190 187),e P S191 216 (.str S169 215),e P S192 218 (.int 4 217),e P S193 219 (.ref 35)] 4),#[]⟩
noncomputable def o31 (P : Params) : Obj := ⟨(.type L68),none,(.seq #[] 0),#[]⟩
noncomputable def o32 (P : Params) : Obj := ⟨.none,none,(.fields #[]),#[]⟩
noncomputable def o33 (P : Params) : Obj := ⟨(.type L146),none,(.fields #[.str S169 209,.str S169 210,.str S164 211,.int 4 0,.int 0 0,.int 0 0,.int 0 0,.int 0 0,.ref 31,.bool false,.int 181 0,.ref 32,.none,.none,.none,.none,.int 212 0,.int 4 0,.str S164 213]),#[]⟩
noncomputable def o34 (P : Params) : Obj := ⟨(.type L147),none,.plain,#[some (.ref 33),some (.ref 3),some (.ref 30),none,some (.str S190 187),none,some (.ref 0)]⟩
noncomputable def o35 (P : Params) : Obj := ⟨(.type L68),none,(.seq #[] 0),#[]⟩
noncomputable def o36 (P : Params) : Obj := ⟨(.type L0),none,(.dict #[e P S189 214 (.str S190 187),e P S192 218 (.int 4 217),e P S193 219 (.ref 35),e P S2 220 .none] 2),#[]⟩
noncomputable def o37 (P : Params) : Obj := ⟨(.type L69),none,(.cls ⟨S169,[.ref 24],[.ref 37,.ref 24,.type L94,.type L73,.type L71,.type L60],36,S169,true,[],[],false,none,false⟩),#[some (.ref 28),none,some (.str S169 207),some (.str S169 215),some (.builtin L150),some (.bool true)]⟩
noncomputable def o38 (P : Params) : Obj := ⟨(.type L67),none,(.fields #[.ref 37,.ref 37,.ref 37]),#[]⟩
noncomputable def o39 (P : Params) : Obj := ⟨(.type L148),none,(.fields #[.builtin L153,.ref 37]),#[]⟩
noncomputable def o40 (P : Params) : Obj := ⟨(.type L68),none,(.seq #[.ref 24] 0),#[]⟩
noncomputable def o41 (P : Params) : Obj := ⟨(.type L148),none,(.fields #[.builtin L149,.type L69]),#[]⟩
noncomputable def o42 (P : Params) : Obj := ⟨(.type L0),none,(.dict #[e P S189 230 (.str S190 187),e P S191 232 (.str S170 231),e P S192 234 (.int 6 233),e P S193 235 (.ref 47)] 4),#[]⟩
noncomputable def o43 (P : Params) : Obj := ⟨(.type L68),none,(.seq #[] 0),#[]⟩
noncomputable def o44 (P : Params) : Obj := ⟨.none,none,(.fields #[]),#[]⟩
noncomputable def o45 (P : Params) : Obj := ⟨(.type L146),none,(.fields #[.str S170 225,.str S170 226,.str S164 227,.int 6 0,.int 0 0,.int 0 0,.int 0 0,.int 0 0,.ref 43,.bool false,.int 181 0,.ref 44,.none,.none,.none,.none,.int 228 0,.int 6 0,.str S164 229]),#[]⟩
noncomputable def o46 (P : Params) : Obj := ⟨(.type L147),none,.plain,#[some (.ref 45),some (.ref 3),some (.ref 42),none,some (.str S190 187),none,some (.ref 0)]⟩
noncomputable def o47 (P : Params) : Obj := ⟨(.type L68),none,(.seq #[] 0),#[]⟩
noncomputable def o48 (P : Params) : Obj := ⟨(.type L0),none,(.dict #[e P S189 230 (.str S190 187),e P S192 234 (.int 6 233),e P S193 235 (.ref 47),e P S2 236 .none] 2),#[]⟩
noncomputable def o49 (P : Params) : Obj := ⟨(.type L69),none,(.cls ⟨S170,[.ref 24],[.ref 49,.ref 24,.type L94,.type L73,.type L71,.type L60],48,S170,true,[],[],false,none,false⟩),#[some (.ref 40),none,some (.str S170 223),some (.str S170 231),some (.builtin L150),some (.bool true)]⟩
noncomputable def o50 (P : Params) : Obj := ⟨(.type L67),none,(.fields #[.ref 49,.ref 49,.ref 49]),#[]⟩
noncomputable def o51 (P : Params) : Obj := ⟨(.type L148),none,(.fields #[.builtin L153,.ref 49]),#[]⟩
noncomputable def o52 (P : Params) : Obj := ⟨(.type L68),none,(.seq #[.ref 24] 0),#[]⟩
noncomputable def o53 (P : Params) : Obj := ⟨(.type L148),none,(.fields #[.builtin L149,.type L69]),#[]⟩
noncomputable def o54 (P : Params) : Obj := ⟨(.type L0),none,(.dict #[e P S189 246 (.str S190 187),e P S191 248 (.str S171 247),e P S192 250 (.int 8 249),e P S193 251 (.ref 59)] 4),#[]⟩
noncomputable def o55 (P : Params) : Obj := ⟨(.type L68),none,(.seq #[] 0),#[]⟩
noncomputable def o56 (P : Params) : Obj := ⟨.none,none,(.fields #[]),#[]⟩
noncomputable def o57 (P : Params) : Obj := ⟨(.type L146),none,(.fields #[.str S171 241,.str S171 242,.str S164 243,.int 8 0,.int 0 0,.int 0 0,.int 0 0,.int 0 0,.ref 55,.bool false,.int 181 0,.ref 56,.none,.none,.none,.none,.int 244 0,.int 8 0,.str S164 245]),#[]⟩
noncomputable def o58 (P : Params) : Obj := ⟨(.type L147),none,.plain,#[some (.ref 57),some (.ref 3),some (.ref 54),none,some (.str S190 187),none,some (.ref 0)]⟩
noncomputable def o59 (P : Params) : Obj := ⟨(.type L68),none,(.seq #[] 0),#[]⟩
noncomputable def o60 (P : Params) : Obj := ⟨(.type L0),none,(.dict #[e P S189 246 (.str S190 187),e P S192 250 (.int 8 249),e P S193 251 (.ref 59),e P S2 252 .none] 2),#[]⟩
noncomputable def o61 (P : Params) : Obj := ⟨(.type L69),none,(.cls ⟨S171,[.ref 24],[.ref 61,.ref 24,.type L94,.type L73,.type L71,.type L60],60,S171,true,[],[],false,none,false⟩),#[some (.ref 52),none,some (.str S171 239),some (.str S171 247),some (.builtin L150),some (.bool true)]⟩
noncomputable def o62 (P : Params) : Obj := ⟨(.type L67),none,(.fields #[.ref 61,.ref 61,.ref 61]),#[]⟩
noncomputable def o63 (P : Params) : Obj := ⟨(.type L148),none,(.fields #[.builtin L153,.ref 61]),#[]⟩
noncomputable def o64 (P : Params) : Obj := ⟨(.type L68),none,(.seq #[.ref 24] 0),#[]⟩
noncomputable def o65 (P : Params) : Obj := ⟨(.type L148),none,(.fields #[.builtin L149,.type L69]),#[]⟩
noncomputable def o66 (P : Params) : Obj := ⟨(.type L0),none,(.dict #[e P S189 262 (.str S190 187),e P S191 264 (.str S172 263),e P S192 266 (.int 10 265),e P S193 267 (.ref 71)] 4),#[]⟩
noncomputable def o67 (P : Params) : Obj := ⟨(.type L68),none,(.seq #[] 0),#[]⟩
noncomputable def o68 (P : Params) : Obj := ⟨.none,none,(.fields #[]),#[]⟩
noncomputable def o69 (P : Params) : Obj := ⟨(.type L146),none,(.fields #[.str S172 257,.str S172 258,.str S164 259,.int 10 0,.int 0 0,.int 0 0,.int 0 0,.int 0 0,.ref 67,.bool false,.int 181 0,.ref 68,.none,.none,.none,.none,.int 260 0,.int 10 0,.str S164 261]),#[]⟩
noncomputable def o70 (P : Params) : Obj := ⟨(.type L147),none,.plain,#[some (.ref 69),some (.ref 3),some (.ref 66),none,some (.str S190 187),none,some (.ref 0)]⟩
noncomputable def o71 (P : Params) : Obj := ⟨(.type L68),none,(.seq #[] 0),#[]⟩
noncomputable def o72 (P : Params) : Obj := ⟨(.type L0),none,(.dict #[e P S189 262 (.str S190 187),e P S192 266 (.int 10 265),e P S193 267 (.ref 71),e P S2 268 .none] 2),#[]⟩
noncomputable def o73 (P : Params) : Obj := ⟨(.type L69),none,(.cls ⟨S172,[.ref 24],[.ref 73,.ref 24,.type L94,.type L73,.type L71,.type L60],72,S172,true,[],[],false,none,false⟩),#[some (.ref 64),none,some (.str S172 255),some (.str S172 263),some (.builtin L150),some (.bool true)]⟩
noncomputable def o74 (P : Params) : Obj := ⟨(.type L67),none,(.fields #[.ref 73,.ref 73,.ref 73]),#[]⟩
noncomputable def o75 (P : Params) : Obj := ⟨(.type L148),none,(.fields #[.builtin L153,.ref 73]),#[]⟩
noncomputable def o76 (P : Params) : Obj := ⟨(.type L68),none,(.seq #[.ref 24] 0),#[]⟩
noncomputable def o77 (P : Params) : Obj := ⟨(.type L148),none,(.fields #[.builtin L149,.type L69]),#[]⟩
noncomputable def o78 (P : Params) : Obj := ⟨(.type L0),none,(.dict #[e P S189 278 (.str S190 187),e P S191 280 (.str S173 279),e P S192 282 (.int 12 281),e P S193 283 (.ref 83)] 4),#[]⟩
noncomputable def o79 (P : Params) : Obj := ⟨(.type L68),none,(.seq #[] 0),#[]⟩
noncomputable def o80 (P : Params) : Obj := ⟨.none,none,(.fields #[]),#[]⟩
noncomputable def o81 (P : Params) : Obj := ⟨(.type L146),none,(.fields #[.str S173 273,.str S173 274,.str S164 275,.int 12 0,.int 0 0,.int 0 0,.int 0 0,.int 0 0,.ref 79,.bool false,.int 181 0,.ref 80,.none,.none,.none,.none,.int 276 0,.int 12 0,.str S164 277]),#[]⟩
noncomputable def o82 (P : Params) : Obj := ⟨(.type L147),none,.plain,#[some (.ref 81),some (.ref 3),some (.ref 78),none,some (.str S190 187),none,some (.ref 0)]⟩
noncomputable def o83 (P : Params) : Obj := ⟨(.type L68),none,(.seq #[] 0),#[]⟩
noncomputable def o84 (P : Params) : Obj := ⟨(.type L0),none,(.dict #[e P S189 278 (.str S190 187),e P S192 282 (.int 12 281),e P S193 283 (.ref 83),e P S2 284 .none] 2),#[]⟩
noncomputable def o85 (P : Params) : Obj := ⟨(.type L69),none,(.cls ⟨S173,[.ref 24],[.ref 85,.ref 24,.type L94,.type L73,.type L71,.type L60],84,S173,true,[],[],false,none,false⟩),#[some (.ref 76),none,some (.str S173 271),some (.str S173 279),some (.builtin L150),some (.bool true)]⟩
noncomputable def o86 (P : Params) : Obj := ⟨(.type L67),none,(.fields #[.ref 85,.ref 85,.ref 85]),#[]⟩
noncomputable def o87 (P : Params) : Obj := ⟨(.type L148),none,(.fields #[.builtin L153,.ref 85]),#[]⟩
noncomputable def o88 (P : Params) : Obj := ⟨(.type L68),none,(.seq #[.ref 24] 0),#[]⟩
noncomputable def o89 (P : Params) : Obj := ⟨(.type L148),none,(.fields #[.builtin L149,.type L69]),#[]⟩
noncomputable def o90 (P : Params) : Obj := ⟨(.type L0),none,(.dict #[e P S189 294 (.str S190 187),e P S191 296 (.str S174 295),e P S192 298 (.int 14 297),e P S193 299 (.ref 95)] 4),#[]⟩
noncomputable def o91 (P : Params) : Obj := ⟨(.type L68),none,(.seq #[] 0),#[]⟩
noncomputable def o92 (P : Params) : Obj := ⟨.none,none,(.fields #[]),#[]⟩
noncomputable def o93 (P : Params) : Obj := ⟨(.type L146),none,(.fields #[.str S174 289,.str S174 290,.str S164 291,.int 14 0,.int 0 0,.int 0 0,.int 0 0,.int 0 0,.ref 91,.bool false,.int 181 0,.ref 92,.none,.none,.none,.none,.int 292 0,.int 14 0,.str S164 293]),#[]⟩
noncomputable def o94 (P : Params) : Obj := ⟨(.type L147),none,.plain,#[some (.ref 93),some (.ref 3),some (.ref 90),none,some (.str S190 187),none,some (.ref 0)]⟩
noncomputable def o95 (P : Params) : Obj := ⟨(.type L68),none,(.seq #[] 0),#[]⟩
noncomputable def o96 (P : Params) : Obj := ⟨(.type L0),none,(.dict #[e P S189 294 (.str S190 187),e P S192 298 (.int 14 297),e P S193 299 (.ref 95),e P S2 300 .none] 2),#[]⟩
noncomputable def o97 (P : Params) : Obj := ⟨(.type L69),none,(.cls ⟨S174,[.ref 24],[.ref 97,.ref 24,.type L94,.type L73,.type L71,.type L60],96,S174,true,[],[],false,none,false⟩),#[some (.ref 88),none,some (.str S174 287),some (.str S174 295),some (.builtin L150),some (.bool true)]⟩
noncomputable def o98 (P : Params) : Obj := ⟨(.type L67),none,(.fields #[.ref 97,.ref 97,.ref 97]),#[]⟩
noncomputable def o99 (P : Params) : Obj := ⟨(.type L148),none,(.fields #[.builtin L153,.ref 97]),#[]⟩
noncomputable def o100 (P : Params) : Obj := ⟨(.type L68),none,(.seq #[.ref 24] 0),#[]⟩
noncomputable def o101 (P : Params) : Obj := ⟨(.type L148),none,(.fields #[.builtin L149,.type L69]),#[]⟩
noncomputable def o102 (P : Params) : Obj := ⟨(.type L0),none,(.dict #[e P S189 310 (.str S190 187),e P S191 312 (.str S175 311),e P S192 314 (.int 16 313),e P S193 315 (.ref 107)] 4),#[]⟩
noncomputable def o103 (P : Params) : Obj := ⟨(.type L68),none,(.seq #[] 0),#[]⟩
noncomputable def o104 (P : Params) : Obj := ⟨.none,none,(.fields #[]),#[]⟩
noncomputable def o105 (P : Params) : Obj := ⟨(.type L146),none,(.fields #[.str S175 305,.str S175 306,.str S164 307,.int 16 0,.int 0 0,.int 0 0,.int 0 0,.int 0 0,.ref 103,.bool false,.int 181 0,.ref 104,.none,.none,.none,.none,.int 308 0,.int 16 0,.str S164 309]),#[]⟩
noncomputable def o106 (P : Params) : Obj := ⟨(.type L147),none,.plain,#[some (.ref 105),some (.ref 3),some (.ref 102),none,some (.str S190 187),none,some (.ref 0)]⟩
noncomputable def o107 (P : Params) : Obj := ⟨(.type L68),none,(.seq #[] 0),#[]⟩
noncomputable def o108 (P : Params) : Obj := ⟨(.type L0),none,(.dict #[e P S189 310 (.str S190 187),e P S192 314 (.int 16 313),e P S193 315 (.ref 107),e P S2 316 .none] 2),#[]⟩
noncomputable def o109 (P : Params) : Obj := ⟨(.type L69),none,(.cls ⟨S175,[.ref 24],[.ref 109,.ref 24,.type L94,.type L73,.type L71,.type L60],108,S175,true,[],[],false,none,false⟩),#[some (.ref 100),none,some (.str S175 303),some (.str S175 311),some (.builtin L150),some (.bool true)]⟩
noncomputable def o110 (P : Params) : Obj := ⟨(.type L67),none,(.fields #[.ref 109,.ref 109,.ref 109]),#[]⟩
noncomputable def o111 (P : Params) : Obj := ⟨(.type L148),none,(.fields #[.builtin L153,.ref 109]),#[]⟩
noncomputable def o112 (P : Params) : Obj := ⟨(.type L68),none,(.seq #[] 0),#[]⟩
noncomputable def o113 (P : Params) : Obj := ⟨.none,none,(.fields #[]),#[]⟩
noncomputable def o114 (P : Params) : Obj := ⟨(.type L68),none,(.seq #[.str S195 324,.str S196 325] 0),#[]⟩
noncomputable def o115 (P : Params) : Obj := ⟨(.type L68),none,(.seq #[] 0),#[]⟩
noncomputable def o116 (P : Params) : Obj := ⟨.none,none,(.func ⟨S176,S176,L2.defArgs (tp 10),(.stmts (L2.defBody (tp 10))),L2.defScope (tp 10),0,[],.none,.none,.none,.none,none,.none,.none,0⟩),#[]⟩
noncomputable def o117 (P : Params) : Obj := ⟨(.type L146),none,(.fields #[.str S176 321,.str S176 322,.str S164 323,.int 19 0,.int 2 0,.int 0 0,.int 0 0,.int 3 0,.ref 112,.bool true,.int 181 0,.ref 113,.none,.ref 114,.ref 115,.ref 116,.int 326 0,.int 19 0,.str S164 327]),#[]⟩
noncomputable abbrev L154 : String := PySem.W.SL.s7174869446012820540x8
noncomputable def o118 (P : Params) : Obj := ⟨(.type L154),none,(.func ⟨S176,S176,L2.defArgs (tp 10),(.stmts (L2.defBody (tp 10))),L2.defScope (tp 10),3,[],.none,.none,.none,.str S197 319,none,.ref 117,.none,0⟩),#[]⟩
noncomputable def o119 (P : Params) : Obj := ⟨(.type L68),none,(.seq #[] 0),#[]⟩
noncomputable def o120 (P : Params) : Obj := ⟨.none,none,(.fields #[]),#[]⟩
noncomputable def o121 (P : Params) : Obj := ⟨(.type L68),none,(.seq #[.str S195 332] 0),#[]⟩
noncomputable def o122 (P : Params) : Obj := ⟨(.type L68),none,(.seq #[] 0),#[]⟩
noncomputable def o123 (P : Params) : Obj := ⟨.none,none,(.func ⟨S177,S177,L2.defArgs (tp 11),(.stmts (L2.defBody (tp 11))),L2.defScope (tp 11),0,[],.none,.none,.none,.none,none,.none,.none,0⟩),#[]⟩
noncomputable def o124 (P : Params) : Obj := ⟨(.type L146),none,(.fields #[.str S177 329,.str S177 330,.str S164 331,.int 21 0,.int 1 0,.int 0 0,.int 0 0,.int 3 0,.ref 119,.bool true,.int 181 0,.ref 120,.none,.ref 121,.ref 122,.ref 123,.int 333 0,.int 21 0,.str S164 334]),#[]⟩
noncomputable def o125 (P : Params) : Obj := ⟨(.type L154),none,(.func ⟨S177,S177,L2.defArgs (tp 11),(.stmts (L2.defBody (tp 11))),L2.defScope (tp 11),3,[],.none,.none,.none,.str S197 319,none,.ref 124,.none,0⟩),#[]⟩
noncomputable def o126 (P : Params) : Obj := ⟨(.type L68),none,(.seq #[] 0),#[]⟩
noncomputable def o127 (P : Params) : Obj := ⟨.none,none,(.fields #[]),#[]⟩
noncomputable def o128 (P : Params) : Obj := ⟨(.type L68),none,(.seq #[.str S195 339] 0),#[]⟩
noncomputable def o129 (P : Params) : Obj := ⟨(.type L68),none,(.seq #[] 0),#[]⟩
noncomputable def o130 (P : Params) : Obj := ⟨.none,none,(.func ⟨S178,S178,L2.defArgs (tp 12),(.stmts (L2.defBody (tp 12))),L2.defScope (tp 12),0,[],.none,.none,.none,.none,none,.none,.none,0⟩),#[]⟩
noncomputable def o131 (P : Params) : Obj := ⟨(.type L146),none,(.fields #[.str S178 336,.str S178 337,.str S164 338,.int 23 0,.int 1 0,.int 0 0,.int 0 0,.int 3 0,.ref 126,.bool true,.int 181 0,.ref 127,.none,.ref 128,.ref 129,.ref 130,.int 340 0,.int 23 0,.str S164 341]),#[]⟩
noncomputable def o132 (P : Params) : Obj := ⟨(.type L154),none,(.func ⟨S178,S178,L2.defArgs (tp 12),(.stmts (L2.defBody (tp 12))),L2.defScope (tp 12),3,[],.none,.none,.none,.str S197 319,none,.ref 131,.none,0⟩),#[]⟩
noncomputable def o133 (P : Params) : Obj := ⟨(.type L68),none,(.seq #[] 0),#[]⟩
noncomputable def o134 (P : Params) : Obj := ⟨.none,none,(.fields #[]),#[]⟩
noncomputable def o135 (P : Params) : Obj := ⟨(.type L68),none,(.seq #[.str S198 346,.str S199 347] 0),#[]⟩
noncomputable def o136 (P : Params) : Obj := ⟨(.type L68),none,(.seq #[] 0),#[]⟩
noncomputable def o137 (P : Params) : Obj := ⟨.none,none,(.func ⟨S179,S179,L2.defArgs (tp 13),(.stmts (L2.defBody (tp 13))),L2.defScope (tp 13),0,[],.none,.none,.none,.none,none,.none,.none,0⟩),#[]⟩
noncomputable def o138 (P : Params) : Obj := ⟨(.type L146),none,(.fields #[.str S179 343,.str S179 344,.str S164 345,.int 25 0,.int 2 0,.int 0 0,.int 0 0,.int 3 0,.ref 133,.bool true,.int 181 0,.ref 134,.none,.ref 135,.ref 136,.ref 137,.int 348 0,.int 25 0,.str S164 349]),#[]⟩
noncomputable def o139 (P : Params) : Obj := ⟨(.type L154),none,(.func ⟨S179,S179,L2.defArgs (tp 13),(.stmts (L2.defBody (tp 13))),L2.defScope (tp 13),3,[],.none,.none,.none,.str S197 319,none,.ref 138,.none,0⟩),#[]⟩
noncomputable def o140 (P : Params) : Obj := ⟨(.type L68),none,(.seq #[] 0),#[]⟩
noncomputable def o141 (P : Params) : Obj := ⟨.none,none,(.fields #[]),#[]⟩
noncomputable def o142 (P : Params) : Obj := ⟨(.type L68),none,(.seq #[.str S198 354,.str S199 355,.str S200 356] 0),#[]⟩
noncomputable def o143 (P : Params) : Obj := ⟨(.type L68),none,(.seq #[] 0),#[]⟩
noncomputable def o144 (P : Params) : Obj := ⟨.none,none,(.func ⟨S180,S180,L2.defArgs (tp 14),(.stmts (L2.defBody (tp 14))),L2.defScope (tp 14),0,[],.none,.none,.none,.none,none,.none,.none,0⟩),#[]⟩
noncomputable def o145 (P : Params) : Obj := ⟨(.type L146),none,(.fields #[.str S180 351,.str S180 352,.str S164 353,.int 28 0,.int 3 0,.int 0 0,.int 0 0,.int 3 0,.ref 140,.bool true,.int 181 0,.ref 141,.none,.ref 142,.ref 143,.ref 144,.int 357 0,.int 28 0,.str S164 358]),#[]⟩
noncomputable def o146 (P : Params) : Obj := ⟨(.type L154),none,(.func ⟨S180,S180,L2.defArgs (tp 14),(.stmts (L2.defBody (tp 14))),L2.defScope (tp 14),3,[],.none,.none,.none,.str S197 319,none,.ref 145,.none,0⟩),#[]⟩
noncomputable def o147 (P : Params) : Obj := ⟨(.type L68),none,(.seq #[] 0),#[]⟩
noncomputable def o148 (P : Params) : Obj := ⟨.none,none,(.fields #[]),#[]⟩
noncomputable def o149 (P : Params) : Obj := ⟨(.type L68),none,(.seq #[.str S201 369,.str S198 370,.str S199 371,.str S202 372,.str S203 373,.str S204 374,.str S205 375,.str S206 376,.str S207 377] 0),#[]⟩
noncomputable def o150 (P : Params) : Obj := ⟨(.type L68),none,(.seq #[] 0),#[]⟩
noncomputable def o151 (P : Params) : Obj := ⟨.none,none,(.func ⟨S185,S185,L2.defArgs (tp 18),(.stmts (L2.defBody (tp 18))),L2.defScope (tp 18),0,[],.none,.none,.none,.none,none,.none,.none,0⟩),#[]⟩
noncomputable def o152 (P : Params) : Obj := ⟨(.type L146),none,(.fields #[.str S185 366,.str S185 367,.str S164 368,.int 34 0,.int 7 0,.int 0 0,.int 0 0,.int 3 0,.ref 147,.bool true,.int 181 0,.ref 148,.none,.ref 149,.ref 150,.ref 151,.int 378 0,.int 34 0,.str S164 379]),#[]⟩
noncomputable def o153 (P : Params) : Obj := ⟨(.type L154),none,(.func ⟨S185,S185,L2.defArgs (tp 18),(.stmts (L2.defBody (tp 18))),L2.defScope (tp 18),3,[],.none,.none,.none,.str S167 360,none,.ref 152,.none,0⟩),#[]⟩
noncomputable def o154 (P : Params) : Obj := ⟨(.type L68),none,(.seq #[] 0),#[]⟩
noncomputable def o155 (P : Params) : Obj := ⟨.none,none,(.fields #[]),#[]⟩
noncomputable def o156 (P : Params) : Obj := ⟨.none,none,(.func ⟨S186,S186,L2.defArgs (tp 19),(.stmts (L2.defBody (tp 19))),L2.defScope (tp 19),0,[],.none,.none,.none,.none,none,.none,.none,0⟩),#[]⟩
noncomputable def o157 (P : Params) : Obj := ⟨(.type L146),none,(.fields #[.str S186 381,.str S186 382,.str S164 383,.int 39 0,.int 2 0,.int 0 0,.int 0 0,.int 3 0,.ref 154,.bool true,.int 181 0,.ref 155,.none,.none,.none,.ref 156,.int 384 0,.int 39 0,.str S164 385]),#[]⟩
noncomputable def o158 (P : Params) : Obj := ⟨(.type L154),none,(.func ⟨S186,S186,L2.defArgs (tp 19),(.stmts (L2.defBody (tp 19))),L2.defScope (tp 19),3,[],.none,.none,.none,.str S167 360,none,.ref 157,.none,0⟩),#[]⟩
noncomputable def o159 (P : Params) : Obj := ⟨(.type L68),none,(.seq #[] 0),#[]⟩
noncomputable def o160 (P : Params) : Obj := ⟨.none,none,(.fields #[]),#[]⟩
noncomputable def o161 (P : Params) : Obj := ⟨(.type L68),none,(.seq #[.str S208 390,.str S209 391,.str S210 392,.str S211 393,.str S198 394,.str S199 395] 0),#[]⟩
noncomputable def o162 (P : Params) : Obj := ⟨(.type L68),none,(.seq #[] 0),#[]⟩
noncomputable def o163 (P : Params) : Obj := ⟨.none,none,(.func ⟨S187,S187,L2.defArgs (tp 20),(.stmts (L2.defBody (tp 20))),L2.defScope (tp 20),0,[],.none,.none,.none,.none,none,.none,.none,0⟩),#[]⟩
noncomputable def o164 (P : Params) : Obj := ⟨(.type L146),none,(.fields #[.str S187 387,.str S187 388,.str S164 389,.int 42 0,.int 4 0,.int 0 0,.int 0 0,.int 3 0,.ref 159,.bool true,.int 181 0,.ref 160,.none,.ref 161,.ref 162,.ref 163,.int 396 0,.int 42 0,.str S164 397]),#[]⟩
noncomputable def o165 (P : Params) : Obj := ⟨(.type L154),none,(.func ⟨S187,S187,L2.defArgs (tp 20),(.stmts (L2.defBody (tp 20))),L2.defScope (tp 20),3,[],.none,.none,.none,.str S167 360,none,.ref 164,.none,0⟩),#[]⟩
noncomputable def o166 (P : Params) : Obj := ⟨(.type L68),none,(.seq #[] 0),#[]⟩
noncomputable def o167 (P : Params) : Obj := ⟨.none,none,(.fields #[]),#[]⟩
noncomputable def o168 (P : Params) : Obj := ⟨.none,none,(.func ⟨S188,S188,L2.defArgs (tp 21),(.stmts (L2.defBody (tp 21))),L2.defScope (tp 21),0,[],.none,.none,.none,.none,none,.none,.none,0⟩),#[]⟩
noncomputable def o169 (P : Params) : Obj := ⟨(.type L146),none,(.fields #[.str S188 399,.str S188 400,.str S164 401,.int 47 0,.int 2 0,.int 0 0,.int 0 0,.int 3 0,.ref 166,.bool true,.int 181 0,.ref 167,.none,.none,.none,.ref 168,.int 402 0,.int 47 0,.str S164 403]),#[]⟩
noncomputable def o170 (P : Params) : Obj := ⟨(.type L154),none,(.func ⟨S188,S188,L2.defArgs (tp 21),(.stmts (L2.defBody (tp 21))),L2.defScope (tp 21),3,[],.none,.none,.none,.str S167 360,none,.ref 169,.none,0⟩),#[]⟩
noncomputable def t0 : Params → BT := (f boot_o_0 (f boot_o_1 (f o3v1 (f boot_o_7 (f o15 (f o31 (f o63 (f o127 z z) z) (f o95 (f o159 z z) z)) (f o47 (f o79 (f o143 z z) z) (f o111 z z))) (f o23 (f o39 (f o71 (f o135 z z) z) (f o103 (f o167 z z) z)) (f o55 (f o87 (f o151 z z) z) (f o119 z z)))) (f o11 (f o19 (f o35 (f o67 (f o131 z z) z) (f o99 (f o163 z z) z)) (f o51 (f o83 (f o147 z z) z) (f o115 z z))) (f o27 (f o43 (f o75 (f o139 z z) z) (f o107 z z)) (f o59 (f o91 (f o155 z z) z) (f o123 z z))))) (f boot_o_5 (f boot_o_9 (f o17 (f o33 (f o65 (f o129 z z) z) (f o97 (f o161 z z) z)) (f o49 (f o81 (f o145 z z) z) (f o113 z z))) (f o25 (f o41 (f o73 (f o137 z z) z) (f o105 (f o169 z z) z)) (f o57 (f o89 (f o153 z z) z) (f o121 z z)))) (f o13 (f o21 (f o37 (f o69 (f o133 z z) z) (f o101 (f o165 z z) z)) (f o53 (f o85 (f o149 z z) z) (f o117 z z))) (f o29 (f o45 (f o77 (f o141 z z) z) (f o109 z z)) (f o61 (f o93 (f o157 z z) z) (f o125 z z)))))) (f boot_o_2 (f boot_o_4 (f boot_o_8 (f o16 (f o32 (f o64 (f o128 z z) z) (f o96 (f o160 z z) z)) (f o48 (f o80 (f o144 z z) z) (f o112 z z))) (f o24 (f o40 (f o72 (f o136 z z) z) (f o104 (f o168 z z) z)) (f o56 (f o88 (f o152 z z) z) (f o120 z z)))) (f o12v1 (f o20 (f o36 (f o68 (f o132 z z) z) (f o100 (f o164 z z) z)) (f o52 (f o84 (f o148 z z) z) (f o116 z z))) (f o28 (f o44 (f o76 (f o140 z z) z) (f o108 z z)) (f o60 (f o92 (f o156 z z) z) (f o124 z z))))) (f boot_o_6 (f boot_o_10 (f o18 (f o34 (f o66 (f o130 z z) z) (f o98 (f o162 z z) z)) (f o50 (f o82 (f o146 z z) z) (f o114 z z))) (f o26 (f o42 (f o74 (f o138 z z) z) (f o106 (f o170 z z) z)) (f o58 (f o90 (f o154 z z) z) (f o122 z z)))) (f o14 (f o22 (f o38 (f o70 (f o134 z z) z) (f o102 (f o166 z z) z)) (f o54 (f o86 (f o150 z z) z) (f o118 z z))) (f o30 (f o46 (f o78 (f o142 z z) z) (f o110 z z)) (f o62 (f o94 (f o158 z z) z) (f o126 z z)))))))
noncomputable abbrev s0 (w : World) (os : OsState) : SharedT := ⟨t0 w.params,171,{ },(Array.mk []),⟨0,0,0,0⟩,405,os⟩
noncomputable abbrev p0 : Pos := ⟨47,0,50,82⟩
noncomputable abbrev st0 : List Stmt := (pt.main.body.drop 0).take 22
theorem q0 (w : World) : (fun os => segRunT treeTable pt w m0 an 1 1995 (sB w os) ⟨(execs st0 en).wrap doneF deadEnd id id,cE,pB,B⟩) = fun os => some (.next,s0 w os,cE,p0) := by
  rw [PySem.W.Fast.te10110043849684766642,PySem.W.Fast.te14364793385576792824,PySem.W.Fast.te12563942051412417395]; kernel_rfl
noncomputable def o3v2 (P : Params) : Obj := ⟨(.type L0),none,(.dict #[e P S0 165 (.str S212 556),e P S2 166 .none,e P S3 167 .none,e P S4 168 (.builtin L144),e P S5 169 .none,e P S161 170 (.ref 6),e P S162 171 (.ref 4),e P S163 173 (.str S164 172),e P S165 174 .none,e P S168 206 (.ref 24),e P S169 222 (.ref 37),e P S170 238 (.ref 49),e P S171 254 (.ref 61),e P S172 270 (.ref 73),e P S173 286 (.ref 85),e P S174 302 (.ref 97),e P S175 318 (.ref 109),e P S176 328 (.ref 118),e P S177 335 (.ref 125),e P S178 342 (.ref 132),e P S179 350 (.ref 139),e P S180 359 (.ref 146),e P S181 363 (.str S182 362),e P S183 365 (.str S184 364),e P S185 380 (.ref 153),e P S186 386 (.ref 158),e P S187 398 (.ref 165),e P S188 404 (.ref 170),e P S213 410 (.ref 175),e P S214 412 (.int 16 411),e P S215 425 (.ref 182),e P S216 431 (.ref 187),e P S217 447 (.ref 194),e P S218 453 (.ref 199),e P S219 457 (.int 8 456),e P S220 459 (.int 5 458),e P S221 471 (.ref 206),e P S222 478 (.ref 213),e P S223 555 (.ref 268),e P S224 564 (.ref 279),e P S225 573 (.ref 286),e P S226 583 (.ref 293),e P S227 591 (.ref 300),e P S228 599 (.ref 307),e P S229 606 (.ref 314),e P S230 617 (.ref 321),e P S231 627 (.ref 328),e P S232 640 (.ref 335),e P S233 646 (.ref 340),e P S234 652 (.ref 345),e P S235 667 (.ref 352),e P S236 673 (.ref 357),e P S237 685 (.ref 364),e P S238 691 (.ref 369),e P S239 699 (.ref 376)] 55),#[]⟩
noncomputable def o12v2 (P : Params) : Obj := ⟨.none,none,(.fields #[.int 2 0,.int 0 0,.ref 20,.int 4 0,.int 0 0,.ref 33,.int 6 0,.int 0 0,.ref 45,.int 8 0,.int 0 0,.ref 57,.int 10 0,.int 0 0,.ref 69,.int 12 0,.int 0 0,.ref 81,.int 14 0,.int 0 0,.ref 93,.int 16 0,.int 0 0,.ref 105,.int 19 0,.int 0 0,.ref 117,.int 21 0,.int 0 0,.ref 124,.int 23 0,.int 0 0,.ref 131,.int 25 0,.int 0 0,.ref 138,.int 28 0,.int 0 0,.ref 145,.int 34 0,.int 0 0,.ref 152,.int 39 0,.int 0 0,.ref 157,.int 42 0,.int 0 0,.ref 164,.int 47 0,.int 0 0,.ref 169,.int 51 0,.int 0 0,.ref 174,.int 55 0,.int 0 0,.ref 181,.int 60 0,.int 0 0,.ref 186,.int 64 0,.int 0 0,.ref 193,.int 73 0,.int 0 0,.ref 198,.int 82 0,.int 0 0,.ref 205,.int 89 0,.int 0 0,.ref 212,.int 91 0,.int 0 0,.ref 219,.int 134 0,.int 0 0,.ref 278,.int 136 0,.int 0 0,.ref 285,.int 143 0,.int 0 0,.ref 292,.int 150 0,.int 0 0,.ref 299,.int 155 0,.int 0 0,.ref 306,.int 160 0,.int 0 0,.ref 313,.int 164 0,.int 0 0,.ref 320,.int 170 0,.int 0 0,.ref 327,.int 176 0,.int 0 0,.ref 334,.int 183 0,.int 0 0,.ref 339,.int 191 0,.int 0 0,.ref 344,.int 193 0,.int 0 0,.ref 351,.int 208 0,.int 0 0,.ref 356,.int 210 0,.int 0 0,.ref 363,.int 214 0,.int 0 0,.ref 368,.int 241 0,.int 0 0,.ref 375]),#[]⟩
noncomputable def o171 (P : Params) : Obj := ⟨(.type L68),none,(.seq #[] 0),#[]⟩
noncomputable def o172 (P : Params) : Obj := ⟨.none,none,(.fields #[]),#[]⟩
noncomputable def o173 (P : Params) : Obj := ⟨.none,none,(.func ⟨S213,S213,L2.defArgs (tp 22),(.stmts (L2.defBody (tp 22))),L2.defScope (tp 22),0,[],.none,.none,.none,.none,none,.none,.none,0⟩),#[]⟩
noncomputable def o174 (P : Params) : Obj := ⟨(.type L146),none,(.fields #[.str S213 405,.str S213 406,.str S164 407,.int 51 0,.int 2 0,.int 0 0,.int 0 0,.int 3 0,.ref 171,.bool true,.int 181 0,.ref 172,.none,.none,.none,.ref 173,.int 408 0,.int 51 0,.str S164 409]),#[]⟩
noncomputable def o175 (P : Params) : Obj := ⟨(.type L154),none,(.func ⟨S213,S213,L2.defArgs (tp 22),(.stmts (L2.defBody (tp 22))),L2.defScope (tp 22),3,[],.none,.none,.none,.str S167 360,none,.ref 174,.none,0⟩),#[]⟩
noncomputable def o176 (P : Params) : Obj := ⟨(.type L68),none,(.seq #[] 0),#[]⟩
noncomputable def o177 (P : Params) : Obj := ⟨.none,none,(.fields #[]),#[]⟩
noncomputable def o178 (P : Params) : Obj := ⟨(.type L68),none,(.seq #[.str S198 418,.str S199 419,.str S195 420,.str S240 421,.str S241 422] 0),#[]⟩
noncomputable def o179 (P : Params) : Obj := ⟨(.type L68),none,(.seq #[] 0),#[]⟩
noncomputable def o180 (P : Params) : Obj := ⟨.none,none,(.func ⟨S215,S215,L2.defArgs (tp 25),(.stmts (L2.defBody (tp 25))),L2.defScope (tp 25),0,[],.none,.none,.none,.none,none,.none,.none,0⟩),#[]⟩
noncomputable def o181 (P : Params) : Obj := ⟨(.type L146),none,(.fields #[.str S215 415,.str S215 416,.str S164 417,.int 55 0,.int 3 0,.int 0 0,.int 0 0,.int 3 0,.ref 176,.bool true,.int 181 0,.ref 177,.none,.ref 178,.ref 179,.ref 180,.int 423 0,.int 55 0,.str S164 424]),#[]⟩
noncomputable def o182 (P : Params) : Obj := ⟨(.type L154),none,(.func ⟨S215,S215,L2.defArgs (tp 25),(.stmts (L2.defBody (tp 25))),L2.defScope (tp 25),3,[],.none,.none,.none,.str S242 413,none,.ref 181,.none,0⟩),#[]⟩
noncomputable def o183 (P : Params) : Obj := ⟨(.type L68),none,(.seq #[] 0),#[]⟩
noncomputable def o184 (P : Params) : Obj := ⟨.none,none,(.fields #[]),#[]⟩
noncomputable def o185 (P : Params) : Obj := ⟨.none,none,(.func ⟨S216,S216,L2.defArgs (tp 26),(.stmts (L2.defBody (tp 26))),L2.defScope (tp 26),0,[],.none,.none,.none,.none,none,.none,.none,0⟩),#[]⟩
noncomputable def o186 (P : Params) : Obj := ⟨(.type L146),none,(.fields #[.str S216 426,.str S216 427,.str S164 428,.int 60 0,.int 3 0,.int 0 0,.int 0 0,.int 3 0,.ref 183,.bool true,.int 181 0,.ref 184,.none,.none,.none,.ref 185,.int 429 0,.int 60 0,.str S164 430]),#[]⟩
noncomputable def o187 (P : Params) : Obj := ⟨(.type L154),none,(.func ⟨S216,S216,L2.defArgs (tp 26),(.stmts (L2.defBody (tp 26))),L2.defScope (tp 26),3,[],.none,.none,.none,.str S242 413,none,.ref 186,.none,0⟩),#[]⟩
noncomputable def o188 (P : Params) : Obj := ⟨(.type L68),none,(.seq #[] 0),#[]⟩
noncomputable def o189 (P : Params) : Obj := ⟨.none,none,(.fields #[]),#[]⟩
noncomputable def o190 (P : Params) : Obj := ⟨(.type L68),none,(.seq #[.str S201 435,.str S209 436,.str S243 437,.str S244 438,.str S202 439,.str S203 440,.str S210 441,.str S211 442,.str S245 443,.str S246 444] 0),#[]⟩
noncomputable def o191 (P : Params) : Obj := ⟨(.type L68),none,(.seq #[] 0),#[]⟩
noncomputable def o192 (P : Params) : Obj := ⟨.none,none,(.func ⟨S217,S217,L2.defArgs (tp 27),(.stmts (L2.defBody (tp 27))),L2.defScope (tp 27),0,[],.none,.none,.none,.none,none,.none,.none,0⟩),#[]⟩
noncomputable def o193 (P : Params) : Obj := ⟨(.type L146),none,(.fields #[.str S217 432,.str S217 433,.str S164 434,.int 64 0,.int 3 0,.int 0 0,.int 0 0,.int 3 0,.ref 188,.bool true,.int 181 0,.ref 189,.none,.ref 190,.ref 191,.ref 192,.int 445 0,.int 64 0,.str S164 446]),#[]⟩
noncomputable def o194 (P : Params) : Obj := ⟨(.type L154),none,(.func ⟨S217,S217,L2.defArgs (tp 27),(.stmts (L2.defBody (tp 27))),L2.defScope (tp 27),3,[],.none,.none,.none,.str S242 413,none,.ref 193,.none,0⟩),#[]⟩
noncomputable def o195 (P : Params) : Obj := ⟨(.type L68),none,(.seq #[] 0),#[]⟩
noncomputable def o196 (P : Params) : Obj := ⟨.none,none,(.fields #[]),#[]⟩
noncomputable def o197 (P : Params) : Obj := ⟨.none,none,(.func ⟨S218,S218,L2.defArgs (tp 28),(.stmts (L2.defBody (tp 28))),L2.defScope (tp 28),0,[],.none,.none,.none,.none,none,.none,.none,0⟩),#[]⟩
noncomputable def o198 (P : Params) : Obj := ⟨(.type L146),none,(.fields #[.str S218 448,.str S218 449,.str S164 450,.int 73 0,.int 4 0,.int 0 0,.int 0 0,.int 3 0,.ref 195,.bool true,.int 181 0,.ref 196,.none,.none,.none,.ref 197,.int 451 0,.int 73 0,.str S164 452]),#[]⟩
noncomputable def o199 (P : Params) : Obj := ⟨(.type L154),none,(.func ⟨S218,S218,L2.defArgs (tp 28),(.stmts (L2.defBody (tp 28))),L2.defScope (tp 28),3,[],.none,.none,.none,.str S242 413,none,.ref 198,.none,0⟩),#[]⟩
noncomputable def o200 (P : Params) : Obj := ⟨(.type L68),none,(.seq #[] 0),#[]⟩
noncomputable def o201 (P : Params) : Obj := ⟨.none,none,(.fields #[]),#[]⟩
noncomputable def o202 (P : Params) : Obj := ⟨(.type L68),none,(.seq #[.str S195 463,.str S198 464,.str S199 465,.str S247 466,.str S248 467,.str S249 468] 0),#[]⟩
noncomputable def o203 (P : Params) : Obj := ⟨(.type L68),none,(.seq #[] 0),#[]⟩
noncomputable def o204 (P : Params) : Obj := ⟨.none,none,(.func ⟨S221,S221,L2.defArgs (tp 32),(.stmts (L2.defBody (tp 32))),L2.defScope (tp 32),0,[],.none,.none,.none,.none,none,.none,.none,0⟩),#[]⟩
noncomputable def o205 (P : Params) : Obj := ⟨(.type L146),none,(.fields #[.str S221 460,.str S221 461,.str S164 462,.int 82 0,.int 1 0,.int 0 0,.int 0 0,.int 3 0,.ref 200,.bool true,.int 181 0,.ref 201,.none,.ref 202,.ref 203,.ref 204,.int 469 0,.int 82 0,.str S164 470]),#[]⟩
noncomputable def o206 (P : Params) : Obj := ⟨(.type L154),none,(.func ⟨S221,S221,L2.defArgs (tp 32),(.stmts (L2.defBody (tp 32))),L2.defScope (tp 32),3,[],.none,.none,.none,.str S250 454,none,.ref 205,.none,0⟩),#[]⟩
noncomputable def o207 (P : Params) : Obj := ⟨(.type L68),none,(.seq #[] 0),#[]⟩
noncomputable def o208 (P : Params) : Obj := ⟨.none,none,(.fields #[]),#[]⟩
noncomputable def o209 (P : Params) : Obj := ⟨(.type L68),none,(.seq #[.str S202 475] 0),#[]⟩
noncomputable def o210 (P : Params) : Obj := ⟨(.type L68),none,(.seq #[] 0),#[]⟩
noncomputable def o211 (P : Params) : Obj := ⟨.none,none,(.func ⟨S222,S222,L2.defArgs (tp 33),(.stmts (L2.defBody (tp 33))),L2.defScope (tp 33),0,[],.none,.none,.none,.none,none,.none,.none,0⟩),#[]⟩
noncomputable def o212 (P : Params) : Obj := ⟨(.type L146),none,(.fields #[.str S222 472,.str S222 473,.str S164 474,.int 89 0,.int 1 0,.int 0 0,.int 0 0,.int 3 0,.ref 207,.bool true,.int 181 0,.ref 208,.none,.ref 209,.ref 210,.ref 211,.int 476 0,.int 89 0,.str S164 477]),#[]⟩
noncomputable def o213 (P : Params) : Obj := ⟨(.type L154),none,(.func ⟨S222,S222,L2.defArgs (tp 33),(.stmts (L2.defBody (tp 33))),L2.defScope (tp 33),3,[],.none,.none,.none,.str S250 454,none,.ref 212,.none,0⟩),#[]⟩
noncomputable def o214 (P : Params) : Obj := ⟨(.type L68),none,(.seq #[] 0),#[]⟩
noncomputable def o215 (P : Params) : Obj := ⟨(.type L148),none,(.fields #[.builtin L149,.type L69]),#[]⟩
noncomputable def o216 (P : Params) : Obj := ⟨(.type L0),none,(.dict #[e P S189 486 (.str S250 454),e P S191 488 (.str S223 487),e P S192 490 (.int 91 489),e P S251 496 (.ref 225),e P S208 503 (.ref 232),e P S244 510 (.ref 239),e P S248 516 (.ref 244),e P S252 526 (.ref 251),e P S253 535 (.ref 258),e P S254 545 (.ref 265),e P S193 548 (.ref 266)] 11),#[]⟩
noncomputable def o217 (P : Params) : Obj := ⟨(.type L68),none,(.seq #[] 0),#[]⟩
noncomputable def o218 (P : Params) : Obj := ⟨.none,none,(.fields #[.int 93 0,.int 4 0,.ref 224,.int 104 0,.int 4 0,.ref 231,.int 107 0,.int 4 0,.ref 238,.int 110 0,.int 4 0,.ref 243,.int 113 0,.int 4 0,.ref 250,.int 121 0,.int 4 0,.ref 257,.int 126 0,.int 4 0,.ref 264]),#[]⟩
noncomputable def o219 (P : Params) : Obj := ⟨(.type L146),none,(.fields #[.str S223 481,.str S223 482,.str S164 483,.int 91 0,.int 0 0,.int 0 0,.int 0 0,.int 0 0,.ref 217,.bool false,.int 181 0,.ref 218,.none,.none,.none,.none,.int 484 0,.int 91 0,.str S164 485]),#[]⟩
noncomputable def o220 (P : Params) : Obj := ⟨(.type L147),none,.plain,#[some (.ref 219),some (.ref 3),some (.ref 216),none,some (.str S250 454),none,some (.ref 0)]⟩
noncomputable def o221 (P : Params) : Obj := ⟨(.type L68),none,(.seq #[] 0),#[]⟩
noncomputable def o222 (P : Params) : Obj := ⟨.none,none,(.fields #[]),#[]⟩
noncomputable def o223 (P : Params) : Obj := ⟨.none,none,(.func ⟨S251,S255,L2.defArgs (L2.inClass (tp 34) 0),(.stmts (L2.defBody (L2.inClass (tp 34) 0))),L2.defScope (L2.inClass (tp 34) 0),0,[],.none,.none,.none,.none,none,.none,.none,0⟩),#[]⟩
noncomputable def o224 (P : Params) : Obj := ⟨(.type L146),none,(.fields #[.str S251 491,.str S255 492,.str S164 493,.int 93 0,.int 3 0,.int 0 0,.int 0 0,.int 3 0,.ref 221,.bool true,.int 181 0,.ref 222,.none,.none,.none,.ref 223,.int 494 0,.int 93 0,.str S164 495]),#[]⟩
noncomputable def o225 (P : Params) : Obj := ⟨(.type L154),none,(.func ⟨S251,S255,L2.defArgs (L2.inClass (tp 34) 0),(.stmts (L2.defBody (L2.inClass (tp 34) 0))),L2.defScope (L2.inClass (tp 34) 0),3,[],.none,.none,.none,.str S250 454,none,.ref 224,.none,0⟩),#[]⟩
noncomputable def o226 (P : Params) : Obj := ⟨(.type L68),none,(.seq #[] 0),#[]⟩
noncomputable def o227 (P : Params) : Obj := ⟨.none,none,(.fields #[]),#[]⟩
noncomputable def o228 (P : Params) : Obj := ⟨(.type L68),none,(.seq #[.str S256 500] 0),#[]⟩
noncomputable def o229 (P : Params) : Obj := ⟨(.type L68),none,(.seq #[] 0),#[]⟩
noncomputable def o230 (P : Params) : Obj := ⟨.none,none,(.func ⟨S208,S257,L2.defArgs (L2.inClass (tp 34) 1),(.stmts (L2.defBody (L2.inClass (tp 34) 1))),L2.defScope (L2.inClass (tp 34) 1),0,[],.none,.none,.none,.none,none,.none,.none,0⟩),#[]⟩
noncomputable def o231 (P : Params) : Obj := ⟨(.type L146),none,(.fields #[.str S208 497,.str S257 498,.str S164 499,.int 104 0,.int 1 0,.int 0 0,.int 0 0,.int 3 0,.ref 226,.bool true,.int 181 0,.ref 227,.none,.ref 228,.ref 229,.ref 230,.int 501 0,.int 104 0,.str S164 502]),#[]⟩
noncomputable def o232 (P : Params) : Obj := ⟨(.type L154),none,(.func ⟨S208,S257,L2.defArgs (L2.inClass (tp 34) 1),(.stmts (L2.defBody (L2.inClass (tp 34) 1))),L2.defScope (L2.inClass (tp 34) 1),3,[],.none,.none,.none,.str S250 454,none,.ref 231,.none,0⟩),#[]⟩
noncomputable def o233 (P : Params) : Obj := ⟨(.type L68),none,(.seq #[] 0),#[]⟩
noncomputable def o234 (P : Params) : Obj := ⟨.none,none,(.fields #[]),#[]⟩
noncomputable def o235 (P : Params) : Obj := ⟨(.type L68),none,(.seq #[.str S256 507] 0),#[]⟩
noncomputable def o236 (P : Params) : Obj := ⟨(.type L68),none,(.seq #[] 0),#[]⟩
noncomputable def o237 (P : Params) : Obj := ⟨.none,none,(.func ⟨S244,S258,L2.defArgs (L2.inClass (tp 34) 2),(.stmts (L2.defBody (L2.inClass (tp 34) 2))),L2.defScope (L2.inClass (tp 34) 2),0,[],.none,.none,.none,.none,none,.none,.none,0⟩),#[]⟩
noncomputable def o238 (P : Params) : Obj := ⟨(.type L146),none,(.fields #[.str S244 504,.str S258 505,.str S164 506,.int 107 0,.int 1 0,.int 0 0,.int 0 0,.int 3 0,.ref 233,.bool true,.int 181 0,.ref 234,.none,.ref 235,.ref 236,.ref 237,.int 508 0,.int 107 0,.str S164 509]),#[]⟩
noncomputable def o239 (P : Params) : Obj := ⟨(.type L154),none,(.func ⟨S244,S258,L2.defArgs (L2.inClass (tp 34) 2),(.stmts (L2.defBody (L2.inClass (tp 34) 2))),L2.defScope (L2.inClass (tp 34) 2),3,[],.none,.none,.none,.str S250 454,none,.ref 238,.none,0⟩),#[]⟩
noncomputable def o240 (P : Params) : Obj := ⟨(.type L68),none,(.seq #[] 0),#[]⟩
noncomputable def o241 (P : Params) : Obj := ⟨.none,none,(.fields #[]),#[]⟩
noncomputable def o242 (P : Params) : Obj := ⟨.none,none,(.func ⟨S248,S259,L2.defArgs (L2.inClass (tp 34) 3),(.stmts (L2.defBody (L2.inClass (tp 34) 3))),L2.defScope (L2.inClass (tp 34) 3),0,[],.none,.none,.none,.none,none,.none,.none,0⟩),#[]⟩
noncomputable def o243 (P : Params) : Obj := ⟨(.type L146),none,(.fields #[.str S248 511,.str S259 512,.str S164 513,.int 110 0,.int 1 0,.int 0 0,.int 0 0,.int 3 0,.ref 240,.bool true,.int 181 0,.ref 241,.none,.none,.none,.ref 242,.int 514 0,.int 110 0,.str S164 515]),#[]⟩
noncomputable def o244 (P : Params) : Obj := ⟨(.type L154),none,(.func ⟨S248,S259,L2.defArgs (L2.inClass (tp 34) 3),(.stmts (L2.defBody (L2.inClass (tp 34) 3))),L2.defScope (L2.inClass (tp 34) 3),3,[],.none,.none,.none,.str S250 454,none,.ref 243,.none,0⟩),#[]⟩
noncomputable def o245 (P : Params) : Obj := ⟨(.type L68),none,(.seq #[] 0),#[]⟩
noncomputable def o246 (P : Params) : Obj := ⟨.none,none,(.fields #[]),#[]⟩
noncomputable def o247 (P : Params) : Obj := ⟨(.type L68),none,(.seq #[.str S256 520,.str S260 521,.str S261 522,.str S202 523] 0),#[]⟩
noncomputable def o248 (P : Params) : Obj := ⟨(.type L68),none,(.seq #[] 0),#[]⟩
noncomputable def o249 (P : Params) : Obj := ⟨.none,none,(.func ⟨S252,S262,L2.defArgs (L2.inClass (tp 34) 4),(.stmts (L2.defBody (L2.inClass (tp 34) 4))),L2.defScope (L2.inClass (tp 34) 4),0,[],.none,.none,.none,.none,none,.none,.none,0⟩),#[]⟩
noncomputable def o250 (P : Params) : Obj := ⟨(.type L146),none,(.fields #[.str S252 517,.str S262 518,.str S164 519,.int 113 0,.int 1 0,.int 0 0,.int 0 0,.int 3 0,.ref 245,.bool true,.int 181 0,.ref 246,.none,.ref 247,.ref 248,.ref 249,.int 524 0,.int 113 0,.str S164 525]),#[]⟩
noncomputable def o251 (P : Params) : Obj := ⟨(.type L154),none,(.func ⟨S252,S262,L2.defArgs (L2.inClass (tp 34) 4),(.stmts (L2.defBody (L2.inClass (tp 34) 4))),L2.defScope (L2.inClass (tp 34) 4),3,[],.none,.none,.none,.str S250 454,none,.ref 250,.none,0⟩),#[]⟩
noncomputable def o252 (P : Params) : Obj := ⟨(.type L68),none,(.seq #[] 0),#[]⟩
noncomputable def o253 (P : Params) : Obj := ⟨.none,none,(.fields #[]),#[]⟩
noncomputable def o254 (P : Params) : Obj := ⟨(.type L68),none,(.seq #[.str S256 530,.str S202 531,.str S203 532] 0),#[]⟩
noncomputable def o255 (P : Params) : Obj := ⟨(.type L68),none,(.seq #[] 0),#[]⟩
noncomputable def o256 (P : Params) : Obj := ⟨.none,none,(.func ⟨S253,S263,L2.defArgs (L2.inClass (tp 34) 5),(.stmts (L2.defBody (L2.inClass (tp 34) 5))),L2.defScope (L2.inClass (tp 34) 5),0,[],.none,.none,.none,.none,none,.none,.none,0⟩),#[]⟩
noncomputable def o257 (P : Params) : Obj := ⟨(.type L146),none,(.fields #[.str S253 527,.str S263 528,.str S164 529,.int 121 0,.int 3 0,.int 0 0,.int 0 0,.int 3 0,.ref 252,.bool true,.int 181 0,.ref 253,.none,.ref 254,.ref 255,.ref 256,.int 533 0,.int 121 0,.str S164 534]),#[]⟩
noncomputable def o258 (P : Params) : Obj := ⟨(.type L154),none,(.func ⟨S253,S263,L2.defArgs (L2.inClass (tp 34) 5),(.stmts (L2.defBody (L2.inClass (tp 34) 5))),L2.defScope (L2.inClass (tp 34) 5),3,[],.none,.none,.none,.str S250 454,none,.ref 257,.none,0⟩),#[]⟩
noncomputable def o259 (P : Params) : Obj := ⟨(.type L68),none,(.seq #[] 0),#[]⟩
noncomputable def o260 (P : Params) : Obj := ⟨.none,none,(.fields #[]),#[]⟩
noncomputable def o261 (P : Params) : Obj := ⟨(.type L68),none,(.seq #[.str S256 539,.str S202 540,.str S203 541,.str S264 542] 0),#[]⟩
noncomputable def o262 (P : Params) : Obj := ⟨(.type L68),none,(.seq #[] 0),#[]⟩
noncomputable def o263 (P : Params) : Obj := ⟨.none,none,(.func ⟨S254,S265,L2.defArgs (L2.inClass (tp 34) 6),(.stmts (L2.defBody (L2.inClass (tp 34) 6))),L2.defScope (L2.inClass (tp 34) 6),0,[],.none,.none,.none,.none,none,.none,.none,0⟩),#[]⟩
noncomputable def o264 (P : Params) : Obj := ⟨(.type L146),none,(.fields #[.str S254 536,.str S265 537,.str S164 538,.int 126 0,.int 3 0,.int 0 0,.int 0 0,.int 3 0,.ref 259,.bool true,.int 181 0,.ref 260,.none,.ref 261,.ref 262,.ref 263,.int 543 0,.int 126 0,.str S164 544]),#[]⟩
noncomputable def o265 (P : Params) : Obj := ⟨(.type L154),none,(.func ⟨S254,S265,L2.defArgs (L2.inClass (tp 34) 6),(.stmts (L2.defBody (L2.inClass (tp 34) 6))),L2.defScope (L2.inClass (tp 34) 6),3,[],.none,.none,.none,.str S250 454,none,.ref 264,.none,0⟩),#[]⟩
noncomputable def o266 (P : Params) : Obj := ⟨(.type L68),none,(.seq #[.str S266 546,.str S267 547] 0),#[]⟩
noncomputable def o267 (P : Params) : Obj := ⟨(.type L0),none,(.dict #[e P S189 486 (.str S250 454),e P S192 490 (.int 91 489),e P S251 496 (.ref 225),e P S208 503 (.ref 232),e P S244 510 (.ref 239),e P S248 516 (.ref 244),e P S252 526 (.ref 251),e P S253 535 (.ref 258),e P S254 545 (.ref 265),e P S193 548 (.ref 266),e P S268 550 (.ref 269),e P S194 552 (.ref 270),e P S2 553 .none] 4),#[]⟩
noncomputable abbrev L155 : String := PySem.W.SL.s11443829558043349243x14
noncomputable def o268 (P : Params) : Obj := ⟨(.type L69),none,(.cls ⟨S223,[.type L60],[.ref 268,.type L60],267,S223,true,[],[],false,none,false⟩),#[none,none,some (.str S223 479),some (.str S223 487),some (.builtin L155),some (.bool true)]⟩
noncomputable abbrev L156 : String := PySem.W.SL.s6511155373996960695x17
noncomputable abbrev L157 : String := PySem.W.SL.s12411053484034534018x21
noncomputable def o269 (P : Params) : Obj := ⟨(.type L151),none,(.fields #[.str S268 549,.ref 268,.builtin L156,.builtin L157]),#[]⟩
noncomputable def o270 (P : Params) : Obj := ⟨(.type L151),none,(.fields #[.str S194 551,.ref 268,.builtin L152,.none]),#[]⟩
noncomputable def o271 (P : Params) : Obj := ⟨(.type L67),none,(.fields #[.ref 268,.ref 268,.ref 268]),#[]⟩
noncomputable def o272 (P : Params) : Obj := ⟨(.type L148),none,(.fields #[.builtin L153,.ref 268]),#[]⟩
noncomputable def o273 (P : Params) : Obj := ⟨(.type L68),none,(.seq #[] 0),#[]⟩
noncomputable def o274 (P : Params) : Obj := ⟨.none,none,(.fields #[]),#[]⟩
noncomputable def o275 (P : Params) : Obj := ⟨(.type L68),none,(.seq #[.str S269 561] 0),#[]⟩
noncomputable def o276 (P : Params) : Obj := ⟨(.type L68),none,(.seq #[] 0),#[]⟩
noncomputable def o277 (P : Params) : Obj := ⟨.none,none,(.func ⟨S224,S224,L2.defArgs (tp 36),(.stmts (L2.defBody (tp 36))),L2.defScope (tp 36),0,[],.none,.none,.none,.none,none,.none,.none,0⟩),#[]⟩
noncomputable def o278 (P : Params) : Obj := ⟨(.type L146),none,(.fields #[.str S224 558,.str S224 559,.str S164 560,.int 134 0,.int 1 0,.int 0 0,.int 0 0,.int 3 0,.ref 273,.bool true,.int 181 0,.ref 274,.none,.ref 275,.ref 276,.ref 277,.int 562 0,.int 134 0,.str S164 563]),#[]⟩
noncomputable def o279 (P : Params) : Obj := ⟨(.type L154),none,(.func ⟨S224,S224,L2.defArgs (tp 36),(.stmts (L2.defBody (tp 36))),L2.defScope (tp 36),3,[],.none,.none,.none,.str S212 556,none,.ref 278,.none,0⟩),#[]⟩
noncomputable def o280 (P : Params) : Obj := ⟨(.type L68),none,(.seq #[] 0),#[]⟩
noncomputable def o281 (P : Params) : Obj := ⟨.none,none,(.fields #[]),#[]⟩
noncomputable def o282 (P : Params) : Obj := ⟨(.type L68),none,(.seq #[.str S270 568,.str S271 569,.str S272 570] 0),#[]⟩
noncomputable def o283 (P : Params) : Obj := ⟨(.type L68),none,(.seq #[] 0),#[]⟩
noncomputable def o284 (P : Params) : Obj := ⟨.none,none,(.func ⟨S225,S225,L2.defArgs (tp 37),(.stmts (L2.defBody (tp 37))),L2.defScope (tp 37),0,[],.none,.none,.none,.none,none,.none,.none,0⟩),#[]⟩
noncomputable def o285 (P : Params) : Obj := ⟨(.type L146),none,(.fields #[.str S225 565,.str S225 566,.str S164 567,.int 136 0,.int 2 0,.int 0 0,.int 0 0,.int 3 0,.ref 280,.bool true,.int 181 0,.ref 281,.none,.ref 282,.ref 283,.ref 284,.int 571 0,.int 136 0,.str S164 572]),#[]⟩
noncomputable def o286 (P : Params) : Obj := ⟨(.type L154),none,(.func ⟨S225,S225,L2.defArgs (tp 37),(.stmts (L2.defBody (tp 37))),L2.defScope (tp 37),3,[],.none,.none,.none,.str S212 556,none,.ref 285,.none,0⟩),#[]⟩
noncomputable def o287 (P : Params) : Obj := ⟨(.type L68),none,(.seq #[] 0),#[]⟩
noncomputable def o288 (P : Params) : Obj := ⟨.none,none,(.fields #[]),#[]⟩
noncomputable def o289 (P : Params) : Obj := ⟨(.type L68),none,(.seq #[.str S270 577,.str S271 578,.str S273 579,.str S274 580] 0),#[]⟩
noncomputable def o290 (P : Params) : Obj := ⟨(.type L68),none,(.seq #[] 0),#[]⟩
noncomputable def o291 (P : Params) : Obj := ⟨.none,none,(.func ⟨S226,S226,L2.defArgs (tp 38),(.stmts (L2.defBody (tp 38))),L2.defScope (tp 38),0,[],.none,.none,.none,.none,none,.none,.none,0⟩),#[]⟩
noncomputable def o292 (P : Params) : Obj := ⟨(.type L146),none,(.fields #[.str S226 574,.str S226 575,.str S164 576,.int 143 0,.int 2 0,.int 0 0,.int 0 0,.int 3 0,.ref 287,.bool true,.int 181 0,.ref 288,.none,.ref 289,.ref 290,.ref 291,.int 581 0,.int 143 0,.str S164 582]),#[]⟩
noncomputable def o293 (P : Params) : Obj := ⟨(.type L154),none,(.func ⟨S226,S226,L2.defArgs (tp 38),(.stmts (L2.defBody (tp 38))),L2.defScope (tp 38),3,[],.none,.none,.none,.str S212 556,none,.ref 292,.none,0⟩),#[]⟩
noncomputable def o294 (P : Params) : Obj := ⟨(.type L68),none,(.seq #[] 0),#[]⟩
noncomputable def o295 (P : Params) : Obj := ⟨.none,none,(.fields #[]),#[]⟩
noncomputable def o296 (P : Params) : Obj := ⟨(.type L68),none,(.seq #[.str S270 587,.str S275 588] 0),#[]⟩
noncomputable def o297 (P : Params) : Obj := ⟨(.type L68),none,(.seq #[] 0),#[]⟩
noncomputable def o298 (P : Params) : Obj := ⟨.none,none,(.func ⟨S227,S227,L2.defArgs (tp 39),(.stmts (L2.defBody (tp 39))),L2.defScope (tp 39),0,[],.none,.none,.none,.none,none,.none,.none,0⟩),#[]⟩
noncomputable def o299 (P : Params) : Obj := ⟨(.type L146),none,(.fields #[.str S227 584,.str S227 585,.str S164 586,.int 150 0,.int 1 0,.int 0 0,.int 0 0,.int 3 0,.ref 294,.bool true,.int 181 0,.ref 295,.none,.ref 296,.ref 297,.ref 298,.int 589 0,.int 150 0,.str S164 590]),#[]⟩
noncomputable def o300 (P : Params) : Obj := ⟨(.type L154),none,(.func ⟨S227,S227,L2.defArgs (tp 39),(.stmts (L2.defBody (tp 39))),L2.defScope (tp 39),3,[],.none,.none,.none,.str S212 556,none,.ref 299,.none,0⟩),#[]⟩
noncomputable def o301 (P : Params) : Obj := ⟨(.type L68),none,(.seq #[] 0),#[]⟩
noncomputable def o302 (P : Params) : Obj := ⟨.none,none,(.fields #[]),#[]⟩
noncomputable def o303 (P : Params) : Obj := ⟨(.type L68),none,(.seq #[.str S270 595,.str S275 596] 0),#[]⟩
noncomputable def o304 (P : Params) : Obj := ⟨(.type L68),none,(.seq #[] 0),#[]⟩
noncomputable def o305 (P : Params) : Obj := ⟨.none,none,(.func ⟨S228,S228,L2.defArgs (tp 40),(.stmts (L2.defBody (tp 40))),L2.defScope (tp 40),0,[],.none,.none,.none,.none,none,.none,.none,0⟩),#[]⟩
noncomputable def o306 (P : Params) : Obj := ⟨(.type L146),none,(.fields #[.str S228 592,.str S228 593,.str S164 594,.int 155 0,.int 1 0,.int 0 0,.int 0 0,.int 3 0,.ref 301,.bool true,.int 181 0,.ref 302,.none,.ref 303,.ref 304,.ref 305,.int 597 0,.int 155 0,.str S164 598]),#[]⟩
noncomputable def o307 (P : Params) : Obj := ⟨(.type L154),none,(.func ⟨S228,S228,L2.defArgs (tp 40),(.stmts (L2.defBody (tp 40))),L2.defScope (tp 40),3,[],.none,.none,.none,.str S212 556,none,.ref 306,.none,0⟩),#[]⟩
noncomputable def o308 (P : Params) : Obj := ⟨(.type L68),none,(.seq #[] 0),#[]⟩
noncomputable def o309 (P : Params) : Obj := ⟨.none,none,(.fields #[]),#[]⟩
noncomputable def o310 (P : Params) : Obj := ⟨(.type L68),none,(.seq #[.str S270 603] 0),#[]⟩
noncomputable def o311 (P : Params) : Obj := ⟨(.type L68),none,(.seq #[] 0),#[]⟩
noncomputable def o312 (P : Params) : Obj := ⟨.none,none,(.func ⟨S229,S229,L2.defArgs (tp 41),(.stmts (L2.defBody (tp 41))),L2.defScope (tp 41),0,[],.none,.none,.none,.none,none,.none,.none,0⟩),#[]⟩
noncomputable def o313 (P : Params) : Obj := ⟨(.type L146),none,(.fields #[.str S229 600,.str S229 601,.str S164 602,.int 160 0,.int 1 0,.int 0 0,.int 0 0,.int 3 0,.ref 308,.bool true,.int 181 0,.ref 309,.none,.ref 310,.ref 311,.ref 312,.int 604 0,.int 160 0,.str S164 605]),#[]⟩
noncomputable def o314 (P : Params) : Obj := ⟨(.type L154),none,(.func ⟨S229,S229,L2.defArgs (tp 41),(.stmts (L2.defBody (tp 41))),L2.defScope (tp 41),3,[],.none,.none,.none,.str S212 556,none,.ref 313,.none,0⟩),#[]⟩
noncomputable def o315 (P : Params) : Obj := ⟨(.type L68),none,(.seq #[] 0),#[]⟩
noncomputable def o316 (P : Params) : Obj := ⟨.none,none,(.fields #[]),#[]⟩
noncomputable def o317 (P : Params) : Obj := ⟨(.type L68),none,(.seq #[.str S270 610,.str S276 611,.str S274 612,.str S277 613,.str S278 614] 0),#[]⟩
noncomputable def o318 (P : Params) : Obj := ⟨(.type L68),none,(.seq #[] 0),#[]⟩
noncomputable def o319 (P : Params) : Obj := ⟨.none,none,(.func ⟨S230,S230,L2.defArgs (tp 42),(.stmts (L2.defBody (tp 42))),L2.defScope (tp 42),0,[],.none,.none,.none,.none,none,.none,.none,0⟩),#[]⟩
noncomputable def o320 (P : Params) : Obj := ⟨(.type L146),none,(.fields #[.str S230 607,.str S230 608,.str S164 609,.int 164 0,.int 1 0,.int 0 0,.int 0 0,.int 3 0,.ref 315,.bool true,.int 181 0,.ref 316,.none,.ref 317,.ref 318,.ref 319,.int 615 0,.int 164 0,.str S164 616]),#[]⟩
noncomputable def o321 (P : Params) : Obj := ⟨(.type L154),none,(.func ⟨S230,S230,L2.defArgs (tp 42),(.stmts (L2.defBody (tp 42))),L2.defScope (tp 42),3,[],.none,.none,.none,.str S212 556,none,.ref 320,.none,0⟩),#[]⟩
noncomputable def o322 (P : Params) : Obj := ⟨(.type L68),none,(.seq #[] 0),#[]⟩
noncomputable def o323 (P : Params) : Obj := ⟨.none,none,(.fields #[]),#[]⟩
noncomputable def o324 (P : Params) : Obj := ⟨(.type L68),none,(.seq #[.str S270 621,.str S275 622,.str S277 623,.str S278 624] 0),#[]⟩
noncomputable def o325 (P : Params) : Obj := ⟨(.type L68),none,(.seq #[] 0),#[]⟩
noncomputable def o326 (P : Params) : Obj := ⟨.none,none,(.func ⟨S231,S231,L2.defArgs (tp 43),(.stmts (L2.defBody (tp 43))),L2.defScope (tp 43),0,[],.none,.none,.none,.none,none,.none,.none,0⟩),#[]⟩
noncomputable def o327 (P : Params) : Obj := ⟨(.type L146),none,(.fields #[.str S231 618,.str S231 619,.str S164 620,.int 170 0,.int 1 0,.int 0 0,.int 0 0,.int 3 0,.ref 322,.bool true,.int 181 0,.ref 323,.none,.ref 324,.ref 325,.ref 326,.int 625 0,.int 170 0,.str S164 626]),#[]⟩
noncomputable def o328 (P : Params) : Obj := ⟨(.type L154),none,(.func ⟨S231,S231,L2.defArgs (tp 43),(.stmts (L2.defBody (tp 43))),L2.defScope (tp 43),3,[],.none,.none,.none,.str S212 556,none,.ref 327,.none,0⟩),#[]⟩
noncomputable def o329 (P : Params) : Obj := ⟨(.type L68),none,(.seq #[] 0),#[]⟩
noncomputable def o330 (P : Params) : Obj := ⟨.none,none,(.fields #[]),#[]⟩
noncomputable def o331 (P : Params) : Obj := ⟨(.type L68),none,(.seq #[.str S276 631,.str S273 632,.str S277 633,.str S278 634,.str S279 635,.str S280 636,.str S281 637] 0),#[]⟩
noncomputable def o332 (P : Params) : Obj := ⟨(.type L68),none,(.seq #[] 0),#[]⟩
noncomputable def o333 (P : Params) : Obj := ⟨.none,none,(.func ⟨S232,S232,L2.defArgs (tp 44),(.stmts (L2.defBody (tp 44))),L2.defScope (tp 44),0,[],.none,.none,.none,.none,none,.none,.none,0⟩),#[]⟩
noncomputable def o334 (P : Params) : Obj := ⟨(.type L146),none,(.fields #[.str S232 628,.str S232 629,.str S164 630,.int 176 0,.int 1 0,.int 0 0,.int 0 0,.int 3 0,.ref 329,.bool true,.int 181 0,.ref 330,.none,.ref 331,.ref 332,.ref 333,.int 638 0,.int 176 0,.str S164 639]),#[]⟩
noncomputable def o335 (P : Params) : Obj := ⟨(.type L154),none,(.func ⟨S232,S232,L2.defArgs (tp 44),(.stmts (L2.defBody (tp 44))),L2.defScope (tp 44),3,[],.none,.none,.none,.str S212 556,none,.ref 334,.none,0⟩),#[]⟩
noncomputable def o336 (P : Params) : Obj := ⟨(.type L68),none,(.seq #[] 0),#[]⟩
noncomputable def o337 (P : Params) : Obj := ⟨.none,none,(.fields #[]),#[]⟩
noncomputable def o338 (P : Params) : Obj := ⟨.none,none,(.func ⟨S233,S233,L2.defArgs (tp 45),(.stmts (L2.defBody (tp 45))),L2.defScope (tp 45),0,[],.none,.none,.none,.none,none,.none,.none,0⟩),#[]⟩
noncomputable def o339 (P : Params) : Obj := ⟨(.type L146),none,(.fields #[.str S233 641,.str S233 642,.str S164 643,.int 183 0,.int 5 0,.int 0 0,.int 0 0,.int 3 0,.ref 336,.bool true,.int 181 0,.ref 337,.none,.none,.none,.ref 338,.int 644 0,.int 183 0,.str S164 645]),#[]⟩
noncomputable def o340 (P : Params) : Obj := ⟨(.type L154),none,(.func ⟨S233,S233,L2.defArgs (tp 45),(.stmts (L2.defBody (tp 45))),L2.defScope (tp 45),3,[],.none,.none,.none,.str S212 556,none,.ref 339,.none,0⟩),#[]⟩
noncomputable def o341 (P : Params) : Obj := ⟨(.type L68),none,(.seq #[] 0),#[]⟩
noncomputable def o342 (P : Params) : Obj := ⟨.none,none,(.fields #[]),#[]⟩
noncomputable def o343 (P : Params) : Obj := ⟨.none,none,(.func ⟨S234,S234,L2.defArgs (tp 46),(.stmts (L2.defBody (tp 46))),L2.defScope (tp 46),0,[],.none,.none,.none,.none,none,.none,.none,0⟩),#[]⟩
noncomputable def o344 (P : Params) : Obj := ⟨(.type L146),none,(.fields #[.str S234 647,.str S234 648,.str S164 649,.int 191 0,.int 2 0,.int 0 0,.int 0 0,.int 3 0,.ref 341,.bool true,.int 181 0,.ref 342,.none,.none,.none,.ref 343,.int 650 0,.int 191 0,.str S164 651]),#[]⟩
noncomputable def o345 (P : Params) : Obj := ⟨(.type L154),none,(.func ⟨S234,S234,L2.defArgs (tp 46),(.stmts (L2.defBody (tp 46))),L2.defScope (tp 46),3,[],.none,.none,.none,.str S212 556,none,.ref 344,.none,0⟩),#[]⟩
noncomputable def o346 (P : Params) : Obj := ⟨(.type L68),none,(.seq #[] 0),#[]⟩
noncomputable def o347 (P : Params) : Obj := ⟨.none,none,(.fields #[]),#[]⟩
noncomputable def o348 (P : Params) : Obj := ⟨(.type L68),none,(.seq #[.str S270 656,.str S282 657,.str S283 658,.str S284 659,.str S275 660,.str S285 661,.str S286 662,.str S277 663,.str S278 664] 0),#[]⟩
noncomputable def o349 (P : Params) : Obj := ⟨(.type L68),none,(.seq #[] 0),#[]⟩
noncomputable def o350 (P : Params) : Obj := ⟨.none,none,(.func ⟨S235,S235,L2.defArgs (tp 47),(.stmts (L2.defBody (tp 47))),L2.defScope (tp 47),0,[],.none,.none,.none,.none,none,.none,.none,0⟩),#[]⟩
noncomputable def o351 (P : Params) : Obj := ⟨(.type L146),none,(.fields #[.str S235 653,.str S235 654,.str S164 655,.int 193 0,.int 4 0,.int 0 0,.int 0 0,.int 3 0,.ref 346,.bool true,.int 181 0,.ref 347,.none,.ref 348,.ref 349,.ref 350,.int 665 0,.int 193 0,.str S164 666]),#[]⟩
noncomputable def o352 (P : Params) : Obj := ⟨(.type L154),none,(.func ⟨S235,S235,L2.defArgs (tp 47),(.stmts (L2.defBody (tp 47))),L2.defScope (tp 47),3,[],.none,.none,.none,.str S212 556,none,.ref 351,.none,0⟩),#[]⟩
noncomputable def o353 (P : Params) : Obj := ⟨(.type L68),none,(.seq #[] 0),#[]⟩
noncomputable def o354 (P : Params) : Obj := ⟨.none,none,(.fields #[]),#[]⟩
noncomputable def o355 (P : Params) : Obj := ⟨.none,none,(.func ⟨S236,S236,L2.defArgs (tp 48),(.stmts (L2.defBody (tp 48))),L2.defScope (tp 48),0,[],.none,.none,.none,.none,none,.none,.none,0⟩),#[]⟩
noncomputable def o356 (P : Params) : Obj := ⟨(.type L146),none,(.fields #[.str S236 668,.str S236 669,.str S164 670,.int 208 0,.int 3 0,.int 0 0,.int 0 0,.int 3 0,.ref 353,.bool true,.int 181 0,.ref 354,.none,.none,.none,.ref 355,.int 671 0,.int 208 0,.str S164 672]),#[]⟩
noncomputable def o357 (P : Params) : Obj := ⟨(.type L154),none,(.func ⟨S236,S236,L2.defArgs (tp 48),(.stmts (L2.defBody (tp 48))),L2.defScope (tp 48),3,[],.none,.none,.none,.str S212 556,none,.ref 356,.none,0⟩),#[]⟩
noncomputable def o358 (P : Params) : Obj := ⟨(.type L68),none,(.seq #[] 0),#[]⟩
noncomputable def o359 (P : Params) : Obj := ⟨.none,none,(.fields #[]),#[]⟩
noncomputable def o360 (P : Params) : Obj := ⟨(.type L68),none,(.seq #[.str S287 677,.str S288 678,.str S286 679,.str S289 680,.str S290 681,.str S291 682] 0),#[]⟩
noncomputable def o361 (P : Params) : Obj := ⟨(.type L68),none,(.seq #[] 0),#[]⟩
noncomputable def o362 (P : Params) : Obj := ⟨.none,none,(.func ⟨S237,S237,L2.defArgs (tp 49),(.stmts (L2.defBody (tp 49))),L2.defScope (tp 49),0,[],.none,.none,.none,.none,none,.none,.none,0⟩),#[]⟩
noncomputable def o363 (P : Params) : Obj := ⟨(.type L146),none,(.fields #[.str S237 674,.str S237 675,.str S164 676,.int 210 0,.int 4 0,.int 0 0,.int 0 0,.int 3 0,.ref 358,.bool true,.int 181 0,.ref 359,.none,.ref 360,.ref 361,.ref 362,.int 683 0,.int 210 0,.str S164 684]),#[]⟩
noncomputable def o364 (P : Params) : Obj := ⟨(.type L154),none,(.func ⟨S237,S237,L2.defArgs (tp 49),(.stmts (L2.defBody (tp 49))),L2.defScope (tp 49),3,[],.none,.none,.none,.str S212 556,none,.ref 363,.none,0⟩),#[]⟩
noncomputable def o365 (P : Params) : Obj := ⟨(.type L68),none,(.seq #[] 0),#[]⟩
noncomputable def o366 (P : Params) : Obj := ⟨.none,none,(.fields #[]),#[]⟩
noncomputable def o367 (P : Params) : Obj := ⟨.none,none,(.func ⟨S238,S238,L2.defArgs (tp 50),(.stmts (L2.defBody (tp 50))),L2.defScope (tp 50),0,[],.none,.none,.none,.none,none,.none,.none,0⟩),#[]⟩
noncomputable def o368 (P : Params) : Obj := ⟨(.type L146),none,(.fields #[.str S238 686,.str S238 687,.str S164 688,.int 214 0,.int 1 0,.int 0 0,.int 0 0,.int 3 0,.ref 365,.bool true,.int 181 0,.ref 366,.none,.none,.none,.ref 367,.int 689 0,.int 214 0,.str S164 690]),#[]⟩
noncomputable def o369 (P : Params) : Obj := ⟨(.type L154),none,(.func ⟨S238,S238,L2.defArgs (tp 50),(.stmts (L2.defBody (tp 50))),L2.defScope (tp 50),3,[],.none,.none,.none,.str S212 556,none,.ref 368,.none,0⟩),#[]⟩
noncomputable def o370 (P : Params) : Obj := ⟨(.type L68),none,(.seq #[] 0),#[]⟩
noncomputable def o371 (P : Params) : Obj := ⟨.none,none,(.fields #[]),#[]⟩
noncomputable def o372 (P : Params) : Obj := ⟨(.type L68),none,(.seq #[.str S292 695,.str S269 696] 0),#[]⟩
noncomputable def o373 (P : Params) : Obj := ⟨(.type L68),none,(.seq #[] 0),#[]⟩
noncomputable def o374 (P : Params) : Obj := ⟨.none,none,(.func ⟨S239,S239,L2.defArgs (tp 51),(.stmts (L2.defBody (tp 51))),L2.defScope (tp 51),0,[],.none,.none,.none,.none,none,.none,.none,0⟩),#[]⟩
noncomputable def o375 (P : Params) : Obj := ⟨(.type L146),none,(.fields #[.str S239 692,.str S239 693,.str S164 694,.int 241 0,.int 1 0,.int 0 0,.int 0 0,.int 3 0,.ref 370,.bool true,.int 181 0,.ref 371,.none,.ref 372,.ref 373,.ref 374,.int 697 0,.int 241 0,.str S164 698]),#[]⟩
noncomputable def o376 (P : Params) : Obj := ⟨(.type L154),none,(.func ⟨S239,S239,L2.defArgs (tp 51),(.stmts (L2.defBody (tp 51))),L2.defScope (tp 51),3,[],.none,.none,.none,.str S212 556,none,.ref 375,.none,0⟩),#[]⟩
noncomputable def t1 : Params → BT := (f boot_o_0 (f boot_o_1 (f o3v2 (f boot_o_7 (f o15 (f o31 (f o63 (f o127 (f o255 z z) z) (f o191 (f o319 z z) z)) (f o95 (f o159 (f o287 z z) z) (f o223 (f o351 z z) z))) (f o47 (f o79 (f o143 (f o271 z z) z) (f o207 (f o335 z z) z)) (f o111 (f o175 (f o303 z z) z) (f o239 (f o367 z z) z)))) (f o23 (f o39 (f o71 (f o135 (f o263 z z) z) (f o199 (f o327 z z) z)) (f o103 (f o167 (f o295 z z) z) (f o231 (f o359 z z) z))) (f o55 (f o87 (f o151 (f o279 z z) z) (f o215 (f o343 z z) z)) (f o119 (f o183 (f o311 z z) z) (f o247 (f o375 z z) z))))) (f o11 (f o19 (f o35 (f o67 (f o131 (f o259 z z) z) (f o195 (f o323 z z) z)) (f o99 (f o163 (f o291 z z) z) (f o227 (f o355 z z) z))) (f o51 (f o83 (f o147 (f o275 z z) z) (f o211 (f o339 z z) z)) (f o115 (f o179 (f o307 z z) z) (f o243 (f o371 z z) z)))) (f o27 (f o43 (f o75 (f o139 (f o267 z z) z) (f o203 (f o331 z z) z)) (f o107 (f o171 (f o299 z z) z) (f o235 (f o363 z z) z))) (f o59 (f o91 (f o155 (f o283 z z) z) (f o219 (f o347 z z) z)) (f o123 (f o187 (f o315 z z) z) (f o251 z z)))))) (f boot_o_5 (f boot_o_9 (f o17 (f o33 (f o65 (f o129 (f o257 z z) z) (f o193 (f o321 z z) z)) (f o97 (f o161 (f o289 z z) z) (f o225 (f o353 z z) z))) (f o49 (f o81 (f o145 (f o273 z z) z) (f o209 (f o337 z z) z)) (f o113 (f o177 (f o305 z z) z) (f o241 (f o369 z z) z)))) (f o25 (f o41 (f o73 (f o137 (f o265 z z) z) (f o201 (f o329 z z) z)) (f o105 (f o169 (f o297 z z) z) (f o233 (f o361 z z) z))) (f o57 (f o89 (f o153 (f o281 z z) z) (f o217 (f o345 z z) z)) (f o121 (f o185 (f o313 z z) z) (f o249 z z))))) (f o13 (f o21 (f o37 (f o69 (f o133 (f o261 z z) z) (f o197 (f o325 z z) z)) (f o101 (f o165 (f o293 z z) z) (f o229 (f o357 z z) z))) (f o53 (f o85 (f o149 (f o277 z z) z) (f o213 (f o341 z z) z)) (f o117 (f o181 (f o309 z z) z) (f o245 (f o373 z z) z)))) (f o29 (f o45 (f o77 (f o141 (f o269 z z) z) (f o205 (f o333 z z) z)) (f o109 (f o173 (f o301 z z) z) (f o237 (f o365 z z) z))) (f o61 (f o93 (f o157 (f o285 z z) z) (f o221 (f o349 z z) z)) (f o125 (f o189 (f o317 z z) z) (f o253 z z))))))) (f boot_o_2 (f boot_o_4 (f boot_o_8 (f o16 (f o32 (f o64 (f o128 (f o256 z z) z) (f o192 (f o320 z z) z)) (f o96 (f o160 (f o288 z z) z) (f o224 (f o352 z z) z))) (f o48 (f o80 (f o144 (f o272 z z) z) (f o208 (f o336 z z) z)) (f o112 (f o176 (f o304 z z) z) (f o240 (f o368 z z) z)))) (f o24 (f o40 (f o72 (f o136 (f o264 z z) z) (f o200 (f o328 z z) z)) (f o104 (f o168 (f o296 z z) z) (f o232 (f o360 z z) z))) (f o56 (f o88 (f o152 (f o280 z z) z) (f o216 (f o344 z z) z)) (f o120 (f o184 (f o312 z z) z) (f o248 (f o376 z z) z))))) (f o12v2 (f o20 (f o36 (f o68 (f o132 (f o260 z z) z) (f o196 (f o324 z z) z)) (f o100 (f o164 (f o292 z z) z) (f o228 (f o356 z z) z))) (f o52 (f o84 (f o148 (f o276 z z) z) (f o212 (f o340 z z) z)) (f o116 (f o180 (f o308 z z) z) (f o244 (f o372 z z) z)))) (f o28 (f o44 (f o76 (f o140 (f o268 z z) z) (f o204 (f o332 z z) z)) (f o108 (f o172 (f o300 z z) z) (f o236 (f o364 z z) z))) (f o60 (f o92 (f o156 (f o284 z z) z) (f o220 (f o348 z z) z)) (f o124 (f o188 (f o316 z z) z) (f o252 z z)))))) (f boot_o_6 (f boot_o_10 (f o18 (f o34 (f o66 (f o130 (f o258 z z) z) (f o194 (f o322 z z) z)) (f o98 (f o162 (f o290 z z) z) (f o226 (f o354 z z) z))) (f o50 (f o82 (f o146 (f o274 z z) z) (f o210 (f o338 z z) z)) (f o114 (f o178 (f o306 z z) z) (f o242 (f o370 z z) z)))) (f o26 (f o42 (f o74 (f o138 (f o266 z z) z) (f o202 (f o330 z z) z)) (f o106 (f o170 (f o298 z z) z) (f o234 (f o362 z z) z))) (f o58 (f o90 (f o154 (f o282 z z) z) (f o218 (f o346 z z) z)) (f o122 (f o186 (f o314 z z) z) (f o250 z z))))) (f o14 (f o22 (f o38 (f o70 (f o134 (f o262 z z) z) (f o198 (f o326 z z) z)) (f o102 (f o166 (f o294 z z) z) (f o230 (f o358 z z) z))) (f o54 (f o86 (f o150 (f o278 z z) z) (f o214 (f o342 z z) z)) (f o118 (f o182 (f o310 z z) z) (f o246 (f o374 z z) z)))) (f o30 (f o46 (f o78 (f o142 (f o270 z z) z) (f o206 (f o334 z z) z)) (f o110 (f o174 (f o302 z z) z) (f o238 (f o366 z z) z))) (f o62 (f o94 (f o158 (f o286 z z) z) (f o222 (f o350 z z) z)) (f o126 (f o190 (f o318 z z) z) (f o254 z z))))))))
noncomputable abbrev s1 (w : World) (os : OsState) : SharedT := ⟨t1 w.params,377,{ },(Array.mk []),⟨0,0,0,0⟩,700,os⟩
noncomputable abbrev p1 : Pos := ⟨241,0,245,15⟩
noncomputable abbrev st1 : List Stmt := (pt.main.body.drop 22).take 30
theorem q1 (w : World) : (fun os => segRunT treeTable pt w m0 an 1 1163 (s0 w os) ⟨(execs st1 en).wrap doneF deadEnd id id,cE,p0,B⟩) = fun os => some (.next,s1 w os,cE,p1) := by
  rw [PySem.W.Fast.te10110043849684766642,PySem.W.Fast.te14364793385576792824,PySem.W.Fast.te12563942051412417395]; kernel_rfl
noncomputable def hF (P : Params) : Heap := ⟨⟨[boot_o_0 P,boot_o_1 P,boot_o_2 P,o3v2 P,boot_o_4 P,boot_o_5 P,boot_o_6 P,boot_o_7 P,boot_o_8 P,boot_o_9 P,boot_o_10 P,o11 P,o12v2 P,o13 P,o14 P,o15 P,o16 P,o17 P,o18 P,o19 P,o20 P,o21 P,o22 P,o23 P,o24 P,o25 P,o26 P,o27 P,o28 P,o29 P,o30 P,o31 P,o32 P,o33 P,o34 P,o35 P,o36 P,o37 P,o38 P,o39 P,o40 P,o41 P,o42 P,o43 P,o44 P,o45 P,o46 P,o47 P,o48 P,o49 P,o50 P,o51 P,o52 P,o53 P,o54 P,o55 P,o56 P,o57 P,o58 P,o59 P,o60 P,o61 P,o62 P,o63 P,o64 P,o65 P,o66 P,o67 P,o68 P,o69 P,o70 P,o71 P,o72 P,o73 P,o74 P,o75 P,o76 P,o77 P,o78 P,o79 P,o80 P,o81 P,o82 P,o83 P,o84 P,o85 P,o86 P,o87 P,o88 P,o89 P,o90 P,o91 P,o92 P,o93 P,o94 P,o95 P,o96 P,o97 P,o98 P,o99 P,o100 P,o101 P,o102 P,o103 P,o104 P,o105 P,o106 P,o107 P,o108 P,o109 P,o110 P,o111 P,o112 P,o113 P,o114 P,o115 P,o116 P,o117 P,o118 P,o119 P,o120 P,o121 P,o122 P,o123 P,o124 P,o125 P,o126 P,o127 P,o128 P,o129 P,o130 P,o131 P,o132 P,o133 P,o134 P,o135 P,o136 P,o137 P,o138 P,o139 P,o140 P,o141 P,o142 P,o143 P,o144 P,o145 P,o146 P,o147 P,o148 P,o149 P,o150 P,o151 P,o152 P,o153 P,o154 P,o155 P,o156 P,o157 P,o158 P,o159 P,o160 P,o161 P,o162 P,o163 P,o164 P,o165 P,o166 P,o167 P,o168 P,o169 P,o170 P,o171 P,o172 P,o173 P,o174 P,o175 P,o176 P,o177 P,o178 P,o179 P,o180 P,o181 P,o182 P,o183 P,o184 P,o185 P,o186 P,o187 P,o188 P,o189 P,o190 P,o191 P,o192 P,o193 P,o194 P,o195 P,o196 P,o197 P,o198 P,o199 P,o200 P,o201 P,o202 P,o203 P,o204 P,o205 P,o206 P,o207 P,o208 P,o209 P,o210 P,o211 P,o212 P,o213 P,o214 P,o215 P,o216 P,o217 P,o218 P,o219 P,o220 P,o221 P,o222 P,o223 P,o224 P,o225 P,o226 P,o227 P,o228 P,o229 P,o230 P,o231 P,o232 P,o233 P,o234 P,o235 P,o236 P,o237 P,o238 P,o239 P,o240 P,o241 P,o242 P,o243 P,o244 P,o245 P,o246 P,o247 P,o248 P,o249 P,o250 P,o251 P,o252 P,o253 P,o254 P,o255 P,o256 P,o257 P,o258 P,o259 P,o260 P,o261 P,o262 P,o263 P,o264 P,o265 P,o266 P,o267 P,o268 P,o269 P,o270 P,o271 P,o272 P,o273 P,o274 P,o275 P,o276 P,o277 P,o278 P,o279 P,o280 P,o281 P,o282 P,o283 P,o284 P,o285 P,o286 P,o287 P,o288 P,o289 P,o290 P,o291 P,o292 P,o293 P,o294 P,o295 P,o296 P,o297 P,o298 P,o299 P,o300 P,o301 P,o302 P,o303 P,o304 P,o305 P,o306 P,o307 P,o308 P,o309 P,o310 P,o311 P,o312 P,o313 P,o314 P,o315 P,o316 P,o317 P,o318 P,o319 P,o320 P,o321 P,o322 P,o323 P,o324 P,o325 P,o326 P,o327 P,o328 P,o329 P,o330 P,o331 P,o332 P,o333 P,o334 P,o335 P,o336 P,o337 P,o338 P,o339 P,o340 P,o341 P,o342 P,o343 P,o344 P,o345 P,o346 P,o347 P,o348 P,o349 P,o350 P,o351 P,o352 P,o353 P,o354 P,o355 P,o356 P,o357 P,o358 P,o359 P,o360 P,o361 P,o362 P,o363 P,o364 P,o365 P,o366 P,o367 P,o368 P,o369 P,o370 P,o371 P,o372 P,o373 P,o374 P,o375 P,o376 P]⟩,{ }⟩
noncomputable abbrev sF (w : World) (os : OsState) : Shared := ⟨hF w.params,(Array.mk []),⟨0,0,0,0⟩,700,os⟩
theorem fin (w : World) : (fun os => topRun treeTable pt w m0 an 2 (s1 w os).abs ⟨doneF .next,cE,p1,B⟩) = fun os => some (sF w os) := by
  rw [PySem.W.Fast.te14082659384304107361,PySem.W.Fast.te14364793385576792824]; kernel_rfl
theorem body_eq : behindTheImports pt = st0 ++ (st1 ++ ([])) := by kernel_rfl
noncomputable abbrev MM : Nat := 12 + (1 + (1995 + (1163 + 2)))
theorem run_eq (w : World) (os : OsState) : topRun treeTable pt w m0 an MM (sZ w os) (topStub pt) = some (sF w os) :=
  go_top (congrFun (pre w) os) (piece_block (congrFun (blk w) os) (body_eq ▸ (piece_app (l := st0) (segRun_of (congrFun (q0 w) os)) (piece_app (l := st1) (segRun_of (congrFun (q1 w) os)) (piece_nil (congrFun (fin w) os))))))
noncomputable def loose : List Str := [S168,S169,S170,S171,S172,S173,S174,S175,S176,S177,S178,S179,S180,S181,S183,S185,S186,S187,S188,S213,S214,S215,S216,S217,S218,S219,S220,S221,S222,S223,S224,S225,S226,S227,S228,S229,S230,S231,S232,S233,S234,S235,S236,S237,S238]
noncomputable abbrev NN : Nat := 6438
noncomputable abbrev q : Program := view pt [51]
noncomputable abbrev Xt : Shared → Bool := fun s => xlAt q [] s && recOk [] s
theorem size (w : World) : ((boot_heap w.params).isNs mainGlobals && (Array.mk [] : Array GenState).size == 0,(boot_heap w.params).objs.size,(boot_heap w.params).nsMap mainGlobals "__annotations__") = (true,m0,an) := by
  rw [PySem.W.Fast.te8920871248978507458]; kernel_rfl
theorem looks (w : World) : (fun os => ((staticsOk (importedModules pt.main.body) (boot_heap w.params) (hF w.params) && namesBound pt (hF w.params) && gensDone (sF w os) && laidKept (boot_heap w.params) (hF w.params)),openSeen q loose (importedModules pt.main.body) Xt true (sF w os),HK.obs (sF w os))) = fun _ => (true,openGood q loose,HK.val w) := by
  rw [PySem.W.Fast.te4187177175401517315,PySem.W.Fast.te5923862056798008813]; kernel_rfl
theorem left : LeftO pt q loose Xt HK.obs HK.val NN true := LeftO.of_pieces (boot_open (by kernel_rfl) (by decide) (fun s => rfl)) size run_eq (by decide) looks
end Hd
open PySem PySem.W PyProof.Rows
set_option maxRecDepth 100000 in
set_option maxHeartbeats 0 in
theorem PySem.Challenge.cw_platecuts_k44_tables_that_bear_holds : PySem.Challenge.rw_platecuts_k44_tables_that_bear.Holds := by
  w_on; o_law
  refine holds_open (q := view PySem.Challenge.pw_platecuts_k44_tables_that_bear [51]) (loose := Hd.loose) (Xt := fun s => xlAt (view PySem.Challenge.pw_platecuts_k44_tables_that_bear [51]) [] s && recOk [] s) (XP := XL (view PySem.Challenge.pw_platecuts_k44_tables_that_bear [51]) []) (Yf := Hook.obs Hd.HK) (Ya := Hook.val Hd.HK) (YP := InK Pc.kK) (N := Hd.NN) ?hl (Hook.of Hd.HK) (Hook.keeps Hd.HK) (fun s e => xl_of s (Bool.and_eq_true_iff.mp e).1) XL.keeps (by rfl) (by rfl) (by rfl) (fun s e => recFacts_of (Bool.and_eq_true_iff.mp e).2) (by rfl) (by first | assumption | decide +kernel) (by decide +kernel) ⟨rfl,rfl,rfl,rfl,rfl,by decide +kernel⟩ ?hw ?hc
  case hl => exact Hd.pt_eq ▸ Hd.left
  case hw => w_witness2
  k_fill
  refine Pc.walk (l := PySem.Challenge.rw_platecuts_k44_tables_that_bear) rfl rfl (fun w h Y => Y) ?F
  case F =>
    intro w mg fa h KX G hmg
    refine' Pc.all_mk KX G hmg ?a0 ?l0 ?c0 ?k0 ?a1 ?l1 ?c1 ?k1 ?a2 ?l2 ?c2 ?k2 ?a3 ?l3 ?c3 ?k3 ?a4 ?l4 ?c4 ?k4 ?a5 ?l5 ?c5 ?k5 ?a6 ?l6 ?c6 ?k6 ?a7 ?l7 ?c7 ?k7 ?a8 ?l8 ?c8 ?k8 ?a9 ?l9 ?c9 ?k9 ?a10 ?l10 ?c10 ?k10 ?a11 ?l11 ?c11 ?k11 ?a12 ?l12 ?c12 ?k12 ?a13 ?l13 ?c13 ?k13 ?a14 ?l14 ?c14 ?k14 ?a15 ?l15 ?c15 ?k15 ?a16 ?l16 ?c16 ?k16 ?a17 ?l17 ?c17 ?k17 ?a18 ?l18 ?c18 ?k18 ?a19 ?l19 ?c19 ?k19 ?a20 ?l20 ?c20 ?k20 ?a21 ?l21 ?c21 ?k21 ?a22 ?l22 ?c22 ?k22 ?a23 ?l23 ?c23 ?k23 ?a24 ?l24 ?c24 ?k24 ?a25 ?l25 ?c25 ?k25 ?a26 ?l26 ?c26 ?k26 ?a27 ?l27 ?c27 ?k27 ?a28 ?l28 ?c28 ?k28 ?a29 ?l29 ?c29 ?k29 ?a30 ?l30 ?c30 ?k30 ?a31 ?l31 ?c31 ?k31 ?aC ?am0 ?im0 ?lm0 ?cm0 ?km0 ?am1 ?im1 ?lm1 ?cm1 ?km1 ?am2 ?im2 ?lm2 ?cm2 ?km2 ?am3 ?im3 ?lm3 ?cm3 ?km3 ?am4 ?im4 ?lm4 ?cm4 ?km4 ?am5 ?im5 ?lm5 ?cm5 ?km5 ?pg ?hd ?po ?sa ?mk ?kc ?n0 ?n1 ?eNoLying ?cNoLying ?z0 ?z1 ?z2 ?z3 ?z4 ?z5 ?z6 ?z7 ?z8 ?z9 ?z10 ?z11 ?z12 ?z13 ?z14 ?z15 ?z16 ?z17 ?z18 ?uc0 ?uc1 ?uc2 ?uc3 ?uc4
    (case a0 => k_is)
    (case l0 => k_is)
    (case c0 => k_is)
    (case k0 => k_is)
    (case a1 => k_is)
    (case l1 => k_is)
    (case c1 => k_is)
    (case k1 => k_is)
    (case a2 => k_is)
    (case l2 => k_is)
    (case c2 => k_is)
    (case k2 => k_is)
    (case a3 => k_is)
    (case l3 => k_is)
    (case c3 => k_is)
    (case k3 => k_is)
    (case a4 => k_is)
    (case l4 => k_is)
    (case c4 => k_is)
    (case k4 => k_is)
    (case a5 => k_is)
    (case l5 => k_is)
    (case c5 => k_is)
    (case k5 => k_is)
    (case a6 => k_is)
    (case l6 => k_is)
    (case c6 => k_is)
    (case k6 => k_is)
    (case a7 => k_is)
    (case l7 => k_is)
    (case c7 => k_is)
    (case k7 => k_is)
    (case a8 => k_is)
    (case l8 => k_is)
    (case c8 => k_is)
    (case k8 => k_is)
    (case a9 => k_is)
    (case l9 => k_is)
    (case c9 => k_is)
    (case k9 => k_is)
    (case a10 => k_is)
    (case l10 => k_is)
    (case c10 => k_is)
    (case k10 => k_is)
    (case a11 => k_is)
    (case l11 => k_is)
    (case c11 => k_is)
    (case k11 => k_is)
    (case a12 => k_is)
    (case l12 => k_is)
    (case c12 => k_is)
    (case k12 => k_is)
    (case a13 => k_is)
    (case l13 => k_is)
    (case c13 => k_is)
    (case k13 => k_is)
    (case a14 => k_is)
    (case l14 => k_is)
    (case c14 => k_is)
    (case k14 => k_is)
    (case a15 => k_is)
    (case l15 => k_is)
    (case c15 => k_is)
    (case k15 => k_is)
    (case a16 => k_is)
    (case l16 => k_is)
    (case c16 => k_is)
    (case k16 => k_is)
    (case a17 => k_is)
    (case l17 => k_is)
    (case c17 => k_is)
    (case k17 => k_is)
    (case a18 => k_is)
    (case l18 => k_is)
    (case c18 => k_is)
    (case k18 => k_is)
    (case a19 => k_is)
    (case l19 => k_is)
    (case c19 => k_is)
    (case k19 => k_is)
    (case a20 => k_is)
    (case l20 => k_is)
    (case c20 => k_is)
    (case k20 => k_is)
    (case a21 => k_is)
    (case l21 => k_is)
    (case c21 => k_is)
    (case k21 => k_is)
    (case a22 => k_is)
    (case l22 => k_is)
    (case c22 => k_is)
    (case k22 => k_is)
    (case a23 => k_is)
    (case l23 => k_is)
    (case c23 => k_is)
    (case k23 => k_is)
    (case a24 => k_is)
    (case l24 => k_is)
    (case c24 => k_is)
    (case k24 => k_is)
    (case a25 => k_is)
    (case l25 => k_is)
    (case c25 => k_is)
    (case k25 => k_is)
    (case a26 => k_is)
    (case l26 => k_is)
    (case c26 => k_is)
    (case k26 => k_is)
    (case a27 => k_is)
    (case l27 => k_is)
    (case c27 => k_is)
    (case k27 => k_is)
    (case a28 => k_is)
    (case l28 => k_is)
    (case c28 => k_is)
    (case k28 => k_is)
    (case a29 => k_is)
    (case l29 => k_is)
    (case c29 => k_is)
    (case k29 => k_is)
    (case a30 => k_is)
    (case l30 => k_is)
    (case c30 => k_is)
    (case k30 => k_is)
    (case a31 => k_is)
    (case l31 => k_is)
    (case c31 => k_is)
    (case k31 => k_is)
    (case aC => k_is)
    (case am0 => k_is)
    (case im0 => k_is)
    (case lm0 => k_is)
    (case cm0 => k_is)
    (case km0 => k_is)
    (case am1 => k_is)
    (case im1 => k_is)
    (case lm1 => k_is)
    (case cm1 => k_is)
    (case km1 => k_is)
    (case am2 => k_is)
    (case im2 => k_is)
    (case lm2 => k_is)
    (case cm2 => k_is)
    (case km2 => k_is)
    (case am3 => k_is)
    (case im3 => k_is)
    (case lm3 => k_is)
    (case cm3 => k_is)
    (case km3 => k_is)
    (case am4 => k_is)
    (case im4 => k_is)
    (case lm4 => k_is)
    (case cm4 => k_is)
    (case km4 => k_is)
    (case am5 => k_is)
    (case im5 => k_is)
    (case lm5 => k_is)
    (case cm5 => k_is)
    (case km5 => k_is)
    (case pg => k_is)
    (case hd => k_is)
    (case po => k_is)
    (case sa => k_is)
    (case mk => k_is)
    (case kc => k_is)
    (case n0 => k_is)
    (case n1 => k_is)
    (case eNoLying => k_is)
    (case cNoLying => k_exc)
    (case z0 => k_is)
    (case z1 => k_is)
    (case z2 => k_is)
    (case z3 => k_is)
    (case z4 => k_is)
    (case z5 => k_is)
    (case z6 => k_is)
    (case z7 => k_is)
    (case z8 => k_is)
    (case z9 => k_is)
    (case z10 => k_is)
    (case z11 => k_is)
    (case z12 => k_is)
    (case z13 => k_is)
    (case z14 => k_is)
    (case z15 => k_is)
    (case z16 => k_is)
    (case z17 => k_is)
    (case z18 => k_is)
    (case uc0 => k_is)
    (case uc1 => k_is)
    (case uc2 => k_is)
    (case uc3 => k_is)
    (case uc4 => k_is)