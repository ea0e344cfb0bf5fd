import PyProof.Rows.All
import Wide.All
import OpenK.AllK
import Wide.FinOn
import Lean
import PyProof.EqAt
import PyProof.EqKinds
import PyProof.TupleCall
import PyProof.Draws
import PyProof.WalksMore
import PyProof.EnumMake
import PyProof.ReprRoads
import PyProof.Rows.SortWalk
import PyProof.Rows.SumAny
import KE.KSortedM
import PyProof.FitsBits
import PySem.Challenge.RW_platecuts_k64_whole_trees_weighed
set_option Elab.async false
set_option linter.all false
set_option maxRecDepth 100000
namespace L2
open PySem PySem.Spec PyProof.Rows
abbrev Key := Sum Int Str
def keyIs : Key → Value → Bool
  | .inl k,v => Value.isInt k v
  | .inr x,v => Value.isStrOf x v
def keyH (w : World) : Key → Int
  | .inl k => hashInt k
  | .inr x => hashStr w x
theorem keyIs_shape : ∀ {k : Key} {v : Value},keyIs k v = true → (∃ i t,k = Sum.inl i ∧ v = Value.int i t) ∨ (∃ x t,k = Sum.inr x ∧ v = Value.str x t)
  | .inl i,v,h => by
    obtain ⟨t,e⟩ := Value.isInt_shape (k := i) (v := v) h
    exact .inl ⟨i,t,rfl,e⟩
  | .inr x,v,h => by
    obtain ⟨t,e⟩ := Value.isStrOf_shape (x := x) (v := v) h
    exact .inr ⟨x,t,rfl,e⟩
theorem key_ll (a b : Int) : decide ((Sum.inl a : Key) = Sum.inl b) = (a == b) := by
  by_cases e : a = b
  · subst e; simp
  · have h : ¬ (Sum.inl a : Key) = Sum.inl b := fun q => e (Sum.inl.inj q)
    rw [decide_eq_false h]
    exact (beq_eq_false_iff_ne.mpr e).symm
theorem key_rr (a b : Str) : decide ((Sum.inr a : Key) = Sum.inr b) = decide (a = b) := by
  by_cases e : a = b
  · subst e; simp
  · have h : ¬ (Sum.inr a : Key) = Sum.inr b := fun q => e (Sum.inr.inj q)
    rw [decide_eq_false h,decide_eq_false e]
theorem key_lr (a : Int) (b : Str) : decide ((Sum.inl a : Key) = Sum.inr b) = false := decide_eq_false (fun q => nomatch q)
theorem key_rl (a : Str) (b : Int) : decide ((Sum.inr a : Key) = Sum.inl b) = false := decide_eq_false (fun q => nomatch q)
def mixKind (prog : Program) (w : World) : PySem.KeyKind prog w Key where
  is := keyIs
  hash := keyH w
  inj := fun v a b ha hb => by
    rcases keyIs_shape ha with ⟨i,t,rfl,rfl⟩ | ⟨x,t,rfl,rfl⟩
    · rcases keyIs_shape hb with ⟨j,u,rfl,e⟩ | ⟨y,u,rfl,e⟩
      · injection e with e1 _; rw [e1]
      · exact nomatch e
    · rcases keyIs_shape hb with ⟨j,u,rfl,e⟩ | ⟨y,u,rfl,e⟩
      · exact nomatch e
      · injection e with e1 _; rw [e1]
  byValue := fun k v h => by
    rcases keyIs_shape h with ⟨i,t,rfl,rfl⟩ | ⟨x,t,rfl,rfl⟩ <;> rfl
  pyHash := fun hv h => by
    rcases keyIs_shape hv with ⟨i,t,rfl,rfl⟩ | ⟨x,t,rfl,rfl⟩
    · exact wpAny_pyHash_int h
    · exact wpAny_pyHash_str h
  eqBool := fun hu hv h => by
    rcases keyIs_shape hu with ⟨i,t,rfl,rfl⟩ | ⟨x,t,rfl,rfl⟩
    · rcases keyIs_shape hv with ⟨j,u,rfl,rfl⟩ | ⟨y,u,rfl,rfl⟩
      · rw [key_ll] at h; exact wpAny_eqBool_int h
      · rw [key_lr] at h; exact SeqAt.EqAt.int_str i t y u _ _ _ _ h
    · rcases keyIs_shape hv with ⟨j,u,rfl,rfl⟩ | ⟨y,u,rfl,rfl⟩
      · rw [key_rl] at h; exact SeqAt.EqAt.str_int x t j u _ _ _ _ h
      · rw [key_rr] at h; exact wpAny_eqBool_str h
  «strs» := fun k x t v h => by
    rcases keyIs_shape h with ⟨i,u,rfl,e⟩ | ⟨y,u,rfl,e⟩
    · exact nomatch e
    · injection e with e1 _
      subst e1
      cases v <;> rfl
end L2
namespace L2
open PySem PySem.Spec PyProof.Rows
inductive V where
  | non | bl (b : Bool) | int (i : Int) | str (x : Str) | byt (b : Array UInt8) | flt (b : UInt64) | ref (a : Addr) | ty (n : String)
  deriving DecidableEq
def RelV : V → Value → Prop
  | .non,u => u = Value.none
  | .bl b,u => u = Value.bool b
  | .int i,u => ∃ t,u = Value.int i t
  | .str x,u => ∃ t,u = Value.str x t
  | .byt b,u => ∃ t,u = Value.bytes b t
  | .flt b,u => ∃ t,u = Value.float b t
  | .ref a,u => u = Value.ref a
  | .ty n,u => u = Value.type n
abbrev Vals : List V → List Value → Prop := Paired RelV
theorem Vals.length {xs : List V} {us : List Value} (r : Vals xs us) : xs.length = us.length := Paired.length r
theorem Vals.get : ∀ {xs : List V} {us : List Value} {i : Nat} {x : V},Vals xs us → xs[i]? = some x → ∃ u,us[i]? = some u ∧ RelV x u
  | _,_,_,_,.nil,e => by simp at e
  | _,_,0,_,.cons r _,e => by simp at e; subst e; exact ⟨_,rfl,r⟩
  | _,_,i + 1,x,.cons _ t,e => by
    obtain ⟨u,h1,h2⟩ := Vals.get (i := i) (x := x) t (by simpa using e)
    exact ⟨u,by simpa using h1,h2⟩
theorem Vals.set {x : V} {u : Value} (r : RelV x u) : ∀ {xs : List V} {us : List Value} (i : Nat),Vals xs us → Vals (xs.set i x) (us.set i u)
  | _,_,_,.nil => .nil
  | _,_,0,.cons _ t => .cons r t
  | _,_,i + 1,.cons q t => .cons q (Vals.set r i t)
theorem Vals.append : ∀ {xs ys : List V} {us ws : List Value},Vals xs us → Vals ys ws → Vals (xs ++ ys) (us ++ ws)
  | _,_,_,_,.nil,s => s
  | _,_,_,_,.cons r t,s => .cons r (Vals.append t s)
theorem Vals.take : ∀ {xs : List V} {us : List Value} (n : Nat),Vals xs us → Vals (xs.take n) (us.take n)
  | _,_,0,_ => .nil
  | _,_,_ + 1,.nil => .nil
  | _,_,n + 1,.cons r t => .cons r (Vals.take n t)
theorem Vals.drop : ∀ {xs : List V} {us : List Value} (n : Nat),Vals xs us → Vals (xs.drop n) (us.drop n)
  | _,_,0,r => r
  | _,_,_ + 1,.nil => .nil
  | _,_,n + 1,.cons _ t => Vals.drop n t
def RelO : Option V → Option Value → Prop
  | some v,some u => RelV v u
  | none,none => True
  | _,_ => False
def KV {κ : Type} : List (κ × V) → List (κ × Value) → Prop := Paired fun (p : κ × V) (q : κ × Value) => p.1 = q.1 ∧ RelV p.2 q.2
def kV : Key → V
  | .inl i => .int i
  | .inr x => .str x
inductive HO where
  | lst (xs : List V)
  | tup (xs : List V)
  | dK (kvs : List (Key × V)) | dT (kvs : List (List Key × V))
  | set (S : Int → Bool) (n : Nat)
  | ins (C dx : Addr) (fs : List (Str × V))
  | own (x : Addr)
  | xd (fs : List (Str × V))
  | met (f x : Addr)
  | rng (lo hi : Int)
  | frz (o : Obj) (u : HO)
  | tbl (ps : Array Value)
  | ext (φ : Heap → Prop)
abbrev Hp := Addr → Option HO
def upd (H : Hp) (a : Addr) (o : HO) : Hp := fun b => if b = a then some o else H b
theorem upd_same {H : Hp} {a : Addr} {o : HO} : upd H a o a = some o := by unfold upd; rw [if_pos rfl]
theorem upd_ne {H : Hp} {a b : Addr} {o : HO} (h : b ≠ a) : upd H a o b = H b := by unfold upd; rw [if_neg h]
theorem ne_of_none {H : Hp} {a b : Addr} {o : HO} (h : H a = some o) (h' : H b = none) : a ≠ b := by
  intro e; subst e; rw [h] at h'; cases h'
section
variable (P : Program) (w : World)
def ObjOk (H : Hp) (h : Heap) (a : Addr) : HO → Prop
  | .lst xs => xs.length ≤ sizeLine ∧ ∃ (its : List Value) (n : Nat),Vals xs its ∧ h.get? a = some { cls := .type "list",data := .seq its.toArray n }
  | .tup xs => xs.length ≤ sizeLine ∧ ∃ its : List Value,Vals xs its ∧ IsTup h a its.toArray
  | .dK kvs => kvs.length ≤ sizeLine ∧ (a == sysModules) = false ∧ ∃ vs,KV kvs vs ∧ h.DictOf (mixKind P w) a vs
  | .dT kvs => kvs.length ≤ sizeLine ∧ (a == sysModules) = false ∧ ∃ xs : List (List Key × Addr × Value),
      Paired (fun (p : List Key × V) (q : List Key × Addr × Value) => p.1 = q.1 ∧ H q.2.1 = some (.tup (p.1.map kV)) ∧ RelV p.2 q.2.2) kvs xs ∧
      ∃ o es ep,h.get? a = some o ∧ o.ExactDict ∧ o.data = .dict es ep ∧ es.toList = xs.map (entryOfKey (tupleKind (mixKind P w))) ∧ (xs.map (·.1)).Nodup
  | .set S n => h.SetOf (intKind P w) a S n
  | .ins C dx fs => H dx = some (.own a) ∧ fs.length ≤ 1000 ∧ dx ≠ a ∧ h.get? a = some (PySem.W.instObj C dx) ∧
      ∃ mA,h.Ns1 dx mA ∧ (∀ f,RelO (fs.lookup f) (mA f)) ∧ PySem.Within mA (fs.map (·.1))
  | .own _ => ∃ o,h.get? a = some o
  | .xd fs => ∃ mA,h.Ns1 a mA ∧ ∀ f,RelO (fs.lookup f) (mA f)
  | .rng lo hi => ∃ t u v,h.get? a = some { cls := .type "range",data := .fields #[.int lo t,.int hi u,.int 1 v] }
  | .frz o u => h.get? a = some o ∧ ObjOk H h a u
  | .tbl ps => h.get? a = some { cls := .none,data := .fields ps }
  | .met f x => h.get? a = some (PySem.W.methodObj (.ref f) (.ref x))
  | .ext φ => φ h ∧ (∃ o,h.get? a = some o) ∧ ∀ h1 h2 : Heap,φ h1 → (∀ o,h1.get? a = some o → h2.get? a = some o) → φ h2
def HOk (H : Hp) (h : Heap) : Prop := ∀ a o,H a = some o → ObjOk P w H h a o
end
section
variable {P : Program} {w : World} {H H' : Hp} {h h' : Heap} {a : Addr} {o : HO}
theorem ObjOk.lt (x : ObjOk P w H h a o) : a < h.objs.size := by
  cases o with
  | lst xs => obtain ⟨_,_,_,_,e⟩ := x; exact Heap.lt_size e
  | tup xs => obtain ⟨_,_,_,p⟩ := x; exact p.lt
  | dK kvs => obtain ⟨_,_,_,_,o,_,_,e,_⟩ := x; exact Heap.lt_size e
  | dT kvs => obtain ⟨_,_,_,_,o,_,_,e,_⟩ := x; exact Heap.lt_size e
  | set S n => obtain ⟨o,_,_,_,e,_⟩ := x; exact Heap.lt_size e
  | ins C dx fs => obtain ⟨_,_,_,e,_⟩ := x; exact Heap.lt_size e
  | own y => obtain ⟨_,e⟩ := x; exact Heap.lt_size e
  | xd fs => obtain ⟨_,⟨_,_,_,e,_⟩,_⟩ := x; exact Heap.lt_size e
  | rng lo hi => obtain ⟨_,_,_,e⟩ := x; exact Heap.lt_size e
  | frz ob u => obtain ⟨e,_⟩ := x; exact Heap.lt_size e
  | tbl ps => exact Heap.lt_size (show h.get? a = some _ from x)
  | met f y => exact Heap.lt_size (show h.get? a = some _ from x)
  | ext φ => obtain ⟨_,⟨_,e⟩,_⟩ := x; exact Heap.lt_size e
theorem Paired.mapP {α β : Type} {F G : α → β → Prop} : ∀ {l₁ : List α} {l₂ : List β},Paired F l₁ l₂ → (∀ a b,F a b → G a b) → Paired G l₁ l₂
  | _,_,.nil,_ => .nil
  | _,_,.cons r t,f => .cons (f _ _ r) (Paired.mapP t f)
theorem ObjOk.stay (x : ObjOk P w H h a o) (k : ∀ b u,(b = a ∨ H b = some (.own a)) → h.get? b = some u → h'.get? b = some u)
    (ho : ∀ b,H b = some (.own a) → H' b = some (.own a)) (ht : ∀ b xs,H b = some (.tup xs) → H' b = some (.tup xs)) : ObjOk P w H' h' a o := by
  induction o with
  | lst xs => obtain ⟨z,its,n,r,e⟩ := x; exact ⟨z,its,n,r,k _ _ (.inl rfl) e⟩
  | tup xs => obtain ⟨z,its,r,ob,e,c⟩ := x; exact ⟨z,its,r,ob,k _ _ (.inl rfl) e,c⟩
  | dK kvs => obtain ⟨z,y,vs,r,ob,es,ep,e,c⟩ := x; exact ⟨z,y,vs,r,ob,es,ep,k _ _ (.inl rfl) e,c⟩
  | dT kvs =>
    obtain ⟨z,y,xs,r,ob,es,ep,e,c⟩ := x
    exact ⟨z,y,xs,Paired.mapP r fun p q z => ⟨z.1,ht _ _ z.2.1,z.2.2⟩,ob,es,ep,k _ _ (.inl rfl) e,c⟩
  | set S n => obtain ⟨ob,es,ep,t,e,c⟩ := x; exact ⟨ob,es,ep,t,k _ _ (.inl rfl) e,c⟩
  | ins C dx fs =>
    obtain ⟨d,z,ne,e,mA,⟨od,es,ep,e2,c⟩,r⟩ := x
    exact ⟨ho _ d,z,ne,k _ _ (.inl rfl) e,mA,⟨od,es,ep,k _ _ (.inr d) e2,c⟩,r⟩
  | own y => obtain ⟨ob,e⟩ := x; exact ⟨ob,k _ _ (.inl rfl) e⟩
  | xd fs => obtain ⟨mA,⟨od,es,ep,e,c⟩,r⟩ := x; exact ⟨mA,⟨od,es,ep,k _ _ (.inl rfl) e,c⟩,r⟩
  | rng lo hi => obtain ⟨t,u,v,e⟩ := x; exact ⟨t,u,v,k _ _ (.inl rfl) e⟩
  | frz ob u ih => obtain ⟨e,q⟩ := x; exact ⟨k _ _ (.inl rfl) e,ih q⟩
  | tbl ps =>
    have e : h.get? a = some { cls := .none,data := .fields ps } := x
    show h'.get? a = some { cls := .none,data := .fields ps }
    exact k a _ (.inl rfl) e
  | met f y =>
    have e : h.get? a = some (PySem.W.methodObj (.ref f) (.ref y)) := x
    show h'.get? a = some (PySem.W.methodObj (.ref f) (.ref y))
    exact k a _ (.inl rfl) e
  | ext φ => obtain ⟨p,⟨o,e⟩,st⟩ := x; exact ⟨st _ _ p fun o q => k _ _ (.inl rfl) q,⟨o,k _ _ (.inl rfl) e⟩,st⟩
theorem HOk.lt (x : HOk P w H h) (e : H a = some o) : a < h.objs.size := (x a o e).lt
theorem HOk.fresh (x : HOk P w H h) (e : h.objs.size ≤ a) : H a = none := by
  cases q : H a with
  | none => rfl
  | some u => exact absurd (Nat.lt_of_lt_of_le (x.lt q) e) (Nat.lt_irrefl _)
theorem HOk.kept (x : HOk P w H h) (k : ∀ b u,h.get? b = some u → h'.get? b = some u) : HOk P w H h' := fun a o e =>
  (x a o e).stay (fun b u _ q => k b u q) (fun _ q => q) fun _ _ q => q
theorem HOk.laid (x : HOk P w H h) (k : ∀ b u,h.get? b = some u → h'.get? b = some u) (hp : h.objs.size ≤ a) (new : ObjOk P w (upd H a o) h' a o) : HOk P w (upd H a o) h' := fun b u e => by
  have hn := x.fresh hp
  by_cases hb : b = a
  · subst hb; rw [upd_same] at e; cases e; exact new
  · rw [upd_ne hb] at e
    exact (x b u e).stay (fun c v _ q => k c v q) (fun c q => by rw [upd_ne (ne_of_none q hn)]; exact q) fun c xs q => by rw [upd_ne (ne_of_none q hn)]; exact q
end
def Rd (H : Hp) (a : Addr) (u : HO) : Prop := H a = some u ∨ ∃ o,H a = some (.frz o u)
theorem Rd.ok {P : Program} {w : World} {H : Hp} {h : Heap} {a : Addr} {u : HO} (r : Rd H a u) (x : HOk P w H h) : ObjOk P w H h a u := by
  rcases r with r | ⟨o,r⟩
  · exact x a u r
  · obtain ⟨_,q⟩ := x a _ r
    exact q
def Mut : Option HO → Prop
  | some (.lst _) => True
  | some (.dK _) => True
  | some (.dT _) => True
  | some (.set _ _) => True
  | some (.ins _ _ _) => True
  | some (.ext _) => True
  | _ => False
section
variable {P : Program} {w : World} {H : Hp} {h h' : Heap} {x e : Addr} {o' : HO}
theorem HOk.write (ok : HOk P w H h) (mu : Mut (H x)) (he : e = x ∨ H e = some (.own x)) (k : ∀ b u,b ≠ e → h.get? b = some u → h'.get? b = some u) (heo : ∃ u,h'.get? e = some u)
    (new : ObjOk P w (upd H x o') h' x o') : HOk P w (upd H x o') h' := fun b u q => by
  have nown : ∀ c y,H c = some (.own y) → c ≠ x := fun c y r z => by subst z; rw [r] at mu; exact mu
  have ntup : ∀ c xs,H c = some (.tup xs) → c ≠ x := fun c xs r z => by subst z; rw [r] at mu; exact mu
  by_cases hb : b = x
  · subst hb; rw [upd_same] at q; cases q; exact new
  · rw [upd_ne hb] at q
    by_cases hbe : b = e
    · have q' : H b = some (.own x) := by
        rcases he with z | z
        · exact absurd (hbe.trans z) hb
        · rw [hbe]; exact z
      rw [q] at q'; cases q'
      obtain ⟨v,hv⟩ := heo
      exact ⟨v,by rw [hbe]; exact hv⟩
    · refine (ok b u q).stay (fun c v hc r => k c v ?_ r) (fun c r => by rw [upd_ne (nown c b r)]; exact r) fun c xs r => by rw [upd_ne (ntup c xs r)]; exact r
      rcases hc with rfl | hc
      · exact hbe
      · rintro rfl
        rcases he with z | z
        · exact nown c b hc z
        · rw [hc] at z; cases z; exact hb rfl
end
structure Un (fs ex : List Addr) (H H' : Hp) (h h' : Heap) : Prop where
  keep : ∀ b o,h.get? b = some o → H b = none → b ∉ fs → b ∉ ex → h'.get? b = some o
  slot : ∀ b o,h.get? b = some o → H b = none → b ∈ fs → b ∉ ex → ∃ sl,h'.get? b = some { o with slots := sl }
  free : ∀ b o,h.get? b = some o → H b = none → b ∉ ex → H' b = none
  there : ∀ b o,h.get? b = some o → b ∉ ex → ∃ o',h'.get? b = some o'
  tups : ∀ b xs,H b = some (.tup xs) → H' b = some (.tup xs)
  frzs : ∀ b o u,H b = some (.frz o u) → H' b = some (.frz o u)
  tbls : ∀ b ps,H b = some (.tbl ps) → ∃ more,H' b = some (.tbl (ps ++ more))
section
variable {fs fs' ex ex' : List Addr} {H H1 H2 : Hp} {h h1 h2 h' : Heap} {a x e : Addr} {o : HO}
theorem Un.any (u : Un fs ex H H1 h h1) {b : Addr} {ob : Obj} (q : h.get? b = some ob) (n : H b = none) (hx : b ∉ ex) : ∃ sl,h1.get? b = some { ob with slots := sl } := by
  by_cases hb : b ∈ fs
  · exact u.slot b ob q n hb hx
  · exact ⟨ob.slots,u.keep b ob q n hb hx⟩
theorem Un.kept (k : ∀ b u,h.get? b = some u → h'.get? b = some u) : Un fs ex H H h h' :=
  ⟨fun b ob q _ _ _ => k b ob q,fun b ob q _ _ _ => ⟨ob.slots,k b ob q⟩,fun _ _ _ n _ => n,fun b ob q _ => ⟨ob,k b ob q⟩,fun _ _ q => q,fun _ _ _ q => q,fun _ ps q => ⟨#[],by rw [q]; simp⟩⟩
theorem Un.refl : Un fs ex H H h h := Un.kept fun _ _ q => q
theorem Un.laid (k : ∀ b u,h.get? b = some u → h'.get? b = some u) (hp : h.objs.size ≤ a) (hn : H a = none) : Un fs ex H (upd H a o) h h' where
  keep := fun b u q _ _ _ => k b u q
  slot := fun b u q _ _ _ => ⟨u.slots,k b u q⟩
  free := fun b u q n _ => by rw [upd_ne (Nat.ne_of_lt (Nat.lt_of_lt_of_le (Heap.lt_size q) hp))]; exact n
  there := fun b u q _ => ⟨u,k b u q⟩
  tups := fun b xs q => by rw [upd_ne (ne_of_none q hn)]; exact q
  frzs := fun b u xs q => by rw [upd_ne (ne_of_none q hn)]; exact q
  tbls := fun b ps q => ⟨#[],by rw [upd_ne (ne_of_none q hn),q]; simp⟩
theorem Un.write (mu : Mut (H x)) (he : e = x ∨ H e = some (.own x)) (k : ∀ b u,b ≠ e → h.get? b = some u → h'.get? b = some u) (heo : ∃ u,h'.get? e = some u) : Un fs ex H (upd H x o) h h' := by
  have hx : ∀ b,H b = none → b ≠ x := fun b n z => by subst z; rw [n] at mu; exact mu
  have hb : ∀ b,H b = none → b ≠ e := fun b n z => by
    subst z
    rcases he with r | r
    · exact hx b n r
    · rw [n] at r; cases r
  have hm : ∀ b u,H b = some u → ¬ Mut (some u) → b ≠ x := fun b u q nm z => by subst z; rw [q] at mu; exact nm mu
  refine ⟨fun b u q n _ _ => k b u (hb b n) q,fun b u q n _ _ => ⟨u.slots,k b u (hb b n) q⟩,fun b u q n _ => by rw [upd_ne (hx b n)]; exact n,fun b u q _ => ?_,
    fun b xs q => by rw [upd_ne (hm b _ q fun z => z)]; exact q,fun b u xs q => by rw [upd_ne (hm b _ q fun z => z)]; exact q,fun b ps q => ⟨#[],by rw [upd_ne (hm b _ q fun z => z),q]; simp⟩⟩
  by_cases hbe : b = e
  · subst hbe; exact heo
  · exact ⟨u,k b u hbe q⟩
end
def trk (h : Heap) (H : Hp) : List Addr := (List.range h.objs.size).filter fun a => (H a).isSome
def hidT (h : Heap) (H : Hp) : Heap := PySem.W.hideAll h (trk h H)
theorem hidT_size (h : Heap) (H : Hp) : (hidT h H).objs.size = h.objs.size := PySem.W.hideAll_size _ _
theorem hidT_get {h : Heap} {H : Hp} {b : Addr} {o : Obj} (e : h.get? b = some o) (n : H b = none) : (hidT h H).get? b = some o :=
  PySem.W.hideAll_get _ e fun hm => by
    have q : (H b).isSome = true := (List.mem_filter.mp hm).2
    rw [n] at q; simp at q
theorem of_hidT {h : Heap} {H : Hp} {b : Addr} {o : Obj} (e : (hidT h H).get? b = some o) : h.get? b = some o ∧ H b = none := by
  have e' : h.get? b = some o := PySem.W.of_hideAll (trk h H) e
  refine ⟨e',?_⟩
  cases q : H b with
  | none => rfl
  | some x =>
    have hm : b ∈ trk h H := List.mem_filter.mpr ⟨List.mem_range.mpr (Heap.lt_size e'),by simp [q]⟩
    have z : (hidT h H).get? b = none := PySem.W.hideAll_none (trk h H) hm
    rw [z] at e; cases e
def allNews (g h : Heap) (L : Addr) : List (Addr × Obj) := (List.range h.objs.size).filterMap fun a => if a = L ∨ (g.get? a).isSome = true then none else (h.get? a).map fun o => (a,o)
def rest (g h : Heap) (L d : Addr) : List (Addr × Obj) := (allNews g h L).filter fun p => decide (p.1 ≠ d)
end L2
namespace L2
open PySem PySem.Spec PyProof.Rows
structure Mod (K : PySem.W.Frag) (mg : Str → Option Value) (base : Heap) : Prop where
  kin : K.In base
  glob : base.Ns mainGlobals mg
  blt : ∃ mb,base.Ns builtinsNs mb ∧ ∀ x : Str,x ≠ "__name__" → mb x = bootBuiltins x
  nolimit : base.NoLimit
/-- the context: a def's body (or a comprehension's block) running. base: fixed through the whole law; s₀,H₀: the entry; outer: the frames whose slots others may change (a def's callers); stack: all frames that run;
   ex: iterators that were made ahead of the entry and are walked here (a comprehension's); fn: the names whose cells were made at the entry (a def: all; a comprehension's block: its own); calm: not within an except suite; pn: pins that every state bears; xe: what is wanted of an exception that leaves the code -/
structure Cx where
  prog : Program
  w : World
  K : PySem.W.Frag
  mg : Str → Option Value
  base : Heap
  A : Around
  N : List Str
  s₀ : Shared
  H₀ : Hp
  env : Env
  outer : List Env
  stack : List Env
  ex : List Addr
  fn : Str → Bool
  calm : Bool
  pn : List (Addr × Obj)
  xe : Value → Shared → Prop
def frs (l : List Env) : List Addr := l.filterMap (·.frame)
abbrev Cx.fs (X : Cx) : List Addr := frs X.outer
def Vis (sc : Scope) (x : Str) : Prop := sc.names.lookup x = some .local ∨ sc.names.lookup x = some .cell ∨ sc.names.lookup x = some .free
def Loc (sc : Scope) (x : Str) : Prop := sc.names.lookup x = some .local ∨ sc.names.lookup x = some .cell
def Look (env : Env) (h : Heap) (m : Str → Option Value) (x : Str) (u : Value) : Prop :=
  (env.kindOf x = some .local ∧ m x = some u) ∨ ((env.kindOf x = some .cell ∨ env.kindOf x = some .free) ∧ ∃ c,env.cells.lookup x = some c ∧ h.IsCell c (some u))
structure Cx.Ok (X : Cx) : Prop where
  mod : Mod X.K X.mg X.base
  kind : X.env.scope.kind = .function
  glob : X.env.globals = mainGlobals
  blt : X.env.builtins = builtinsNs
  above : X.s₀.heap.objs.size ≤ X.env.locals
  inj : ∀ x y c,X.env.cells.lookup x = some c → X.env.cells.lookup y = some c → x = y
  has : ∀ x,(X.env.kindOf x = some .cell ∨ X.env.kindOf x = some .free) → ∃ c,X.env.cells.lookup x = some c
  cab : ∀ x c,X.fn x = true → X.env.cells.lookup x = some c → X.s₀.heap.objs.size ≤ c
  hd : X.calm = true → X.A.handled = none
  frames : X.A.frames = some X.stack
  stk : X.stack = X.outer ∨ (X.stack = X.env :: X.outer ∧ X.env.frame = some X.env.locals)
  exf : ∀ b ∈ X.ex,b ≠ X.env.locals ∧ ∀ x c,X.env.cells.lookup x = some c → c ≠ b
  bs : ∀ b o,X.base.get? b = some o → X.s₀.heap.get? b = some o ∧ X.H₀ b = none
  bsz : X.base.objs.size ≤ X.s₀.heap.objs.size
  noex : ∀ b o,X.base.get? b = some o → b ∉ X.ex
  exfs : ∀ b ∈ X.ex,b ∉ X.fs
  funs : X.s₀.heap.FunFrames X.base X.outer
  frf : ∀ b ∈ X.fs,X.H₀ b = none
structure Inv (X : Cx) (pins : List (Addr × Obj)) (σ : List (Option V)) (H : Hp) (s : Shared) : Prop where
  ok : X.Ok
  os : s.os = X.s₀.os
  bare : AllBare s.gens
  base : Un X.fs X.ex X.H₀ H X.s₀.heap s.heap
  loc : ∃ m,s.heap.Ns X.env.locals m ∧ ∀ (i : Nat) (x : Str) (v : V),X.N[i]? = some x → σ[i]? = some (some v) → Vis X.env.scope x → ∃ u,RelV v u ∧ Look X.env s.heap m x u
  cell : ∀ x c,X.env.cells.lookup x = some c → ∃ v,s.heap.IsCell c v
  free : H X.env.locals = none
  freeC : ∀ x c,X.env.cells.lookup x = some c → H c = none
  pin : ∀ p ∈ X.pn ++ pins,s.heap.get? p.1 = some p.2 ∧ H p.1 = none ∧ p.1 ≠ X.env.locals ∧ p.1 ∉ X.fs ∧ ∀ v,p.2.data ≠ .cell v
  hok : HOk X.prog X.w H s.heap
  len : σ.length = X.N.length
section
variable {X : Cx} {pins : List (Addr × Obj)} {σ : List (Option V)} {H H' : Hp} {s : Shared} {h' : Heap}
theorem Cx.Ok.nofr (ok : X.Ok) {b : Addr} {o : Obj} (e : X.base.get? b = some o) : b ∉ X.fs := fun hb => by
  have := (ok.funs.mem hb).1
  rw [e] at this; cases this
theorem Inv.bs (I : Inv X pins σ H s) : ∀ b o,X.base.get? b = some o → s.heap.get? b = some o ∧ H b = none := fun b o e =>
  ⟨I.base.keep b o (I.ok.bs b o e).1 (I.ok.bs b o e).2 (I.ok.nofr e) (I.ok.noex b o e),I.base.free b o (I.ok.bs b o e).1 (I.ok.bs b o e).2 (I.ok.noex b o e)⟩
theorem Inv.bk (I : Inv X pins σ H s) : ∀ b o,X.base.get? b = some o → s.heap.get? b = some o := fun b o e => (I.bs b o e).1
theorem Inv.mod (I : Inv X pins σ H s) : Mod X.K X.mg X.base := I.ok.mod
theorem Inv.kIn (I : Inv X pins σ H s) : X.K.In s.heap := I.ok.mod.kin.keeps I.bk
theorem Inv.fr (I : Inv X pins σ H s) : ∃ m,Fr X.base X.env.locals s.heap m :=
  let ⟨m,hn,_⟩ := I.loc
  ⟨m,hn,I.bk,Nat.le_trans I.ok.bsz I.ok.above⟩
theorem Inv.lt (I : Inv X pins σ H s) : X.env.locals < s.heap.objs.size := let ⟨_,hn,_⟩ := I.loc; hn.lt
theorem Inv.sz (I : Inv X pins σ H s) : X.s₀.heap.objs.size ≤ s.heap.objs.size := Nat.le_trans I.ok.above (Nat.le_of_lt I.lt)
theorem Inv.nofs (I : Inv X pins σ H s) {a : Addr} (h : s.heap.objs.size ≤ a) : a ∉ X.fs := fun hb => by
  obtain ⟨_,o,ho,_⟩ := I.ok.funs.mem hb
  exact absurd (Nat.lt_of_lt_of_le (Heap.lt_size ho) (Nat.le_trans I.sz h)) (Nat.lt_irrefl _)
theorem Inv.cne (I : Inv X pins σ H s) : ∀ x c,X.env.cells.lookup x = some c → c ≠ X.env.locals := fun x c e z => by
  obtain ⟨v,o,ho,hd⟩ := I.cell x c e
  obtain ⟨m,⟨o',es,ep,ho',hd',_⟩,_⟩ := I.loc
  rw [z,ho'] at ho; cases ho; rw [hd'] at hd; cases hd
theorem Inv.funs (I : Inv X pins σ H s) : s.heap.FunFrames X.base X.outer := by
  have all : ∀ (l : List Env),(∀ b ∈ frs l,b ∈ X.fs) → X.s₀.heap.FunFrames X.base l → s.heap.FunFrames X.base l := by
    intro l
    induction l with
    | nil => intro _ _; trivial
    | cons env r ih =>
      intro hs hl
      obtain ⟨hk,⟨L,o,hf,hn,ho,hd⟩,hr⟩ := hl
      have hL : L ∈ X.fs := hs L (by unfold frs; rw [List.filterMap_cons,hf]; exact List.mem_cons_self)
      obtain ⟨sl,e⟩ := I.base.slot L o ho (I.ok.frf L hL) hL fun z => I.ok.exfs L z hL
      exact ⟨hk,⟨L,_,hf,hn,e,hd⟩,ih (fun b hb => hs b (by unfold frs; rw [List.filterMap_cons,hf]; exact List.mem_cons_of_mem _ hb)) hr⟩
  exact all X.outer (fun _ hb => hb) I.ok.funs
theorem Inv.stack (I : Inv X pins σ H s) : s.heap.FunFrames X.base X.stack := by
  rcases I.ok.stk with e | ⟨e,hf⟩
  · rw [e]; exact I.funs
  · rw [e]
    obtain ⟨m,hn,_⟩ := I.loc
    refine .cons (by rw [I.ok.kind]; decide) hf hn ?_ I.funs
    exact Heap.get?_none_of_le (Nat.le_trans I.ok.bsz I.ok.above)
theorem Inv.stkSub (I : Inv X pins σ H s) : ∀ b ∈ frs X.stack,b ∈ X.env.locals :: X.fs := fun b hb => by
  rcases I.ok.stk with e | ⟨e,hf⟩
  · rw [e] at hb; exact List.mem_cons_of_mem _ hb
  · rw [e] at hb
    unfold frs at hb
    rw [List.filterMap_cons,hf] at hb
    exact hb
theorem Inv.stkFree (I : Inv X pins σ H s) : ∀ b ∈ frs X.stack,H b = none := fun b hb => by
  rcases List.mem_cons.mp (I.stkSub b hb) with e | hb
  · rw [e]; exact I.free
  · obtain ⟨_,o,ho,_⟩ := I.ok.funs.mem hb
    exact I.base.free b o ho (I.ok.frf b hb) fun z => I.ok.exfs b z hb
theorem Inv.step {g' : Array GenState} {t' : Nat} {d' : Drawn} {ch : List Addr} (I : Inv X pins σ H s)
    (hch : ∀ b ∈ ch,(b ∈ X.ex ∨ X.s₀.heap.objs.size ≤ b) ∧ b ≠ X.env.locals ∧ (∀ x c,X.env.cells.lookup x = some c → c ≠ b) ∧ ∀ p ∈ X.pn ++ pins,p.1 ≠ b)
    (keep : ∀ b o,b ≠ X.env.locals → b ∉ X.fs → b ∉ ch → s.heap.get? b = some o → H b = none → h'.get? b = some o)
    (slot : ∀ b o,b ≠ X.env.locals → b ∈ X.fs → b ∉ ch → s.heap.get? b = some o → H b = none → ∃ sl,h'.get? b = some { o with slots := sl }) (free : ∀ b o,b ∉ ch → s.heap.get? b = some o → H b = none → H' b = none)
    (there : ∀ b o,b ∉ ch → s.heap.get? b = some o → ∃ o',h'.get? b = some o')
    (tups : ∀ b xs,H b = some (.tup xs) → H' b = some (.tup xs)) (frzs : ∀ b o u,H b = some (.frz o u) → H' b = some (.frz o u)) (tbls : ∀ b ps,H b = some (.tbl ps) → ∃ more,H' b = some (.tbl (ps ++ more)))
    (ns : ∀ m,s.heap.Ns X.env.locals m → h'.Ns X.env.locals m) (hok : HOk X.prog X.w H' h') (hg : AllBare g') :
    Inv X pins σ H' { s with heap := h',gens := g',drawn := d',toks := t' } := by
  have neL : ∀ b o,X.s₀.heap.get? b = some o → b ≠ X.env.locals := fun b o e => Nat.ne_of_lt (Nat.lt_of_lt_of_le (Heap.lt_size e) I.ok.above)
  have neC : ∀ b o,X.s₀.heap.get? b = some o → b ∉ X.ex → b ∉ ch := fun b o e hx hb => by
    rcases (hch b hb).1 with z | z
    · exact hx z
    · exact absurd (Nat.lt_of_lt_of_le (Heap.lt_size e) z) (Nat.lt_irrefl _)
  have cellK : ∀ x c,X.env.cells.lookup x = some c → ∀ v,s.heap.IsCell c v → h'.IsCell c v := fun x c e v ⟨o,ho,hd⟩ => by
    have nch : c ∉ ch := fun z => (hch c z).2.2.1 x c e rfl
    by_cases hc : c ∈ X.fs
    · obtain ⟨sl,q⟩ := slot c o (I.cne x c e) hc nch ho (I.freeC x c e)
      exact ⟨_,q,hd⟩
    · exact ⟨o,keep c o (I.cne x c e) hc nch ho (I.freeC x c e),hd⟩
  refine ⟨I.ok,I.os,hg,⟨fun b o e n hb hx => ?_,fun b o e n hb hx => ?_,fun b o e n hx => ?_,fun b o e hx => ?_,fun b xs e => tups b xs (I.base.tups b xs e),fun b o xs e => frzs b o xs (I.base.frzs b o xs e),fun b ps e => ?_⟩,?_,fun x c e => ?_,?_,fun x c e => ?_,fun p hp => ?_,hok,I.len⟩
  · exact keep b o (neL b o e) hb (neC b o e hx) (I.base.keep b o e n hb hx) (I.base.free b o e n hx)
  · obtain ⟨sl,e1⟩ := I.base.slot b o e n hb hx
    obtain ⟨sl',e2⟩ := slot b _ (neL b o e) hb (neC b o e hx) e1 (I.base.free b o e n hx)
    exact ⟨sl',e2⟩
  · obtain ⟨o',e1⟩ := I.base.there b o e hx
    exact free b o' (neC b o e hx) e1 (I.base.free b o e n hx)
  · obtain ⟨o',e1⟩ := I.base.there b o e hx
    exact there b o' (neC b o e hx) e1
  · obtain ⟨m1,e1⟩ := I.base.tbls b ps e
    obtain ⟨m2,e2⟩ := tbls b _ e1
    exact ⟨m1 ++ m2,by rw [e2,Array.append_assoc]⟩
  · obtain ⟨m,hn,hl⟩ := I.loc
    refine ⟨m,ns m hn,fun i x v e1 e2 e3 => ?_⟩
    obtain ⟨u,r,l⟩ := hl i x v e1 e2 e3
    refine ⟨u,r,?_⟩
    rcases l with l | ⟨k,c,e,z⟩
    · exact .inl l
    · exact .inr ⟨k,c,e,cellK x c e _ z⟩
  · obtain ⟨v,z⟩ := I.cell x c e
    exact ⟨v,cellK x c e v z⟩
  · obtain ⟨m,⟨o,_,_,ho,_⟩,_⟩ := I.loc
    exact free _ o (fun z => (hch _ z).2.1 rfl) ho I.free
  · obtain ⟨v,o,ho,hd⟩ := I.cell x c e
    exact free c o (fun z => (hch c z).2.2.1 x c e rfl) ho (I.freeC x c e)
  · obtain ⟨e,n,ne,nf,d⟩ := I.pin p hp
    have nch : p.1 ∉ ch := fun z => (hch p.1 z).2.2.2 p hp rfl
    exact ⟨keep p.1 p.2 ne nf nch e n,free p.1 p.2 nch e n,ne,nf,d⟩
theorem Inv.un {t' : Nat} (I : Inv X pins σ H s) (u : Un X.fs [] H H' s.heap h') (hok : HOk X.prog X.w H' h') : Inv X pins σ H' { s with heap := h',toks := t' } := by
  obtain ⟨m,⟨o,es,ep,ho,r⟩,_⟩ := id I.loc
  obtain ⟨sl,hL⟩ := u.any ho I.free (by simp)
  exact I.step (g' := s.gens) (d' := s.drawn) (ch := []) (fun _ z => nomatch z) (fun b o _ hb _ e n => u.keep b o e n hb (by simp)) (fun b o _ hb _ e n => u.slot b o e n hb (by simp)) (fun b o _ e n => u.free b o e n (by simp)) (fun b o _ e => u.there b o e (by simp)) u.tups u.frzs u.tbls (fun m' hm => by
    obtain ⟨o',es',ep',ho',r'⟩ := hm
    rw [ho] at ho'; cases ho'
    exact ⟨_,es',ep',hL,r'⟩) hok I.bare
theorem Inv.call {g' : Array GenState} {t' : Nat} {d' : Drawn} {ch : List Addr} (I : Inv X pins σ H s) (u : Un (frs X.stack) ch H H' s.heap h') (hok : HOk X.prog X.w H' h') (hg : AllBare g')
    (hch : ∀ b ∈ ch,(b ∈ X.ex ∨ X.s₀.heap.objs.size ≤ b) ∧ b ≠ X.env.locals ∧ (∀ x c,X.env.cells.lookup x = some c → c ≠ b) ∧ ∀ p ∈ X.pn ++ pins,p.1 ≠ b) :
    Inv X pins σ H' { s with heap := h',gens := g',drawn := d',toks := t' } := by
  obtain ⟨m,⟨o,es,ep,ho,r⟩,_⟩ := id I.loc
  obtain ⟨sl,hL⟩ := u.any ho I.free fun z => (hch _ z).2.1 rfl
  exact I.step (ch := ch) hch (fun b o hL hb hc e n => u.keep b o e n (fun z => (List.mem_cons.mp (I.stkSub b z)).elim hL hb) hc) (fun b o _ _ hc e n => u.any e n hc) (fun b o hc e n => u.free b o e n hc) (fun b o hc e => u.there b o e hc) u.tups u.frzs u.tbls (fun m' hm => by
    obtain ⟨o',es',ep',ho',r'⟩ := hm
    rw [ho] at ho'; cases ho'
    exact ⟨_,es',ep',hL,r'⟩) hok hg
theorem Inv.turned {t' : Nat} {it : Addr} (I : Inv X pins σ H s) (k : ∀ b o,b ≠ it → s.heap.get? b = some o → h'.get? b = some o) (hn : H it = none) (hL : it ≠ X.env.locals)
    (h1 : it ∈ X.ex ∨ X.s₀.heap.objs.size ≤ it) (h2 : ∀ x c,X.env.cells.lookup x = some c → c ≠ it) (h3 : ∀ p ∈ X.pn ++ pins,p.1 ≠ it) : Inv X pins σ H { s with heap := h',toks := t' } := by
  have nit : ∀ b u,H b = some u → b ≠ it := fun b u e z => by rw [z,hn] at e; cases e
  refine I.step (g' := s.gens) (d' := s.drawn) (ch := [it]) (fun b hb => ?_) (fun b o _ _ hc e _ => k b o (fun z => hc (by simp [z])) e) (fun b o _ _ hc e _ => ⟨o.slots,k b o (fun z => hc (by simp [z])) e⟩) (fun _ _ _ _ n => n)
    (fun b o hc e => ⟨o,k b o (fun z => hc (by simp [z])) e⟩) (fun _ _ e => e) (fun _ _ _ e => e) (fun b ps e => ⟨#[],by rw [e]; simp⟩) (fun m hm => ?_) (fun b u e => ?_) I.bare
  · have e : b = it := by simpa using hb
    subst e
    exact ⟨h1,hL,h2,h3⟩
  · obtain ⟨o,es,ep,ho,r⟩ := hm
    exact ⟨o,es,ep,k _ o (Ne.symm hL) ho,r⟩
  · refine (I.hok b u e).stay (fun c v hc q => k c v ?_ q) (fun _ q => q) fun _ _ q => q
    rcases hc with z | z
    · rw [z]; exact nit b u e
    · exact nit c _ z
theorem Inv.tok (I : Inv X pins σ H s) (t : Nat) : Inv X pins σ H { s with toks := t } := I.un (h' := s.heap) (t' := t) Un.refl I.hok
theorem Inv.kept {t' : Nat} (I : Inv X pins σ H s) (k : ∀ b u,s.heap.get? b = some u → h'.get? b = some u) : Inv X pins σ H { s with heap := h',toks := t' } := I.un (Un.kept k) (I.hok.kept k)
theorem Inv.laid {a : Addr} {o : HO} {t' : Nat} (I : Inv X pins σ H s) (k : ∀ b u,s.heap.get? b = some u → h'.get? b = some u) (hp : s.heap.objs.size ≤ a) (new : ObjOk X.prog X.w (upd H a o) h' a o) :
    Inv X pins σ (upd H a o) { s with heap := h',toks := t' } := I.un (Un.laid k hp (I.hok.fresh hp)) (I.hok.laid k hp new)
theorem Inv.write {x e : Addr} {o : HO} {t' : Nat} (I : Inv X pins σ H s) (mu : Mut (H x)) (he : e = x ∨ H e = some (.own x)) (k : ∀ b u,b ≠ e → s.heap.get? b = some u → h'.get? b = some u) (heo : ∃ u,h'.get? e = some u)
    (new : ObjOk X.prog X.w (upd H x o) h' x o) : Inv X pins σ (upd H x o) { s with heap := h',toks := t' } := I.un (Un.write mu he k heo) (I.hok.write mu he k heo new)
theorem Inv.weak {σ' : List (Option V)} (I : Inv X pins σ H s) (hl : σ'.length = σ.length) (w : ∀ (i : Nat) v,σ'[i]? = some (some v) → σ[i]? = some (some v)) : Inv X pins σ' H s :=
  ⟨I.ok,I.os,I.bare,I.base,let ⟨m,hn,hl'⟩ := I.loc; ⟨m,hn,fun i x v e1 e2 e3 => hl' i x v e1 (w i v e2) e3⟩,I.cell,I.free,I.freeC,I.pin,I.hok,hl.trans I.len⟩
theorem Inv.pins_of {pins' : List (Addr × Obj)} (I : Inv X pins σ H s) (h : ∀ p ∈ pins',s.heap.get? p.1 = some p.2 ∧ H p.1 = none ∧ p.1 ≠ X.env.locals ∧ p.1 ∉ X.fs ∧ ∀ v,p.2.data ≠ .cell v) : Inv X pins' σ H s :=
  ⟨I.ok,I.os,I.bare,I.base,I.loc,I.cell,I.free,I.freeC,fun p hp => (List.mem_append.mp hp).elim (fun z => I.pin p (List.mem_append_left _ z)) (h p),I.hok,I.len⟩
theorem nodup_ix {N : List Str} (hN : N.Nodup) {i j : Nat} {x : Str} (a : N[i]? = some x) (b : N[j]? = some x) : i = j := by
  obtain ⟨h1,e1⟩ := List.getElem?_eq_some_iff.mp a
  obtain ⟨h2,e2⟩ := List.getElem?_eq_some_iff.mp b
  exact (List.getElem_inj hN).mp (e1.trans e2.symm)
theorem store_ok2 {M : Model} {A : Around} {E : Value → Shared → Prop} {i : Nat} {x : Str} {v : V} {u : Value} {Q : Unit → Shared → Prop} (I : Inv X pins σ H s) (hN : X.N.Nodup) (hi : X.N[i]? = some x) (hx : Loc X.env.scope x) (r : RelV v u)
    (h : ∀ s',Inv X pins (σ.set i (some v)) H s' → (∃ a,Heap.SameBut a s.heap s'.heap ∧ (a = X.env.locals ∨ X.env.cells.lookup x = some a)) → Q () s') (hf : X.fn x = true ∨ X.env.scope.names.lookup x = some .local := by first | exact .inl rfl | exact .inr rfl | assumption) : wpAny M A (storeName X.env x u) Q E s := by
  obtain ⟨m,hn,hl⟩ := id I.loc
  have hcls : (X.env.scope.kind == .class || (X.env.scope.kind == .module && X.env.locals != X.env.globals)) = false := by rw [I.ok.kind]; rfl
  have hiσ : i < σ.length := by rw [I.len]; exact (List.getElem?_eq_some_iff.mp hi).1
  have cne := I.cne
  have tracked : ∀ {a : Addr} {h' : Heap},(∃ o,s.heap.get? a = some o ∧ H a = none) → Heap.SameBut a s.heap h' → HOk X.prog X.w H h' := fun {a h'} ha hs b ob e => by
    obtain ⟨_,_,hfree⟩ := ha
    refine (I.hok b ob e).stay (fun c w' hc q => (hs.2 c ?_).trans q) (fun _ q => q) fun _ _ q => q
    rintro rfl
    rcases hc with rfl | hc
    · rw [hfree] at e; cases e
    · rw [hfree] at hc; cases hc
  rcases hx with hk | hk
  · refine wpAny_storeName_local hk hn (fun h' hn' hs => ?_) hcls
    obtain ⟨oL,_,_,hoL,_⟩ := id hn
    refine h _ ⟨I.ok,I.os,I.bare,⟨fun b o e n hb hx => ?_,fun b o e n hb hx => ?_,I.base.free,fun b o e hx => ?_,I.base.tups,I.base.frzs,I.base.tbls⟩,⟨_,hn',fun j y v' e1 e2 e3 => ?_⟩,fun y c e => ?_,I.free,I.freeC,fun p hp => ?_,tracked ⟨oL,hoL,I.free⟩ hs,by simpa using I.len⟩ ⟨_,hs,.inl rfl⟩
    · exact (hs.2 b (Nat.ne_of_lt (Nat.lt_of_lt_of_le (Heap.lt_size e) I.ok.above))).trans (I.base.keep b o e n hb hx)
    · obtain ⟨sl,e1⟩ := I.base.slot b o e n hb hx
      exact ⟨sl,(hs.2 b (Nat.ne_of_lt (Nat.lt_of_lt_of_le (Heap.lt_size e) I.ok.above))).trans e1⟩
    · obtain ⟨o',e1⟩ := I.base.there b o e hx
      exact ⟨o',(hs.2 b (Nat.ne_of_lt (Nat.lt_of_lt_of_le (Heap.lt_size e) I.ok.above))).trans e1⟩
    · by_cases hj : j = i
      · subst hj
        rw [hi] at e1; cases e1
        rw [List.getElem?_set_self hiσ] at e2
        cases e2
        exact ⟨u,r,.inl ⟨hk,by simp⟩⟩
      · rw [List.getElem?_set_ne (Ne.symm hj)] at e2
        obtain ⟨u',r',q⟩ := hl j y v' e1 e2 e3
        refine ⟨u',r',?_⟩
        rcases q with ⟨k,e⟩ | ⟨k,c,e,z⟩
        · refine .inl ⟨k,?_⟩
          have : y ≠ x := fun e => hj (nodup_ix hN e1 (e ▸ hi))
          simp [this,e]
        · exact .inr ⟨k,c,e,z.sameBut hs (cne y c e)⟩
    · obtain ⟨w',z⟩ := I.cell y c e
      exact ⟨w',z.sameBut hs (cne y c e)⟩
    · obtain ⟨e,n,ne,nf,d⟩ := I.pin p hp
      exact ⟨(hs.2 p.1 ne).trans e,n,ne,nf,d⟩
  · have hfn : X.fn x = true := by
      rcases hf with z | z
      · exact z
      · rw [z] at hk; cases hk
    obtain ⟨c,hc⟩ := I.ok.has x (.inl hk)
    obtain ⟨w',z⟩ := I.cell x c hc
    refine wpAny_storeName_cell I.ok.kind hk hc z (fun h' hc' hs => ?_)
    obtain ⟨oc,hoc,hocd⟩ := id z
    refine h { s with heap := h' } ⟨I.ok,I.os,I.bare,⟨fun b o e n hb hx => ?_,fun b o e n hb hx => ?_,I.base.free,fun b o e hx => ?_,I.base.tups,I.base.frzs,I.base.tbls⟩,⟨m,hn.sameBut hs (Ne.symm (cne x c hc)),fun j y v' e1 e2 e3 => ?_⟩,fun y c' e => ?_,I.free,I.freeC,fun p hp => ?_,tracked ⟨oc,hoc,I.freeC x c hc⟩ hs,by simpa using I.len⟩ ⟨c,hs,.inr hc⟩
    · exact (hs.2 b (Nat.ne_of_lt (Nat.lt_of_lt_of_le (Heap.lt_size e) (I.ok.cab x c hfn hc)))).trans (I.base.keep b o e n hb hx)
    · obtain ⟨sl,e1⟩ := I.base.slot b o e n hb hx
      exact ⟨sl,(hs.2 b (Nat.ne_of_lt (Nat.lt_of_lt_of_le (Heap.lt_size e) (I.ok.cab x c hfn hc)))).trans e1⟩
    · obtain ⟨o',e1⟩ := I.base.there b o e hx
      exact ⟨o',(hs.2 b (Nat.ne_of_lt (Nat.lt_of_lt_of_le (Heap.lt_size e) (I.ok.cab x c hfn hc)))).trans e1⟩
    · by_cases hj : j = i
      · subst hj
        rw [hi] at e1; cases e1
        rw [List.getElem?_set_self hiσ] at e2
        cases e2
        exact ⟨u,r,.inr ⟨.inl hk,c,hc,hc'⟩⟩
      · rw [List.getElem?_set_ne (Ne.symm hj)] at e2
        obtain ⟨u',r',q⟩ := hl j y v' e1 e2 e3
        refine ⟨u',r',?_⟩
        rcases q with q | ⟨k,c',e,z'⟩
        · exact .inl q
        · refine .inr ⟨k,c',e,z'.sameBut hs ?_⟩
          rintro rfl
          exact hj (nodup_ix hN e1 (I.ok.inj _ _ _ e hc ▸ hi))
    · by_cases hcc : c' = c
      · subst hcc; exact ⟨_,hc'⟩
      · obtain ⟨w2,z2⟩ := I.cell y c' e
        exact ⟨w2,z2.sameBut hs hcc⟩
    · obtain ⟨e,n,ne,nf,d⟩ := I.pin p hp
      refine ⟨(hs.2 p.1 ?_).trans e,n,ne,nf,d⟩
      intro q
      rw [q,hoc] at e
      have q' : oc = p.2 := Option.some.inj e
      exact d w' (by rw [← q']; exact hocd)
theorem store_ok {M : Model} {A : Around} {E : Value → Shared → Prop} {i : Nat} {x : Str} {v : V} {u : Value} {Q : Unit → Shared → Prop} (I : Inv X pins σ H s) (hN : X.N.Nodup) (hi : X.N[i]? = some x) (hx : Loc X.env.scope x) (r : RelV v u)
    (h : ∀ s',Inv X pins (σ.set i (some v)) H s' → Q () s') (hf : X.fn x = true ∨ X.env.scope.names.lookup x = some .local := by first | exact .inl rfl | exact .inr rfl | assumption) : wpAny M A (storeName X.env x u) Q E s :=
  store_ok2 I hN hi hx r (fun s' I' _ => h s' I') hf
theorem Inv.call' {s' : Shared} {ch : List Addr} (I : Inv X pins σ H s) (ho : s'.os = s.os) (u : Un (frs X.stack) ch H H' s.heap s'.heap) (hok : HOk X.prog X.w H' s'.heap) (hg : AllBare s'.gens)
    (hch : ∀ b ∈ ch,(b ∈ X.ex ∨ X.s₀.heap.objs.size ≤ b) ∧ b ≠ X.env.locals ∧ (∀ x c,X.env.cells.lookup x = some c → c ≠ b) ∧ ∀ p ∈ X.pn ++ pins,p.1 ≠ b) : Inv X pins σ H' s' := by
  obtain ⟨h',g',d',t',o'⟩ := s'
  have e : o' = s.os := ho
  subst e
  exact I.call (g' := g') (t' := t') (d' := d') u hok hg hch
end
abbrev XK := Value → Option Addr → Hp → Prop
abbrev St := List (Option V)
abbrev VK := V → Hp → Prop
abbrev TE := St → Hp → VK → Prop
abbrev TT := St → Hp → (Bool → Hp → Prop) → Prop
abbrev TA := St → Hp → (List V → Hp → Prop) → Prop
structure Ends where
  nx : St → Hp → Prop
  rt : VK
  bk : St → Hp → Prop := fun _ _ => False
  ct : St → Hp → Prop := fun _ _ => False
abbrev TS := Ends → St → Hp → Prop
def EP (X : Cx) (pins : List (Addr × Obj)) (σ : St) (Q : VK) (u : Value) (s' : Shared) : Prop := ∃ v H',Inv X pins σ H' s' ∧ RelV v u ∧ Q v H'
def TP (X : Cx) (pins : List (Addr × Obj)) (σ : St) (Q : Bool → Hp → Prop) (b : Bool) (s' : Shared) : Prop := ∃ H',Inv X pins σ H' s' ∧ Q b H'
def AP (X : Cx) (pins : List (Addr × Obj)) (σ : St) (Q : List V → Hp → Prop) (us : List Value) (s' : Shared) : Prop := ∃ vs H',Inv X pins σ H' s' ∧ Vals vs us ∧ Q vs H'
def SP (X : Cx) (pins : List (Addr × Obj)) (D : Ends) (f : Flow) (s' : Shared) : Prop :=
  match f with
  | .next => ∃ σ' H',Inv X pins σ' H' s' ∧ D.nx σ' H'
  | .brk => ∃ σ' H',Inv X pins σ' H' s' ∧ D.bk σ' H'
  | .cont => ∃ σ' H',Inv X pins σ' H' s' ∧ D.ct σ' H'
  | .ret u => ∃ v σ' H',Inv X pins σ' H' s' ∧ RelV v u ∧ D.rt v H'
def PE (X : Cx) (e : Expr) (t : TE) : Prop :=
  ∀ (pins : List (Addr × Obj)) (s : Shared) (σ : St) (H : Hp) (Q : VK),Inv X pins σ H s → t σ H Q → wpAny (model X.prog X.w) X.A (eval e X.env) (EP X pins σ Q) X.xe s
def PT (X : Cx) (e : Expr) (t : TT) : Prop :=
  ∀ (pins : List (Addr × Obj)) (s : Shared) (σ : St) (H : Hp) (Q : Bool → Hp → Prop),Inv X pins σ H s → t σ H Q → wpAny (model X.prog X.w) X.A (isTrue e X.env (eval e X.env)) (TP X pins σ Q) X.xe s
def PW (X : Cx) (e : Expr) (t : TT) : Prop :=
  ∀ (whole : Sem Value) (pins : List (Addr × Obj)) (s : Shared) (σ : St) (H : Hp) (Q : Bool → Hp → Prop),Inv X pins σ H s → t σ H Q → wpAny (model X.prog X.w) X.A (isTrue e X.env whole) (TP X pins σ Q) X.xe s
theorem PW.pt {X : Cx} {e : Expr} {t : TT} (h : PW X e t) : PT X e t := h _
def PA (X : Cx) (es : List Expr) (t : TA) : Prop :=
  ∀ (pos : Pos) (pins : List (Addr × Obj)) (s : Shared) (σ : St) (H : Hp) (Q : List V → Hp → Prop),Inv X pins σ H s → t σ H Q → wpAny (model X.prog X.w) X.A (spliced (backTo pos (starEach es X.env))) (AP X pins σ Q) X.xe s
def PS (X : Cx) (st : Stmt) (t : TS) : Prop :=
  ∀ (pins : List (Addr × Obj)) (s : Shared) (σ : St) (H : Hp) (D : Ends),Inv X pins σ H s → t D σ H → wpAny (model X.prog X.w) X.A (exec st X.env) (SP X pins D) X.xe s
def PSs (X : Cx) (st : List Stmt) (t : TS) : Prop :=
  ∀ (pins : List (Addr × Obj)) (s : Shared) (σ : St) (H : Hp) (D : Ends),Inv X pins σ H s → t D σ H → wpAny (model X.prog X.w) X.A (execs st X.env) (SP X pins D) X.xe s
theorem thn {α : Type} {t : Sem α} {Q Q' : α → Shared → Prop} {M : Model} {A : Around} {E : Value → Shared → Prop} {s : Shared} (h : wpAny M A t Q E s) (hQ : ∀ a s,Q a s → Q' a s) : wpAny M A t Q' E s := wpAny_mono h hQ fun _ _ x => x
end L2
namespace L2
open PySem PySem.Spec PyProof.Rows
section
variable {X : Cx}
theorem bin {a b : Expr} {ta tb : TE} (ha : PE X a ta) (hb : PE X b tb) {pins : List (Addr × Obj)} {s : Shared} {σ : St} {H : Hp} {R : V → V → Hp → Prop} (I : Inv X pins σ H s) (h : ta σ H fun x H1 => tb σ H1 fun y H2 => R x y H2)
    {α : Type} {Q : α → Shared → Prop} {f : Value → Value → Sem α}
    (hf : ∀ v u s2 x y H2,Inv X pins σ H2 s2 → RelV x v → RelV y u → R x y H2 → wpAny (model X.prog X.w) X.A (f v u) Q X.xe s2) :
    wpAny (model X.prog X.w) X.A (eval a X.env) (fun v s₁ => wpAny (model X.prog X.w) X.A (eval b X.env) (fun u s₂ => wpAny (model X.prog X.w) X.A (f v u) Q X.xe s₂) X.xe s₁) X.xe s := by
  refine thn (ha pins s σ H _ I h) fun v s1 ⟨x,H1,I1,r1,q1⟩ => ?_
  refine thn (hb pins s1 σ H1 _ I1 q1) fun u s2 ⟨y,H2,I2,r2,q2⟩ => ?_
  exact hf v u s2 x y H2 I2 r1 r2 q2
def tVar (i : Nat) : TE := fun σ H Q => ∃ v,σ[i]? = some (some v) ∧ Q v H
def tC (v : V) : TE := fun _ H Q => Q v H
theorem pe_var {i : Nat} {x : Str} {pos : Pos} (hN : X.N[i]? = some x) (hv : Vis X.env.scope x) (hd : (x == ("__debug__" : Str)) = false := by decide) (hcd : (x == ("__classdict__" : Str)) = false := by decide) : PE X (.Name x pos) (tVar i) := by
  intro pins s σ H Q I h
  obtain ⟨v,e,h⟩ := h
  obtain ⟨m,hn,hl⟩ := I.loc
  obtain ⟨u,r,l⟩ := hl i x v hN e hv
  have fin : EP X pins σ Q u s := ⟨v,H,I,r,h⟩
  rcases l with ⟨hk,hm⟩ | ⟨hk,c,hc,hcell⟩
  · exact wpAny_Name (wpAny_loadName_local I.ok.kind hk hn hm fin) hd
  · rcases hk with hk | hk
    · exact wpAny_Name (wpAny_loadName_cell I.ok.kind hk hc hcell fin) hd
    · exact wpAny_Name (wpAny_loadName_free I.ok.kind hk hc hcell fin hcd) hd
theorem pe_int {i j pos} : PE X (.Constant (.int i) j pos) (tC (.int i)) := fun _ _ _ H _ I h => wpAny_Constant_int ⟨.int i,H,I.tok _,⟨_,rfl⟩,h⟩
theorem pe_bl {b j pos} : PE X (.Constant (.bool b) j pos) (tC (.bl b)) := fun _ _ _ H _ I h => Constant_bool ⟨.bl b,H,I,rfl,h⟩
theorem pe_non {j pos} : PE X (.Constant .none j pos) (tC .non) := fun _ _ _ H _ I h => Constant_none ⟨.non,H,I,rfl,h⟩
theorem pe_str {x j pos} : PE X (.Constant (.str x) j pos) (tC (.str x)) := fun _ _ _ H _ I h => Calls.Constant_str ⟨.str x,H,I.tok _,⟨_,rfl⟩,h⟩
def Gl (X : Cx) (x : Str) : Prop := X.env.kindOf x = some .globalImplicit
theorem ld_glob {E : Value → Shared → Prop} {pins : List (Addr × Obj)} {s : Shared} {σ : St} {H : Hp} {x : Str} {u : Value} {pos : Pos} {Q : Value → Shared → Prop} (I : Inv X pins σ H s) (hg : Gl X x) (hm : X.mg x = some u) (h : Q u s)
    (hd : (x == ("__debug__" : Str)) = false := by decide) : wpAny (model X.prog X.w) X.A (eval (.Name x pos) X.env) Q E s :=
  Calls.Name_function_global I.ok.kind hg (Calls.loadGlobal_global (by rw [I.ok.glob]; exact I.mod.glob.keeps I.bk) hm h) hd
theorem ld_blt {E : Value → Shared → Prop} {pins : List (Addr × Obj)} {s : Shared} {σ : St} {H : Hp} {x : Str} {u : Value} {pos : Pos} {Q : Value → Shared → Prop} (I : Inv X pins σ H s) (hg : Gl X x) (hm : X.mg x = none) (hv : bootBuiltins x = some u) (h : Q u s)
    (hn : x ≠ "__name__" := by decide) (hd : (x == ("__debug__" : Str)) = false := by decide) : wpAny (model X.prog X.w) X.A (eval (.Name x pos) X.env) Q E s := by
  obtain ⟨mb,h1,h2⟩ := I.mod.blt
  exact Calls.Name_function_global I.ok.kind hg (Calls.loadGlobal_builtin (by rw [I.ok.glob]; exact I.mod.glob.keeps I.bk) hm (by rw [I.ok.blt]; exact h1.keeps I.bk) ((h2 x hn).trans hv) h) hd
theorem pe_glob {x : Str} {v : V} {u : Value} {pos : Pos} (hg : Gl X x) (hm : X.mg x = some u) (r : RelV v u) (hd : (x == ("__debug__" : Str)) = false := by decide) : PE X (.Name x pos) (tC v) :=
  fun _ _ _ H _ I h => ld_glob I hg hm ⟨v,H,I,r,h⟩ hd
theorem pe_bltn {x : Str} {v : V} {u : Value} {pos : Pos} (hg : Gl X x) (hm : X.mg x = none) (hv : bootBuiltins x = some u) (r : RelV v u) (hn : x ≠ "__name__" := by decide) (hd : (x == ("__debug__" : Str)) = false := by decide) : PE X (.Name x pos) (tC v) :=
  fun _ _ _ H _ I h => ld_blt I hg hm hv ⟨v,H,I,r,h⟩ hn hd
variable {a b : Expr} {ta tb : TE} {pos : Pos}
def PC (X : Cx) (op : CmpOp) (a b : Expr) (t : TE) : Prop :=
  ∀ (pins : List (Addr × Obj)) (s : Shared) (σ : St) (H : Hp) (Q : VK),Inv X pins σ H s → t σ H Q →
    wpAny (model X.prog X.w) X.A (eval a X.env) (fun v s₁ => wpAny (model X.prog X.w) X.A (eval b X.env) (fun u s₂ => wpAny (model X.prog X.w) X.A (compareOp op v u) (EP X pins σ Q) X.xe s₂) X.xe s₁) X.xe s
def tB (t : TE) : TT := fun σ H Q => t σ H fun x H1 => ∃ c,x = .bl c ∧ Q c H1
theorem pt_cmp {op : CmpOp} {t : TE} (h : PC X op a b t) (h1 : behindInMarks op b = false := by first | exact nobehind _ (by decide) (by decide) | rfl) : PT X (.Compare a [op] [b] pos) (tB t) := by
  intro pins s σ H Q I hw
  refine wpAny_isTrue_Compare1 (thn (h pins s σ H _ I hw) fun v s1 h1 => thn h1 fun u s2 h2 => thn h2 fun c s3 ⟨x,H1,I1,r1,q1⟩ => ?_) h1
  obtain ⟨d,rfl,q⟩ := q1
  cases r1
  exact wpAny_truthy_bool ⟨H1,I1,q⟩
theorem pt_val {e : Expr} {t : TE} (h : PE X e t) (he : ∀ whole,isTrue e X.env whole = (do let v ← whole; standAt e.pos; holding [v] (truthy v)) := by intro _; rfl) : PT X e (tB t) := by
  intro pins s σ H Q I hw
  refine isTrue_plain (thn (h pins s σ H _ I hw) fun v s1 ⟨x,H1,I1,r1,q1⟩ => ?_) (he _)
  obtain ⟨d,rfl,q⟩ := q1
  cases r1
  exact wpAny_truthy_bool ⟨H1,I1,q⟩
variable {tA tB' : TT} {rest : List Expr}
def tAnd (t u : TT) : TT := fun σ H Q => t σ H fun c H1 => if c = true then u σ H1 Q else Q false H1
def tOr (t u : TT) : TT := fun σ H Q => t σ H fun c H1 => if c = true then Q true H1 else u σ H1 Q
def tNot (t : TT) : TT := fun σ H Q => t σ H fun c H1 => Q (!c) H1
theorem pw_and1 (ha : PT X a tA) : PW X (.BoolOp .And [a] pos) tA := by
  intro wh pins s σ H Q I h
  refine isTrue_and (thn (ha pins s σ H Q I h) fun c s1 e => ?_)
  cases c with
  | true => exact isTrue_and_nil e
  | false => exact e
theorem pw_or1 (ha : PT X a tA) : PW X (.BoolOp .Or [a] pos) tA := by
  intro wh pins s σ H Q I h
  refine isTrue_or (thn (ha pins s σ H Q I h) fun c s1 e => ?_)
  cases c with
  | false => exact isTrue_or_nil e
  | true => exact e
theorem pw_and (ha : PT X a tA) (hb : PW X (.BoolOp .And (b :: rest) pos) tB') : PW X (.BoolOp .And (a :: b :: rest) pos) (tAnd tA tB') := by
  intro wh pins s σ H Q I h
  refine isTrue_and (thn (ha pins s σ H _ I h) fun c s1 ⟨H1,I1,q1⟩ => ?_)
  cases c with
  | true => exact hb wh pins s1 σ H1 Q I1 q1
  | false => exact ⟨H1,I1,q1⟩
theorem pw_or (ha : PT X a tA) (hb : PW X (.BoolOp .Or (b :: rest) pos) tB') : PW X (.BoolOp .Or (a :: b :: rest) pos) (tOr tA tB') := by
  intro wh pins s σ H Q I h
  refine isTrue_or (thn (ha pins s σ H _ I h) fun c s1 ⟨H1,I1,q1⟩ => ?_)
  cases c with
  | true => exact ⟨H1,I1,q1⟩
  | false => exact hb wh pins s1 σ H1 Q I1 q1
theorem pt_not (ha : PT X a tA) : PT X (.UnaryOp .Not a pos) (tNot tA) := by
  intro pins s σ H Q I h
  exact isTrue_not (ha pins s σ H (fun c H1 => Q (!c) H1) I h)
def tAndV (ta tb : TE) : TE := fun σ H Q => ta σ H fun x H1 => ∃ c,x = .bl c ∧ if c = true then tb σ H1 Q else Q (.bl false) H1
def tOrV (ta tb : TE) : TE := fun σ H Q => ta σ H fun x H1 => ∃ c,x = .bl c ∧ if c = true then Q (.bl true) H1 else tb σ H1 Q
def tNotV (ta : TE) : TE := fun σ H Q => ta σ H fun x H1 => ∃ c,x = .bl c ∧ Q (.bl (!c)) H1
theorem pe_one {op} {t : TE} (h : PE X a t) : PE X (.BoolOp op [a] pos) t := fun pins s σ H Q I hw => BoolOp_one (h pins s σ H Q I hw)
theorem pe_and (ha : PE X a ta) (hb : PE X (.BoolOp .And (b :: rest) pos) tb) : PE X (.BoolOp .And (a :: b :: rest) pos) (tAndV ta tb) := by
  intro pins s σ H Q I h
  refine BoolOp_and (thn (ha pins s σ H _ I h) fun v s1 ⟨x,H1,I1,r1,q1⟩ => ?_)
  obtain ⟨c,rfl,q1⟩ := q1
  cases r1
  refine wpAny_truthy_bool ?_
  cases c with
  | true => exact hb pins s1 σ H1 Q I1 q1
  | false => exact ⟨.bl false,H1,I1,rfl,q1⟩
theorem pe_or (ha : PE X a ta) (hb : PE X (.BoolOp .Or (b :: rest) pos) tb) : PE X (.BoolOp .Or (a :: b :: rest) pos) (tOrV ta tb) := by
  intro pins s σ H Q I h
  refine BoolOp_or (thn (ha pins s σ H _ I h) fun v s1 ⟨x,H1,I1,r1,q1⟩ => ?_)
  obtain ⟨c,rfl,q1⟩ := q1
  cases r1
  refine wpAny_truthy_bool ?_
  cases c with
  | false => exact hb pins s1 σ H1 Q I1 q1
  | true => exact ⟨.bl true,H1,I1,rfl,q1⟩
theorem pe_not (ha : PE X a ta) : PE X (.UnaryOp .Not a pos) (tNotV ta) := by
  intro pins s σ H Q I h
  refine UnaryOp_ (thn (ha pins s σ H _ I h) fun v s1 ⟨x,H1,I1,r1,q1⟩ => ?_)
  obtain ⟨c,rfl,q1⟩ := q1
  cases r1
  exact not_of (wpAny_truthy_bool ⟨.bl (!c),H1,I1,rfl,q1⟩)
end
end L2
namespace L2
open PySem PySem.Spec PyProof.Rows
def SqL (K : PySem.W.Frag) (H : Hp) (a : Addr) (xs : List V) : Prop :=
  Rd H a (.lst xs) ∨
    ∃ (o : Obj) (its : Array Value) (n : Nat),K.lookup a = some o ∧ o.cls = .type "list" ∧ o.dict = none ∧ o.data = .seq its n ∧ its.size ≤ sizeLine ∧ Vals xs its.toList
def SqT (K : PySem.W.Frag) (H : Hp) (a : Addr) (xs : List V) : Prop :=
  Rd H a (.tup xs) ∨
    ∃ (o : Obj) (its : Array Value) (n : Nat),K.lookup a = some o ∧ o.cls = .type "tuple" ∧ o.data = .seq its n ∧ its.size ≤ sizeLine ∧ Vals xs its.toList
def absV : Value → Option V
  | .none => some .non
  | .bool b => some (.bl b)
  | .int i _ => some (.int i)
  | .str x _ => some (.str x)
  | .bytes b _ => some (.byt b)
  | .float b _ => some (.flt b)
  | .ref a => some (.ref a)
  | .type n => some (.ty n)
  | _ => none
theorem RelV.abs {x : V} {u : Value} (r : RelV x u) : absV u = some x := by
  cases x with
  | non => cases r; rfl
  | bl _ => cases r; rfl
  | int _ => obtain ⟨t,rfl⟩ := r; rfl
  | str _ => obtain ⟨t,rfl⟩ := r; rfl
  | byt _ => obtain ⟨t,rfl⟩ := r; rfl
  | flt _ => obtain ⟨t,rfl⟩ := r; rfl
  | ref _ => cases r; rfl
  | ty _ => cases r; rfl
theorem RelV.inj {x y : V} {u : Value} (r : RelV x u) (q : RelV y u) : x = y := Option.some.inj (r.abs.symm.trans q.abs)
theorem Vals.inj : ∀ {xs ys : List V} {us : List Value},Vals xs us → Vals ys us → xs = ys
  | _,_,_,.nil,.nil => rfl
  | _,_,_,.cons r t,.cons r' t' => by rw [r.inj r',Vals.inj t t']
section
variable {X : Cx} {pins : List (Addr × Obj)} {σ : St} {H : Hp} {s : Shared} {a : Addr} {xs ys : List V}
theorem SqL.of {K : PySem.W.Frag} (h : H a = some (.lst xs)) : SqL K H a xs := .inl (.inl h)
theorem SqT.of {K : PySem.W.Frag} (h : H a = some (.tup xs)) : SqT K H a xs := .inl (.inl h)
theorem Inv.list (I : Inv X pins σ H s) (h : SqL X.K H a xs) : ∃ its : List Value,Vals xs its ∧ PlainL s.heap a its.toArray ∧ xs.length ≤ sizeLine := by
  rcases h with h | ⟨o,its,n,hk,hc,hd,hs,hz,r⟩
  · obtain ⟨z,its,n,r,e⟩ := h.ok I.hok
    exact ⟨its,r,⟨_,n,e,rfl,rfl,rfl⟩,z⟩
  · refine ⟨its.toList,r,⟨o,n,I.kIn a o hk,hc,hd,by simpa using hs⟩,?_⟩
    have e := r.length
    simp only [Array.length_toList] at e
    omega
theorem Inv.tuple (I : Inv X pins σ H s) (h : SqT X.K H a xs) : ∃ its : List Value,Vals xs its ∧ IsTup s.heap a its.toArray ∧ xs.length ≤ sizeLine := by
  rcases h with h | ⟨o,its,n,hk,hc,hs,hz,r⟩
  · obtain ⟨z,its,r,p⟩ := h.ok I.hok
    exact ⟨its,r,p,z⟩
  · refine ⟨its.toList,r,⟨o,I.kIn a o hk,hc,n,by simpa using hs⟩,?_⟩
    have e := r.length
    simp only [Array.length_toList] at e
    omega
theorem Inv.list_inj (I : Inv X pins σ H s) (h : SqL X.K H a xs) (h' : SqL X.K H a ys) : xs = ys := by
  obtain ⟨its,r,⟨o,n,e,_,_,d⟩,_⟩ := I.list h
  obtain ⟨its',r',⟨o',n',e',_,_,d'⟩,_⟩ := I.list h'
  rw [e] at e'; cases e'
  rw [d] at d'
  injection d' with d1 _
  have : its = its' := by simpa using congrArg Array.toList d1
  subst this
  exact r.inj r'
theorem Inv.tuple_inj (I : Inv X pins σ H s) (h : SqT X.K H a xs) (h' : SqT X.K H a ys) : xs = ys := by
  obtain ⟨its,r,⟨o,e,_,n,d⟩,_⟩ := I.tuple h
  obtain ⟨its',r',⟨o',e',_,n',d'⟩,_⟩ := I.tuple h'
  rw [e] at e'; cases e'
  rw [d] at d'
  injection d' with d1 _
  have : its = its' := by simpa using congrArg Array.toList d1
  subst this
  exact r.inj r'
end
abbrev Cx.wish (X : Cx) (E : Value → Shared → Prop) : Cx := { X with xe := E }
abbrev Cx.nox (X : Cx) : Cx := X.wish fun _ _ => False
theorem Cx.Ok.wish {X : Cx} (ok : X.Ok) (E : Value → Shared → Prop) : (X.wish E).Ok :=
  ⟨ok.mod,ok.kind,ok.glob,ok.blt,ok.above,ok.inj,ok.has,ok.cab,ok.hd,ok.frames,ok.stk,ok.exf,ok.bs,ok.bsz,ok.noex,ok.exfs,ok.funs,ok.frf⟩
theorem Cx.Ok.unwish {X : Cx} {E : Value → Shared → Prop} (ok : (X.wish E).Ok) : X.Ok :=
  ⟨ok.mod,ok.kind,ok.glob,ok.blt,ok.above,ok.inj,ok.has,ok.cab,ok.hd,ok.frames,ok.stk,ok.exf,ok.bs,ok.bsz,ok.noex,ok.exfs,ok.funs,ok.frf⟩
section
variable {X : Cx} {pins : List (Addr × Obj)} {σ : St} {H : Hp} {s : Shared} {E : Value → Shared → Prop}
theorem Inv.wish (I : Inv X pins σ H s) (E : Value → Shared → Prop) : Inv (X.wish E) pins σ H s := ⟨I.ok.wish E,I.os,I.bare,I.base,I.loc,I.cell,I.free,I.freeC,I.pin,I.hok,I.len⟩
theorem Inv.unwish (I : Inv (X.wish E) pins σ H s) : Inv X pins σ H s := ⟨I.ok.unwish,I.os,I.bare,I.base,I.loc,I.cell,I.free,I.freeC,I.pin,I.hok,I.len⟩
theorem SP.unwish {D : Ends} {f : Flow} {s' : Shared} (h : SP (X.wish E) pins D f s') : SP X pins D f s' := by
  cases f with
  | next => obtain ⟨σ',H',I,q⟩ := h; exact ⟨σ',H',I.unwish,q⟩
  | brk => obtain ⟨σ',H',I,q⟩ := h; exact ⟨σ',H',I.unwish,q⟩
  | cont => obtain ⟨σ',H',I,q⟩ := h; exact ⟨σ',H',I.unwish,q⟩
  | ret u => obtain ⟨v,σ',H',I,r,q⟩ := h; exact ⟨v,σ',H',I.unwish,r,q⟩
theorem PSs.nox {st : List Stmt} {t : TS} (h : PSs X.nox st t) : PSs X st t := fun pins s σ H D I hw =>
  wpAny_mono (h pins s σ H D (I.wish _) hw) (fun _ _ q => q.unwish) fun _ _ z => False.elim z
end
section
variable {X : Cx} {st : Stmt} {rest : List Stmt} {t u : TS} {e : Expr} {te : TE} {pos : Pos}
def tNext : TS := fun D σ H => D.nx σ H
def tSeq (t u : TS) : TS := fun D σ H => t { D with nx := u D } σ H
theorem pss_nil : PSs X [] tNext := fun _ _ σ H _ I h => wpAny_execs_nil ⟨σ,H,I,h⟩
theorem pss_cons (h1 : PS X st t) (h2 : PSs X rest u) : PSs X (st :: rest) (tSeq t u) := by
  intro pins s σ H D I h
  refine wpAny_execs_cons (thn (h1 pins s σ H { D with nx := u D } I h) fun f s1 q => ?_)
  cases f with
  | next =>
    obtain ⟨σ',H',I',q⟩ := q
    exact h2 pins s1 σ' H' D I' q
  | ret v => exact q
  | brk => exact q
  | cont => exact q
theorem pss_one (h1 : PS X st t) : PSs X [st] t := by
  intro pins s σ H D I h
  refine wpAny_execs_cons (thn (h1 pins s σ H D I h) fun f s1 q => ?_)
  cases f with
  | next => exact wpAny_execs_nil q
  | ret v => exact q
  | brk => exact q
  | cont => exact q
theorem Inv.quiet {pins : List (Addr × Obj)} {σ : St} {H : Hp} {s : Shared} (I : Inv X pins σ H s) : interactive X.env = false := by simp [interactive,I.ok.kind]
def tDrop (te : TE) : TS := fun D σ H => te σ H fun _ H1 => D.nx σ H1
theorem ps_expr (he : PE X e te) (hs : swapsWith e none pos.line X.env = pure false := by rfl) : PS X (.Expr e pos) (tDrop te) := by
  intro pins s σ H D I h
  exact wpAny_Expr_any (thn (he pins s σ H _ I h) fun v s1 ⟨x,H1,I1,r1,q1⟩ => ⟨σ,H1,I1,q1⟩) I.quiet hs
def tRet (te : TE) : TS := fun D σ H => te σ H D.rt
theorem ps_ret (he : PE X e te) : PS X (.Return (some e) pos) (tRet te) := by
  intro pins s σ H D I h
  exact wpAny_Return_some (thn (he pins s σ H _ I h) fun v s1 ⟨x,H1,I1,r1,q1⟩ => ⟨x,σ,H1,I1,r1,q1⟩)
def tIfS (c : TT) (t u : TS) : TS := fun D σ H => c σ H fun b H1 => if b = true then t D σ H1 else u D σ H1
theorem ps_if {c : Expr} {a b : List Stmt} {tc : TT} (hc : PT X c tc) (ha : PSs X a t) (hb : PSs X b u) : PS X (.If c a b pos) (tIfS tc t u) := by
  intro pins s σ H D I h
  refine wpAny_If (thn (hc pins s σ H _ I h) fun d s1 ⟨H1,I1,q1⟩ => ?_)
  cases d with
  | true => exact ha pins s1 σ H1 D I1 q1
  | false => exact hb pins s1 σ H1 D I1 q1
def tNever : TS := fun _ _ _ => False
theorem ps_never : PS X st tNever := fun _ _ _ _ _ _ h => h.elim
theorem pss_never {sts : List Stmt} : PSs X sts tNever := fun _ _ _ _ _ _ h => h.elim
end
abbrev TG := V → St → Hp → (St → Hp → Prop) → Prop
abbrev TGs := List V → St → Hp → (St → Hp → Prop) → Prop
def PG (X : Cx) (target : Expr) (t : TG) : Prop :=
  ∀ (pins : List (Addr × Obj)) (s : Shared) (σ : St) (H : Hp) (v : V) (u : Value) (Q : St → Hp → Prop),Inv X pins σ H s → RelV v u → t v σ H Q →
    wpAny (model X.prog X.w) X.A (assign target X.env u) (fun _ s' => ∃ σ' H',Inv X pins σ' H' s' ∧ Q σ' H') X.xe s
def PGs (X : Cx) (ts : List Expr) (t : TGs) : Prop :=
  ∀ (pins : List (Addr × Obj)) (s : Shared) (σ : St) (H : Hp) (vs : List V) (us : List Value) (Q : St → Hp → Prop),Inv X pins σ H s → Vals vs us → t vs σ H Q →
    wpAny (model X.prog X.w) X.A (assignInOrder ((assignEach ts X.env).map (·.2)) us) (fun _ s' => ∃ σ' H',Inv X pins σ' H' s' ∧ Q σ' H') X.xe s
abbrev TSet := V → V → V → Hp → (Hp → Prop) → Prop
def PSet (X : Cx) (t : TSet) : Prop :=
  ∀ (pins : List (Addr × Obj)) (s : Shared) (σ : St) (H : Hp) (o i v : V) (ov iv u : Value) (Q : Hp → Prop),Inv X pins σ H s → RelV o ov → RelV i iv → RelV v u → t o i v H Q →
    wpAny (model X.prog X.w) X.A (setItem ov iv u) (fun _ s' => ∃ H',Inv X pins σ H' s' ∧ Q H') X.xe s
abbrev TIp := V → V → Hp → VK → Prop
def PIp (X : Cx) (op : Operator) (t : TIp) : Prop :=
  ∀ (pins : List (Addr × Obj)) (s : Shared) (σ : St) (H : Hp) (x y : V) (v u : Value) (Q : VK),Inv X pins σ H s → RelV x v → RelV y u → t x y H Q →
    wpAny (model X.prog X.w) X.A (inplaceOp op v u) (EP X pins σ Q) X.xe s
section
variable {X : Cx} {pos : Pos}
def gName (i : Nat) : TG := fun v σ H Q => Q (σ.set i (some v)) H
theorem pg_name {i : Nat} {x : Str} (hN : X.N.Nodup) (hi : X.N[i]? = some x) (hx : Loc X.env.scope x) (hf : X.fn x = true ∨ X.env.scope.names.lookup x = some .local := by first | exact .inl rfl | exact .inr rfl | assumption) : PG X (.Name x pos) (gName i) := by
  intro pins s σ H v u Q I r h
  exact wpAny_assign_Name (store_ok I hN hi hx r (fun s' I' => ⟨_,H,I',h⟩) hf)
def gNil : TGs := fun vs σ H Q => vs = [] ∧ Q σ H
def gCons (t : TG) (u : TGs) : TGs := fun vs σ H Q => ∃ v r,vs = v :: r ∧ t v σ H fun σ' H' => u r σ' H' Q
theorem pgs_nil : PGs X [] gNil := by
  intro pins s σ H vs us Q I r h
  obtain ⟨e,h⟩ := h
  subst e
  cases r
  exact assignInOrder_nil ⟨σ,H,I,h⟩
theorem pgs_cons {e : Expr} {es : List Expr} {t : TG} {u : TGs} (h1 : PG X e t) (h2 : PGs X es u)
    (hs : (assignEach (e :: es) X.env).map (·.2) = assign e X.env :: (assignEach es X.env).map (·.2) := by rfl) : PGs X (e :: es) (gCons t u) := by
  intro pins s σ H vs us Q I r h
  obtain ⟨v,vr,e1,h⟩ := h
  subst e1
  cases r with
  | cons r rr =>
    rw [hs]
    refine assignInOrder_cons (thn (h1 pins s σ H _ _ _ I r h) fun _ s1 ⟨σ1,H1,I1,q1⟩ => ?_)
    exact h2 pins s1 σ1 H1 _ _ Q I1 rr q1
def gTup (K : PySem.W.Frag) (n : Nat) (t : TGs) : TG := fun v σ H Q => ∃ a xs,v = .ref a ∧ SqT K H a xs ∧ xs.length = n ∧ t xs σ H Q
theorem pg_tup {es : List Expr} {k : Nat} {t : TGs} {n : Nat} (hc : X.calm = true) (h : PGs X es t)
    (hn : (assignEach es X.env).length = n := by rfl) (hst : (assignEach es X.env).findIdx? (·.1) = none := by rfl) : PG X (.Tuple es k pos) (gTup X.K n t) := by
  intro pins s σ H v u Q I r hw
  obtain ⟨a,xs,e1,hq,hl,hw⟩ := hw
  subst e1
  cases r
  obtain ⟨its,rv,ht,hz⟩ := I.tuple hq
  refine assign_Tuple_tuple (I.ok.hd hc) ht (by simp [hn,← hl,rv.length]) hst fun h' hx => ?_
  have I1 : Inv X pins σ H { s with heap := h' } := I.kept (t' := s.toks) fun b o e => hx b o (Nat.ne_of_lt (Heap.lt_size e)) e
  exact h pins _ σ H xs _ Q I1 (by simpa using rv) hw
def gSub (to ti : TE) (t : TSet) : TG := fun v σ H Q => to σ H fun o H1 => ti σ H1 fun i H2 => t o i v H2 fun H3 => Q σ H3
theorem pg_sub {o i : Expr} {to ti : TE} {t : TSet} (ho : PE X o to) (hi : PE X i ti) (hs : PSet X t)
    (ha : ∀ v,assign (.Subscript o i pos) X.env v = (do
      let ov ← holding [v] (eval o X.env)
      let iv ← holding [v,ov] (eval i X.env)
      standAt pos
      holding [v,ov,iv] (setItem ov iv v)
      release [v,ov,iv] []) := by intro _; rfl) : PG X (.Subscript o i pos) (gSub to ti t) := by
  intro pins s σ H v u Q I r h
  rw [ha]
  refine wpAny_bind (wpAny_holding (thn (ho pins s σ H _ I h) fun ov s1 ⟨x,H1,I1,r1,q1⟩ => ?_))
  refine wpAny_bind (wpAny_holding (thn (hi pins s1 σ H1 _ I1 q1) fun iv s2 ⟨y,H2,I2,r2,q2⟩ => ?_))
  refine wpAny_bind (wpAny_standAt (wpAny_bind (wpAny_holding (thn (hs pins s2 σ H2 x y v ov iv u _ I2 r1 r2 r q2) fun _ s3 ⟨H3,I3,q3⟩ => ?_))))
  exact wpAny_release ⟨σ,H3,I3,q3⟩
def tAsg (te : TE) (g : TG) : TS := fun D σ H => te σ H fun x H1 => g x σ H1 D.nx
theorem ps_asg {tg e : Expr} {te : TE} {g : TG} (he : PE X e te) (hg : PG X tg g) (hs : swapsWithSole [tg] e pos.line X.env = pure false := by rfl) (hw : swappedStores [tg] e X.env = pure none := by rfl)
    (h1 : (assignEach [tg] X.env).map (·.2) = [assign tg X.env] := by rfl) : PS X (.Assign [tg] e pos) (tAsg te g) := by
  intro pins s σ H D I h
  refine wpAny_Assign_stores (thn (he pins s σ H _ I h) fun v s1 ⟨x,H1,I1,r1,q1⟩ => ?_) hs hw
  rw [h1]
  exact thn (hg pins s1 σ H1 x v _ I1 r1 q1) fun _ s2 q => q
theorem ps_set {i : Nat} {x : Str} {e : Expr} {te : TE} {pos' : Pos} (hN : X.N.Nodup) (hi : X.N[i]? = some x) (hx : Loc X.env.scope x) (he : PE X e te) (hs : swapsWith e (some (.Name x pos')) pos.line X.env = pure false := by rfl) (hf : X.fn x = true ∨ X.env.scope.names.lookup x = some .local := by first | exact .inl rfl | exact .inr rfl | assumption) :
    PS X (.Assign [.Name x pos'] e pos) (tAsg te (gName i)) := by
  intro pins s σ H D I h
  refine wpAny_Assign_Name (thn (he pins s σ H _ I h) fun v s1 ⟨y,H1,I1,r1,q1⟩ => ?_) hs
  exact store_ok I1 hN hi hx r1 (fun s2 I2 => ⟨_,H1,I2,q1⟩) hf
def tPar (i j : Nat) (ta : TA) : TS := fun D σ H => ta σ H fun vs H1 => ∃ v w,vs = [v,w] ∧ D.nx ((σ.set i (some v)).set j (some w)) H1
theorem ps_par {i j : Nat} {x y : Str} {a b : Expr} {ta : TA} {px py pt : Pos} {kt k2 pt2} (hc : X.calm = true) (hN : X.N.Nodup) (hi : X.N[i]? = some x) (hj : X.N[j]? = some y) (hij : i ≠ j)
    (hx : X.env.scope.names.lookup x = some .local) (hy : X.env.scope.names.lookup y = some .local) (ha : PA X [a,b] ta)
    (hw : swappedStores [.Tuple [.Name x px,.Name y py] kt pt] (.Tuple [a,b] k2 pt2) X.env = pure (some [x,y]))
    (hs : swapsWithSole [.Tuple [.Name x px,.Name y py] kt pt] (.Tuple [a,b] k2 pt2) pos.line X.env = pure false := by rfl) :
    PS X (.Assign [.Tuple [.Name x px,.Name y py] kt pt] (.Tuple [a,b] k2 pt2) pos) (tPar i j ta) := by
  intro pins s σ H D I h
  rw [exec_Assign_arm]
  refine wpAny_bind (wpAny_standAt ?_)
  rw [hs]
  refine wpAny_bind (wpAny_pure ?_)
  rw [if_neg (by decide)]
  refine wpAny_bind (Tuple_ (thn (ha _ pins s σ H _ I h) fun us s1 ⟨vs,H1,I1,r1,q1⟩ => ?_))
  obtain ⟨v,w,e1,q1⟩ := q1
  subst e1
  obtain ⟨u1,u2,rfl,rv,rw'⟩ : ∃ u1 u2,us = [u1,u2] ∧ RelV v u1 ∧ RelV w u2 := by
    cases r1 with
    | cons p q =>
      cases q with
      | cons p' q' =>
        cases q'
        exact ⟨_,_,rfl,p,p'⟩
  refine wpAny_newObj_type ?_ (by show 2 ≤ sizeLine; decide)
  have I2 : Inv X pins σ H1 { s1 with heap := s1.heap.push { cls := .type "tuple", data := .seq [u1, u2].toArray } } := I1.kept (t' := s1.toks) fun b o e => Heap.get?_push_of_some _ e
  rw [hw]
  refine wpAny_bind (wpAny_pure ?_)
  show wpAny (model X.prog X.w) X.A (do rule "assign.swapped-stores"; let items ← unpackItems (.ref s1.heap.objs.size) 2 none; assignInOrder [fun v => bindName X.env y v,fun v => bindName X.env x v] items.reverse; pure Flow.next) _ _ _
  refine wpAny_bind (wpAny_rule (wpAny_bind (unpackItems_tuple (items := #[u1,u2]) (I.ok.hd hc) (IsTup.new s1.heap _) fun h' hx' => ?_)))
  have I3 := I2.kept (h' := h') (t' := s1.toks) fun b o e => hx' b o (Nat.ne_of_lt (Heap.lt_size e)) e
  show wpAny _ _ (assignInOrder [fun v => bindName X.env y v,fun v => bindName X.env x v] [u2,u1] >>= fun _ => pure Flow.next) _ _ _
  refine wpAny_bind (assignInOrder_cons (wpAny_bindName (store_ok I3 hN hj (.inl hy) rw' (fun s2 I4 => ?_) (.inr hy))))
  refine assignInOrder_cons (wpAny_bindName (store_ok I4 hN hi (.inl hx) rv (fun s3 I5 => assignInOrder_nil (wpAny_pure ?_)) (.inr hx)))
  rw [List.set_comm _ _ (Ne.symm hij)] at I5
  exact ⟨_,H1,I5,q1⟩
def tAug (i : Nat) (te : TE) (ti : TIp) : TS := fun D σ H => ∃ x,σ[i]? = some (some x) ∧ te σ H fun y H1 => ti x y H1 fun z H2 => D.nx (σ.set i (some z)) H2
theorem ps_aug {i : Nat} {x : Str} {e : Expr} {te : TE} {op : Operator} {ti : TIp} {pos' : Pos} (hN : X.N.Nodup) (hi : X.N[i]? = some x) (hx : Loc X.env.scope x) (he : PE X e te) (ho : PIp X op ti) (hf : X.fn x = true ∨ X.env.scope.names.lookup x = some .local := by first | exact .inl rfl | exact .inr rfl | assumption) :
    PS X (.AugAssign (.Name x pos') op e pos) (tAug i te ti) := by
  intro pins s σ H D I h
  obtain ⟨v,e1,h⟩ := h
  obtain ⟨m,hn,hl⟩ := I.loc
  have vis : Vis X.env.scope x := by rcases hx with k | k; exact .inl k; exact .inr (.inl k)
  obtain ⟨u,r,l⟩ := hl i x v hi e1 vis
  refine wpAny_AugAssign_Name ?_
  have go : wpAny (model X.prog X.w) X.A (eval e X.env) (fun w s₂ => wpAny (model X.prog X.w) X.A (inplaceOp op u w) (fun r s₃ => wpAny (model X.prog X.w) X.A (storeName X.env x r) (fun _ => SP X pins D .next) X.xe s₃) X.xe s₂) X.xe s := by
    refine thn (he pins s σ H _ I h) fun w s1 ⟨y,H1,I1,r1,q1⟩ => ?_
    refine thn (ho pins s1 σ H1 v y u w _ I1 r r1 q1) fun z s2 ⟨zv,H2,I2,r2,q2⟩ => ?_
    exact store_ok I2 hN hi hx r2 (fun s3 I3 => ⟨_,H2,I3,q2⟩) hf
  rcases l with ⟨hk,hm⟩ | ⟨hk,c,hc,hcell⟩
  · exact wpAny_loadName_local I.ok.kind hk hn hm go
  · rcases hk with hk | hk
    · exact wpAny_loadName_cell I.ok.kind hk hc hcell go
    · rcases hx with k | k
      · have : X.env.scope.names.lookup x = some .free := hk
        rw [k] at this; cases this
      · have : X.env.scope.names.lookup x = some .free := hk
        rw [k] at this; cases this
def ipI (f : Int → Int → Int) : TIp := fun x y H Q => ∃ i j,x = .int i ∧ y = .int j ∧ Q (.int (f i j)) H
theorem ip_sub : PIp X .Sub (ipI fun i j => i - j) := by
  intro pins s σ H x y v u Q I r1 r2 h
  obtain ⟨i,j,e1,e2,q⟩ := h
  subst e1; subst e2
  obtain ⟨t,rfl⟩ := r1
  obtain ⟨t',rfl⟩ := r2
  exact isub_int ⟨.int _,H,I.tok _,⟨_,rfl⟩,q⟩
end
section
variable {X : Cx} {pos : Pos}
def tWhile (c : TT) (tb : TS) : TS := fun D σ H => ∃ W : Nat → St → Hp → Prop,(∃ m,W m σ H) ∧ ∀ m σ H,W m σ H →
  c σ H fun b H1 => if b = true then ∃ N : St → Hp → Prop,(∀ σ' H',N σ' H' → ∃ m',m' < m ∧ W m' σ' H') ∧ tb { D with nx := N,ct := N,bk := D.nx } σ H1 else D.nx σ H1
theorem ps_while {c : Expr} {body : List Stmt} {tc : TT} {tb : TS} (hp : PassesOwn (model X.prog X.w) X.A X.env X.xe) (hc : PT X c tc) (hb : PSs X body tb) : PS X (.While c body [] pos) (tWhile tc tb) := by
  intro pins s σ H D I h
  obtain ⟨W,⟨m0,w0⟩,turn⟩ := h
  refine wpAny_While (codeAny_whileLoop (fun n s' => ∃ σ' H',Inv X pins σ' H' s' ∧ W n σ' H') ?_ m0 ⟨σ,H,I,w0⟩)
  rintro n s1 ⟨σ1,H1,I1,w1⟩
  refine wpAny_passesOwn hp (thn (hc pins s1 σ1 H1 _ I1 (turn n σ1 H1 w1)) fun b s2 ⟨H2,I2,q2⟩ => ?_)
  cases b with
  | true =>
    obtain ⟨N,hN,q2⟩ := q2
    rw [if_pos rfl]
    refine wpAny_passesOwn hp (thn (hb pins s2 σ1 H2 _ I2 q2) fun f s3 q3 => ?_)
    cases f with
    | next =>
      obtain ⟨σ3,H3,I3,n3⟩ := q3
      obtain ⟨m',hm,w3⟩ := hN σ3 H3 n3
      exact ⟨m',hm,σ3,H3,I3,w3⟩
    | cont =>
      obtain ⟨σ3,H3,I3,n3⟩ := q3
      obtain ⟨m',hm,w3⟩ := hN σ3 H3 n3
      exact ⟨m',hm,σ3,H3,I3,w3⟩
    | brk => exact q3
    | ret v => exact q3
  | false =>
    rw [if_neg Bool.false_ne_true]
    exact wpAny_execs_nil ⟨σ1,H2,I2,q2⟩
end
structure It where
  go : Nat → Hp → Prop
  yld : Nat → Hp → V → Hp → Prop
  stop : Nat → Hp → Prop
def FpOk (X : Cx) (pins : List (Addr × Obj)) (H : Hp) (b : Addr) : Prop :=
  H b = none ∧ b ≠ X.env.locals ∧ b ∉ X.fs ∧ (b ∈ X.ex ∨ X.s₀.heap.objs.size ≤ b) ∧ (∀ x c,X.env.cells.lookup x = some c → c ≠ b) ∧ ∀ p ∈ X.pn ++ pins,p.1 ≠ b
theorem Inv.fpOk {X : Cx} {pins : List (Addr × Obj)} {σ : St} {H H' : Hp} {s : Shared} {b : Addr} (I : Inv X pins σ H s) (hb : s.heap.objs.size ≤ b) (hn : H' b = none) : FpOk X pins H' b := by
  refine ⟨hn,Nat.ne_of_gt (Nat.lt_of_lt_of_le I.lt hb),I.nofs hb,.inr (Nat.le_trans I.sz hb),fun x c e z => ?_,fun p hp z => ?_⟩
  · obtain ⟨v,q⟩ := I.cell x c e
    exact absurd (Nat.lt_of_lt_of_le q.lt (by rw [z]; exact hb)) (Nat.lt_irrefl _)
  · exact absurd (Nat.lt_of_lt_of_le (Heap.lt_size (I.pin p hp).1) (by rw [z]; exact hb)) (Nat.lt_irrefl _)
structure Turn (P : Program) (w : World) (K : PySem.W.Frag) (tg : Expr) (J : It) (fp : List Addr) (it : Addr) (tn : Nat → Heap → Prop) : Prop where
  mem : it ∈ fp
  obj : ∀ i h,tn i h → ∀ b ∈ fp,∃ o,h.get? b = some o ∧ ∀ v,o.data ≠ .cell v
  keep : ∀ i h h',tn i h → (∀ b ∈ fp,∀ o,h.get? b = some o → h'.get? b = some o) → tn i h'
  item : ∀ (X : Cx),X.prog = P → X.w = w → X.K = K → X.calm = true → ∀ (i : Nat) (pins : List (Addr × Obj)) (s : Shared) (σ : St) (H : Hp) (E : Value → Shared → Prop),Inv X pins σ H s → (∀ b ∈ fp,FpOk X pins H b) → tn i s.heap → J.go i H →
    wpAny (model P w) X.A (pyNext (.ref it)) (fun r s1 => ∃ u,r = some u ∧
      wpAny (model P w) X.A (letOwnedTupleGo tg (.ref it) u) (fun _ s2 => ∃ x H',Inv X pins σ H' s2 ∧ RelV x u ∧ J.yld i H x H' ∧ tn (i + 1) s2.heap ∧ ∀ b ∈ fp,H' b = none) E s1) E s
  done : ∀ (X : Cx),X.prog = P → X.w = w → X.K = K → X.calm = true → ∀ (i : Nat) (pins : List (Addr × Obj)) (s : Shared) (σ : St) (H : Hp) (E : Value → Shared → Prop),Inv X pins σ H s → (∀ b ∈ fp,FpOk X pins H b) → tn i s.heap → J.stop i H →
    wpAny (model P w) X.A (pyNext (.ref it)) (fun r s1 => r = none ∧ Inv X pins σ H s1) E s
  self : ∀ (A : Around) (i : Nat) (s : Shared) (Q : Value → Shared → Prop) (E : Value → Shared → Prop),tn i s.heap → Q (.ref it) s → wpAny (model P w) A (pyIter (.ref it)) Q E s
abbrev TI := St → Hp → (It → Hp → Prop) → Prop
def PIE (X : Cx) (pins : List (Addr × Obj)) (σ : St) (tg : Expr) (R : It → Hp → Prop) (itv : Value) (s2 : Shared) : Prop :=
  ∃ (it : Addr) (fp : List Addr) (tn : Nat → Heap → Prop) (J : It) (H' : Hp),itv = .ref it ∧ Inv X pins σ H' s2 ∧ Turn X.prog X.w X.K tg J fp it tn ∧ tn 0 s2.heap ∧ (∀ b ∈ fp,FpOk X pins H' b) ∧ R J H'
def PI (X : Cx) (tg iter : Expr) (wi : TI) : Prop :=
  ∀ (pins : List (Addr × Obj)) (s : Shared) (σ : St) (H : Hp) (R : It → Hp → Prop),Inv X pins σ H s → wi σ H R →
    wpAny (model X.prog X.w) X.A (eval iter X.env) (fun v s1 => wpAny (model X.prog X.w) X.A (pyIter v) (PIE X pins σ tg R) X.xe s1) X.xe s
theorem go_of {M : Model} {A : Around} {E : Value → Shared → Prop} {s : Shared} {tg : Expr} {it : Addr} {u : Value} {o : Obj} {n : String} {vs : Array Value} {Q : Unit → Shared → Prop} (ho : s.heap.get? it = some o) (hc : o.cls = .type n) (hd : o.data = .fields vs)
    (hn : ["enumerate","zip","dict_itemiterator","dict_reverseitemiterator","odict_iterator","itertools.zip_longest","itertools.pairwise"].contains n = false) (hQ : Q () s) : wpAny M A (letOwnedTupleGo tg (.ref it) u) Q E s := by
  unfold letOwnedTupleGo
  cases tg <;> first
    | exact wpAny_pure hQ
    | (cases u <;> first
        | exact wpAny_pure hQ
        | (refine wpAny_bind (wpAny_load ho ?_)
           rw [hc,hd]
           show wpAny M A (if (["enumerate","zip","dict_itemiterator","dict_reverseitemiterator","odict_iterator","itertools.zip_longest","itertools.pairwise"].contains n && vs[0]? == some (rawInt _)) = true then _ else _) Q E s
           rw [if_neg (by intro h; rw [hn,Bool.false_and] at h; cases h)]
           exact wpAny_pure hQ))
def Itl (K : PySem.W.Frag) (a : Addr) : It :=
  ⟨fun i H => ∃ xs x,SqL K H a xs ∧ xs[i]? = some x,fun i H x H' => H' = H ∧ ∀ xs,SqL K H a xs → xs[i]? = some x,fun i H => ∃ xs,SqL K H a xs ∧ xs.length ≤ i⟩
def Itt (K : PySem.W.Frag) (a : Addr) : It :=
  ⟨fun i H => ∃ xs x,SqT K H a xs ∧ xs[i]? = some x,fun i H x H' => H' = H ∧ ∀ xs,SqT K H a xs → xs[i]? = some x,fun i H => ∃ xs,SqT K H a xs ∧ xs.length ≤ i⟩
def Itr (lo : Int) (n : Nat) : It := ⟨fun i _ => i < n,fun i H x H' => H' = H ∧ x = .int (lo + i),fun i _ => n ≤ i⟩
theorem turn_list {P : Program} {w : World} {K : PySem.W.Frag} {tg : Expr} (a it : Addr) : Turn P w K tg (Itl K a) [it] it (fun i h => h.IsListIter it a i) where
  mem := by simp
  obj := fun i h st b hb => by
    have e : b = it := by simpa using hb
    subst e
    obtain ⟨o,e,c,d⟩ := st
    exact ⟨o,e,fun v z => by rw [d] at z; cases z⟩
  keep := fun i h h' st k => st.at fun o e => k it (by simp) o e
  item := by
    intro X hP hw hK hc i pins s σ H E I hf st hg
    subst hP hw hK
    obtain ⟨xs,x,hq,hx⟩ := hg
    obtain ⟨its,rv,p,hz⟩ := I.list hq
    obtain ⟨u,hu,ru⟩ := rv.get hx
    obtain ⟨f0,f1,f2,f3,f4,f5⟩ := hf it (by simp)
    refine wpAny_pyNext_list_item st p.isList (x := u) (by simpa using hu) fun h' st' sb => ?_
    have I1 : Inv X pins σ H { s with heap := h' } := I.turned (t' := s.toks) (fun b o hb e => (sb.2 b hb).trans e) f0 f1 f3 f4 f5
    obtain ⟨o,e,c,d⟩ := id st'
    exact ⟨u,rfl,go_of (s := { s with heap := h' }) e c d (by decide) ⟨x,H,I1,ru,⟨rfl,fun ys hy => by rw [I.list_inj hy hq]; exact hx⟩,st',fun b hb => (hf b hb).1⟩⟩
  done := by
    intro X hP hw hK hc i pins s σ H E I hf st hg
    subst hP hw hK
    obtain ⟨xs,hq,hx⟩ := hg
    obtain ⟨its,rv,p,hz⟩ := I.list hq
    obtain ⟨f0,f1,f2,f3,f4,f5⟩ := hf it (by simp)
    have hl := rv.length
    exact wpAny_pyNext_list_end (I.ok.hd hc) st p.isList (by simp; omega) fun h' eb => ⟨rfl,I.turned (t' := s.toks) (fun b o hb e => eb b o hb e) f0 f1 f3 f4 f5⟩
  self := fun _ _ _ _ _ st h => wpAny_pyIter_listiter st h
theorem turn_tuple {P : Program} {w : World} {K : PySem.W.Frag} {tg : Expr} (a it : Addr) : Turn P w K tg (Itt K a) [it] it (fun i h => h.IsTupleIter it a i) where
  mem := by simp
  obj := fun i h st b hb => by
    have e : b = it := by simpa using hb
    subst e
    obtain ⟨o,e,c,d⟩ := st
    exact ⟨o,e,fun v z => by rw [d] at z; cases z⟩
  keep := fun i h h' st k => st.at fun o e => k it (by simp) o e
  item := by
    intro X hP hw hK hc i pins s σ H E I hf st hg
    subst hP hw hK
    obtain ⟨xs,x,hq,hx⟩ := hg
    obtain ⟨its,rv,p,hz⟩ := I.tuple hq
    obtain ⟨u,hu,ru⟩ := rv.get hx
    obtain ⟨f0,f1,f2,f3,f4,f5⟩ := hf it (by simp)
    refine wpAny_pyNext_tuple_item st (show s.heap.IsTuple a its.toArray from p) (x := u) (by simpa using hu) fun h' st' sb => ?_
    have I1 : Inv X pins σ H { s with heap := h' } := I.turned (t' := s.toks) (fun b o hb e => (sb.2 b hb).trans e) f0 f1 f3 f4 f5
    obtain ⟨o,e,c,d⟩ := id st'
    exact ⟨u,rfl,go_of (s := { s with heap := h' }) e c d (by decide) ⟨x,H,I1,ru,⟨rfl,fun ys hy => by rw [I.tuple_inj hy hq]; exact hx⟩,st',fun b hb => (hf b hb).1⟩⟩
  done := by
    intro X hP hw hK hc i pins s σ H E I hf st hg
    subst hP hw hK
    obtain ⟨xs,hq,hx⟩ := hg
    obtain ⟨its,rv,p,hz⟩ := I.tuple hq
    obtain ⟨f0,f1,f2,f3,f4,f5⟩ := hf it (by simp)
    have hl := rv.length
    exact wpAny_pyNext_tuple_end (I.ok.hd hc) st (show s.heap.IsTuple a its.toArray from p) (by simp; omega) fun h' eb => ⟨rfl,I.turned (t' := s.toks) (fun b o hb e => eb b o hb e) f0 f1 f3 f4 f5⟩
  self := fun _ _ _ _ _ st h => wpAny_pyIter_tupleiter st h
theorem turn_range {P : Program} {w : World} {K : PySem.W.Frag} {tg : Expr} (it : Addr) (lo : Int) (n : Nat) : Turn P w K tg (Itr lo n) [it] it (fun i h => IsRangeIter h it (lo + (i : Nat) * 1) ((n : Int) - (i : Nat)) 1) where
  mem := by simp
  obj := fun i h st b hb => by
    have e : b = it := by simpa using hb
    subst e
    exact ⟨_,st,fun v z => by
      have z' : Data.fields _ = Data.cell v := z
      cases z'⟩
  keep := fun i h h' st k => k it (by simp) _ st
  item := by
    intro X hP hw hK hc i pins s σ H E I hf st hg
    subst hP hw hK
    obtain ⟨f0,f1,f2,f3,f4,f5⟩ := hf it (by simp)
    have W := Walks.range (prog := X.prog) (w := X.w) (I.ok.hd hc) it lo 1 n
    refine W.item i s _ _ hg st fun v h' tk hv st' kk => ?_
    obtain ⟨t,rfl⟩ := hv
    have I1 : Inv X pins σ H { s with heap := h',toks := tk } := I.turned (fun b o hb e => kk b o (by simpa using hb) e) f0 f1 f3 f4 f5
    refine ⟨_, rfl, go_of (s := { s with heap := h', toks := tk }) (n := "range_iterator") st' rfl rfl (by decide) ⟨.int (lo + i), H, I1, ⟨t, ?_⟩, ⟨rfl, rfl⟩, st', fun b hb => (hf b hb).1⟩⟩
    rw [Int.mul_one]
  done := by
    intro X hP hw hK hc i pins s σ H E I hf st hg
    subst hP hw hK
    obtain ⟨f0,f1,f2,f3,f4,f5⟩ := hf it (by simp)
    exact wpAny_pyNext_range_end (I.ok.hd hc) st (by have : n ≤ i := hg; omega) fun h' eb => ⟨rfl,I.turned (t' := s.toks) (fun b o hb e => eb b o hb e) f0 f1 f3 f4 f5⟩
  self := fun _ _ _ _ _ st h => wpAny_pyIter_rangeiter st h
end L2
namespace L2
open PySem PySem.Spec PyProof.Rows
section
variable {X : Cx} {tg : Expr}
def iList (K : PySem.W.Frag) (tl : TE) : TI := fun σ H R => tl σ H fun x H1 => ∃ a,x = .ref a ∧ (∃ xs,SqL K H1 a xs) ∧ R (Itl K a) H1
def iTup (K : PySem.W.Frag) (tl : TE) : TI := fun σ H R => tl σ H fun x H1 => ∃ a,x = .ref a ∧ (∃ xs,SqT K H1 a xs) ∧ R (Itt K a) H1
theorem pi_list {l : Expr} {tl : TE} (hl : PE X l tl) : PI X tg l (iList X.K tl) := by
  intro pins s σ H R I h
  refine thn (hl pins s σ H _ I h) fun v s1 ⟨x,H1,I1,r1,q1⟩ => ?_
  obtain ⟨a,e,⟨xs,hq⟩,q⟩ := q1
  subst e
  cases r1
  obtain ⟨its,rv,p,hz⟩ := I1.list hq
  refine wpAny_pyIter_list p.isList ?_
  refine ⟨s1.heap.objs.size,[s1.heap.objs.size],_,_,H1,rfl,I1.kept (t' := s1.toks) fun b o e => Heap.get?_push_of_some _ e,turn_list a _,⟨_,Heap.get?_push_size _ rfl,rfl,rfl⟩,fun b hb => ?_,q⟩
  have e : b = s1.heap.objs.size := by simpa using hb
  subst e
  exact I1.fpOk (Nat.le_refl _) (I1.hok.fresh (Nat.le_refl _))
theorem pi_tup {l : Expr} {tl : TE} (hl : PE X l tl) : PI X tg l (iTup X.K tl) := by
  intro pins s σ H R I h
  refine thn (hl pins s σ H _ I h) fun v s1 ⟨x,H1,I1,r1,q1⟩ => ?_
  obtain ⟨a,e,⟨xs,hq⟩,q⟩ := q1
  subst e
  cases r1
  obtain ⟨its,rv,p,hz⟩ := I1.tuple hq
  refine wpAny_pyIter_tuple (show s1.heap.IsTuple a its.toArray from p) ?_
  refine ⟨s1.heap.objs.size,[s1.heap.objs.size],_,_,H1,rfl,I1.kept (t' := s1.toks) fun b o e => Heap.get?_push_of_some _ e,turn_tuple a _,⟨_,Heap.get?_push_size _ rfl,rfl,rfl⟩,fun b hb => ?_,q⟩
  have e : b = s1.heap.objs.size := by simpa using hb
  subst e
  exact I1.fpOk (Nat.le_refl _) (I1.hok.fresh (Nat.le_refl _))
theorem range_it {pins : List (Addr × Obj)} {σ : St} {H : Hp} {s : Shared} {R : It → Hp → Prop} {E : Value → Shared → Prop} {lo hi : Int} {t u v : Tok} {tk : Nat} (I : Inv X pins σ H s) (h1 : -(2 ^ 62) ≤ lo) (h2 : lo < 2 ^ 62) (h3 : -(2 ^ 62) ≤ hi) (h4 : hi < 2 ^ 62)
    (q : R (Itr lo (hi - lo).toNat) H) : wpAny (model X.prog X.w) X.A (pyIter (.ref s.heap.objs.size)) (PIE X pins σ tg R) E { s with heap := s.heap.push { cls := .type "range",data := .fields #[.int lo t,.int hi u,.int 1 v] },toks := tk } := by
  refine wpAny_pyIter_range (IsRange.new ..) (small_one h1 h2 h3 h4) ?_
  have I1 : Inv X pins σ H { s with heap := s.heap.push { cls := .type "range",data := .fields #[.int lo t,.int hi u,.int 1 v] },toks := tk } := I.kept fun b o e => Heap.get?_push_of_some _ e
  refine ⟨(s.heap.push { cls := .type "range",data := .fields #[.int lo t,.int hi u,.int 1 v] }).objs.size,[(s.heap.push { cls := .type "range",data := .fields #[.int lo t,.int hi u,.int 1 v] }).objs.size],_,_,H,rfl,
    I1.kept (t' := tk) fun b o e => Heap.get?_push_of_some _ e,turn_range _ lo (hi - lo).toNat,?_,fun b hb => ?_,q⟩
  · have e1 : lo + ((0 : Nat) : Int) * 1 = lo := by simp
    have e2 : (((hi - lo).toNat : Nat) : Int) - ((0 : Nat) : Int) = Builtin.Range.rangeSize lo hi 1 := by rw [rangeSize_one]; split <;> omega
    show IsRangeIter _ _ (lo + ((0 : Nat) : Int) * 1) ((((hi - lo).toNat : Nat) : Int) - ((0 : Nat) : Int)) 1
    rw [e1,e2]
    exact Heap.get?_push_size _ rfl
  · have e : b = (s.heap.push { cls := .type "range",data := .fields #[.int lo t,.int hi u,.int 1 v] }).objs.size := by simpa using hb
    subst e
    exact I1.fpOk (Nat.le_refl _) (I1.hok.fresh (Nat.le_refl _))
def iRng1 (ta : TA) : TI := fun σ H R => ta σ H fun vs H1 => ∃ j : Int,vs = [.int j] ∧ -(2 ^ 62) ≤ j ∧ j < 2 ^ 62 ∧ R (Itr 0 j.toNat) H1
def iRng2 (ta : TA) : TI := fun σ H R => ta σ H fun vs H1 => ∃ i j : Int,vs = [.int i,.int j] ∧ (-(2 ^ 62) ≤ i ∧ i < 2 ^ 62 ∧ -(2 ^ 62) ≤ j ∧ j < 2 ^ 62) ∧ R (Itr i (j - i).toNat) H1
theorem pi_range1 {a : Expr} {ta : TA} {p pos : Pos} (hg : Gl X "range") (hm : X.mg "range" = none) (ha : PA X [a] ta) (hs : starEach [a] X.env = [(false,eval a X.env)] := by rfl) : PI X tg (.Call (.Name "range" p) [a] [] pos) (iRng1 ta) := by
  intro pins s σ H R I h
  refine Call_ (ld_blt I hg hm boot_range (PyProof.Rows.callWith_type1 (thn (ha pos pins s σ H _ I h) fun us s1 ⟨vs,H1,I1,r1,q1⟩ => ?_) hs rfl))
  obtain ⟨j,e,q1,q2,q⟩ := q1
  subst e
  cases r1 with
  | cons r rr =>
    cases rr
    obtain ⟨t,rfl⟩ := r
    exact call_range_1 (range_it I1 (by omega) (by omega) q1 q2 (by simpa using q))
theorem pi_range2 {a b : Expr} {ta : TA} {p pos : Pos} (hg : Gl X "range") (hm : X.mg "range" = none) (ha : PA X [a,b] ta) (hs : starEach [a,b] X.env = [(false,eval a X.env),(false,eval b X.env)] := by rfl) (hs2 : starEach [b] X.env = [(false,eval b X.env)] := by rfl) :
    PI X tg (.Call (.Name "range" p) [a,b] [] pos) (iRng2 ta) := by
  intro pins s σ H R I h
  refine Call_ (ld_blt I hg hm boot_range (PyProof.Rows.callWith_type1 (thn (ha pos pins s σ H _ I h) fun us s1 ⟨vs,H1,I1,r1,q1⟩ => ?_) (by rw [hs,hs2]) (by rw [hs2]; rfl)))
  obtain ⟨i,j,e,⟨q1,q2,q3,q4⟩,q⟩ := q1
  subst e
  cases r1 with
  | cons r rr =>
    cases rr with
    | cons r' rr =>
      cases rr
      obtain ⟨t,rfl⟩ := r
      obtain ⟨t',rfl⟩ := r'
      exact call_range_2 (range_it I1 q1 q2 q3 q4 q)
def tFor (wi : TI) (g : TG) (tb : TS) : TS := fun D σ H => wi σ H fun J H1 => ∃ W : Nat → Nat → St → Hp → Prop,(∃ m,W 0 m σ H1) ∧ ∀ i m σ H,W i m σ H →
  (J.stop i H ∧ D.nx σ H) ∨ (J.go i H ∧ ∃ N : St → Hp → Prop,(∀ σ' H',N σ' H' → ∃ m',m' < m ∧ W (i + 1) m' σ' H') ∧ ∀ x H',J.yld i H x H' → g x σ H' fun σ2 H2 => tb { D with nx := N,ct := N,bk := D.nx } σ2 H2)
def pinsAt (fp : List Addr) (h : Heap) : List (Addr × Obj) := fp.filterMap fun b => (h.get? b).map fun o => (b,o)
theorem mem_pinsAt {fp : List Addr} {h : Heap} {b : Addr} {o : Obj} (hb : b ∈ fp) (e : h.get? b = some o) : (b,o) ∈ pinsAt fp h := List.mem_filterMap.mpr ⟨b,hb,by rw [e]; rfl⟩
theorem of_pinsAt {fp : List Addr} {h : Heap} {p : Addr × Obj} (hp : p ∈ pinsAt fp h) : p.1 ∈ fp ∧ h.get? p.1 = some p.2 := by
  obtain ⟨b,hb,e⟩ := List.mem_filterMap.mp hp
  cases q : h.get? b with
  | none => rw [q] at e; cases e
  | some o =>
    rw [q] at e
    have e' : (b,o) = p := Option.some.inj e
    subst e'
    exact ⟨hb,q⟩
theorem Inv.pinned {pins : List (Addr × Obj)} {σ : St} {H : Hp} {s : Shared} {fp : List Addr} (I : Inv X pins σ H s) (hf : ∀ b ∈ fp,FpOk X pins H b) (ho : ∀ b ∈ fp,∃ o,s.heap.get? b = some o ∧ ∀ v,o.data ≠ .cell v) : Inv X (pins ++ pinsAt fp s.heap) σ H s :=
  I.pins_of fun p hp => (List.mem_append.mp hp).elim (fun z => I.pin p (List.mem_append_right _ z)) fun z => by
    obtain ⟨hb,e⟩ := of_pinsAt z
    obtain ⟨f0,f1,f2,_⟩ := hf p.1 hb
    obtain ⟨o,e',d⟩ := ho p.1 hb
    rw [e] at e'; cases e'
    exact ⟨e,f0,f1,f2,d⟩
theorem Inv.unpinned {pins pl : List (Addr × Obj)} {σ : St} {H : Hp} {s : Shared} (I : Inv X (pins ++ pl) σ H s) : Inv X pins σ H s := I.pins_of fun p hp => I.pin p (List.mem_append_right _ (List.mem_append_left _ hp))
theorem ps_for {iter : Expr} {body : List Stmt} {wi : TI} {g : TG} {tb : TS} {pos : Pos} (hp : PassesOwn (model X.prog X.w) X.A X.env X.xe) (hc : X.calm = true) (hi : PI X tg iter wi) (hg : PG X tg g) (hb : PSs X body tb)
    (hs : ∀ x,foldedSetIterable iter X.env x = pure x := by intro _; rfl) : PS X (.For tg iter body [] pos) (tFor wi g tb) := by
  intro pins s σ H D I h
  refine wpAny_For (thn (hi pins s σ H _ I h) fun v s1 h1 => thn h1 fun itv s2 h2 => ?_) hs
  obtain ⟨it,fp,tn,J,H2,e,I2,T,st2,f2,W,⟨m0,w0⟩,turn⟩ := h2
  subst e
  have stat : ∀ {H' : Hp},(∀ b ∈ fp,H' b = none) → ∀ b ∈ fp,FpOk X pins H' b := fun hn b hb => ⟨hn b hb,(f2 b hb).2⟩
  refine codeAny_forLoop_any (fun n s' => ∃ i σ' H',Inv X pins σ' H' s' ∧ tn i s'.heap ∧ (∀ b ∈ fp,H' b = none) ∧ W i n σ' H') ?_ m0 ⟨0,σ,H2,I2,st2,fun b hb => (f2 b hb).1,w0⟩
  rintro n s3 ⟨i,σ3,H3,I3,st3,fr3,w3⟩
  rcases turn i n σ3 H3 w3 with ⟨stop,qn⟩ | ⟨go,N,hN,step⟩
  · refine wpAny_passesOwn hp (thn (T.done X rfl rfl rfl hc i pins s3 σ3 H3 X.xe I3 (stat fr3) st3 stop) fun r s4 ⟨hr,I4⟩ => ?_)
    subst hr
    exact wpAny_execs_nil ⟨σ3,H3,I4,qn⟩
  · refine wpAny_passesOwn hp (thn (T.item X rfl rfl rfl hc i pins s3 σ3 H3 X.xe I3 (stat fr3) st3 go) fun r s4 ⟨u,hr,h4⟩ => ?_)
    subst hr
    refine wpAny_passesOwn hp (thn h4 fun _ s5 ⟨x,H5,I5,r5,y5,st5,fr5⟩ => ?_)
    have I5' := I5.pinned (stat fr5) (T.obj _ _ st5)
    refine wpAny_passesOwn hp (thn (hg _ s5 σ3 H5 x u _ I5' r5 (step x H5 y5)) fun _ s6 ⟨σ6,H6,I6,q6⟩ => ?_)
    refine wpAny_passesOwn hp (thn (hb _ s6 σ6 H6 _ I6 q6) fun f s7 q7 => ?_)
    have again : ∀ {σ7 : St} {H7 : Hp},Inv X (pins ++ pinsAt fp s5.heap) σ7 H7 s7 → N σ7 H7 → ∃ m,m < n ∧ ∃ i σ' H',Inv X pins σ' H' s7 ∧ tn i s7.heap ∧ (∀ b ∈ fp,H' b = none) ∧ W i m σ' H' := fun {σ7 H7} I7 n7 => by
      obtain ⟨m',hm,w7⟩ := hN σ7 H7 n7
      refine ⟨m',hm,i + 1,σ7,H7,I7.unpinned,T.keep _ _ _ st5 fun b hb o e => (I7.pin (b,o) (List.mem_append_right _ (List.mem_append_right _ (mem_pinsAt hb e)))).1,fun b hb => ?_,w7⟩
      obtain ⟨o,e,d⟩ := T.obj _ _ st5 b hb
      exact (I7.pin (b,o) (List.mem_append_right _ (List.mem_append_right _ (mem_pinsAt hb e)))).2.1
    cases f with
    | next => obtain ⟨σ7,H7,I7,n7⟩ := q7; exact again I7 n7
    | cont => obtain ⟨σ7,H7,I7,n7⟩ := q7; exact again I7 n7
    | brk => obtain ⟨σ7,H7,I7,q7⟩ := q7; exact ⟨σ7,H7,I7.unpinned,q7⟩
    | ret v => obtain ⟨x7,σ7,H7,I7,r7,q7⟩ := q7; exact ⟨x7,σ7,H7,I7.unpinned,r7,q7⟩
end
theorem for_list {K : PySem.W.Frag} {a : Addr} {xs : List V} {g : TG} {tb : TS} {D : Ends} {σ : St} {H : Hp} (Pv : Nat → St → Hp → Prop) (h0 : Pv 0 σ H) (hl : ∀ i σ H,i ≤ xs.length → Pv i σ H → SqL K H a xs)
    (hs : ∀ i x σ H,xs[i]? = some x → Pv i σ H → g x σ H fun σ2 H2 => tb { D with nx := Pv (i + 1),ct := Pv (i + 1),bk := D.nx } σ2 H2) (hd : ∀ σ H,Pv xs.length σ H → D.nx σ H) :
    ∃ W : Nat → Nat → St → Hp → Prop,(∃ m,W 0 m σ H) ∧ ∀ i m σ H,W i m σ H →
      ((Itl K a).stop i H ∧ D.nx σ H) ∨ ((Itl K a).go i H ∧ ∃ N : St → Hp → Prop,(∀ σ' H',N σ' H' → ∃ m',m' < m ∧ W (i + 1) m' σ' H') ∧ ∀ x H',(Itl K a).yld i H x H' → g x σ H' fun σ2 H2 => tb { D with nx := N,ct := N,bk := D.nx } σ2 H2) := by
  refine ⟨fun i m σ H => m = xs.length - i ∧ i ≤ xs.length ∧ Pv i σ H,⟨xs.length,by simp,Nat.zero_le _,h0⟩,?_⟩
  rintro i m σ H ⟨rfl,hi,p⟩
  have q := hl i σ H hi p
  by_cases hlt : i < xs.length
  · refine .inr ⟨⟨xs,xs[i],q,by simp [hlt]⟩,Pv (i + 1),fun σ' H' p' => ⟨xs.length - (i + 1),by omega,rfl,hlt,p'⟩,fun x H' y => ?_⟩
    obtain ⟨e,y⟩ := y
    subst e
    exact hs i x σ _ (y xs q) p
  · have e : i = xs.length := by omega
    subst e
    exact .inl ⟨⟨xs,q,Nat.le_refl _⟩,hd σ H p⟩
theorem for_tup {K : PySem.W.Frag} {a : Addr} {xs : List V} {g : TG} {tb : TS} {D : Ends} {σ : St} {H : Hp} (Pv : Nat → St → Hp → Prop) (h0 : Pv 0 σ H) (hl : ∀ i σ H,i ≤ xs.length → Pv i σ H → SqT K H a xs)
    (hs : ∀ i x σ H,xs[i]? = some x → Pv i σ H → g x σ H fun σ2 H2 => tb { D with nx := Pv (i + 1),ct := Pv (i + 1),bk := D.nx } σ2 H2) (hd : ∀ σ H,Pv xs.length σ H → D.nx σ H) :
    ∃ W : Nat → Nat → St → Hp → Prop,(∃ m,W 0 m σ H) ∧ ∀ i m σ H,W i m σ H →
      ((Itt K a).stop i H ∧ D.nx σ H) ∨ ((Itt K a).go i H ∧ ∃ N : St → Hp → Prop,(∀ σ' H',N σ' H' → ∃ m',m' < m ∧ W (i + 1) m' σ' H') ∧ ∀ x H',(Itt K a).yld i H x H' → g x σ H' fun σ2 H2 => tb { D with nx := N,ct := N,bk := D.nx } σ2 H2) := by
  refine ⟨fun i m σ H => m = xs.length - i ∧ i ≤ xs.length ∧ Pv i σ H,⟨xs.length,by simp,Nat.zero_le _,h0⟩,?_⟩
  rintro i m σ H ⟨rfl,hi,p⟩
  have q := hl i σ H hi p
  by_cases hlt : i < xs.length
  · refine .inr ⟨⟨xs,xs[i],q,by simp [hlt]⟩,Pv (i + 1),fun σ' H' p' => ⟨xs.length - (i + 1),by omega,rfl,hlt,p'⟩,fun x H' y => ?_⟩
    obtain ⟨e,y⟩ := y
    subst e
    exact hs i x σ _ (y xs q) p
  · have e : i = xs.length := by omega
    subst e
    exact .inl ⟨⟨xs,q,Nat.le_refl _⟩,hd σ H p⟩
theorem for_range {lo : Int} {n : Nat} {g : TG} {tb : TS} {D : Ends} {σ : St} {H : Hp} (Pv : Nat → St → Hp → Prop) (h0 : Pv 0 σ H)
    (hs : ∀ i σ H,i < n → Pv i σ H → g (.int (lo + i)) σ H fun σ2 H2 => tb { D with nx := Pv (i + 1),ct := Pv (i + 1),bk := D.nx } σ2 H2) (hd : ∀ σ H,Pv n σ H → D.nx σ H) :
    ∃ W : Nat → Nat → St → Hp → Prop,(∃ m,W 0 m σ H) ∧ ∀ i m σ H,W i m σ H →
      ((Itr lo n).stop i H ∧ D.nx σ H) ∨ ((Itr lo n).go i H ∧ ∃ N : St → Hp → Prop,(∀ σ' H',N σ' H' → ∃ m',m' < m ∧ W (i + 1) m' σ' H') ∧ ∀ x H',(Itr lo n).yld i H x H' → g x σ H' fun σ2 H2 => tb { D with nx := N,ct := N,bk := D.nx } σ2 H2) := by
  refine ⟨fun i m σ H => m = n - i ∧ i ≤ n ∧ Pv i σ H,⟨n,by simp,Nat.zero_le _,h0⟩,?_⟩
  rintro i m σ H ⟨rfl,hi,p⟩
  by_cases hlt : i < n
  · refine .inr ⟨hlt,Pv (i + 1),fun σ' H' p' => ⟨n - (i + 1),by omega,rfl,hlt,p'⟩,fun x H' y => ?_⟩
    obtain ⟨e,y⟩ := y
    subst e y
    exact hs i σ _ hlt p
  · have e : i = n := by omega
    subst e
    exact .inl ⟨Nat.le_refl _,hd σ H p⟩
theorem while_by {c : TT} {tb : TS} {D : Ends} {σ : St} {H : Hp} (Pv : St → Hp → Prop) (μ : St → Hp → Nat) (h0 : Pv σ H)
    (hs : ∀ σ H,Pv σ H → c σ H fun b H1 => if b = true then tb { D with nx := fun σ' H' => Pv σ' H' ∧ μ σ' H' < μ σ H,ct := fun σ' H' => Pv σ' H' ∧ μ σ' H' < μ σ H,bk := D.nx } σ H1 else D.nx σ H1)
    (mono : ∀ σ H Q Q',(∀ b H1,Q b H1 → Q' b H1) → c σ H Q → c σ H Q') : tWhile c tb D σ H := by
  refine ⟨fun m σ H => m = μ σ H ∧ Pv σ H,⟨_,rfl,h0⟩,?_⟩
  rintro m σ H ⟨rfl,p⟩
  refine mono σ H _ _ (fun b H1 q => ?_) (hs σ H p)
  cases b with
  | true => exact ⟨_,fun σ' H' ⟨p',l⟩ => ⟨_,l,rfl,p'⟩,q⟩
  | false => exact q
end L2
namespace L2
open PySem PySem.Spec PyProof.Rows
abbrev R2 := V → V → Hp → VK → Prop
def OpR (X : Cx) (f : Value → Value → Sem Value) (r : R2) : Prop :=
  ∀ (pins : List (Addr × Obj)) (s : Shared) (σ : St) (H : Hp) (x y : V) (v u : Value) (Q : VK),Inv X pins σ H s → RelV x v → RelV y u → r x y H Q →
    wpAny (model X.prog X.w) X.A (f v u) (EP X pins σ Q) X.xe s
def CallR (X : Cx) (f : Value) (r : List V → Hp → VK → Prop) : Prop :=
  ∀ (pins : List (Addr × Obj)) (s : Shared) (σ : St) (H : Hp) (xs : List V) (us : List Value) (Q : VK),Inv X pins σ H s → Vals xs us → r xs H Q →
    wpAny (model X.prog X.w) X.A (call f us) (EP X pins σ Q) X.xe s
def tOp (r : R2) (ta tb : TE) : TE := fun σ H Q => ta σ H fun x H1 => tb σ H1 fun y H2 => r x y H2 Q
def rI (C : Int → Int → Prop) (g : Int → Int → V) : R2 := fun x y H Q => ∃ i j,x = .int i ∧ y = .int j ∧ C i j ∧ Q (g i j) H
def rI0 (g : Int → Int → V) : R2 := fun x y H Q => ∃ i j,x = .int i ∧ y = .int j ∧ Q (g i j) H
section
variable {X : Cx} {a b c : Expr} {ta tb tc : TE} {pos : Pos}
theorem binT (ha : PE X a ta) (hb : PE X b tb) {pins : List (Addr × Obj)} {s : Shared} {σ : St} {H : Hp} {R : V → V → Hp → Prop} (I : Inv X pins σ H s)
    (h : ta σ H fun x H1 => tb σ H1 fun y H2 => R x y H2) {Q : Value → Shared → Prop} {f : Value → Value → Sem Value}
    (hf : ∀ v u s2 x y H2,Inv X pins σ H2 s2 → RelV x v → RelV y u → R x y H2 → wpAny (model X.prog X.w) X.A (f v u) Q X.xe s2) :
    wpAny (model X.prog X.w) X.A (eval a X.env) (fun v s₁ => wpAny (model X.prog X.w) X.A (eval b X.env) (fun u s₂ => wpAny (model X.prog X.w) X.A (f v u) Q X.xe s₂) X.xe s₁) X.xe s := by
  refine thn (ha pins s σ H _ I h) fun v s1 ⟨x,H1,I1,r1,q1⟩ => ?_
  refine thn (hb pins s1 σ H1 _ I1 q1) fun u s2 ⟨y,H2,I2,r2,q2⟩ => ?_
  exact hf v u s2 x y H2 I2 r1 r2 q2
theorem pe_op {op : Operator} {r : R2} (ho : OpR X (binaryOp op) r) (ha : PE X a ta) (hb : PE X b tb) : PE X (.BinOp a op b pos) (tOp r ta tb) := by
  intro pins s σ H Q I h
  exact wpAny_BinOp (binT ha hb I h fun v u s2 x y H2 I2 rx ry q => ho pins s2 σ H2 x y v u Q I2 rx ry q)
theorem opI {f : Value → Value → Sem Value} {C : Int → Int → Prop} {g : Int → Int → Int}
    (rule : ∀ (i j : Int) (t u : Tok) (s : Shared) (Q : Value → Shared → Prop) (E : Value → Shared → Prop),C i j → Q (.int (g i j) s.toks) { s with toks := s.toks + 1 } → wpAny (model X.prog X.w) X.A (f (.int i t) (.int j u)) Q E s) :
    OpR X f (rI C fun i j => .int (g i j)) := by
  intro pins s σ H x y v u Q I rx ry h
  obtain ⟨i,j,rfl,rfl,hc,q⟩ := h
  obtain ⟨t,rfl⟩ := rx
  obtain ⟨t',rfl⟩ := ry
  exact rule i j t t' s _ _ hc ⟨.int (g i j),H,I.tok _,⟨_,rfl⟩,q⟩
theorem opI0 {f : Value → Value → Sem Value} {g : Int → Int → Int}
    (rule : ∀ (i j : Int) (t u : Tok) (s : Shared) (Q : Value → Shared → Prop) (E : Value → Shared → Prop),Q (.int (g i j) s.toks) { s with toks := s.toks + 1 } → wpAny (model X.prog X.w) X.A (f (.int i t) (.int j u)) Q E s) :
    OpR X f (rI0 fun i j => .int (g i j)) := by
  intro pins s σ H x y v u Q I rx ry h
  obtain ⟨i,j,rfl,rfl,q⟩ := h
  obtain ⟨t,rfl⟩ := rx
  obtain ⟨t',rfl⟩ := ry
  exact rule i j t t' s _ _ ⟨.int (g i j),H,I.tok _,⟨_,rfl⟩,q⟩
theorem opB0 {f : Value → Value → Sem Value} {g : Int → Int → Bool}
    (rule : ∀ (i j : Int) (t u : Tok) (s : Shared) (Q : Value → Shared → Prop) (E : Value → Shared → Prop),Q (.bool (g i j)) s → wpAny (model X.prog X.w) X.A (f (.int i t) (.int j u)) Q E s) :
    OpR X f (rI0 fun i j => .bl (g i j)) := by
  intro pins s σ H x y v u Q I rx ry h
  obtain ⟨i,j,rfl,rfl,q⟩ := h
  obtain ⟨t,rfl⟩ := rx
  obtain ⟨t',rfl⟩ := ry
  exact rule i j t t' s _ _ ⟨.bl (g i j),H,I,rfl,q⟩
def CPow (i j : Int) : Prop := 0 ≤ j ∧ j ≤ 1000000 ∧ i.natAbs < 2 ^ 64
def CMul (i j : Int) : Prop := (-(2 ^ 64) < i ∧ i < 2 ^ 64) ∨ (-(2 ^ 64) < j ∧ j < 2 ^ 64)
theorem CMul.ok {i j : Int} (h : CMul i j) : IntMulOk i j := by
  rcases h with ⟨h1,h2⟩ | ⟨h1,h2⟩
  · exact .of_left (intBits_le_64 h1 h2)
  · exact .of_right (intBits_le_64 h1 h2)
theorem op_add : OpR X (binaryOp .Add) (rI0 fun i j => .int (i + j)) := opI0 fun _ _ _ _ _ _ _ q => add_int q
theorem op_sub : OpR X (binaryOp .Sub) (rI0 fun i j => .int (i - j)) := opI0 fun _ _ _ _ _ _ _ q => sub_int q
theorem op_mul : OpR X (binaryOp .Mult) (rI CMul fun i j => .int (i * j)) := opI fun _ _ _ _ _ _ _ hc q => mul_int q hc.ok
theorem op_mod : OpR X (binaryOp .Mod) (rI (fun _ j => 0 < j) fun i j => .int (i % j)) := opI fun i j _ _ _ _ _ hc q => by
  have h1 : (0 : Int) < j := hc
  exact mod_int' (by omega) (by rw [Int.fmod_eq_emod_of_nonneg i (by omega)]; exact q)
theorem op_pow : OpR X (binaryOp .Pow) (rI CPow fun i j => .int (i ^ j.toNat)) := opI fun _ _ _ _ _ _ _ hc q => pow_int_small hc.1 hc.2.1 hc.2.2 q
end
def scal : V → V → Bool
  | .non,.non => true | .non,.int _ => true | .int _,.non => true | .non,.bl _ => true | .bl _,.non => true | .non,.str _ => true | .str _,.non => true
  | .int _,.int _ => true | .bl _,.bl _ => true | .str _,.str _ => true | .byt _,.byt _ => true
  | .int _,.str _ => true | .str _,.int _ => true | .bl _,.str _ => true | .str _,.bl _ => true
  | _,_ => false
def rEq : R2 := fun x y H Q => scal x y = true ∧ Q (.bl (decide (x = y))) H
def rNe : R2 := fun x y H Q => scal x y = true ∧ Q (.bl (!decide (x = y))) H
theorem dec_int {i j : Int} : decide (V.int i = V.int j) = (i == j) := by
  rw [Bool.eq_iff_iff]
  simp
theorem dec_bl {i j : Bool} : decide (V.bl i = V.bl j) = (i == j) := by
  rw [Bool.eq_iff_iff]
  simp
theorem dec_str {i j : Str} : decide (V.str i = V.str j) = (i == j) := by
  rw [Bool.eq_iff_iff]
  simp
theorem dec_byt {i j : Array UInt8} : decide (V.byt i = V.byt j) = (i.toList == j.toList) := by
  rw [Bool.eq_iff_iff]
  cases i
  cases j
  simp
section
variable {X : Cx} {a b c : Expr} {ta tb tc : TE} {pos : Pos}
theorem fin_bl {pins : List (Addr × Obj)} {σ : St} {H : Hp} {s : Shared} {Q : VK} {k k' : Bool} (I : Inv X pins σ H s) (q : Q (.bl k) H) (e : k = k') : EP X pins σ Q (.bool k') s := by
  subst e
  exact ⟨.bl k,H,I,rfl,q⟩
theorem op_eq : OpR X (compareOp .Eq) rEq := by
  intro pins s σ H x y v u Q I rx ry h
  obtain ⟨hs,q⟩ := h
  cases x with
  | non =>
    cases rx
    cases y with
    | non => cases ry; exact PySem.EqNone.eq_none_none (fin_bl I q (by simp))
    | bl j => cases ry; exact PySem.EqNone.eq_none_bool (fin_bl I q (by simp))
    | int j => obtain ⟨t',rfl⟩ := ry; exact PySem.EqNone.eq_none_int (fin_bl I q (by simp))
    | str j => obtain ⟨t',rfl⟩ := ry; exact PySem.EqNone.eq_none_str (fin_bl I q (by simp))
    | _ => exact absurd (show false = true from hs) Bool.false_ne_true
  | bl i =>
    cases rx
    cases y with
    | non => cases ry; exact PySem.EqNone.eq_bool_none (fin_bl I q (by simp))
    | bl j => cases ry; exact eq_bool (fin_bl I q dec_bl)
    | str j => obtain ⟨t',rfl⟩ := ry; exact PySem.EqMixed.eq_bool_str (fin_bl I q (by simp))
    | _ => exact absurd (show false = true from hs) Bool.false_ne_true
  | int i =>
    obtain ⟨t,rfl⟩ := rx
    cases y with
    | non => cases ry; exact PySem.EqNone.eq_int_none (fin_bl I q (by simp))
    | int j => obtain ⟨t',rfl⟩ := ry; exact eq_int (fin_bl I q dec_int)
    | str j => obtain ⟨t',rfl⟩ := ry; exact PySem.EqMixed.eq_int_str (fin_bl I q (by simp))
    | _ => exact absurd (show false = true from hs) Bool.false_ne_true
  | str i =>
    obtain ⟨t,rfl⟩ := rx
    cases y with
    | non => cases ry; exact PySem.EqNone.eq_str_none (fin_bl I q (by simp))
    | bl j => cases ry; exact PySem.EqMixed.eq_str_bool (fin_bl I q (by simp))
    | int j => obtain ⟨t',rfl⟩ := ry; exact PySem.EqMixed.eq_str_int (fin_bl I q (by simp))
    | str j => obtain ⟨t',rfl⟩ := ry; exact eq_str (fin_bl I q dec_str)
    | _ => exact absurd (show false = true from hs) Bool.false_ne_true
  | byt i =>
    obtain ⟨t,rfl⟩ := rx
    cases y with
    | byt j => obtain ⟨t',rfl⟩ := ry; exact PySem.W.eq_bytes (fin_bl I q dec_byt)
    | _ => exact absurd (show false = true from hs) Bool.false_ne_true
  | _ => cases y <;> exact absurd (show false = true from hs) Bool.false_ne_true
theorem op_ne : OpR X (compareOp .NotEq) rNe := by
  intro pins s σ H x y v u Q I rx ry h
  obtain ⟨hs,q⟩ := h
  cases x with
  | non =>
    cases rx
    cases y with
    | non => cases ry; exact PySem.EqNone.ne_none_none (fin_bl I q (by simp))
    | bl j => cases ry; exact PySem.EqNone.ne_none_bool (fin_bl I q (by simp))
    | int j => obtain ⟨t',rfl⟩ := ry; exact PySem.EqNone.ne_none_int (fin_bl I q (by simp))
    | str j => obtain ⟨t',rfl⟩ := ry; exact PySem.EqNone.ne_none_str (fin_bl I q (by simp))
    | _ => exact absurd (show false = true from hs) Bool.false_ne_true
  | bl i =>
    cases rx
    cases y with
    | non => cases ry; exact PySem.EqNone.ne_bool_none (fin_bl I q (by simp))
    | bl j => cases ry; exact ne_bool (fin_bl I q (congrArg not dec_bl))
    | str j => obtain ⟨t',rfl⟩ := ry; exact PySem.EqMixed.ne_bool_str (fin_bl I q (by simp))
    | _ => exact absurd (show false = true from hs) Bool.false_ne_true
  | int i =>
    obtain ⟨t,rfl⟩ := rx
    cases y with
    | non => cases ry; exact PySem.EqNone.ne_int_none (fin_bl I q (by simp))
    | int j => obtain ⟨t',rfl⟩ := ry; exact ne_int (fin_bl I q (congrArg not dec_int))
    | str j => obtain ⟨t',rfl⟩ := ry; exact PySem.EqMixed.ne_int_str (fin_bl I q (by simp))
    | _ => exact absurd (show false = true from hs) Bool.false_ne_true
  | str i =>
    obtain ⟨t,rfl⟩ := rx
    cases y with
    | non => cases ry; exact PySem.EqNone.ne_str_none (fin_bl I q (by simp))
    | bl j => cases ry; exact PySem.EqMixed.ne_str_bool (fin_bl I q (by simp))
    | int j => obtain ⟨t',rfl⟩ := ry; exact PySem.EqMixed.ne_str_int (fin_bl I q (by simp))
    | str j => obtain ⟨t',rfl⟩ := ry; exact ne_str (fin_bl I q (congrArg not dec_str))
    | _ => exact absurd (show false = true from hs) Bool.false_ne_true
  | byt i =>
    obtain ⟨t,rfl⟩ := rx
    cases y with
    | byt j => obtain ⟨t',rfl⟩ := ry; exact PySem.W.ne_bytes (fin_bl I q (congrArg not dec_byt))
    | _ => exact absurd (show false = true from hs) Bool.false_ne_true
  | _ => cases y <;> exact absurd (show false = true from hs) Bool.false_ne_true
theorem op_lt : OpR X (compareOp .Lt) (rI0 fun i j => .bl (decide (i < j))) := opB0 fun _ _ _ _ _ _ _ q => lt_int q
theorem op_le : OpR X (compareOp .LtE) (rI0 fun i j => .bl (decide (i ≤ j))) := opB0 fun _ _ _ _ _ _ _ q => le_int q
theorem op_gt : OpR X (compareOp .Gt) (rI0 fun i j => .bl (decide (j < i))) := opB0 fun _ _ _ _ _ _ _ q => gt_int q
theorem op_ge : OpR X (compareOp .GtE) (rI0 fun i j => .bl (decide (j ≤ i))) := opB0 fun _ _ _ _ _ _ _ q => ge_int q
theorem op_isN : OpR X (compareOp .Is) (fun x y H Q => y = .non ∧ Q (.bl (decide (x = .non))) H) := by
  intro pins s σ H x y v u Q I rx ry h
  obtain ⟨rfl,q⟩ := h
  cases ry
  refine is_none_gen (fin_bl I q ?_)
  cases x <;> first
    | (cases rx; rfl)
    | (obtain ⟨t,rfl⟩ := rx; rfl)
theorem nomark (b : Expr) {op : CmpOp} (h : op ≠ .In := by decide) (h2 : op ≠ .NotIn := by decide) : behindInMarks op b = false := by
  have e1 : (op == CmpOp.In) = false := by cases op <;> first | rfl | exact absurd rfl h
  have e2 : (op == CmpOp.NotIn) = false := by cases op <;> first | rfl | exact absurd rfl h2
  cases b <;> simp [behindInMarks,e1,e2]
theorem pe_cmpR {op : CmpOp} {r : R2} (ho : OpR X (compareOp op) r) (ha : PE X a ta) (hb : PE X b tb) (hm : behindInMarks op b = false) : PE X (.Compare a [op] [b] pos) (tOp r ta tb) := by
  intro pins s σ H Q I h
  exact wpAny_Compare1 (binT ha hb I h fun v u s2 x y H2 I2 rx ry q => ho pins s2 σ H2 x y v u Q I2 rx ry q) hm
def tTest (t : TE) : TT := fun σ H Q => t σ H fun x H' => ∃ k,x = .bl k ∧ Q k H'
theorem pt_cmpR {op : CmpOp} {r : R2} (ho : OpR X (compareOp op) r) (ha : PE X a ta) (hb : PE X b tb) (hm : behindInMarks op b = false) : PT X (.Compare a [op] [b] pos) (tTest (tOp r ta tb)) := by
  intro pins s σ H Q I h
  refine wpAny_isTrue_Compare1 (thn (ha pins s σ H _ I h) fun v s1 ⟨x,H1,I1,r1,q1⟩ => thn (hb pins s1 σ H1 _ I1 q1) fun u s2 ⟨y,H2,I2,r2,q2⟩ =>
    thn (ho pins s2 σ H2 x y v u _ I2 r1 r2 q2) fun c s3 ⟨z,H3,I3,r3,k,e,q3⟩ => ?_) hm
  subst e
  cases r3
  exact wpAny_truthy_bool ⟨H3,I3,q3⟩
def tChain (r r' : R2) (ta tb tc : TE) : TE := fun σ H Q => ta σ H fun x H1 => tb σ H1 fun y H2 => r x y H2 fun z H3 => ∃ k,z = .bl k ∧
  (if k = true then tc σ H3 fun w' H4 => r' y w' H4 Q else Q (.bl false) H3)
theorem pt_chain {op op' : CmpOp} {r r' : R2} (ho : OpR X (compareOp op) r) (ho' : OpR X (compareOp op') r') (ha : PE X a ta) (hb : PE X b tb) (hc : PE X c tc)
    (hm : lastMarks [op,op'] [b,c] = false := by with_unfolding_all rfl) : PT X (.Compare a [op,op'] [b,c] pos) (tTest (tChain r r' ta tb tc)) := by
  intro pins s σ H Q I h
  refine isTrue_chain (thn (ha pins s σ H _ I h) fun v s1 ⟨x,H1,I1,r1,q1⟩ => test_link (thn (hb pins s1 σ H1 _ I1 q1) fun u s2 ⟨y,H2,I2,r2,q2⟩ =>
    thn (ho pins s2 σ H2 x y v u _ I2 r1 r2 q2) fun d s3 ⟨z,H3,I3,r3,k,e,q3⟩ => ?_)) hm
  subst e
  cases r3
  refine wpAny_truthy_bool ?_
  cases k with
  | false =>
    obtain ⟨k',e',q'⟩ := q3
    cases e'
    exact ite_ff ⟨H3,I3,q'⟩
  | true =>
    refine ite_tt (test_last (thn (hc pins s3 σ H3 _ I3 q3) fun w' s4 ⟨z',H4,I4,r4,q4⟩ => thn (ho' pins s4 σ H4 y z' u w' _ I4 r2 r4 q4) fun d' s5 ⟨z2,H5,I5,r5,k2,e2,q5⟩ => ?_))
    subst e2
    cases r5
    exact wpAny_truthy_bool ⟨H5,I5,q5⟩
theorem line63 : (sizeLine : Nat) < 2 ^ 63 := by rw [sizeLine_eq]; decide
theorem vals1 {x : V} {us : List Value} (r : Vals [x] us) : ∃ u,us = [u] ∧ RelV x u := by
  cases r with
  | cons r1 r2 => cases r2; exact ⟨_,rfl,r1⟩
theorem vals2 {x y : V} {us : List Value} (r : Vals [x,y] us) : ∃ u w',us = [u,w'] ∧ RelV x u ∧ RelV y w' := by
  cases r with
  | cons r1 r2 =>
    cases r2 with
    | cons r3 r4 => cases r4; exact ⟨_,_,rfl,r1,r3⟩
theorem call_abs : CallR X (.builtin "abs") (fun xs H Q => ∃ i,xs = [.int i] ∧ Q (.int (if i < 0 then -i else i)) H) := by
  intro pins s σ H xs us Q I r h
  obtain ⟨i,rfl,q⟩ := h
  obtain ⟨u,rfl,t,rfl⟩ := vals1 r
  exact call_abs_int fun u tk => ⟨.int (if i < 0 then -i else i),H,I.tok _,⟨_,rfl⟩,q⟩
theorem call_max2 (hc : X.calm = true) : CallR X (.builtin "max") (fun xs H Q => ∃ i j,xs = [.int i,.int j] ∧ Q (.int (if j > i then j else i)) H) := by
  intro pins s σ H xs us Q I r h
  obtain ⟨i,j,rfl,q⟩ := h
  obtain ⟨u,w',rfl,⟨t,rfl⟩,⟨t',rfl⟩⟩ := vals2 r
  refine max_two_ints (I.ok.hd hc) fun h' tk k => ⟨_,H,I.kept k,?_,q⟩
  by_cases hj : j > i
  · rw [if_pos hj,if_pos hj]; exact ⟨_,rfl⟩
  · rw [if_neg hj,if_neg hj]; exact ⟨_,rfl⟩
theorem call_min2 (hc : X.calm = true) : CallR X (.builtin "min") (fun xs H Q => ∃ i j,xs = [.int i,.int j] ∧ Q (.int (if j < i then j else i)) H) := by
  intro pins s σ H xs us Q I r h
  obtain ⟨i,j,rfl,q⟩ := h
  obtain ⟨u,w',rfl,⟨t,rfl⟩,⟨t',rfl⟩⟩ := vals2 r
  refine min_two_ints (I.ok.hd hc) fun h' tk k => ⟨_,H,I.kept k,?_,q⟩
  by_cases hj : j < i
  · rw [if_pos hj,if_pos hj]; exact ⟨_,rfl⟩
  · rw [if_neg hj,if_neg hj]; exact ⟨_,rfl⟩
theorem call_int1 : CallR X (.type "int") (fun xs H Q => (∃ i,xs = [.int i] ∧ Q (.int i) H) ∨ ∃ k,xs = [.bl k] ∧ Q (.int (if k then 1 else 0)) H) := by
  intro pins s σ H xs us Q I r h
  rcases h with ⟨i,rfl,q⟩ | ⟨k,rfl,q⟩
  · obtain ⟨u,rfl,t,rfl⟩ := vals1 r
    exact call_int_int ⟨.int i,H,I,⟨_,rfl⟩,q⟩
  · obtain ⟨u,rfl,r1⟩ := vals1 r
    cases r1
    exact call_int_bool ⟨.int (if k then 1 else 0),H,I.tok _,⟨_,rfl⟩,q⟩
end
end L2
namespace L2
open PySem PySem.Spec PyProof.Rows
structure ObjM (h : Heap) (x dx C : Addr) (mA : Str → Option Value) : Prop where
  obj : h.get? x = some (PySem.W.instObj C dx)
  ns : h.Ns1 dx mA
  ne : dx ≠ x
theorem lookIn_ns {h : Heap} {dx : Addr} {mA : Str → Option Value} (n : h.Ns1 dx mA) : ∃ od,h.get? dx = some od ∧ ∀ name,PySem.W.lookIn name od = some (mA name) := by
  obtain ⟨o,es,ep,ho,hd,hk,_,hm⟩ := n
  refine ⟨o,ho,fun name => ?_⟩
  have e := hm name
  unfold nsFind findBy at e
  rw [← Array.find?_toList] at e
  unfold PySem.W.lookIn
  rw [hd]
  dsimp only
  split
  · rename_i y q
    rw [q] at e
    exact congrArg some e
  · rename_i q
    rw [q] at e
    have a : es.toList.any (·.refKey) = false := by
      rw [List.any_eq_false]
      intro y hy
      obtain ⟨z,t,hkey⟩ := hk y (Array.mem_toList_iff.mp hy)
      simp [DictEntry.refKey,hkey]
    have a' : ¬ es.toList.any (·.refKey) = true := by rw [a]; exact Bool.false_ne_true
    rw [if_neg a']
    exact congrArg some e
theorem ObjM.look {h : Heap} {x dx C : Addr} {mA : Str → Option Value} (I : ObjM h x dx C mA) : ∃ od,PySem.W.InstAt h x (PySem.W.instObj C dx) C (some od) ∧ ∀ name,PySem.W.lookIn name od = some (mA name) :=
  let ⟨od,ho,hl⟩ := lookIn_ns I.ns
  ⟨od,⟨I.obj,rfl,rfl,ho⟩,hl⟩
section
variable {prog : Program} {w : World} {A : Around} {E : Value → Shared → Prop} {s : Shared} {K : PySem.W.Frag} {x dx C f : Addr} {mA : Str → Option Value} {name : Str} {v : Value}
theorem get_map {expr : Bool} {Q : Value → Shared → Prop} (X : K.In s.heap) (I : ObjM s.heap x dx C mA) (hg : PySem.W.plainGet K C name = true) (hh : PySem.W.hasDictIn K C = true)
    (ha : PySem.W.findIn K (.ref C) name = some none) (hv : mA name = some v) (hv' : PySem.W.handedIn v = true) (h : Q v { s with toks := s.toks + 1 }) :
    wpAny (model prog w) A (getAttr (.ref x) name expr) Q E s := by
  obtain ⟨od,J,hl⟩ := I.look
  exact PySem.W.get_value X J (PySem.W.plainGet_of hg).1 (PySem.W.findObj_own hh ha rfl (by rw [hl,hv])) hv' h
theorem get_meth {pl : Sem Bool} {Q : Value × List Value → Shared → Prop} (X : K.In s.heap) (I : ObjM s.heap x dx C mA) (hg : PySem.W.plainGet K C name = true)
    (hf : PySem.W.findIn K (.ref C) name = some (some (.ref f))) (ht : PySem.W.isFn K (.ref f) = true) (hv : mA name = none) (h : Q (.ref f,[.ref x]) s) :
    wpAny (model prog w) A (getMethod (.ref x) name pl) Q E s := by
  obtain ⟨od,J,hl⟩ := I.look
  exact PySem.W.method_fn X J (PySem.W.plainGet_of hg).1 (PySem.W.plainGet_of hg).2 hf (beq_iff_eq.mp ht) (by show (PySem.W.lookIn name od).map (·.isSome) = some false; rw [hl,hv]; rfl) h
theorem set_map {ns : List Str} {Q : Unit → Shared → Prop} (X : K.In s.heap) (I : ObjM s.heap x dx C mA)
    (hs : PySem.W.findIn K (.ref C) "__setattr__" = some (some (.builtin "object.__setattr__"))) (hp : PySem.W.plainOver K C = true) (ht : PySem.W.takerIn K C name = some none) (hh : PySem.W.hasDictIn K C = true)
    (hw : PySem.Within mA ns) (hsz : ns.length ≤ sizeLine)
    (h : ∀ h',ObjM h' x dx C (fun y => if y = name then some v else mA y) → Heap.SameBut dx s.heap h' → Q () { s with heap := h',toks := s.toks + 2 }) :
    wpAny (model prog w) A (setAttr (.ref x) name v) Q E s := by
  obtain ⟨od,J,hl⟩ := I.look
  refine PySem.W.set_plain X J hs (PySem.W.osa_open (s := { s with toks := s.toks + 1 }) (r := none) X J hp ht fun b => ?_)
  obtain ⟨cd,hc,hd'⟩ := PySem.W.any_some hh
  have hx : s.heap.get? x = some ⟨.ref C,some dx,.plain,#[]⟩ := I.obj
  refine wpAny_bind (wpAny_pure (wpAny_bind (wpAny_bind (wpAny_loadPart hx (wpAny_bind (PySem.W.Looks.here (s := { s with toks := s.toks + 1 }) (PySem.W.looks_clsIn X hc) ?_))))))
  rw [hd']
  refine wpAny_pure (a := some dx) (wpAny_bind (wpAny_pure (wpAny_bind ?_)))
  refine wpAny_nsSet1 (s := { s with toks := s.toks + 1 }) I.ns fun h' hn2 hs2 => ?_
  obtain ⟨oD,esD,epD,hoD,hdD,hcD⟩ := hn2.count (PySem.Within.cons name v hw)
  refine wpAny_bind (wpAny_lookBehind hoD (by rw [hdD]; exact pastItsLine_dict (Nat.le_trans hcD (by rw [List.length_cons]; omega))) ?_)
  exact wpAny_pure (h _ ⟨(hs2.2 _ (Ne.symm I.ne)).trans I.obj,hn2,I.ne⟩ hs2)
theorem make_map {R : Result → Shared → Prop} {vs : List Value} {kw : List (Str × Value)} (X : K.In s.heap) (hm : PySem.W.makesIn K C = true)
    (hi : PySem.W.findIn K (.ref C) "__init__" = some (some (.ref f))) (hf : PySem.W.typeIn K (.ref f) = some (.type "function"))
    (h : codeAny (model prog w) (A.under (.builtin "type.__call__" ⟨.ref C :: vs,kw⟩)) (.call (.ref f) ⟨.ref (s.heap.objs.size + 1) :: vs,kw⟩) (PySem.W.InitBack (s.heap.objs.size + 1) R)
      { s with heap := (s.heap.push PySem.W.emptyDict).push (PySem.W.instObj C s.heap.objs.size) }) :
    codeAny (model prog w) A (.call (.ref C) ⟨vs,kw⟩) R s := by
  obtain ⟨hh,g,d,t,os⟩ := s
  exact PySem.W.make_core (PySem.W.makes_of X hm) (PySem.W.looks_findIn X hi) (fun self => PySem.W.bind_fn X self hf) (.inl rfl) h
end
def putF (f : Str) (v : V) : List (Str × V) → List (Str × V)
  | [] => [(f,v)]
  | (g,x) :: r => if g = f then (g,v) :: r else (g,x) :: putF f v r
theorem lookup_putF (f g : Str) (v : V) : ∀ fs : List (Str × V),(putF f v fs).lookup g = if g = f then some v else fs.lookup g
  | [] => by
    show List.lookup g [(f,v)] = _
    by_cases h : g = f
    · have hb : (g == f) = true := beq_iff_eq.mpr h
      simp only [List.lookup,hb,if_pos h]
    · have hb : (g == f) = false := beq_eq_false_iff_ne.mpr h
      simp only [List.lookup,hb,if_neg h]
  | (k,x) :: r => by
    have ih := lookup_putF f g v r
    rw [show putF f v ((k,x) :: r) = (if k = f then (k,v) :: r else (k,x) :: putF f v r) from rfl]
    by_cases hk : k = f
    · rw [if_pos hk]
      by_cases h : g = k
      · have hb : (g == k) = true := beq_iff_eq.mpr h
        simp only [List.lookup,hb,if_pos (h.trans hk)]
      · have hb : (g == k) = false := beq_eq_false_iff_ne.mpr h
        simp only [List.lookup,hb,if_neg (fun e : g = f => h (e.trans hk.symm))]
    · rw [if_neg hk]
      by_cases h : g = k
      · have hb : (g == k) = true := beq_iff_eq.mpr h
        simp only [List.lookup,hb,if_neg (fun e : g = f => hk (h.symm.trans e))]
      · have hb : (g == k) = false := beq_eq_false_iff_ne.mpr h
        simp only [List.lookup,hb]
        exact ih
theorem keys_putF (f : Str) (v : V) : ∀ fs : List (Str × V),f ∈ (putF f v fs).map (·.1) ∧ ∀ g,g ∈ fs.map (·.1) → g ∈ (putF f v fs).map (·.1)
  | [] => ⟨by simp [putF],fun g h => by simp at h⟩
  | (k,x) :: r => by
    obtain ⟨i1,i2⟩ := keys_putF f v r
    rw [show putF f v ((k,x) :: r) = (if k = f then (k,v) :: r else (k,x) :: putF f v r) from rfl]
    by_cases hk : k = f
    · rw [if_pos hk]
      subst hk
      exact ⟨by simp,fun g h => by simpa using h⟩
    · rw [if_neg hk]
      refine ⟨?_,fun g h => ?_⟩
      · rw [List.map_cons]
        exact List.mem_cons_of_mem _ i1
      · rw [List.map_cons] at h ⊢
        rcases List.mem_cons.mp h with e | e
        · exact List.mem_cons.mpr (.inl e)
        · exact List.mem_cons_of_mem _ (i2 g e)
theorem length_putF (f : Str) (v : V) : ∀ fs : List (Str × V),(putF f v fs).length ≤ fs.length + 1
  | [] => by simp [putF]
  | (k,x) :: r => by
    have ih := length_putF f v r
    rw [show putF f v ((k,x) :: r) = (if k = f then (k,v) :: r else (k,x) :: putF f v r) from rfl]
    by_cases hk : k = f
    · rw [if_pos hk,List.length_cons,List.length_cons]; omega
    · rw [if_neg hk,List.length_cons,List.length_cons]; omega
theorem RelO.some_of {v : V} {o : Option Value} (r : RelO (some v) o) : ∃ u,o = some u ∧ RelV v u := by
  cases o with
  | none => exact (show False from r).elim
  | some u => exact ⟨u,rfl,r⟩
theorem RelO.none_of {o : Option Value} (r : RelO none o) : o = none := by
  cases o with
  | none => rfl
  | some u => exact (show False from r).elim
theorem handed_of {v : V} {u : Value} (r : RelV v u) : PySem.W.handedIn u = true := by
  cases v with
  | non => cases (show u = Value.none from r); rfl
  | bl b => cases (show u = Value.bool b from r); rfl
  | int i => obtain ⟨t,e⟩ := (show ∃ t,u = Value.int i t from r); cases e; rfl
  | str x => obtain ⟨t,e⟩ := (show ∃ t,u = Value.str x t from r); cases e; rfl
  | byt b => obtain ⟨t,e⟩ := (show ∃ t,u = Value.bytes b t from r); cases e; rfl
  | flt b => obtain ⟨t,e⟩ := (show ∃ t,u = Value.float b t from r); cases e; rfl
  | ref a => cases (show u = Value.ref a from r); rfl
  | ty n => cases (show u = Value.type n from r); rfl
section
variable {P : Program} {w : World} {H H' : Hp} {h h' : Heap} {a C dx : Addr} {fs fs' : List (Str × V)}
theorem ins_get (hok : HOk P w H h) (e : H a = some (.ins C dx fs)) : ∃ mA,ObjM h a dx C mA ∧ (∀ f,RelO (fs.lookup f) (mA f)) ∧ PySem.Within mA (fs.map (·.1)) ∧ fs.length ≤ 1000 ∧ H dx = some (.own a) := by
  obtain ⟨d,z,ne,ob,mA,n,r,q⟩ := (show ObjOk P w H h a (.ins C dx fs) from hok a _ e)
  exact ⟨mA,⟨ob,n,ne⟩,r,q,z,d⟩
end
structure Cls (K : PySem.W.Frag) (C : Addr) : Prop where
  pg : PySem.W.plainGet K C Str.empty = true
  hd : PySem.W.hasDictIn K C = true
  po : PySem.W.plainOver K C = true
  sa : PySem.W.findIn K (.ref C) "__setattr__" = some (some (.builtin "object.__setattr__"))
theorem Cls.get {K : PySem.W.Frag} {C : Addr} (c : Cls K C) (f : Str) : PySem.W.plainGet K C f = true := c.pg
def NoAttr (K : PySem.W.Frag) (C : Addr) (f : Str) : Prop := PySem.W.findIn K (.ref C) f = some none
theorem NoAttr.taker {K : PySem.W.Frag} {C : Addr} {f : Str} (n : NoAttr K C f) : PySem.W.takerIn K C f = some none := by
  unfold PySem.W.takerIn
  rw [show PySem.W.findIn K (.ref C) f = some none from n]
  rfl
structure Con (K : PySem.W.Frag) (C : Addr) (f : Str) (v : V) (u : Value) : Prop where
  at_ : PySem.W.findIn K (.ref C) f = some (some u)
  rel : RelV v u
  get : PySem.W.specialIn K u "__get__" = some none
  cp : PySem.W.copiedNames.contains f = false
structure Meth (K : PySem.W.Frag) (C : Addr) (m : Str) (f : Addr) : Prop where
  at_ : PySem.W.findIn K (.ref C) m = some (some (.ref f))
  fn : PySem.W.isFn K (.ref f) = true
  kp : PySem.W.keepIn K (.ref f) = true
section
variable {X : Cx} {pins : List (Addr × Obj)} {σ : St} {H : Hp} {s : Shared} {a C dx : Addr} {fs : List (Str × V)} {f : Str} {v : V} {A : Around} {E : Value → Shared → Prop}
theorem getattr_ok {b : Bool} {Q : Value → Shared → Prop} (I : Inv X pins σ H s) (e : H a = some (.ins C dx fs)) (c : Cls X.K C) (n : NoAttr X.K C f) (l : fs.lookup f = some v)
    (h : ∀ u s',Inv X pins σ H s' → RelV v u → Q u s') : wpAny (model X.prog X.w) A (getAttr (.ref a) f b) Q E s := by
  obtain ⟨mA,O,r,_,_,_⟩ := ins_get I.hok e
  obtain ⟨u,hu,ru⟩ := RelO.some_of (v := v) (o := mA f) (by rw [← l]; exact r f)
  exact get_map I.kIn O (c.get f) c.hd n hu (handed_of ru) (h u _ (I.tok _) ru)
theorem getmeth_ok {m : Str} {g : Addr} {pl : Sem Bool} {Q : Value × List Value → Shared → Prop} (I : Inv X pins σ H s) (e : H a = some (.ins C dx fs)) (c : Cls X.K C) (k : Meth X.K C m g) (l : fs.lookup m = none)
    (h : Q (.ref g,[.ref a]) s) : wpAny (model X.prog X.w) A (getMethod (.ref a) m pl) Q E s := by
  obtain ⟨mA,O,r,_,_,_⟩ := ins_get I.hok e
  have hn : mA m = none := RelO.none_of (by rw [← l]; exact r m)
  exact get_meth I.kIn O (c.get m) k.at_ k.fn hn h
theorem setattr_ok {y : V} {u : Value} {Q : Unit → Shared → Prop} (I : Inv X pins σ H s) (e : H a = some (.ins C dx fs)) (c : Cls X.K C) (n : NoAttr X.K C f) (hl : fs.length < 1000) (ry : RelV y u)
    (h : ∀ s',Inv X pins σ (upd H a (.ins C dx (putF f y fs))) s' → Q () s') : wpAny (model X.prog X.w) A (setAttr (.ref a) f u) Q E s := by
  obtain ⟨mA,O,r,wi,_,ho⟩ := ins_get I.hok e
  have hz : (fs.map (·.1)).length ≤ sizeLine := by rw [List.length_map,sizeLine_eq]; omega
  refine set_map I.kIn O c.sa c.po n.taker c.hd wi hz fun h' O' sb => h _ ?_
  have hd : ∃ o,h'.get? dx = some o := let ⟨o,_,_,e',_⟩ := O'.ns; ⟨o,e'⟩
  refine I.write (x := a) (e := dx) (by rw [e]; exact True.intro) (.inr ho) (fun b q hb z => (sb.2 b hb).trans z) hd ?_
  refine ⟨by rw [upd_ne O.ne]; exact ho,?_,O.ne,O'.obj,_,O'.ns,fun g => ?_,fun g hg => ?_⟩
  · have := length_putF f y fs; omega
  · show RelO ((putF f y fs).lookup g) (if g = f then some u else mA g)
    rw [lookup_putF]
    by_cases q : g = f
    · rw [if_pos q,if_pos q]; exact ry
    · rw [if_neg q,if_neg q]; exact r g
  · by_cases q : g = f
    · rw [q]; exact (keys_putF f y fs).1
    · refine (keys_putF f y fs).2 g (wi g fun z => hg ?_)
      show (if g = f then some u else mA g) = none
      rw [if_neg q]; exact z
theorem Inv.made (I : Inv X pins σ H s) : Inv X pins σ (upd (upd H s.heap.objs.size (.own (s.heap.objs.size + 1))) (s.heap.objs.size + 1) (.ins C s.heap.objs.size []))
    { s with heap := (s.heap.push PySem.W.emptyDict).push (PySem.W.instObj C s.heap.objs.size) } := by
  have e1 : (s.heap.push PySem.W.emptyDict).get? s.heap.objs.size = some PySem.W.emptyDict := Heap.get?_push_size s.heap rfl
  have e2 : ((s.heap.push PySem.W.emptyDict).push (PySem.W.instObj C s.heap.objs.size)).get? (s.heap.objs.size + 1) = some (PySem.W.instObj C s.heap.objs.size) := by
    have := Heap.get?_push_size (s.heap.push PySem.W.emptyDict) (o := PySem.W.instObj C s.heap.objs.size) rfl
    rwa [Heap.size_push] at this
  have e3 : (s.heap.push PySem.W.emptyDict).Ns s.heap.objs.size (fun _ => none) := ⟨PySem.W.emptyDict,#[],_,e1,rfl,(fun e he => absurd he (by simp)),fun _ => rfl⟩
  have I1 := I.laid (a := s.heap.objs.size) (o := .own (s.heap.objs.size + 1)) (h' := s.heap.push PySem.W.emptyDict) (t' := s.toks) (fun b u q => Heap.get?_push_of_some _ q) (Nat.le_refl _) ⟨_,e1⟩
  refine I1.laid (a := s.heap.objs.size + 1) (o := .ins C s.heap.objs.size []) (t' := s.toks) (fun b u q => Heap.get?_push_of_some _ q) (Nat.le_of_eq (Heap.size_push _ _)) ?_
  have ne : s.heap.objs.size ≠ s.heap.objs.size + 1 := Nat.ne_of_lt (Nat.lt_succ_self _)
  refine ⟨by rw [upd_ne ne,upd_same],Nat.zero_le _,ne,e2,fun _ => none,(Heap.Ns1.of_empty e3).at fun o q => Heap.get?_push_of_some _ q,fun _ => True.intro,fun y hy => absurd rfl hy⟩
theorem attr_of {prog : Program} {w : World} {env : Env} {e : Expr} {f : Str} {pos : Pos} {s : Shared} {Q : Value → Shared → Prop} (hb : attributeBase e f env (eval e env) = eval e env)
    (h : wpAny (model prog w) A (eval e env) (fun o s₁ => wpAny (model prog w) A (getAttr o f true) Q E s₁) E s) : wpAny (model prog w) A (eval (.Attribute e f pos) env) Q E s :=
  Attribute_any_ h (by rw [arm_eval_Attribute,hb])
end
def tFld (K : PySem.W.Frag) (ta : TE) (f : Str) : TE := fun σ H Q => ta σ H fun x H1 => ∃ a C dx fs v,x = .ref a ∧ H1 a = some (.ins C dx fs) ∧ Cls K C ∧ NoAttr K C f ∧ fs.lookup f = some v ∧ Q v H1
def sFld (K : PySem.W.Frag) (ta tv : TE) (f : Str) : TS := fun D σ H => tv σ H fun y H1 => ta σ H1 fun x H2 => ∃ a C dx fs,x = .ref a ∧ H2 a = some (.ins C dx fs) ∧ Cls K C ∧ NoAttr K C f ∧ fs.length < 1000 ∧
  D.nx σ (upd H2 a (.ins C dx (putF f y fs)))
section
variable {X : Cx} {o e value : Expr} {f : Str} {pos pos' tpos : Pos} {ta tv : TE}
theorem pe_fld (he : PE X e ta) (hb : attributeBase e f X.env (eval e X.env) = eval e X.env) : PE X (.Attribute e f pos) (tFld X.K ta f) := by
  intro pins s σ H Q I h
  refine attr_of hb (thn (he pins s σ H _ I h) fun u s1 ⟨x,H1,I1,rx,a,C,dx,fs,v,ex,ea,c,n,l,q⟩ => ?_)
  subst ex
  obtain rfl : u = Value.ref a := rx
  exact getattr_ok I1 ea c n l fun u' s2 I2 ru => ⟨v,H1,I2,ru,q⟩
theorem ps_fld (ha : PE X o ta) (hv : PE X value tv) (hs : swapsWith value (some (.Attribute o f pos')) pos.line X.env = pure false) : PS X (.Assign [.Attribute o f pos'] value pos) (sFld X.K ta tv f) := by
  intro pins s σ H D I h
  refine plainObj_wpAny_Assign_Attribute (thn (hv pins s σ H _ I h) fun u s1 ⟨y,H1,I1,ry,q⟩ => thn (ha pins s1 σ H1 _ I1 q) fun ov s2 ⟨x,H2,I2,rx,a,C,dx,fs,ex,ea,c,n,l,q2⟩ => ?_) hs
  subst ex
  obtain rfl : ov = Value.ref a := rx
  exact setattr_ok I2 ea c n l ry fun s3 I3 => ⟨σ,_,I3,q2⟩
theorem methcall_of {pl : Sem Bool} {m : Str} {apos : Pos} {args : List Expr} {pins : List (Addr × Obj)} {s : Shared} {σ : St} {H : Hp} {Q : Value → Shared → Prop} {te : TE} (he : PE X e te) (I : Inv X pins σ H s)
    (h : te σ H fun x H1 => ∃ a C dx fs g,x = .ref a ∧ H1 a = some (.ins C dx fs) ∧ Cls X.K C ∧ Meth X.K C m g ∧ fs.lookup m = none ∧
      ∀ s1,Inv X pins σ H1 s1 → wpAny (model X.prog X.w) X.A (callWith pos (.ref g) [.ref a] (backTo pos (starEach args X.env)) (backToKw pos (keywordEach [] X.env))) Q X.xe s1)
    (ht : eval (.Call (.Attribute e m apos) args [] pos) X.env = (do
      let ov ← eval e X.env
      standAt apos.atName
      let (f,first) ← holding [ov] (getMethod ov m pl)
      callWith pos f first (backTo pos (starEach args X.env)) (backToKw pos (keywordEach [] X.env)))) :
    wpAny (model X.prog X.w) X.A (eval (.Call (.Attribute e m apos) args [] pos) X.env) Q X.xe s := by
  refine PySem.W.methodCall_KW (pl := pl) (thn (he pins s σ H _ I h) fun u s1 ⟨x,H1,I1,rx,a,C,dx,fs,g,ex,ea,c,k,l,q⟩ => ?_) ht
  subst ex
  obtain rfl : u = Value.ref a := rx
  exact getmeth_ok I1 ea c k l (q s1 I1)
end
section
variable {X : Cx} {pins : List (Addr × Obj)} {σ : St} {H : Hp} {s : Shared} {A : Around} {E : Value → Shared → Prop} {Q : Value → Shared → Prop} {c : Value} {b : Bool}
inductive TyOf (K : PySem.W.Frag) (H : Hp) : V → Value → Prop where
  | non : TyOf K H .non (.type "NoneType")
  | bl (x : Bool) : TyOf K H (.bl x) (.type "bool")
  | int (i : Int) : TyOf K H (.int i) (.type "int")
  | str (x : Str) : TyOf K H (.str x) (.type "str")
  | flt (x : UInt64) : TyOf K H (.flt x) (.type "float")
  | lst {a : Addr} {xs : List V} (e : H a = some (.lst xs)) : TyOf K H (.ref a) (.type "list")
  | frz {a : Addr} {o : Obj} {xs : List V} (e : H a = some (.frz o (.lst xs))) : TyOf K H (.ref a) (.type "list")
  | tup {a : Addr} {xs : List V} (e : H a = some (.tup xs)) : TyOf K H (.ref a) (.type "tuple")
  | dK {a : Addr} {kvs : List (Key × V)} (e : H a = some (.dK kvs)) : TyOf K H (.ref a) (.type "dict")
  | dT {a : Addr} {kvs : List (List Key × V)} (e : H a = some (.dT kvs)) : TyOf K H (.ref a) (.type "dict")
  | ins {a C dx : Addr} {fs : List (Str × V)} (e : H a = some (.ins C dx fs)) (cl : Cls K C) (ha : PySem.W.findIn K (.ref C) "__class__" = some (some (.builtin "object.__class__")))
      (hn : PySem.W.specialIn K (.builtin "object.__class__") "__get__" = some (some (.builtin "getset_descriptor.__get__"))) (htk : PySem.W.takesIn K (.builtin "object.__class__") = some true)
      (hm : PySem.W.mroIn K C (.type "object") = some true) : TyOf K H (.ref a) (.ref C)
theorem isinst_ok {x : V} {u t : Value} (I : Inv X pins σ H s) (rx : RelV x u) (ty : TyOf X.K H x t) (e : PySem.W.kitOne X.K t c = some b) (h : ∀ tk,Q (.bool b) { s with toks := tk }) :
    wpAny (model X.prog X.w) A (call (.builtin "isinstance") [u,c]) Q E s := by
  cases ty with
  | non => cases (show u = Value.none from rx); exact PySem.W.kia_one PySem.W.kitx_none I.kIn True.intro e (fun z => nomatch z) h
  | bl y => cases (show u = Value.bool y from rx); exact PySem.W.kia_one PySem.W.kitx_bool I.kIn True.intro e (fun z => nomatch z) h
  | int i => obtain ⟨t,q⟩ := (show ∃ t,u = Value.int i t from rx); cases q; exact PySem.W.kia_one PySem.W.kitx_int I.kIn True.intro e (fun z => nomatch z) h
  | str y => obtain ⟨t,q⟩ := (show ∃ t,u = Value.str y t from rx); cases q; exact PySem.W.kia_one PySem.W.kitx_str I.kIn True.intro e (fun z => nomatch z) h
  | flt y => obtain ⟨t,q⟩ := (show ∃ t,u = Value.float y t from rx); cases q; exact PySem.W.kia_one PySem.W.kitx_float I.kIn True.intro e (fun z => nomatch z) h
  | @lst a xs ea =>
    cases (show u = Value.ref a from rx)
    obtain ⟨_,_,n,_,h1⟩ := (show ObjOk X.prog X.w H s.heap a (.lst xs) from I.hok a _ ea)
    exact PySem.W.kia_one PySem.W.kitx_list I.kIn ⟨_,h1,rfl⟩ e (fun z => nomatch z) h
  | @frz a ob xs ea =>
    cases (show u = Value.ref a from rx)
    obtain ⟨_,_,_,n,_,h1⟩ := (show ObjOk X.prog X.w H s.heap a (.frz ob (.lst xs)) from I.hok a _ ea)
    exact PySem.W.kia_one PySem.W.kitx_list I.kIn ⟨_,h1,rfl⟩ e (fun z => nomatch z) h
  | @tup a xs ea =>
    cases (show u = Value.ref a from rx)
    obtain ⟨_,_,_,p⟩ := (show ObjOk X.prog X.w H s.heap a (.tup xs) from I.hok a _ ea)
    obtain ⟨o,h1,h2,_⟩ := p
    exact PySem.W.kia_one PySem.W.kitx_tuple I.kIn ⟨o,h1,h2⟩ e (fun z => nomatch z) h
  | @dK a kvs ea =>
    cases (show u = Value.ref a from rx)
    obtain ⟨_,_,vs,_,p⟩ := (show ObjOk X.prog X.w H s.heap a (.dK kvs) from I.hok a _ ea)
    obtain ⟨o,es,ep,h1,h2,_⟩ := p
    exact PySem.W.kia_one PySem.W.kitx_dict I.kIn ⟨o,h1,h2.1⟩ e (fun z => nomatch z) h
  | @dT a kvs ea =>
    cases (show u = Value.ref a from rx)
    obtain ⟨_,_,xs,_,o,es,ep,h1,h2,_⟩ := (show ObjOk X.prog X.w H s.heap a (.dT kvs) from I.hok a _ ea)
    exact PySem.W.kia_one PySem.W.kitx_dict I.kIn ⟨o,h1,h2.1⟩ e (fun z => nomatch z) h
  | @ins a C dx fs ea cl ha hn htk hm =>
    cases (show u = Value.ref a from rx)
    obtain ⟨mA,O,_⟩ := ins_get I.hok ea
    obtain ⟨od,J,_⟩ := O.look
    exact PySem.W.kia_one (PySem.W.kitx_own (cl.get _) cl.hd ha hn htk hm) I.kIn J e (fun z => nomatch z) h
end
end L2
namespace L2
open PySem PySem.Spec PyProof.Rows
structure Room (k : Nat) (A : Around) : Prop where
  hd : A.handled = none
  dp : A.depth + 3 * k + 5 < recursionLimit
  un : A.units + 16 * k + 200 < cLine
  gd : A.guards = some []
theorem Room.mono {j k : Nat} {A : Around} (r : Room k A) (h : j ≤ k) : Room j A := ⟨r.hd,by have := r.dp; omega,by have := r.un; omega,r.gd⟩
theorem Room.deeper {k : Nat} {A : Around} (r : Room (k + 1) A) (env : Env) : Room k (A.deeper env) :=
  ⟨r.hd,by have := r.dp; show A.depth + 1 + 3 * k + 5 < _; omega,by have := r.un; show A.units + 3 + 16 * k + 200 < _; omega,r.gd⟩
theorem make_depth {A : Around} {C : Addr} {us : List Value} {kw : List (Str × Value)} : (A.under (.builtin "type.__call__" ⟨.ref C :: us,kw⟩)).depth = A.depth + 1 := by
  first | rfl | simp [Around.under,Code.weight,Code.isCreation,Code.isGuard,Code.isCaller,Code.frames,Code.isFrame,guardIds]
theorem make_units {A : Around} {C : Addr} {us : List Value} {kw : List (Str × Value)} : (A.under (.builtin "type.__call__" ⟨.ref C :: us,kw⟩)).units = A.units + 1 := by
  first | rfl | simp [Around.under,Code.cUnits,Code.frames,Code.isFrame]
theorem make_guards {A : Around} {C : Addr} {us : List Value} {kw : List (Str × Value)} : (A.under (.builtin "type.__call__" ⟨.ref C :: us,kw⟩)).guards = A.guards := by
  have e : Code.guards (.builtin "type.__call__" ⟨.ref C :: us,kw⟩) = [] := by
    have : (Code.builtin "type.__call__" ⟨.ref C :: us,kw⟩).isGuard = false := by show guardIds.contains "type.__call__" = false; decide +kernel
    simp [Code.guards,this]
  unfold Around.under
  dsimp only
  rw [e]
  rfl
theorem Room.make {k : Nat} {A : Around} (r : Room (k + 1) A) (C : Addr) (us : List Value) (kw : List (Str × Value)) : Room k (A.under (.builtin "type.__call__" ⟨.ref C :: us,kw⟩)) :=
  ⟨r.hd,by have := r.dp; rw [make_depth]; omega,by have := r.un; rw [make_units]; omega,by rw [make_guards]; exact r.gd⟩
theorem Room.depth {k : Nat} {A : Around} (r : Room k A) : A.depth < recursionLimit := by have := r.dp; omega
theorem Room.units {k : Nat} {A : Around} (r : Room k A) : A.units + 64 < cLine := by have := r.un; omega
def tNil : TA := fun _ H Q => Q [] H
def tCons (ta : TE) (tr : TA) : TA := fun σ H Q => ta σ H fun x H1 => tr σ H1 fun xs H2 => Q (x :: xs) H2
section
variable {X : Cx} {e : Expr} {es : List Expr} {te : TE} {t : TA} {pos : Pos}
theorem pa_nil : PA X [] tNil := fun _ _ _ _ H Q I h => Calls.spliced_nil ⟨[],H,I,.nil,h⟩
theorem pa_cons (ha : PE X e te) (hr : PA X es t) (hs : starEach (e :: es) X.env = (false,eval e X.env) :: starEach es X.env := by rfl) : PA X (e :: es) (tCons te t) := by
  intro pos pins s σ H Q I h
  rw [hs]
  show wpAny _ _ (spliced ((false,eval e X.env) :: backTo pos (starEach es X.env))) _ _ s
  refine Calls.spliced_cons (thn (ha pins s σ H _ I h) fun u s1 ⟨x,H1,I1,r1,q1⟩ => ?_)
  exact thn (hr pos pins s1 σ H1 _ I1 q1) fun us s2 ⟨xs,H2,I2,r2,q2⟩ => ⟨x :: xs,H2,I2,.cons r1 r2,q2⟩
def tTup (t : TA) : TE := fun σ H Q => t σ H fun xs H1 => xs.length ≤ sizeLine ∧ ∀ p,H1 p = none → Q (.ref p) (upd H1 p (.tup xs))
def tLst (t : TA) : TE := fun σ H Q => t σ H fun xs H1 => xs.length ≤ sizeLine ∧ ∀ p,H1 p = none → Q (.ref p) (upd H1 p (.lst xs))
theorem pe_tup {x1} (h : PA X es t) : PE X (.Tuple es x1 pos) (tTup t) := by
  intro pins s σ H Q I hq
  refine wpAny_Tuple_spliced (thn (h pos pins s σ H _ I hq) fun us s1 ⟨xs,H1,I1,r,z,q⟩ => ⟨by rw [← r.length]; exact z,?_⟩)
  have hf : H1 s1.heap.objs.size = none := I1.hok.fresh (Nat.le_refl _)
  refine ⟨.ref s1.heap.objs.size,upd H1 s1.heap.objs.size (.tup xs),I1.laid (t' := s1.toks) (fun b u e => Heap.get?_push_of_some _ e) (Nat.le_refl _) ?_,rfl,q _ hf⟩
  exact ⟨z,us,r,⟨_,Heap.get?_push_size _ rfl,rfl,_,rfl⟩⟩
theorem pe_lst (h : PA X es t) : PE X (.List es pos) (tLst t) := by
  intro pins s σ H Q I hq
  refine wpAny_List_spliced (thn (h pos pins s σ H _ I hq) fun us s1 ⟨xs,H1,I1,r,z,q⟩ => ⟨by rw [← r.length]; exact z,?_⟩)
  have hf : H1 s1.heap.objs.size = none := I1.hok.fresh (Nat.le_refl _)
  refine ⟨.ref s1.heap.objs.size,upd H1 s1.heap.objs.size (.lst xs),I1.laid (t' := s1.toks) (fun b u e => Heap.get?_push_of_some _ e) (Nat.le_refl _) ?_,rfl,q _ hf⟩
  exact ⟨z,us,0,r,Heap.get?_push_size _ rfl⟩
end
abbrev Sp := List V → Hp → VK → XK → Prop
abbrev CXT := List Env → Hp → Shared → XK → Value → Shared → Prop
structure Env0 (P : Program) (w : World) (K : PySem.W.Frag) (mg : Str → Option Value) (base : Heap) (A : Around) (outer : List Env) (s : Shared) (H : Hp) : Prop where
  frames : A.frames = some outer
  mod : Mod K mg base
  bs : ∀ b o,base.get? b = some o → s.heap.get? b = some o ∧ H b = none
  bsz : base.objs.size ≤ s.heap.objs.size
  funs : s.heap.FunFrames base outer
  frf : ∀ b ∈ frs outer,H b = none
  hok : HOk P w H s.heap
  bare : AllBare s.gens
def CE (outer : List Env) (P : Program) (w : World) (H : Hp) (s : Shared) (Q : VK) (u : Value) (s' : Shared) : Prop :=
  ∃ v H',s'.os = s.os ∧ AllBare s'.gens ∧ Un (frs outer) [] H H' s.heap s'.heap ∧ HOk P w H' s'.heap ∧ RelV v u ∧ Q v H'
def CR (CX : CXT) (outer : List Env) (P : Program) (w : World) (H : Hp) (s : Shared) (Q : VK) (E : XK) (r : Result) (s' : Shared) : Prop :=
  match r with
  | .ok (.ret u) => CE outer P w H s Q u s'
  | .ok _ => False
  | .error e => CX outer H s E e s'
structure FnOk (P : Program) (w : World) (K : PySem.W.Frag) (mg : Str → Option Value) (base : Heap) (CX : CXT) (k : Nat) (f : Addr) (fd : FuncData) (ps : List Str) (sp : Sp) : Prop where
  len : ∀ vs H Q E,sp vs H Q E → vs.length = ps.length
  run : ∀ (A : Around) (outer : List Env) (s : Shared) (H : Hp) (args : Args) (us : List Value) (vs : List V) (Q : VK) (E : XK),Room k A → Env0 P w K mg base A outer s H → BindsTo s fd args (ps.zip us) → Vals vs us → sp vs H Q E →
    codeAny (model P w) A (.call (.ref f) args) (CR CX outer P w H s Q E) s
theorem Env0.make {P : Program} {w : World} {K : PySem.W.Frag} {mg : Str → Option Value} {base : Heap} {A : Around} {outer : List Env} {s : Shared} {H : Hp} (e : Env0 P w K mg base A outer s H) (C : Addr) (us : List Value) (kw : List (Str × Value)) :
    Env0 P w K mg base (A.under (.builtin "type.__call__" ⟨.ref C :: us,kw⟩)) outer s H := ⟨by first | exact e.frames | (simpa [Around.under,Code.envs,Code.isFrame,pushEnvs] using e.frames),e.mod,e.bs,e.bsz,e.funs,e.frf,e.hok,e.bare⟩
section
variable {X : Cx} {pins : List (Addr × Obj)} {σ : St} {H : Hp} {s s' : Shared}
theorem Inv.env0 (I : Inv X pins σ H s) : Env0 X.prog X.w X.K X.mg X.base X.A X.stack s H :=
  ⟨I.ok.frames,I.ok.mod,I.bs,Nat.le_trans I.ok.bsz I.sz,I.stack,I.stkFree,I.hok,I.bare⟩
theorem Inv.after {Q : VK} {u : Value} (I : Inv X pins σ H s) (h : CE X.stack X.prog X.w H s Q u s') : EP X pins σ Q u s' := by
  obtain ⟨v,H',os,bare,un,hok,r,q⟩ := h
  obtain ⟨hh,g,d,t,os'⟩ := s'
  obtain rfl : os' = s.os := os
  exact ⟨v,H',I.call (h' := hh) (g' := g) (d' := d) (t' := t) (ch := []) un hok bare (fun b z => absurd z (by simp)),r,q⟩
end
def tCall (sp : Sp) (dvs : List V) (E : XK) (t : TA) : TE := fun σ H Q => t σ H fun vs H1 => sp (vs ++ dvs) H1 Q E
def tMeth (C : Addr) (m : Str) (sp : Sp) (dvs : List V) (E : XK) (ta : TE) (t : TA) : TE := fun σ H Q => ta σ H fun x H1 => ∃ a dx fs,x = .ref a ∧ H1 a = some (.ins C dx fs) ∧ fs.lookup m = none ∧
  t σ H1 fun vs H2 => sp (x :: (vs ++ dvs)) H2 Q E
def tMake (C : Addr) (sp : Sp) (dvs : List V) (E : XK) (t : TA) : TE := fun σ H Q => t σ H fun vs H1 => ∀ x dx,H1 x = none → H1 dx = none → dx ≠ x →
  sp (.ref x :: (vs ++ dvs)) (upd (upd H1 dx (.own x)) x (.ins C dx [])) (fun v H2 => v = .non ∧ Q (.ref x) H2) E
def Binds (K : PySem.W.Frag) (fd : FuncData) (ps : List Str) (ds : List Value) : Prop :=
  ∀ (s : Shared) (us : List Value),K.In s.heap → (us ++ ds).length = ps.length → BindsTo s fd ⟨us,[]⟩ (ps.zip (us ++ ds))
theorem Binds.all {K : PySem.W.Frag} {fd : FuncData} {ps : List Str} (h : ∀ us : List Value,us.length = ps.length → bindArgs fd ⟨us,[]⟩ = pure (ps.zip us)) : Binds K fd ps [] := fun s us _ hl => by
  rw [List.append_nil] at hl ⊢
  exact .of_eq (h us hl)
def Passes (CX : CXT) (X : Cx) (E : XK) : Prop := ∀ (pins : List (Addr × Obj)) (σ : St) (H : Hp) (s : Shared) (e : Value) (s' : Shared),Inv X pins σ H s → CX X.stack H s E e s' → X.xe e s'
section
variable {X : Cx} {CX : CXT} {k : Nat} {f C : Addr} {fd : FuncData} {ps : List Str} {sp : Sp} {dvs : List V} {ds : List Value} {E : XK} {x m : Str} {p pos apos : Pos} {e o : Expr} {es : List Expr} {ta : TE} {t : TA}
theorem run_fn {pins : List (Addr × Obj)} {σ : St} {H : Hp} {s : Shared} {Q : VK} {us : List Value} {vs : List V} (F : FnOk X.prog X.w X.K X.mg X.base CX k f fd ps sp) (hr : Room k X.A) (hb : Binds X.K fd ps ds) (hd : Vals dvs ds) (hx : Passes CX X E)
    (I : Inv X pins σ H s) (r : Vals vs us) (h : sp (vs ++ dvs) H Q E) : wpAny (model X.prog X.w) X.A (call (.ref f) us) (EP X pins σ Q) X.xe s := by
  have r2 : Vals (vs ++ dvs) (us ++ ds) := r.append hd
  have hl : (us ++ ds).length = ps.length := by rw [← r2.length]; exact F.len _ _ _ _ h
  refine wpAny_call (codeAny_mono (F.run X.A X.stack s H ⟨us,[]⟩ (us ++ ds) (vs ++ dvs) Q E hr I.env0 (hb s us I.kIn hl) r2 h) fun r s' hq => ?_)
  cases r with
  | error e => exact hx pins σ H s e s' I hq
  | ok fl =>
    cases fl with
    | ret u => exact I.after hq
    | next => exact False.elim hq
    | brk => exact False.elim hq
    | cont => exact False.elim hq
theorem pe_call (F : FnOk X.prog X.w X.K X.mg X.base CX k f fd ps sp) (hr : Room k X.A) (hg : Gl X x) (hm : X.mg x = some (.ref f)) (hk : PySem.W.keepIn X.K (.ref f) = true) (hb : Binds X.K fd ps ds) (hd : Vals dvs ds) (hx : Passes CX X E)
    (ha : PA X (e :: es) t) (hdb : (x == ("__debug__" : Str)) = false := by decide) (he : starEach (e :: es) X.env = (false,eval e X.env) :: starEach es X.env := by rfl) (hpl : (backTo pos (starEach es X.env)).any (·.1) = false := by rfl) :
    PE X (.Call (.Name x p) (e :: es) [] pos) (tCall sp dvs E t) := by
  intro pins s σ H Q I h
  refine wpAny_Call_Name_kw (ld_glob I hg hm ?_ hdb)
  refine PySem.W.callWith_K (h₀ := X.base) I.ok.mod.kin hk (thn (ha pos pins s σ H _ I h) fun us s1 ⟨vs,H1,I1,r,q⟩ => ⟨I1.kIn,?_⟩) he hpl
  exact run_fn F hr hb hd hx I1 r q
theorem pe_meth {pl : Sem Bool} (he : PE X o ta) (c : Cls X.K C) (hm : Meth X.K C m f) (F : FnOk X.prog X.w X.K X.mg X.base CX k f fd ps sp) (hr : Room k X.A) (hb : Binds X.K fd ps ds) (hd : Vals dvs ds) (hx : Passes CX X E) (ha : PA X (e :: es) t)
    (hst : starEach (e :: es) X.env = (false,eval e X.env) :: starEach es X.env := by rfl) (hpl : (backTo pos (starEach es X.env)).any (·.1) = false := by rfl)
    (ht : eval (.Call (.Attribute o m apos) (e :: es) [] pos) X.env = (do
      let ov ← eval o X.env
      standAt apos.atName
      let (f,first) ← holding [ov] (getMethod ov m pl)
      callWith pos f first (backTo pos (starEach (e :: es) X.env)) (backToKw pos (keywordEach [] X.env))) := by rfl) :
    PE X (.Call (.Attribute o m apos) (e :: es) [] pos) (tMeth C m sp dvs E ta t) := by
  intro pins s σ H Q I h
  refine PySem.W.methodCall_KW (pl := pl) (thn (he pins s σ H _ I h) fun u s1 ⟨x,H1,I1,rx,a,dx,fs,ex,ea,l,q⟩ => ?_) ht
  subst ex
  obtain rfl : u = Value.ref a := rx
  refine getmeth_ok I1 ea c hm l ?_
  refine PySem.W.callWith_K (first := [.ref a]) (h₀ := X.base) I.ok.mod.kin hm.kp (thn (ha pos pins s1 σ H1 _ I1 q) fun us s2 ⟨vs,H2,I2,r,q2⟩ => ⟨I2.kIn,?_⟩) hst hpl
  exact run_fn (us := .ref a :: us) (vs := .ref a :: vs) F hr hb hd hx I2 (.cons rfl r) q2
theorem pe_meth0 {pl : Sem Bool} (he : PE X o ta) (c : Cls X.K C) (hm : Meth X.K C m f) (F : FnOk X.prog X.w X.K X.mg X.base CX k f fd ps sp) (hr : Room k X.A) (hb : Binds X.K fd ps ds) (hd : Vals dvs ds) (hx : Passes CX X E)
    (ht : eval (.Call (.Attribute o m apos) [] [] pos) X.env = (do
      let ov ← eval o X.env
      standAt apos.atName
      let (f,first) ← holding [ov] (getMethod ov m pl)
      callWith pos f first (backTo pos (starEach [] X.env)) (backToKw pos (keywordEach [] X.env))) := by rfl) :
    PE X (.Call (.Attribute o m apos) [] [] pos) (tMeth C m sp dvs E ta tNil) := by
  intro pins s σ H Q I h
  refine PySem.W.methodCall_KW (pl := pl) (thn (he pins s σ H _ I h) fun u s1 ⟨x,H1,I1,rx,a,dx,fs,ex,ea,l,q⟩ => ?_) ht
  subst ex
  obtain rfl : u = Value.ref a := rx
  refine getmeth_ok I1 ea c hm l ?_
  exact PySem.W.callWith_K0 (first := [.ref a]) I1.kIn hm.kp (run_fn (us := [.ref a]) (vs := [.ref a]) F hr hb hd hx I1 (.cons rfl .nil) q)
structure Mk (K : PySem.W.Frag) (C f : Addr) : Prop where
  makes : PySem.W.makesIn K C = true
  init : PySem.W.findIn K (.ref C) "__init__" = some (some (.ref f))
  fn : PySem.W.isFn K (.ref f) = true
  kp : PySem.W.keepIn K (.ref C) = true
theorem run_make {pins : List (Addr × Obj)} {σ : St} {H : Hp} {s : Shared} {Q : VK} {us : List Value} {vs : List V} (M : Mk X.K C f) (F : FnOk X.prog X.w X.K X.mg X.base CX k f fd ps sp) (hr : Room (k + 1) X.A) (hb : Binds X.K fd ps ds) (hd : Vals dvs ds)
    (hx : Passes CX X E) (I : Inv X pins σ H s) (r : Vals vs us)
    (h : ∀ x dx,H x = none → H dx = none → dx ≠ x → sp (.ref x :: (vs ++ dvs)) (upd (upd H dx (.own x)) x (.ins C dx [])) (fun v H2 => v = .non ∧ Q (.ref x) H2) E) :
    wpAny (model X.prog X.w) X.A (call (.ref C) us) (EP X pins σ Q) X.xe s := by
  have hq := h (s.heap.objs.size + 1) s.heap.objs.size (I.hok.fresh (Nat.le_succ _)) (I.hok.fresh (Nat.le_refl _)) (Nat.ne_of_lt (Nat.lt_succ_self _))
  have I2 := Inv.made (C := C) I
  have r2 : Vals (V.ref (s.heap.objs.size + 1) :: (vs ++ dvs)) (Value.ref (s.heap.objs.size + 1) :: (us ++ ds)) := .cons rfl (r.append hd)
  have hl : (Value.ref (s.heap.objs.size + 1) :: us ++ ds).length = ps.length := by
    have e := r2.length
    rw [F.len _ _ _ _ hq] at e
    exact e.symm
  refine wpAny_call (make_map (f := f) I.kIn M.makes M.init (beq_iff_eq.mp M.fn) (codeAny_mono (F.run _ X.stack _ _ ⟨Value.ref (s.heap.objs.size + 1) :: us,[]⟩ (Value.ref (s.heap.objs.size + 1) :: (us ++ ds)) _ _ E (hr.make C us [])
    (I2.env0.make C us []) (hb _ (Value.ref (s.heap.objs.size + 1) :: us) I2.kIn hl) r2 hq) fun r s' hq' => ?_))
  cases r with
  | error e => exact hx pins σ _ _ e s' I2 hq'
  | ok fl =>
    cases fl with
    | ret u =>
      obtain ⟨v,H',I3,rv,ev,q3⟩ := I2.after hq'
      subst ev
      exact ⟨rv,⟨V.ref (s.heap.objs.size + 1),H',I3,rfl,q3⟩⟩
    | next => exact False.elim hq'
    | brk => exact False.elim hq'
    | cont => exact False.elim hq'
theorem pe_make (M : Mk X.K C f) (F : FnOk X.prog X.w X.K X.mg X.base CX k f fd ps sp) (hr : Room (k + 1) X.A) (hg : Gl X x) (hm : X.mg x = some (.ref C)) (hb : Binds X.K fd ps ds) (hd : Vals dvs ds) (hx : Passes CX X E)
    (ha : PA X (e :: es) t) (hdb : (x == ("__debug__" : Str)) = false := by decide) (he : starEach (e :: es) X.env = (false,eval e X.env) :: starEach es X.env := by rfl) (hpl : (backTo pos (starEach es X.env)).any (·.1) = false := by rfl) :
    PE X (.Call (.Name x p) (e :: es) [] pos) (tMake C sp dvs E t) := by
  intro pins s σ H Q I h
  refine wpAny_Call_Name_kw (ld_glob I hg hm ?_ hdb)
  refine PySem.W.callWith_K (h₀ := X.base) I.ok.mod.kin M.kp (thn (ha pos pins s σ H _ I h) fun us s1 ⟨vs,H1,I1,r,q⟩ => ⟨I1.kIn,?_⟩) he hpl
  exact run_make M F hr hb hd hx I1 r q
end
def PK (X : Cx) (kws : List Keyword) (t : TA) : Prop :=
  ∀ (pos : Pos) (pins : List (Addr × Obj)) (s : Shared) (σ : St) (H : Hp) (Q : List V → Hp → Prop),Inv X pins σ H s → t σ H Q → wpAny (model X.prog X.w) X.A (evalAll ((backToKw pos (keywordEach kws X.env)).map (·.2))) (AP X pins σ Q) X.xe s
section
variable {X : Cx} {CX : CXT} {k : Nat} {f C : Addr} {fd : FuncData} {ps ks : List Str} {sp : Sp} {E : XK} {x m : Str} {p pos apos kpos : Pos} {e o : Expr} {es : List Expr} {kws : List Keyword} {te ta : TE} {t tk : TA} {nm : Option Str}
theorem pk_nil : PK X [] tNil := fun _ _ _ _ H Q I h => wpAny_evalAll_nil ⟨[],H,I,.nil,h⟩
theorem pk_cons (ha : PE X e te) (hr : PK X kws t) : PK X (⟨nm,e,kpos⟩ :: kws) (tCons te t) := by
  intro pos pins s σ H Q I h
  show wpAny _ _ (evalAll ((do let v ← eval e X.env; standAt pos; pure v) :: (backToKw pos (keywordEach kws X.env)).map (·.2))) _ _ s
  refine wpAny_evalAll_cons (wpAny_bind (thn (ha pins s σ H _ I h) fun u s1 ⟨x,H1,I1,r1,q1⟩ => wpAny_bind (wpAny_standAt (wpAny_pure ?_))))
  exact thn (hr pos pins s1 σ H1 _ I1 q1) fun us s2 ⟨xs,H2,I2,r2,q2⟩ => ⟨x :: xs,H2,I2,.cons r1 r2,q2⟩
structure KBinds (K : PySem.W.Frag) (fd : FuncData) (ps ks : List Str) (g : List Value → List Value → List Value) (gV : List V → List V → List V) : Prop where
  to : ∀ (s : Shared) (us ws : List Value),K.In s.heap → (g us ws).length = ps.length → BindsTo s fd ⟨us,ks.zip ws⟩ (ps.zip (g us ws))
  rel : ∀ {vs : List V} {us : List Value} {zs : List V} {ws : List Value},Vals vs us → Vals zs ws → Vals (gV vs zs) (g us ws)
variable {g : List Value → List Value → List Value} {gV : List V → List V → List V}
end
structure FnScope (N P : List Str) (sc : Scope) : Prop where
  kind : sc.kind = .function
  co : sc.isCoroutine = false
  gen : sc.isGenerator = false
  nd : N.Nodup
  pre : N.take P.length = P
  par : ∀ x ∈ P,sc.names.lookup x = some .local ∨ sc.names.lookup x = some .cell
  nofree : ∀ y ∈ sc.names,y.2 ≠ .free
theorem bindL_out {kindOf : Str → Option NameKind} {x : Str} : ∀ {binds : List (Str × Value)} {m : Str → Option Value},(∀ v,(x,v) ∉ binds) → bindL kindOf binds m x = m x
  | [],_,_ => rfl
  | (n,v) :: r,m,h => by
    unfold bindL
    rw [bindL_out fun w hw => h w (List.mem_cons_of_mem _ hw)]
    split
    · have : x ≠ n := by rintro rfl; exact h v List.mem_cons_self
      simp [this]
    · rfl
theorem bindC_out {kindOf : Str → Option NameKind} {x : Str} : ∀ {binds : List (Str × Value)} {m : Str → Option Value},(∀ v,(x,v) ∉ binds) → bindC kindOf binds m x = m x
  | [],_,_ => rfl
  | (n,v) :: r,m,h => by
    unfold bindC
    rw [bindC_out fun w hw => h w (List.mem_cons_of_mem _ hw)]
    split
    · rfl
    · have : x ≠ n := by rintro rfl; exact h v List.mem_cons_self
      simp [this]
theorem bindL_get {kindOf : Str → Option NameKind} {x : Str} {v : Value} : ∀ {P : List Str} {vs : List Value} {i : Nat} {m : Str → Option Value},P.Nodup → P[i]? = some x → vs[i]? = some v → kindOf x = some .local →
    bindL kindOf (P.zip vs) m x = some v
  | [],_,_,_,_,h,_,_ => by simp at h
  | _ :: _,[],_,_,_,_,h,_ => by simp at h
  | p :: P,w :: vs,0,m,nd,h1,h2,hk => by
    simp at h1 h2; subst h1; subst h2
    show bindL kindOf ((p,w) :: P.zip vs) m p = _
    unfold bindL
    rw [bindL_out fun v hv => (List.nodup_cons.mp nd).1 (List.of_mem_zip hv).1,if_pos hk]
    simp
  | p :: P,w :: vs,i + 1,m,nd,h1,h2,hk => by
    show bindL kindOf ((p,w) :: P.zip vs) m x = _
    unfold bindL
    exact bindL_get (i := i) (List.nodup_cons.mp nd).2 (by simpa using h1) (by simpa using h2) hk
theorem bindC_get {kindOf : Str → Option NameKind} {x : Str} {v : Value} : ∀ {P : List Str} {vs : List Value} {i : Nat} {m : Str → Option Value},P.Nodup → P[i]? = some x → vs[i]? = some v → kindOf x ≠ some .local →
    bindC kindOf (P.zip vs) m x = some v
  | [],_,_,_,_,h,_,_ => by simp at h
  | _ :: _,[],_,_,_,_,h,_ => by simp at h
  | p :: P,w :: vs,0,m,nd,h1,h2,hk => by
    simp at h1 h2; subst h1; subst h2
    show bindC kindOf ((p,w) :: P.zip vs) m p = _
    unfold bindC
    rw [bindC_out fun v hv => (List.nodup_cons.mp nd).1 (List.of_mem_zip hv).1,if_neg hk]
    simp
  | p :: P,w :: vs,i + 1,m,nd,h1,h2,hk => by
    show bindC kindOf ((p,w) :: P.zip vs) m x = _
    unfold bindC
    exact bindC_get (i := i) (List.nodup_cons.mp nd).2 (by simpa using h1) (by simpa using h2) hk
def start (N : List Str) (vs : List V) : St := vs.map some ++ List.replicate (N.length - vs.length) none
def cxOf (CX : CXT) (P : Program) (w : World) (K : PySem.W.Frag) (mg : Str → Option Value) (base : Heap) (N : List Str) (qual : Str) (scope : Scope) (f : Addr) (cd : Value) (A : Around) (outer : List Env) (s : Shared) (H : Hp) (E : XK) : Cx where
  prog := P
  w := w
  K := K
  mg := mg
  base := base
  A := A.deeper (envOfC qual scope s.heap.objs.size f cd)
  N := N
  s₀ := s
  H₀ := H
  env := envOfC qual scope s.heap.objs.size f cd
  outer := outer
  stack := envOfC qual scope s.heap.objs.size f cd :: outer
  ex := []
  calm := true
  fn := fun _ => true
  pn := []
  xe := fun e s' => wpAny (model P w) (A.deeper (envOfC qual scope s.heap.objs.size f cd)) (leaving (envOfC qual scope s.heap.objs.size f cd) e) (fun _ s'' => CX outer H s E e s'') (fun e' s'' => CX outer H s E e' s'') s'
theorem cell_has {sc : Scope} {n : Nat} {x : Str} (h : sc.names.lookup x = some .cell) : ∃ c,(cellsFrom n sc.names []).lookup x = some c := by
  have q := PySem.W.cellsFrom_some sc.names n [] (.inl h)
  exact Option.isSome_iff_exists.mp q
theorem inv_start {CX : CXT} {P : Program} {w : World} {K : PySem.W.Frag} {mg : Str → Option Value} {base : Heap} {N ps : List Str} {qual : Str} {scope : Scope} {f : Addr} {cd : Value} {A : Around} {outer : List Env} {s s1 : Shared} {H : Hp} {E : XK} {us : List Value} {vs : List V}
    (S : FnScope N ps scope) (hd : A.handled = none) (e0 : Env0 P w K mg base A outer s H) (hl : vs.length = ps.length) (r : Vals vs us)
    (x : InCallC s s.heap.objs.size (bindL (envOfC qual scope s.heap.objs.size f cd).kindOf (ps.zip us) fun _ => none) (cellsFrom (s.heap.objs.size + 1) scope.names []) (bindC (envOfC qual scope s.heap.objs.size f cd).kindOf (ps.zip us) fun _ => none) s1) :
    Inv (cxOf CX P w K mg base N qual scope f cd A outer s H E) [] (start N vs) H s1 := by
  have hpl : ps.length ≤ N.length := by have := congrArg List.length S.pre; rw [List.length_take] at this; omega
  obtain ⟨h1,tk,rfl,hk⟩ := x.done
  have noA : ∀ b : Addr,b ∉ (cxOf CX P w K mg base N qual scope f cd A outer s H E).ex := fun b z => absurd (show b ∈ ([] : List Addr) from z) (by simp)
  refine ⟨⟨e0.mod,S.kind,rfl,rfl,Nat.le_refl _,fun y z c h1 h2 => ?_,fun y hy => ?_,fun y c _ h => ?_,fun _ => hd,Around.frames_deeper e0.frames,.inr ⟨rfl,rfl⟩,fun b z => absurd z (noA b),e0.bs,e0.bsz,fun b _ _ => noA b,fun b z => absurd z (noA b),e0.funs,e0.frf⟩,
    rfl,e0.bare,Un.kept hk,⟨_,x.toInCall.ns,fun i y v h1 h2 h3 => ?_⟩,fun y c h => ⟨_,x.cell y c h⟩,e0.hok.fresh (Nat.le_refl _),fun y c h => ?_,fun p hp => absurd (show p ∈ ([] : List (Addr × Obj)) from hp) (by simp),e0.hok.kept hk,?_⟩
  · exact name_of_addr x.apart (PySem.mem_of_lookup h1) (PySem.mem_of_lookup h2)
  · have hy : scope.names.lookup y = some .cell ∨ scope.names.lookup y = some .free := hy
    rcases hy with hy | hy
    · exact cell_has hy
    · exact absurd rfl (S.nofree _ (PySem.mem_of_lookup hy))
  · exact Nat.le_of_lt (x.above y c (PySem.mem_of_lookup h))
  · have hi : i < vs.length := by
      unfold start at h2
      by_cases hi : i < vs.length
      · exact hi
      · rw [List.getElem?_append_right (by simpa using hi)] at h2
        rw [List.getElem?_replicate] at h2
        split at h2 <;> cases h2
    have ha : vs[i]? = some v := by
      unfold start at h2
      rw [List.getElem?_append_left (by simpa using hi),List.getElem?_map] at h2
      cases e : vs[i]? with
      | none => rw [e] at h2; cases h2
      | some a => rw [e] at h2; cases h2; rfl
    obtain ⟨u,hu,rv⟩ := r.get ha
    have hp : ps[i]? = some y := by
      rw [← S.pre,List.getElem?_take_of_lt (by omega)]; exact h1
    have ndP : ps.Nodup := by rw [← S.pre]; exact S.nd.sublist (List.take_sublist _ _)
    refine ⟨u,rv,?_⟩
    rcases S.par y (List.mem_of_getElem? hp) with k | k
    · exact .inl ⟨k,bindL_get ndP hp hu k⟩
    · obtain ⟨c,e⟩ := cell_has (n := s.heap.objs.size + 1) k
      refine .inr ⟨.inl k,c,e,?_⟩
      have q := x.cell y c e
      rw [bindC_get ndP hp hu (by show scope.names.lookup y ≠ _; rw [k]; decide)] at q
      exact q
  · exact e0.hok.fresh (Nat.le_of_lt (x.above y c (PySem.mem_of_lookup h)))
  · unfold start
    show _ = N.length
    rw [List.length_append,List.length_map,List.length_replicate]
    omega
theorem fn_of {CX : CXT} {P : Program} {w : World} {K : PySem.W.Frag} {mg : Str → Option Value} {base : Heap} {k : Nat} {f : Addr} {name qual : Str} {params : Arguments} {body : List Stmt} {scope : Scope} {dV kV doc pm cdv ct oc : Value} {an od : Option Addr}
    {osl : Array (Option Value)} {N ps : List Str} {sp : Sp} (lk : K.lookup f = some ⟨oc,od,.func (PySem.W.fnOf name qual params body scope dV kV doc pm an cdv ct),osl⟩) (hcd : PySem.W.codeIn K cdv qual = true) (S : FnScope N ps scope)
    (len : ∀ vs H Q E,sp vs H Q E → vs.length = ps.length)
    (hbody : ∀ (A : Around) (outer : List Env) (s : Shared) (H : Hp) (vs : List V) (Q : VK) (E : XK),Room k (A.deeper (envOfC qual scope s.heap.objs.size f cdv)) → sp vs H Q E →
      ∃ t,PSs (cxOf CX P w K mg base N qual scope f cdv A outer s H E) body t ∧ t { nx := fun _ H' => Q .non H',rt := Q } (start N vs) H) :
    FnOk P w K mg base CX (k + 1) f (PySem.W.fnOf name qual params body scope dV kV doc pm an cdv ct) ps sp := by
  refine ⟨len,fun A outer s H args us vs Q E hr e0 hb r hsp => ?_⟩
  have hl := len _ _ _ _ hsp
  have KX : K.In s.heap := e0.mod.kin.keeps fun b o e => (e0.bs b o e).1
  have lim : s.heap.NoLimit := e0.mod.nolimit.keeps fun b o e => (e0.bs b o e).1
  have hkind : ∀ y ∈ ps.zip us,scope.names.lookup y.1 = some .local ∨ (scope.names.lookup y.1 = some .cell ∧ ((cellsFrom (s.heap.objs.size + 1) scope.names []).lookup y.1).isSome = true) := fun ⟨n,v⟩ hy => by
    rcases S.par n (List.of_mem_zip hy).1 with q | q
    · exact .inl q
    · exact .inr ⟨q,PySem.W.cellsFrom_some _ _ _ (.inl q)⟩
  refine codeAny_call_function hr.depth (KX _ _ lk) rfl S.co S.gen rfl (PySem.W.codeRec_of KX hcd) (hb _ _ _ _ ?_)
  refine wpAny_newFunctionEnv_cells S.kind hkind fun env he s1 x => ?_
  subst he
  refine ⟨lim.keeps x.toInCall.keep,codeAny_func ?_⟩
  obtain ⟨t,ht,hq⟩ := hbody A outer s H vs Q E (hr.deeper _) hsp
  have I : Inv (cxOf CX P w K mg base N qual scope f cdv A outer s H E) [] (start N vs) H s1 := inv_start S hr.hd e0 hl r x
  refine wpAny_mono (ht [] s1 (start N vs) H _ I hq) (fun fl s' hs => ?_) fun e s' hs => hs
  have fin : ∀ {σ' : St} {H' : Hp} {v : V} {u : Value},Inv (cxOf CX P w K mg base N qual scope f cdv A outer s H E) [] σ' H' s' → RelV v u → Q v H' → CE outer P w H s Q u s' :=
    fun {σ' H' v u} J rv q => ⟨v,H',J.os,J.bare,J.base,J.hok,rv,q⟩
  cases fl with
  | ret u =>
    obtain ⟨v,σ',H',J,rv,q⟩ := hs
    exact fin J rv q
  | next =>
    obtain ⟨σ',H',J,q⟩ := hs
    exact fin (v := V.non) (u := Value.none) J rfl q
  | brk =>
    obtain ⟨_,_,_,q⟩ := hs
    exact False.elim q
  | cont =>
    obtain ⟨_,_,_,q⟩ := hs
    exact False.elim q
end L2
namespace L2
open PySem PySem.Spec PyProof.Rows
section
variable {X : Cx} {x : Str} {p pos : Pos} {e : Expr} {es : List Expr} {t : TA} {id T : String} {r : List V → Hp → VK → Prop}
def tCB (r : List V → Hp → VK → Prop) (t : TA) : TE := fun σ H Q => t σ H fun vs H1 => r vs H1 Q
theorem pe_callB (hc : CallR X (.builtin id) r) (hg : Gl X x) (hm : X.mg x = none) (hv : bootBuiltins x = some (.builtin id)) (ha : PA X (e :: es) t) (hn : x ≠ "__name__" := by decide) (hdb : (x == ("__debug__" : Str)) = false := by decide)
    (he : starEach (e :: es) X.env = (false,eval e X.env) :: starEach es X.env := by rfl) (hpl : (backTo pos (starEach es X.env)).any (·.1) = false := by rfl) : PE X (.Call (.Name x p) (e :: es) [] pos) (tCB r t) := by
  intro pins s σ H Q I h
  refine wpAny_Call_Name_kw (ld_blt I hg hm hv ?_ hn hdb)
  exact PyProof.Rows.callWith_builtin1 (thn (ha pos pins s σ H _ I h) fun us s1 ⟨vs,H1,I1,r1,q1⟩ => hc pins s1 σ H1 vs us Q I1 r1 q1) he hpl
theorem pe_callTy (hc : CallR X (.type T) r) (hg : Gl X x) (hm : X.mg x = none) (hv : bootBuiltins x = some (.type T)) (ha : PA X (e :: es) t) (hn : x ≠ "__name__" := by decide) (hdb : (x == ("__debug__" : Str)) = false := by decide)
    (he : starEach (e :: es) X.env = (false,eval e X.env) :: starEach es X.env := by rfl) (hpl : (backTo pos (starEach es X.env)).any (·.1) = false := by rfl) : PE X (.Call (.Name x p) (e :: es) [] pos) (tCB r t) := by
  intro pins s σ H Q I h
  refine wpAny_Call_Name_kw (ld_blt I hg hm hv ?_ hn hdb)
  exact PyProof.Rows.callWith_type1 (thn (ha pos pins s σ H _ I h) fun us s1 ⟨vs,H1,I1,r1,q1⟩ => hc pins s1 σ H1 vs us Q I1 r1 q1) he hpl
end
end L2
namespace HT
open PySem PyProof.Rows
section
open PySem.SeqAt
open PySem.AutoSeq1 (wpAny_loadPart')
open PySem.MeetsSeq PySem.MeetsSeq2 PySem.MeetsSeq3
end
section
variable {prog : Program} {w : World} {A : Around} {E : Value → Shared → Prop} {s : Shared}
def sIx (n d : Nat) : Option Int → Nat
  | none => d
  | some v => if v < 0 then (v + (n : Int)).toNat else min v.toNat n
end
end HT
namespace L2
open PySem PySem.Spec PyProof.Rows
abbrev TO := St → Hp → (Option Int → Hp → Prop) → Prop
section
variable {X : Cx} {e : Expr} {te : TE} {lo hi : Option Expr} {tl th : TO} {pos p2 : Pos}
def SlR (X : Cx) (r : V → Option Int → Option Int → Hp → VK → Prop) : Prop :=
  ∀ (pins : List (Addr × Obj)) (s : Shared) (σ : St) (H : Hp) (x : V) (v vl vu : Value) (lo hi : Option Int) (sl : Addr) (Q : VK),Inv X pins σ H s → RelV x v → s.heap.IsSliceOf sl vl vu .none → IsPart vl lo → IsPart vu hi → r x lo hi H Q →
    ∃ T id,typeLookup (.type T) "__getitem__" = pure (some (.builtin id)) ∧ s.TypeIs v T ∧ wpAny (model X.prog X.w) X.A (getItem v (.ref sl)) (EP X pins σ Q) X.xe s
def cutV (xs : List V) (lo hi : Option Int) : List V := (xs.drop (HT.sIx xs.length 0 lo)).take (HT.sIx xs.length xs.length hi - HT.sIx xs.length 0 lo)
theorem cutV_length (xs : List V) (lo hi : Option Int) : (cutV xs lo hi).length ≤ xs.length := by
  unfold cutV
  rw [List.length_take,List.length_drop]
  omega
end
end L2
namespace L2
open PySem PySem.Spec PyProof.Rows
def ixN (n : Nat) (i : Int) : Option Nat := if 0 ≤ i then (if i < n then some i.toNat else none) else if -(n : Int) ≤ i then some (i + n).toNat else none
def atI {α : Type} (xs : List α) (i : Int) : Option α := (ixN xs.length i).bind fun j => xs[j]?
theorem ixN_seq {n : Nat} {i : Int} {j : Nat} (h : ixN n i = some j) : seqIndex? i n = some j ∧ j < n ∧ -(n : Int) ≤ i ∧ i < n := by
  unfold ixN at h
  by_cases h0 : 0 ≤ i
  · rw [if_pos h0] at h
    by_cases h1 : i < n
    · rw [if_pos h1] at h
      have e : i.toNat = j := Option.some.inj h
      exact ⟨by rw [seqIndex_of h0 h1,e],by omega,by omega,h1⟩
    · rw [if_neg h1] at h; cases h
  · rw [if_neg h0] at h
    by_cases h1 : -(n : Int) ≤ i
    · rw [if_pos h1] at h
      have e : (i + n).toNat = j := Option.some.inj h
      exact ⟨by rw [seqIndex_neg (by omega) h1,e],by omega,h1,by omega⟩
    · rw [if_neg h1] at h; cases h
theorem atI_get {α : Type} {xs : List α} {i : Int} {v : α} (h : atI xs i = some v) : ∃ j,seqIndex? i xs.length = some j ∧ xs[j]? = some v ∧ j < xs.length ∧ -(xs.length : Int) ≤ i ∧ i < xs.length := by
  unfold atI at h
  cases e : ixN xs.length i with
  | none => rw [e] at h; cases h
  | some j =>
    rw [e] at h
    obtain ⟨h1,h2,h3,h4⟩ := ixN_seq e
    exact ⟨j,h1,h,h2,h3,h4⟩
theorem atI_nat {α : Type} {xs : List α} {j : Nat} {v : α} (h : xs[j]? = some v) : atI xs (j : Int) = some v := by
  have hj : j < xs.length := (List.getElem?_eq_some_iff.mp h).1
  have e : ixN xs.length (j : Int) = some j := by
    unfold ixN
    rw [if_pos (by omega),if_pos (by omega)]; simp
  unfold atI; rw [e]; exact h
def PlainIx (b : Expr) : Prop := ∀ o i,subscripted b false o i = operate [o,i] (getItem o i)
def IxR (X : Cx) (r : R2) : Prop :=
  ∀ (value slice : Expr) (pins : List (Addr × Obj)) (s : Shared) (σ : St) (H : Hp) (x y : V) (v u : Value) (Q : VK),Inv X pins σ H s → RelV x v → RelV y u → r x y H Q →
    subscripted slice false v u = operate [v,u] (getItem v u) → wpAny (model X.prog X.w) X.A (subscriptTail value slice v u) (EP X pins σ Q) X.xe s
def MtR (X : Cx) (id : String) (r : V → List V → Hp → VK → Prop) : Prop :=
  ∀ (pins : List (Addr × Obj)) (s : Shared) (σ : St) (H : Hp) (x : V) (xs : List V) (v : Value) (us : List Value) (Q : VK),Inv X pins σ H s → RelV x v → Vals xs us → r x xs H Q →
    wpAny (model X.prog X.w) X.A (call (.builtin id) (v :: us)) (EP X pins σ Q) X.xe s
section
variable {X : Cx} {a b : Expr} {ta tb : TE} {pos : Pos}
theorem IxR.or {r r' : R2} (h : IxR X r) (h' : IxR X r') : IxR X (fun x y H Q => r x y H Q ∨ r' x y H Q) := by
  intro value slice pins s σ H x y v u Q I rx ry q hs
  rcases q with q | q
  · exact h value slice pins s σ H x y v u Q I rx ry q hs
  · exact h' value slice pins s σ H x y v u Q I rx ry q hs
theorem pe_ix {r : R2} (hr : IxR X r) (ha : PE X a ta) (hb : PE X b tb) (hs : PlainIx b) : PE X (.Subscript a b pos) (tOp r ta tb) := by
  intro pins s σ H Q I h
  exact Subscript_ (binT ha hb I h fun v u s2 x y H2 I2 rx ry q => hr a b pins s2 σ H2 x y v u Q I2 rx ry q (hs _ _))
def rIxL (K : PySem.W.Frag) : R2 := fun x y H Q => ∃ p xs i v,x = .ref p ∧ y = .int i ∧ SqL K H p xs ∧ atI xs i = some v ∧ Q v H
def rIxT (K : PySem.W.Frag) : R2 := fun x y H Q => ∃ p xs i v,x = .ref p ∧ y = .int i ∧ SqT K H p xs ∧ atI xs i = some v ∧ Q v H
def rIxS : R2 := fun x y H Q => ∃ z i c,x = .str z ∧ y = .int i ∧ z.length ≤ sizeLine ∧ atI z.cps.toList i = some c ∧ Q (.str ⟨#[c]⟩) H
theorem ix_list : IxR X (rIxL X.K) := by
  intro value slice pins s σ H x y v u Q I rx ry h hs
  obtain ⟨p,xs,i,z,rfl,rfl,hq,he,q⟩ := h
  cases rx
  obtain ⟨t,rfl⟩ := ry
  obtain ⟨its,r,pl,hz⟩ := I.list hq
  obtain ⟨j,h1,h2,h3,h4,h5⟩ := atI_get he
  obtain ⟨w,ew,rw'⟩ := r.get h2
  have hl := r.length
  have hn := line63
  have fin : EP X pins σ Q w s := ⟨z,H,I,rw',q⟩
  by_cases h0 : 0 ≤ i
  · have hj : i.toNat = j := by
      rw [seqIndex_of h0 h5] at h1
      exact Option.some.inj h1
    exact item_listR pl.isList h0 (by omega) (by rw [hj]; simpa using ew) fin hs
  · have hj : (i + (its.toArray.size : Int)).toNat = j := by
      rw [seqIndex_neg (by omega) h4] at h1
      rw [List.size_toArray,← hl]
      exact Option.some.inj h1
    exact subscriptTail_builtinR (x := w) pl.isList.typeIs slot_list_getitem.lookup
      (wpAny_getItem_list_neg (Q := fun r s' => r = w ∧ EP X pins σ Q r s') pl.isList (by omega) (by rw [List.size_toArray] <;> omega) (by omega) (by rw [hj]; simpa using ew) ⟨rfl,fin⟩) hs
theorem ix_tup : IxR X (rIxT X.K) := by
  intro value slice pins s σ H x y v u Q I rx ry h hs
  obtain ⟨p,xs,i,z,rfl,rfl,hq,he,q⟩ := h
  cases rx
  obtain ⟨t,rfl⟩ := ry
  obtain ⟨its,r,pl,hz⟩ := I.tuple hq
  obtain ⟨j,h1,h2,h3,h4,h5⟩ := atI_get he
  obtain ⟨w,ew,rw'⟩ := r.get h2
  have hl := r.length
  have hn := line63
  have fin : EP X pins σ Q w s := ⟨z,H,I,rw',q⟩
  exact subscriptTail_builtinR (x := w) pl.typeIs slot_tuple_getitem.lookup
    (getItem_tuple (j := j) (Q := fun r s' => r = w ∧ EP X pins σ Q r s') pl (by omega) (by omega) (by rw [List.size_toArray,← hl]; exact h1) (by simpa using ew) ⟨rfl,fin⟩) hs
theorem ix_str : IxR X rIxS := by
  intro value slice pins s σ H x y v u Q I rx ry h hs
  obtain ⟨z,i,c,rfl,rfl,hz,he,q⟩ := h
  obtain ⟨t,rfl⟩ := rx
  obtain ⟨t',rfl⟩ := ry
  obtain ⟨j,h1,h2,h3,h4,h5⟩ := atI_get he
  have hl : z.cps.toList.length = z.length := by simp [Str.length]
  rw [hl] at h1 h4 h5
  have hn := line63
  exact tail_any (typeIs_str s z t) slot_str_getitem.lookup (getItem_str (c := c) (by
    have e1 : decide (i < -(2 ^ 63 : Int)) = false := decide_eq_false (by omega)
    have e2 : decide (i ≥ 2 ^ 63) = false := decide_eq_false (by omega)
    rw [e1,e2,Bool.or_false]) (by rw [h1]; simpa using h2) ⟨.str ⟨#[c]⟩,H,I.tok _,⟨_,rfl⟩,q⟩) hs
def rIx (K : PySem.W.Frag) : R2 := fun x y H Q => rIxL K x y H Q ∨ rIxT K x y H Q ∨ rIxS x y H Q
theorem ix_seq : IxR X (rIx X.K) := ix_list.or (ix_tup.or ix_str)
theorem mapSeq_set (its : List Value) (n j : Nat) (u : Value) : Obj.mapSeq (·.setIfInBounds j u) { cls := .type "list",data := .seq its.toArray n } = { cls := .type "list",data := .seq (its.set j u).toArray n } := by
  simp [Obj.mapSeq]
theorem Inv.lst {pins : List (Addr × Obj)} {σ : St} {H : Hp} {s : Shared} {p : Addr} {xs : List V} (I : Inv X pins σ H s) (h : H p = some (.lst xs)) :
    ∃ (its : List Value) (n : Nat),Vals xs its ∧ s.heap.get? p = some { cls := .type "list",data := .seq its.toArray n } ∧ xs.length ≤ sizeLine := by
  obtain ⟨z,its,n,r,e⟩ := I.hok p _ h
  exact ⟨its,n,r,e,z⟩
theorem Inv.lstUpd {pins : List (Addr × Obj)} {σ : St} {H : Hp} {s : Shared} {p : Addr} {xs ys : List V} {its its' : List Value} {n n' : Nat} {f : Obj → Obj} (I : Inv X pins σ H s) (h : H p = some (.lst xs))
    (ho : s.heap.get? p = some { cls := .type "list", data := .seq its.toArray n }) (hf : f { cls := .type "list", data := .seq its.toArray n } = { cls := .type "list", data := .seq its'.toArray n' }) (r : Vals ys its') (hz : ys.length ≤ sizeLine) (t : Nat) :
    Inv X pins σ (upd H p (.lst ys)) { s with heap := s.heap.update p f,toks := t } := by
  have e : (s.heap.update p f).get? p = some { cls := .type "list", data := .seq its'.toArray n' } := by
    rw [Heap.get?_update_self f ho (by rw [hf] <;> rfl),hf]
  refine I.write (x := p) (e := p) (by rw [h]; trivial) (.inl rfl) (fun b u hb q => (Heap.get?_update_other _ _ (Ne.symm hb)).trans q) ⟨_,e⟩ ?_
  exact ⟨hz,its',n',r,e⟩
def rSetL : V → V → V → Hp → (Hp → Prop) → Prop := fun o i v H Q => ∃ p xs k j,o = .ref p ∧ i = .int k ∧ H p = some (.lst xs) ∧ ixN xs.length k = some j ∧ Q (upd H p (.lst (xs.set j v)))
theorem set_list : PSet X rSetL := by
  intro pins s σ H o i v ov iv u Q I ro ri rv h
  obtain ⟨p,xs,k,j,rfl,rfl,hp,hj,q⟩ := h
  cases ro
  obtain ⟨t,rfl⟩ := ri
  obtain ⟨its,n,r,ho,hz⟩ := I.lst hp
  obtain ⟨h1,h2,h3,h4⟩ := ixN_seq hj
  have hl := r.length
  have hn := line63
  have I' : Inv X pins σ (upd H p (.lst (xs.set j v))) { s with heap := s.heap.update p (Obj.mapSeq (·.setIfInBounds j u)) } :=
    I.lstUpd hp ho (mapSeq_set its n j u) (r.set rv j) (by rw [List.length_set]; exact hz) s.toks
  by_cases h0 : 0 ≤ k
  · have hk : k.toNat = j := by
      rw [seqIndex_of h0 h4] at h1
      exact Option.some.inj h1
    exact PySem.W.ki_setAt ho h0 (by omega) (by rw [List.size_toArray,← hl]; exact h4) (by rw [hk]; exact ⟨_,I',q⟩)
  · have hk : (k + (its.toArray.size : Int)).toNat = j := by
      rw [seqIndex_neg (by omega) h3] at h1
      rw [List.size_toArray,← hl]
      exact Option.some.inj h1
    exact PySem.W.ki_setBack ho (by omega) (by rw [List.size_toArray,← hl]; exact h3) (by omega) (by rw [hk]; exact ⟨_,I',q⟩)
theorem slice_bounds (lo hi : Option Int) (n : Nat) : (sliceBounds lo hi none n).1 = ((HT.sIx n 0 lo : Nat) : Int) ∧ (sliceBounds lo hi none n).2.1 = ((HT.sIx n n hi : Nat) : Int) ∧ (sliceBounds lo hi none n).2.2 = 1 := by
  refine ⟨?_,?_,rfl⟩
  · cases lo with
    | none => simp [sliceBounds,HT.sIx]
    | some i =>
      simp only [sliceBounds,HT.sIx,Option.getD_none,show (1 : Int) > 0 by decide,if_true]
      by_cases h : i < 0
      · simp only [h,if_true] <;> omega
      · simp only [h,if_false] <;> omega
  · cases hi with
    | none => simp [sliceBounds,HT.sIx]
    | some i =>
      simp only [sliceBounds,HT.sIx,Option.getD_none,show (1 : Int) > 0 by decide,if_true]
      by_cases h : i < 0
      · simp only [h,if_true] <;> omega
      · simp only [h,if_false] <;> omega
theorem slicePick_cut (its : List Value) (lo hi : Option Int) : slicePick its.toArray lo hi none = ((its.drop (HT.sIx its.length 0 lo)).take (HT.sIx its.length its.length hi - HT.sIx its.length 0 lo)).toArray := by
  obtain ⟨h1,h2,h3⟩ := slice_bounds lo hi its.toArray.size
  unfold slicePick
  rw [h1,h2,h3]
  simp only [sliceRange_one,pick_run,List.size_toArray] <;> rfl
def rSlL (K : PySem.W.Frag) : V → Option Int → Option Int → Hp → VK → Prop := fun x lo hi H Q => ∃ a xs,x = .ref a ∧ SqL K H a xs ∧ ∀ p,H p = none → Q (.ref p) (upd H p (.lst (cutV xs lo hi)))
theorem sl_list : SlR X (rSlL X.K) := by
  intro pins s σ H x v vl vu lo hi sl Q I rx hs pl pu h
  obtain ⟨a,xs,rfl,hx,q⟩ := h
  cases rx
  obtain ⟨its,r,ht,hz⟩ := I.list hx
  have hlen := r.length
  refine ⟨"list",_,slot_list_getitem.lookup,ht.isList.typeIs,?_⟩
  refine wpAny_getItem_list_slice ht.isList hs pl pu .none (by simp) ?_ (by rw [List.size_toArray] <;> omega)
  rw [slicePick_cut,← hlen]
  refine ⟨.ref s.heap.objs.size,_,I.laid (t' := s.toks) (o := .lst (cutV xs lo hi)) (fun b ob q => Heap.get?_push_of_some _ q) (Nat.le_refl _) ?_,rfl,q _ (I.hok.fresh (Nat.le_refl _))⟩
  exact ⟨Nat.le_trans (cutV_length xs lo hi) hz,_,0,(r.drop (HT.sIx xs.length 0 lo)).take (HT.sIx xs.length xs.length hi - HT.sIx xs.length 0 lo),Heap.get?_push_size _ rfl⟩
theorem call_len_seq : CallR X (.builtin "len") (fun xs H Q => ∃ p ys,xs = [.ref p] ∧ (SqL X.K H p ys ∨ SqT X.K H p ys) ∧ Q (.int ys.length) H) := by
  intro pins s σ H xs us Q I r h
  obtain ⟨p,ys,rfl,hq,q⟩ := h
  obtain ⟨u,rfl,rx⟩ := vals1 r
  cases rx
  have hn := line63
  rcases hq with hq | hq
  · obtain ⟨its,r',pl,hz⟩ := I.list hq
    have hlen := r'.length
    exact Calls.call_len_list pl.isList (by simp only [List.size_toArray] <;> omega) ⟨.int ys.length,H,I.tok _,⟨s.toks + 1,by rw [List.size_toArray,hlen]⟩,q⟩
  · obtain ⟨its,r',pl,hz⟩ := I.tuple hq
    have hlen := r'.length
    exact len_tuple pl (by simp only [List.size_toArray] <;> omega) ⟨.int ys.length,H,I.tok _,⟨s.toks + 1,by rw [List.size_toArray,hlen]⟩,q⟩
theorem call_list_of : CallR X (.type "list") (fun xs H Q => ∃ p ys,xs = [.ref p] ∧ (SqL X.K H p ys ∨ SqT X.K H p ys) ∧ ∀ l,H l = none → Q (.ref l) (upd H l (.lst ys))) := by
  intro pins s σ H xs us Q I r h
  obtain ⟨p,ys,rfl,hq,q⟩ := h
  obtain ⟨u,rfl,rx⟩ := vals1 r
  cases rx
  have fin : ∀ (its : List Value),Vals ys its → ys.length ≤ sizeLine → ∀ (h' : Heap) (c' : Nat),(∀ b o',s.heap.get? b = some o' → h'.get? b = some o') →
      h'.get? s.heap.objs.size = some { cls := .type "list", dict := none, data := .seq its.toArray c', slots := #[] } → EP X pins σ Q (.ref s.heap.objs.size) { s with heap := h' } := fun its r' hz h' c' kp e =>
    ⟨.ref s.heap.objs.size,_,I.laid (t' := s.toks) kp (Nat.le_refl _) (show ObjOk X.prog X.w _ h' _ (.lst ys) from ⟨hz,its,c',r',e⟩),rfl,q _ (I.hok.fresh (Nat.le_refl _))⟩
  rcases hq with hq | hq
  · obtain ⟨its,r',pl,hz⟩ := I.list hq
    have hlen := r'.length
    obtain ⟨o,ho,hc,n,hd⟩ := pl.isList
    exact call_list_seq p (.inl rfl) ho hc hd (fun h' c' kp e => fin its r' hz h' c' kp e) (by simp only [List.size_toArray] <;> omega)
  · obtain ⟨its,r',pl,hz⟩ := I.tuple hq
    have hlen := r'.length
    obtain ⟨o,ho,hc,n,hd⟩ := pl
    exact call_list_seq p (.inr rfl) ho hc hd (fun h' c' kp e => fin its r' hz h' c' kp e) (by simp only [List.size_toArray] <;> omega)
theorem call_tuple_of : CallR X (.type "tuple") (fun xs H Q => ∃ p ys,xs = [.ref p] ∧ ((SqL X.K H p ys ∧ ∀ l,H l = none → Q (.ref l) (upd H l (.tup ys))) ∨ (SqT X.K H p ys ∧ Q (.ref p) H))) := by
  intro pins s σ H xs us Q I r h
  obtain ⟨p,ys,rfl,h⟩ := h
  obtain ⟨u,rfl,rx⟩ := vals1 r
  cases rx
  rcases h with ⟨hq,q⟩ | ⟨hq,q⟩
  · obtain ⟨its,r',pl,hz⟩ := I.list hq
    have hlen := r'.length
    refine call_tuple_list pl.isList (fun h' kp => ?_) (by simp only [List.size_toArray] <;> omega)
    have I1 : Inv X pins σ H { s with heap := h' } := I.kept (t' := s.toks) kp
    have I2 : Inv X pins σ (upd H h'.objs.size (.tup ys)) { s with heap := h'.push { cls := .type "tuple", data := .seq its.toArray } } :=
      I1.laid (t' := s.toks) (fun b o e => Heap.get?_push_of_some _ e) (Nat.le_refl _) (show ObjOk X.prog X.w _ _ _ (.tup ys) from ⟨hz,its,r',IsTup.new _ _⟩)
    exact ⟨.ref h'.objs.size,_,I2,rfl,q _ (I1.hok.fresh (Nat.le_refl _))⟩
  · obtain ⟨its,r',pl,hz⟩ := I.tuple hq
    exact call_tuple_same pl ⟨.ref p,H,I,rfl,q⟩
def tyV (K : PySem.W.Frag) (T : String) (x : V) (H : Hp) : Prop := match x with
  | .str _ => T = "str"
  | .int _ => T = "int"
  | .ref p => (T = "list" ∧ ∃ xs,SqL K H p xs) ∨ (T = "tuple" ∧ ∃ o,K.lookup p = some o ∧ o.cls = .type "tuple" ∧ o.dict = none) ∨
      (T = "dict" ∧ ((∃ kvs,H p = some (.dK kvs)) ∨ ∃ kvs,H p = some (.dT kvs))) ∨ (T = "set" ∧ ∃ S n,H p = some (.set S n))
  | _ => False
theorem tyV_is {pins : List (Addr × Obj)} {σ : St} {H : Hp} {s : Shared} {T : String} {x : V} {v : Value} (I : Inv X pins σ H s) (r : RelV x v) (ty : tyV X.K T x H) :
    s.TypeIs v T ∧ ∀ a,v = .ref a → ∃ ob,s.heap.get? a = some ob ∧ ob.dict = none := by
  cases x with
  | str z =>
    obtain ⟨t,rfl⟩ := r
    cases (show T = "str" from ty)
    exact ⟨typeIs_str s z t,fun _ e => nomatch e⟩
  | int i =>
    obtain ⟨t,rfl⟩ := r
    cases (show T = "int" from ty)
    exact ⟨typeIs_int s i t,fun _ e => nomatch e⟩
  | ref p =>
    cases r
    rcases ty with ⟨rfl,xs,hq⟩ | ⟨rfl,o,hk,hc,hd⟩ | ⟨rfl,hk⟩ | ⟨rfl,S,n,hk⟩
    · obtain ⟨its,_,pl,_⟩ := I.list hq
      refine ⟨pl.isList.typeIs,fun a e => ?_⟩
      cases e
      obtain ⟨o,n,e,c,hd,_⟩ := pl
      exact ⟨o,e,hd⟩
    · refine ⟨⟨o,I.kIn p o hk,hc⟩,fun a e => ?_⟩
      cases e
      exact ⟨o,I.kIn _ o hk,hd⟩
    · have z : ∃ o,s.heap.get? p = some o ∧ o.ExactDict := by
        rcases hk with ⟨kvs,hk⟩ | ⟨kvs,hk⟩
        · obtain ⟨_,_,_,_,o,_,_,e,ex,_⟩ := I.hok p _ hk
          exact ⟨o,e,ex⟩
        · obtain ⟨_,_,_,_,o,_,_,e,ex,_⟩ := I.hok p _ hk
          exact ⟨o,e,ex⟩
      obtain ⟨o,e,ex⟩ := z
      refine ⟨⟨o,e,ex.1⟩,fun a e2 => ?_⟩
      cases e2
      exact ⟨o,e,ex.2.1⟩
    · obtain ⟨o,_,_,_,e,ex,_⟩ := I.hok p _ hk
      refine ⟨⟨o,e,ex.1⟩,fun a e2 => ?_⟩
      cases e2
      exact ⟨o,e,ex.2.1⟩
  | _ => exact False.elim ty
def tBM0 (K : PySem.W.Frag) (T : String) (r : V → List V → Hp → VK → Prop) (to : TE) : TE := fun σ H Q => to σ H fun x H1 => tyV K T x H1 ∧ r x [] H1 Q
def tBM (K : PySem.W.Frag) (T : String) (r : V → List V → Hp → VK → Prop) (to : TE) (t : TA) : TE := fun σ H Q => to σ H fun x H1 => tyV K T x H1 ∧ t σ H1 fun xs H2 => r x xs H2 Q
variable {o e : Expr} {es : List Expr} {to : TE} {t : TA} {name : Str} {apos cpos : Pos} {T id : String} {r : V → List V → Hp → VK → Prop}
theorem pe_bm0 (pa : PlainAttrs T) (slot : Slot T name id) (hty : typeOf (.builtin id) = pure (.type "method_descriptor")) (hm : MtR X id r) (ho : PE X o to)
    (hbase : attributeBase o name X.env (eval o X.env) = eval o X.env := by rfl) (hline : (apos.endLine == cpos.line) = true := by rfl) : PE X (.Call (.Attribute o name apos) [] [] cpos) (tBM0 X.K T r to) := by
  intro pins s σ H Q I h
  refine wpAny_Call_method0_late hbase hline (thn (ho pins s σ H _ I h) fun v s1 ⟨x,H1,I1,r1,ty,q1⟩ => ?_)
  obtain ⟨h1,h2⟩ := tyV_is I1 r1 ty
  exact ⟨T,id,pa,slot,hty,h1,h2,Calls.callWith_builtin rfl (PySem.evalArgs_none (hm pins s1 σ H1 x [] v [] Q I1 r1 .nil q1))⟩
theorem pe_bm (pa : PlainAttrs T) (slot : Slot T name id) (hty : typeOf (.builtin id) = pure (.type "method_descriptor")) (hm : MtR X id r) (ho : PE X o to) (ha : PA X (e :: es) t)
    (hbase : attributeBase o name X.env (eval o X.env) = eval o X.env := by rfl)
    (hfew : ((backTo cpos (starEach (e :: es) X.env)).all (fun x => !x.1) && (backToKw cpos (keywordEach [] X.env)).all (fun x => x.1.isSome)
      && decide ((e :: es).length + ([] : List Keyword).length + (if ([] : List Keyword).isEmpty then 0 else 1) < 30)) = true := by rfl)
    (hline : (apos.endLine == cpos.line) = true := by rfl) (hs : starEach (e :: es) X.env = (false,eval e X.env) :: starEach es X.env := by rfl) (hplain : (backTo cpos (starEach es X.env)).any (·.1) = false := by rfl) :
    PE X (.Call (.Attribute o name apos) (e :: es) [] cpos) (tBM X.K T r to t) := by
  intro pins s σ H Q I h
  refine wpAny_Call_method_late hbase hfew hline rfl (thn (ho pins s σ H _ I h) fun v s1 ⟨x,H1,I1,r1,ty,q1⟩ => ?_)
  obtain ⟨h1,h2⟩ := tyV_is I1 r1 ty
  refine ⟨T,id,pa,slot,hty,h1,h2,?_⟩
  have hA := ha cpos pins s1 σ H1 _ I1 q1
  rw [hs] at hA ⊢
  refine Calls.callWith_builtin (by show (false || (backTo cpos (starEach es X.env)).any (·.1)) = false; rw [hplain] <;> rfl) (Calls.evalArgs_plain ?_)
  exact thn hA fun us s2 ⟨vs,H2,I2,r2,q2⟩ => hm pins s2 σ H2 x vs v us Q I2 r1 r2 q2
/- xs.append(e),list.index on a module's tuple .. are MtR facts of 06m -/
end
end L2
namespace L2
open PySem PySem.Spec PyProof.Rows
def MtM (X : Cx) (id : String) (r : V → List V → Hp → VK → Prop) : Prop :=
  ∀ (pins : List (Addr × Obj)) (s : Shared) (σ : St) (H : Hp) (x : V) (xs : List V) (v : Value) (us : List Value) (Q : VK),Inv X pins σ H s → RelV x v → Vals xs us → r x xs H Q →
    wpAny (model X.prog X.w) X.A (call (.builtin id) (v :: us)) (EP X pins σ Q) X.xe s
theorem Vals.one : ∀ {x : V} {us : List Value},Vals [x] us → ∃ u,us = [u] ∧ RelV x u
  | _,_,.cons r .nil => ⟨_,rfl,r⟩
theorem Vals.zero : ∀ {us : List Value},Vals [] us → us = []
  | _,.nil => rfl
theorem Vals.dropLast {xs : List V} {us : List Value} (h : Vals xs us) : Vals xs.dropLast us.dropLast := by
  induction h with
  | nil => exact .nil
  | cons r t ih =>
    cases t with
    | nil => exact .nil
    | cons q t' => exact .cons r ih
theorem Vals.rep {xs : List V} {us : List Value} (h : Vals xs us) : ∀ k : Nat,Vals (List.replicate k xs).flatten (List.replicate k us).flatten
  | 0 => .nil
  | k + 1 => by
    rw [List.replicate_succ,List.replicate_succ,List.flatten_cons,List.flatten_cons]
    exact Vals.append h (Vals.rep h k)
theorem erase_last {α : Type} (l : List α) : l.eraseIdx (l.length - 1) = l.dropLast := by
  induction l with
  | nil => rfl
  | cons a r ih =>
    cases r with
    | nil => rfl
    | cons b r =>
      have e : (a :: b :: r).length - 1 = ((b :: r).length - 1) + 1 := by
        have h1 : (a :: b :: r).length = r.length + 2 := rfl
        have h2 : (b :: r).length = r.length + 1 := rfl
        omega
      rw [e,List.eraseIdx_cons_succ,ih]
      all_goals rfl
theorem foldl_rep (its : List Value) : ∀ (k : Nat) (acc : List Value),
    List.foldl (fun x1 x2 => x1 ++ x2) acc.toArray (List.replicate k its.toArray) = (acc ++ (List.replicate k its).flatten).toArray
  | 0,acc => by simp
  | k + 1,acc => by
    have e : acc.toArray ++ its.toArray = (acc ++ its).toArray := by simp
    have e2 : (acc ++ its) ++ (List.replicate k its).flatten = acc ++ (List.replicate (k + 1) its).flatten := by
      rw [List.replicate_succ,List.flatten_cons,List.append_assoc]
    rw [← e2,← foldl_rep its k (acc ++ its),← e,List.replicate_succ,List.foldl_cons]
section
variable {X : Cx} {pins : List (Addr × Obj)} {σ : St} {H : Hp} {s : Shared} {l b : Addr} {xs ys zs : List V}
theorem Inv.lset {its its' : List Value} {n : Nat} {f : Array Value → Array Value} {t' : Nat} (I : Inv X pins σ H s) (hH : H l = some (.lst xs))
    (e : s.heap.get? l = some { cls := .type "list", data := .seq its.toArray n }) (hf : f its.toArray = its'.toArray) (hv : Vals ys its') (hz : ys.length ≤ sizeLine) :
    Inv X pins σ (upd H l (.lst ys)) { s with heap := s.heap.update l (Obj.mapSeq f),toks := t' } := by
  have q := PySem.IsL.update e f
  rw [hf] at q
  refine I.write (x := l) (e := l) (by rw [hH]; exact trivial) (.inl rfl) (fun b' u hb hu => (Heap.get?_update_other s.heap (Obj.mapSeq f) (Ne.symm hb)).trans hu) ⟨_,q⟩ ?_
  exact ⟨hz,its',_,hv,q⟩
theorem Inv.lnew {its : List Value} {t' : Nat} (I : Inv X pins σ H s) (hv : Vals ys its) (hz : ys.length ≤ sizeLine) :
    Inv X pins σ (upd H s.heap.objs.size (.lst ys)) { s with heap := s.heap.push { cls := .type "list", data := .seq its.toArray }, toks := t' } :=
  I.laid (fun _ _ q => Heap.get?_push_of_some _ q) (Nat.le_refl _) ⟨hz,its,0,hv,Heap.get?_push_size _ rfl⟩
theorem Inv.fresh (I : Inv X pins σ H s) : H s.heap.objs.size = none := I.hok.fresh (Nat.le_refl _)
theorem Inv.lstM (I : Inv X pins σ H s) (hH : H l = some (.lst xs)) : xs.length ≤ sizeLine ∧ ∃ (its : List Value) (n : Nat),Vals xs its ∧ xs.length = its.length ∧ s.heap.get? l = some { cls := .type "list",data := .seq its.toArray n } := by
  obtain ⟨z,its,n,r,e⟩ := I.hok l _ hH
  exact ⟨z,its,n,r,r.length,e⟩
theorem notLongL {n : Nat} (h : n ≤ sizeLine) : Builtin.List.listTooLong n = false := by
  unfold Builtin.List.listTooLong
  exact decide_eq_false (by omega)
end
section
variable {X : Cx}
def rAppend : V → List V → Hp → VK → Prop := fun x vs H Q => ∃ l xs y,x = .ref l ∧ vs = [y] ∧ H l = some (.lst xs) ∧ xs.length < sizeLine ∧ Q .non (upd H l (.lst (xs ++ [y])))
theorem mt_append : MtM X "list.append" rAppend := by
  intro pins s σ H x vs v us Q I rx rv h
  obtain ⟨l,xs,y,rfl,rfl,hH,hz,q⟩ := h
  cases rx
  obtain ⟨u,rfl,ru⟩ := rv.one
  obtain ⟨z,its,n,r,hl,e⟩ := I.lstM hH
  refine call_meets F.slot_list_append ⟨_,e,rfl⟩ F.entry_list_append (F.args_list_append_2 _ _) (PySem.list_append l its.toArray n u (by rw [List.size_toArray]; omega)) ⟨e,?_⟩
  refine ⟨.non,_,I.lset (its' := its ++ [u]) hH e (by simp) (r.append (.cons ru .nil)) ?_,rfl,q⟩
  rw [List.length_append,List.length_singleton]
  omega
def rExtend : V → List V → Hp → VK → Prop := fun x vs H Q => ∃ l b xs zs,x = .ref l ∧ vs = [.ref b] ∧ H l = some (.lst xs) ∧ H b = some (.lst zs) ∧ xs.length + zs.length ≤ sizeLine ∧ Q .non (upd H l (.lst (xs ++ zs)))
theorem mt_extend : MtM X "list.extend" rExtend := by
  intro pins s σ H x vs v us Q I rx rv h
  obtain ⟨l,b,xs,zs,rfl,rfl,hH,hB,hz,q⟩ := h
  cases rx
  obtain ⟨u,rfl,ru⟩ := rv.one
  cases ru
  obtain ⟨z,its,n,r,hl,e⟩ := I.lstM hH
  obtain ⟨z2,its2,n2,r2,hl2,e2⟩ := I.lstM hB
  have hsz : its.toArray.size + its2.toArray.size ≤ sizeLine := by rw [List.size_toArray,List.size_toArray]; omega
  have hlong : ¬ (!its.toArray.isEmpty && Builtin.List.listTooLong (its.toArray.size + its2.toArray.size)) = true := by
    rw [notLongL hsz,Bool.and_false]
    exact Bool.false_ne_true
  refine call_meets F.slot_list_extend ⟨_,e,rfl⟩ F.entry_list_extend (F.args_list_extend_2 _ _)
    (AutoSeq1.list_extend_list_list_0 l its.toArray n b its2.toArray n2 hlong (by rw [List.size_toArray]; omega) (by omega)) ⟨e,e2,?_⟩
  refine ⟨.non,_,I.lset (its' := its ++ its2) hH e (by simp) (r.append r2) ?_,rfl,q⟩
  rw [List.length_append]
  omega
def rPop : V → List V → Hp → VK → Prop := fun x vs H Q => ∃ l xs y,x = .ref l ∧ vs = [] ∧ H l = some (.lst xs) ∧ xs[xs.length - 1]? = some y ∧ Q y (upd H l (.lst xs.dropLast))
theorem mt_pop : MtM X "list.pop" rPop := by
  intro pins s σ H x vs v us Q I rx rv h
  obtain ⟨l,xs,y,rfl,rfl,hH,hy,q⟩ := h
  cases rx
  have hus := rv.zero
  subst hus
  obtain ⟨z,its,n,r,hl,e⟩ := I.lstM hH
  obtain ⟨u,hu,ru⟩ := r.get hy
  have hy' : its.toArray[its.toArray.size - 1]? = some u := by
    show its.toArray[its.length - 1]? = some u
    rw [← Array.getElem?_toList,← hl]
    exact hu
  refine call_meets F.slot_list_pop ⟨_,e,rfl⟩ F.entry_list_pop (F.args_list_pop_1 _) (MeetsSeq.list_pop_last l its.toArray n u hy' (by rw [List.size_toArray]; omega)) ⟨e,?_⟩
  refine ⟨y,_,I.lset (its' := its.dropLast) hH e ?_ r.dropLast ?_,ru,q⟩
  · show its.toArray.eraseIdxIfInBounds (its.toArray.size - 1) = its.dropLast.toArray
    rw [List.size_toArray,List.eraseIdxIfInBounds_toArray,erase_last]
  · rw [List.length_dropLast]
    omega
def rRep : R2 := fun x y H Q => ∃ l k xs,x = .ref l ∧ y = .int k ∧ H l = some (.lst xs) ∧ -(2 ^ 63) ≤ k ∧ k < 2 ^ 63 ∧ xs.length * k.toNat ≤ sizeLine ∧
  ∀ p,H p = none → Q (.ref p) (upd H p (.lst (List.replicate k.toNat xs).flatten))
theorem len_rep {α : Type} (xs : List α) (k : Nat) : (List.replicate k xs).flatten.length = k * xs.length := by
  induction k with
  | zero => simp
  | succ k ih => rw [List.replicate_succ,List.flatten_cons,List.length_append,ih,Nat.succ_mul,Nat.add_comm]
theorem op_rep : OpR X (binaryOp .Mult) rRep := by
  intro pins s σ H x y v u Q I rx ry h
  obtain ⟨l,k,xs,rfl,rfl,hH,h1,h2,hz,q⟩ := h
  cases rx
  obtain ⟨t,rfl⟩ := ry
  obtain ⟨z,its,n,r,hl,e⟩ := I.lstM hH
  have hlen : its.toArray.size * k.toNat ≤ sizeLine := by rw [List.size_toArray,← hl]; exact hz
  have hcap : ¬ its.toArray.size * k.toNat > (2 ^ 63 - 1) / 8 := by
    have : (sizeLine : Nat) ≤ (2 ^ 63 - 1) / 8 := by decide
    omega
  have hfit : ¬ (!Builtin.List.listFitsIndex k) = true := by
    rw [fitsIndex_both h1 h2]
    exact Bool.false_ne_true
  have hlong : ¬ Builtin.List.listTooLong (its.toArray.size * k.toNat) = true := by
    rw [notLongL hlen]
    exact Bool.false_ne_true
  have hnew : List.foldl (fun x1 x2 => x1 ++ x2) #[] (List.replicate (if its.toArray.isEmpty = true then 0 else k.toNat) its.toArray) = (List.replicate k.toNat its).flatten.toArray := by
    have f0 : ∀ m : Nat,List.foldl (fun x1 x2 => x1 ++ x2) #[] (List.replicate m its.toArray) = (List.replicate m its).flatten.toArray := fun m => by
      have := foldl_rep its m []
      rw [List.nil_append] at this
      exact this
    rw [f0]
    cases its with
    | nil => simp
    | cons a r' => rw [if_neg (by simp)]
  refine wpAny_binaryOp_repeat_ref (T := "list") (U := "int") (by decide) ⟨_, e, rfl⟩ (fun s' => typeIs_int s' k t) noFill_list_mul F.fills_int_mul F.slot_int_rmul repeat_list F.slot_int_index.lookup
    (call_meets F.slot_int_rmul (typeIs_int s k t) F.entry_int_rmul (F.args_int_rmul_2 _ _) (int___rmul___int_list k t l its.toArray n)
      ⟨e,rfl,⟨_,e,rfl⟩,call_meets F.slot_list_mul ⟨_,e,rfl⟩ F.entry_list_mul (F.args_list_mul_2 _ _) (AutoListH.list___mul___list_int_3 l its.toArray n k t hfit hcap hlong) ⟨e,?_⟩⟩)
  rw [hnew]
  exact ⟨.ref _,_,I.lnew (t' := s.toks) (r.rep k.toNat) (by rw [len_rep,Nat.mul_comm]; exact hz),rfl,q _ I.fresh⟩
end
section
variable {prog : Program} {w : World} {A : Around} {E : Value → Shared → Prop} {s : Shared}
end
section
variable {X : Cx}
end
end L2
namespace Att
open PySem PySem.W PySem.Calls PyProof.Rows
theorem ints_of_wellAll {P : Params} {h : Heap} : ∀ (ns : List Int) (vs : List Value),WellAll P h vs (ns.map WData.int) → IntsAre vs ns := by
  intro ns
  induction ns with
  | nil =>
    intro vs w
    rw [List.map_nil] at w
    cases w
    exact .nil
  | cons n ns ih =>
    intro vs w
    rw [List.map_cons] at w
    cases w with
    | cons a b =>
      cases a
      exact .cons _ _ (ih _ b)
theorem script_of {l : OpenLaw} {n : Nat} (hn : l.most = some n) {P : Params} {h : Heap} {args : List WData} {vals : List Value}
    (hpre : l.row.toRowW.claim.pre args = true) (hwl : WellAll P h vals args) :
    ∃ a vs ns,vals = [Value.ref a] ∧ args = [WData.list (ns.map WData.int)] ∧ h.get? a = some { cls := .type "list",data := .seq vs.toArray } ∧ IntsAre vs ns ∧ ns.length ≤ n := by
  have hsh : WShape.hasAll [] args [.list .int] = true := (pre_splitW hpre).1
  have hc : l.pre.holds [] { args := args } = true := (pre_splitW hpre).2
  obtain ⟨d,r,rfl,h1,h2⟩ := hasAllW_cons hsh
  obtain rfl := hasAllW_nil h2
  obtain ⟨xs,rfl,h3⟩ := hasW_list h1
  obtain ⟨ns,rfl⟩ := items_int h3
  have hlen : ns.length ≤ n := by
    unfold OpenLaw.pre at hc
    have h4 : (WTm.not (.lt (.lit (.int (n : Int))) (.len (.arg 0)))).holds [] { args := [.list (ns.map .int)] } = true := by
      have h4 := (holds_andW hc).1
      rw [hn] at h4
      exact h4
    have h5 := condW_of h4 (w_not (w_lt w_lit (w_len_list (w_arg rfl))))
    rw [List.length_map] at h5
    refine Nat.le_of_not_lt fun q => ?_
    have q' : (n : Int) < ((ns.length : Nat) : Int) := by omega
    first
      | (rw [decide_eq_true q'] at h5; exact absurd h5 (by decide))
      | (simp at h5; omega)
  cases hwl with
  | cons w1 w2 =>
    cases w2
    cases w1 with
    | list ho hall => exact ⟨_,_,ns,rfl,rfl,ho,ints_of_wellAll ns _ hall,hlen⟩
theorem post_true (l : OpenLaw) (args : List WData) : l.row.toRowW.claim.post args (.bool true) args = true :=
  postW_of (r := l.row.toRowW) (X := (true == true))
    (show WShape.has [] (.bool true) .bool = true by first | rfl | decide | simp [WShape.has,WShape.arms,WShape.armsAll])
    (show (WTm.eq .res (.lit (.bool true))).value [] { args := args,res := some (.bool true),after := args } = some (.bool (true == true)) from w_eq_bool (w_res rfl) w_lit) rfl
theorem attach_call {l : OpenLaw} {n : Nat} {q : Program} {loose : List Str} {XP : (Str → Option Value) → Heap → Prop} {YP : World → Heap → Prop} {d : DefRec}
    (hn : l.most = some n) (hdf : d.params.defaults = [])
    (call : ∀ (w : World) (s₀ s₁ : Shared) (mg mb : Str → Option Value) (fa : Addr) (o : Obj) (pm cd doc : Value) (a : Addr) (vs : List Value) (ns : List Int),
      Ground q loose [] XP w s₀ mg mb s₁.heap → YP w s₁.heap →
      s₁.heap.get? fa = some o → o.data = .func (docDef d.name d.params d.body d.scope pm cd doc) → s₁.heap.CodeRec cd d.name → mg d.name = some (.ref fa) →
      s₁.heap.get? a = some { cls := .type "list",data := .seq vs.toArray } → IntsAre vs ns → ns.length ≤ n → s₁.gens = #[] →
      codeAny (model l.prog w) callerA (.call (.ref fa) ⟨[.ref a],[]⟩) (fun r s' => r = .ok (.ret (.bool true)) ∧ OldK s₁.heap s'.heap ∧ s'.os = s₁.os ∧ AllBare s'.gens) s₁) :
    WalkO q loose XP YP l.row.toRowW d [] (fun f vs => PySem.call f vs) := by
  intro w s₀ s₁ mg mb G Y fa o pm cd doc dV kV ho hd hcd hD hmg hg args vals as hpre hlay hrd hwl hlo
  obtain rfl : dV = .none := Dflts.none hD hdf
  obtain rfl : kV = .none := Dflts.noKw hD
  obtain ⟨a,vs,ns,rfl,rfl,hobj,hints,hlen⟩ := script_of hn hpre hwl
  refine enter_call (codeAny_mono (call w s₀ s₁ mg mb fa o pm cd doc a vs ns G Y ho (fd_plain hd) hcd hmg hobj hints hlen hg) fun r s' hq => ?_)
  obtain ⟨rfl,h2,h3,h4⟩ := hq
  exact ⟨.inl ⟨.bool true,.bool true,[],rfl,fun _ => rfl,.bool true,post_true l _,fun _ => ⟨List.Pairwise.nil,fun _ hm => (nomatch hm)⟩⟩,h2,h3,h4⟩
section
variable {prog : Program} {w : World} {A : Around} {E : Value → Shared → Prop} {s : Shared} {K : Frag}
def ledger (h : Heap) (L d : Addr) : List (Addr × Obj) := (List.range h.objs.size).filterMap fun a => if a = L ∨ a = d then none else (h.get? a).map fun o => (a,o)
end
end Att
namespace L2
open PySem PySem.Spec PyProof.Rows
theorem vals_ints : ∀ {vs : List Value} {ns : List Int},IntsAre vs ns → Vals (ns.map V.int) vs
  | _,_,.nil => .nil
  | _,_,.cons n t h => .cons ⟨t,rfl⟩ (vals_ints h)
def Only (H : Hp) : Prop := ∀ b,H b = none ∨ ∃ o xs,H b = some (.frz o (.lst xs))
theorem law_call {P : Program} {w : World} {K : PySem.W.Frag} {mg mb : Str → Option Value} {CX : CXT} {k : Nat} {fa a : Addr} {fd : FuncData} {x : Str} {sp : Sp} {s₁ : Shared} {vs : List Value} {ns : List Int}
    (KX : K.In s₁.heap) (hns : s₁.heap.Ns mainGlobals mg) (hb : s₁.heap.Ns builtinsNs mb) (hbb : ∀ x : Str,x ≠ "__name__" → mb x = bootBuiltins x) (hlim : s₁.heap.NoLimit) (hg : s₁.gens = #[])
    (ha : s₁.heap.get? a = some { cls := .type "list",data := .seq vs.toArray }) (hi : IntsAre vs ns) (hl : ns.length ≤ sizeLine) (hr : Room k callerA)
    (F : ∀ base : Heap,K.In base → base.Ns mainGlobals mg → FnOk P w K mg base CX k fa fd [x] sp) (hbind : ∀ (s : Shared) (u : Value),BindsTo s fd ⟨[u],[]⟩ [(x,u)])
    (hsp : ∀ H : Hp,Only H → SqL K H a (ns.map V.int) → sp [.ref a] H (fun v _ => v = .bl true) fun _ _ _ => False)
    (hCX : ∀ H e s',CX [] H s₁ (fun _ _ _ => False) e s' → False) :
    codeAny (model P w) callerA (.call (.ref fa) ⟨[.ref a],[]⟩) (fun r s' => r = .ok (.ret (.bool true)) ∧ OldK s₁.heap s'.heap ∧ s'.os = s₁.os ∧ AllBare s'.gens) s₁ := by
  have rv := vals_ints hi
  have lenV := hi.length
  have core : ∀ H : Hp,Only H → SqL K H a (ns.map V.int) → HOk P w H s₁.heap → (∀ b,H b ≠ none → b = a) → (H a ≠ none → K.lookup a = none) →
      codeAny (model P w) callerA (.call (.ref fa) ⟨[.ref a],[]⟩) (fun r s' => r = .ok (.ret (.bool true)) ∧ OldK s₁.heap s'.heap ∧ s'.os = s₁.os ∧ AllBare s'.gens) s₁ := by
    intro H hO hS hok hA hK
    have base_of : ∀ {b : Addr} {o : Obj},s₁.heap.get? b = some o → H b = none → (hidT s₁.heap H).get? b = some o := fun e n => hidT_get e n
    have noA : ∀ {b : Addr} {o : Obj} {es : Array DictEntry} {ep : Nat},s₁.heap.get? b = some o → o.data = .dict es ep → H b = none := fun {b o es ep} e d => by
      cases q : H b with
      | none => rfl
      | some u =>
        have e' : b = a := hA b (by rw [q]; simp)
        subst e'
        rw [ha] at e; cases e
        have d' : Data.seq vs.toArray _ = Data.dict es ep := d
        cases d'
    have nsK : ∀ {b : Addr} {m : Str → Option Value},s₁.heap.Ns b m → (hidT s₁.heap H).Ns b m := fun {b m} ⟨o,es,ep,e,d,r⟩ => ⟨o,es,ep,base_of e (noA e d),d,r⟩
    have hKb : K.In (hidT s₁.heap H) := fun b o e => base_of (KX b o e) (by
      cases q : H b with
      | none => rfl
      | some u =>
        have e' : b = a := hA b (by rw [q]; simp)
        subst e'
        rw [hK (by rw [q]; simp)] at e; cases e)
    have hM : Mod K mg (hidT s₁.heap H) := ⟨hKb,nsK hns,⟨mb,nsK hb,hbb⟩,let ⟨mc,h1,h2⟩ := hlim; ⟨mc,nsK h1,h2⟩⟩
    have e0 : Env0 P w K mg (hidT s₁.heap H) callerA [] s₁ H := ⟨rfl,hM,fun b o e => of_hidT e,Nat.le_of_eq (hidT_size _ _),trivial,fun b hb => absurd (show b ∈ ([] : List Addr) from hb) (by simp),hok,.of_eq hg⟩
    refine codeAny_mono ((F _ hKb (nsK hns)).run callerA [] s₁ H ⟨[.ref a],[]⟩ [.ref a] [.ref a] _ _ hr e0 (hbind s₁ (.ref a)) (.cons rfl .nil) (hsp H hO hS)) fun r s' h => ?_
    cases r with
    | error e => exact (hCX H e s' h).elim
    | ok fl =>
      cases fl with
      | next => exact False.elim h
      | brk => exact False.elim h
      | cont => exact False.elim h
      | ret u =>
        obtain ⟨v,H',os,bare,un,hok',r',q⟩ := h
        have q' : v = .bl true := q
        subst q'
        obtain rfl : u = Value.bool true := r'
        refine ⟨rfl,OldK.of_keep fun b o e => ?_,os,bare⟩
        cases q : H b with
        | none => exact un.keep b o e q (by intro z; exact absurd (show b ∈ ([] : List Addr) from z) (by simp)) (by simp)
        | some u =>
          rcases hO b with z | ⟨ob,xs,z⟩
          · rw [q] at z; cases z
          · have z2 := un.frzs b ob _ z
            obtain ⟨e1,_⟩ := hok b _ z
            obtain ⟨e2,_⟩ := hok' b _ z2
            rw [e] at e1; cases e1
            exact e2
  cases hk : K.lookup a with
  | some o =>
    have e := KX a o hk
    rw [ha] at e
    cases e
    refine core (fun _ => none) (fun _ => .inl rfl) (.inr ⟨_,vs.toArray,_,hk,rfl,rfl,rfl,by rw [List.size_toArray,lenV]; exact hl,by simpa using rv⟩) (fun b u z => by have z' : (none : Option HO) = some u := z; cases z') (fun b z => absurd rfl z) fun z => absurd rfl z
  | none =>
    refine core (fun b => if b = a then some (.frz { cls := .type "list",data := .seq vs.toArray } (.lst (ns.map V.int))) else none) (fun b => ?_) (.inl (.inr ⟨{ cls := .type "list",data := .seq vs.toArray },if_pos rfl⟩)) (fun b u z => ?_) (fun b z => ?_) fun _ => hk
    · by_cases hb : b = a
      · exact .inr ⟨_,_,if_pos hb⟩
      · exact .inl (if_neg hb)
    · by_cases hb : b = a
      · have z' := (if_pos hb).symm.trans z
        cases z'
        subst hb
        exact ⟨ha,by rw [List.length_map]; exact hl,vs,_,rv,ha⟩
      · have z' := (if_neg hb).symm.trans z
        cases z'
    · by_cases hb : b = a
      · exact hb
      · exact absurd (if_neg hb) z
end L2
namespace L2
open PySem PySem.Spec PyProof.Rows
theorem walk_of {l : PySem.W.OpenLaw} {n k : Nat} {q : Program} {loose : List Str} {XP : (Str → Option Value) → Heap → Prop} {YP : World → Heap → Prop} {d : DefRec} {K : Params → PySem.W.Frag} {CX : World → CXT} {sp : World → Sp} {x : Str}
    (hn : l.most = some n) (hn2 : n ≤ sizeLine) (hdf : d.params.defaults = []) (hr : Room k callerA)
    (hY : ∀ (w : World) (h : Heap),YP w h → (K w.params).In h)
    (F : ∀ (w : World) (mg : Str → Option Value) (fa : Addr) (h : Heap),(K w.params).In h → h.Ns mainGlobals mg → mg d.name = some (.ref fa) →
      ∃ fd : FuncData,(∀ (s : Shared) (u : Value),BindsTo s fd ⟨[u],[]⟩ [(x,u)]) ∧
        ∀ base : Heap,(K w.params).In base → base.Ns mainGlobals mg → FnOk l.prog w (K w.params) mg base (CX w) k fa fd [x] (sp w))
    (hsp : ∀ (w : World) (H : Hp) (a : Addr) (ns : List Int),ns.length ≤ n → Only H → SqL (K w.params) H a (ns.map V.int) → sp w [.ref a] H (fun v _ => v = .bl true) fun _ _ _ => False)
    (hCX : ∀ (w : World) (H : Hp) (s : Shared) (e : Value) (s' : Shared),CX w [] H s (fun _ _ _ => False) e s' → False) :
    PySem.W.WalkO q loose XP YP l.row.toRowW d [] (fun f vs => PySem.call f vs) := by
  refine Att.attach_call hn hdf fun w s₀ s₁ mg mb fa o pm cd doc a vs ns G Y ho hd hcd hmg hobj hints hlen hg => ?_
  have KX := hY w _ Y
  obtain ⟨fd,hb,hF⟩ := F w mg fa _ KX G.T.g hmg
  exact law_call KX G.T.g G.T.b G.T.builtins G.T.nolimit hg hobj hints (Nat.le_trans hlen hn2) hr hF hb (fun H hO hS => hsp w H a ns hlen hO hS) fun H e s' => hCX w H s₁ e s'
end L2
namespace L2
open PySem PySem.Spec PyProof.Rows
def inClass (s : Stmt) (j : Nat) : Stmt := match s with
  | .ClassDef _ _ _ body _ _ _ _ _ _ _ => body.getD j (.Pass ⟨0,0,0,0⟩)
  | _ => .Pass ⟨0,0,0,0⟩
def defArgs (s : Stmt) : Arguments := match s with
  | .FunctionDef _ a _ _ _ _ _ _ _ _ => a
  | _ => { posonlyargs := [],args := [],vararg := none,kwonlyargs := [],kw_defaults := [],kwarg := none,defaults := [] }
def defBody (s : Stmt) : List Stmt := match s with
  | .FunctionDef _ _ b _ _ _ _ _ _ _ => b
  | _ => []
def defScope (s : Stmt) : Scope := match s with
  | .FunctionDef _ _ _ _ _ _ sc _ _ _ => sc
  | _ => { kind := .function,names := [],isGenerator := false,isCoroutine := false }
abbrev CX0 : CXT := fun _ _ _ _ _ _ => False
abbrev E0 : XK := fun _ _ _ => False
theorem pass0 {X : Cx} : Passes CX0 X E0 := fun _ _ _ _ _ _ _ h => h.elim
structure Fun (K : PySem.W.Frag) (x qual : Str) (st : Stmt) (f : Addr) (fd : FuncData) : Prop where
  ex : ∃ (oc : Value) (od : Option Addr) (kV doc pm : Value) (an : Option Addr) (cdv ct : Value) (osl : Array (Option Value)),
    fd = PySem.W.fnOf x qual (defArgs st) (defBody st) (defScope st) .none kV doc pm an cdv ct ∧ K.lookup f = some ⟨oc,od,.func fd,osl⟩ ∧ PySem.W.codeIn K cdv qual = true
  kp : PySem.W.keepIn K (.ref f) = true
section
variable {P : Program} {w : World} {K : PySem.W.Frag} {mg : Str → Option Value} {base : Heap}
theorem Fun.ok {x qual : Str} {st : Stmt} {f : Addr} {fd : FuncData} {N ps : List Str} {k : Nat} {sp : Sp} (F : Fun K x qual st f fd) (S : FnScope N ps (defScope st)) (len : ∀ vs H Q E,sp vs H Q E → vs.length = ps.length)
    (hbody : ∀ (cdv : Value) (A : Around) (outer : List Env) (s : Shared) (H : Hp) (vs : List V) (Q : VK) (E : XK),Room k (A.deeper (envOfC qual (defScope st) s.heap.objs.size f cdv)) → sp vs H Q E →
      ∃ t,PSs (cxOf CX0 P w K mg base N qual (defScope st) f cdv A outer s H E).nox (defBody st) t ∧ t { nx := fun _ H' => Q .non H',rt := Q } (start N vs) H) : FnOk P w K mg base CX0 (k + 1) f fd ps sp := by
  obtain ⟨oc,od,kV,doc,pm,an,cdv,ct,osl,rfl,lk,hcd⟩ := F.ex
  refine fn_of lk hcd S len fun A outer s H vs Q E hr hsp => ?_
  obtain ⟨t,h,q⟩ := hbody cdv A outer s H vs Q E hr hsp
  exact ⟨t,h.nox,q⟩
theorem Fun.binds {x qual : Str} {st : Stmt} {f : Addr} {fd : FuncData} {ps : List Str} (F : Fun K x qual st f fd)
    (h : ∀ (kV doc pm : Value) (an : Option Addr) (cdv ct : Value) (us : List Value),us.length = ps.length → bindArgs (PySem.W.fnOf x qual (defArgs st) (defBody st) (defScope st) .none kV doc pm an cdv ct) ⟨us,[]⟩ = pure (ps.zip us)) : Binds K fd ps [] := by
  obtain ⟨oc,od,kV,doc,pm,an,cdv,ct,osl,rfl,lk,hcd⟩ := F.ex
  exact .all (h kV doc pm an cdv ct)
theorem fun_mk {x qual : Str} {st : Stmt} {f : Addr} {oc : Value} {od an : Option Addr} {osl : Array (Option Value)} {kV doc pm cdv ct : Value} (l : K.lookup f = some ⟨oc,od,.func (PySem.W.fnOf x qual (defArgs st) (defBody st) (defScope st) .none kV doc pm an cdv ct),osl⟩)
    (c : PySem.W.codeIn K cdv qual = true) (k : PySem.W.keepIn K (.ref f) = true) : Fun K x qual st f (PySem.W.fnOf x qual (defArgs st) (defBody st) (defScope st) .none kV doc pm an cdv ct) := ⟨⟨oc,od,kV,doc,pm,an,cdv,ct,osl,rfl,l,c⟩,k⟩
end
section
variable {X : Cx}
theorem pv (i : Nat) {x : Str} {pos : Pos} (hN : X.N[i]? = some x := by rfl) (hv : Vis X.env.scope x := by first | exact Or.inl rfl | exact Or.inr (Or.inl rfl) | exact Or.inr (Or.inr rfl)) (hd : (x == ("__debug__" : Str)) = false := by decide)
    (hcd : (x == ("__classdict__" : Str)) = false := by decide) : PE X (.Name x pos) (tVar i) := pe_var hN hv hd hcd
end
theorem iteF {A B : Prop} (h : B) : if false = true then A else B := by
  rw [if_neg Bool.false_ne_true]
  exact h
theorem iteT {A B : Prop} (h : A) : if true = true then A else B := by
  rw [if_pos rfl]
  exact h
theorem ite2 {c A B : Prop} [Decidable c] (h1 : c → A) (h2 : ¬ c → B) : if c then A else B := by
  by_cases h : c
  · rw [if_pos h]
    exact h1 h
  · rw [if_neg h]
    exact h2 h
def Same (H H' : Hp) : Prop := ∀ b o,H b = some o → H' b = some o
theorem Same.refl (H : Hp) : Same H H := fun _ _ h => h
theorem Same.trans {H H1 H2 : Hp} (a : Same H H1) (b : Same H1 H2) : Same H H2 := fun c o h => b c o (a c o h)
theorem Same.free {H H' : Hp} (e : Same H H') {l : Addr} (h : H' l = Option.none) : H l = Option.none := by
  cases q : H l with
  | none => rfl
  | some o =>
    rw [e l o q] at h
    cases h
theorem Same.seq {K : PySem.W.Frag} {H H' : Hp} {a : Addr} {xs : List V} (e : Same H H') (h : SqL K H a xs) : SqL K H' a xs := by
  rcases h with (h | ⟨o,h⟩) | h
  · exact .inl (.inl (e _ _ h))
  · exact .inl (.inr ⟨o,e _ _ h⟩)
  · exact .inr h
end L2
set_option Elab.async false
set_option linter.all false
set_option maxRecDepth 100000
namespace L2
open PySem PySem.Spec PyProof.Rows
def clAdd (env : Env) : List (Str × NameKind) → List (Str × Addr) → List (Str × Addr)
  | [],acc => acc
  | (n,k) :: r,acc => clAdd env r (if (k == NameKind.free) = true then (n,(env.cells.lookup n).getD 0) :: acc else acc)
theorem clAdd_lookup (env : Env) : ∀ (names : List (Str × NameKind)) (acc : List (Str × Addr)) (x : Str) (c : Addr),(∀ y ∈ names,y.2 = .free → ∃ c,env.cells.lookup y.1 = some c) →
    (∀ x c,acc.lookup x = some c → env.cells.lookup x = some c) → (clAdd env names acc).lookup x = some c → env.cells.lookup x = some c
  | [],acc,x,c,_,h,e => h x c e
  | (n,k) :: r,acc,x,c,hf,h,e => by
    refine clAdd_lookup env r _ x c (fun y hy => hf y (List.mem_cons_of_mem _ hy)) (fun x c e' => ?_) e
    by_cases hk : (k == NameKind.free) = true
    · rw [if_pos hk] at e'
      obtain ⟨c0,hc0⟩ := hf (n,k) List.mem_cons_self (by simpa using hk)
      have hc0' : env.cells.lookup n = some c0 := hc0
      rw [List.lookup_cons] at e'
      cases hx : x == n with
      | true =>
        rw [hx] at e'
        have : x = n := by simpa using hx
        subst this
        rw [hc0'] at e' ⊢
        simpa using e'
      | false => rw [hx] at e'; exact h x c e'
    · rw [if_neg hk] at e'; exact h x c e'
theorem clAdd_keep (env : Env) : ∀ (names : List (Str × NameKind)) (acc : List (Str × Addr)) (x : Str),(∃ c,acc.lookup x = some c) → ∃ c,(clAdd env names acc).lookup x = some c
  | [],acc,x,h => h
  | (n,k) :: r,acc,x,h => by
    refine clAdd_keep env r _ x ?_
    by_cases hk : (k == NameKind.free) = true
    · rw [if_pos hk,List.lookup_cons]
      cases hx : x == n with
      | true => exact ⟨_,rfl⟩
      | false => exact h
    · rw [if_neg hk]; exact h
theorem clAdd_has (env : Env) : ∀ (names : List (Str × NameKind)) (acc : List (Str × Addr)) (x : Str),(x,NameKind.free) ∈ names → ∃ c,(clAdd env names acc).lookup x = some c
  | [],acc,x,h => by simp at h
  | (n,k) :: r,acc,x,h => by
    rcases List.mem_cons.mp h with e | e
    · have e1 : x = n := congrArg Prod.fst e
      have e2 : NameKind.free = k := congrArg Prod.snd e
      subst e1
      subst e2
      refine clAdd_keep env r _ x ?_
      rw [if_pos (by simp),List.lookup_cons]
      simp
    · exact clAdd_has env r _ x e
theorem closure_eq {env : Env} {scope : Scope} (hf : ∀ y ∈ scope.names,y.2 = .free → ∃ c,env.cells.lookup y.1 = some c) : closureFor scope env = pure (clAdd env scope.names []) := by
  have key : ∀ (names : List (Str × NameKind)) (acc : List (Str × Addr)),(∀ y ∈ names,y.2 = .free → ∃ c,env.cells.lookup y.1 = some c) →
      (forIn names acc (fun (x : Str × NameKind) (r : List (Str × Addr)) => (if (x.2 == NameKind.free) = true then do
        let a ← cellOf env x.1
        pure (ForInStep.yield ((x.1,a) :: r)) else pure (ForInStep.yield r)) ) : Sem (List (Str × Addr))) = pure (clAdd env names acc) := by
    intro names
    induction names with
    | nil => intro acc _; rfl
    | cons y r ih =>
      intro acc h
      obtain ⟨n,k⟩ := y
      have ih' := fun acc => ih acc fun z hz => h z (List.mem_cons_of_mem _ hz)
      rw [List.forIn_cons]
      by_cases hk : (k == NameKind.free) = true
      · obtain ⟨c,hc⟩ := h (n,k) List.mem_cons_self (by simpa using hk)
        have hc' : env.cells.lookup n = some c := hc
        have e1 : cellOf env n = pure c := by unfold cellOf; rw [hc']
        have e2 : clAdd env ((n,k) :: r) acc = clAdd env r ((n,c) :: acc) := by
          show clAdd env r _ = _
          rw [if_pos hk,hc']; rfl
        rw [if_pos hk,e2,← ih']
        show ((cellOf env n >>= fun a => pure (ForInStep.yield ((n,a) :: acc))) >>= _) = _
        rw [e1]
        rfl
      · have e2 : clAdd env ((n,k) :: r) acc = clAdd env r acc := by
          show clAdd env r _ = _
          rw [if_neg hk]
        rw [if_neg hk,e2,← ih']
        rfl
  have := key scope.names [] hf
  simp only [closureFor]
  exact (congrArg (fun m => m >>= fun r => (pure r : Sem _)) this).trans rfl
theorem relabel_back {env : Env} {scope : Scope} (hcell : ∀ y ∈ scope.names,y.2 ≠ .cell) {x : Str} : ((relabel scope env).names.lookup x = some .cell ∨ (relabel scope env).names.lookup x = some .free) → (x,NameKind.free) ∈ scope.names := by
  have key : ∀ names : List (Str × NameKind),(∀ y ∈ names,y.2 ≠ .cell) → ∀ k,(names.map fun (n,k) => if (k == NameKind.free && env.scope.kind == .function && env.kindOf n == some .cell) then (n,NameKind.cell) else (n,k)).lookup x = some k →
      (k = .cell ∨ k = .free) → (x,NameKind.free) ∈ names := by
    intro names
    induction names with
    | nil => intro _ k h _; simp at h
    | cons y r ih =>
      obtain ⟨n,k'⟩ := y
      intro hc k h hk
      have nc : k' ≠ .cell := hc (n,k') List.mem_cons_self
      rw [List.map_cons] at h
      by_cases hb : (k' == NameKind.free && env.scope.kind == .function && env.kindOf n == some .cell) = true
      · have hb' : k' = .free := by simp at hb; exact hb.1.1
        dsimp only at h
        rw [if_pos hb,List.lookup_cons] at h
        cases hx : x == n with
        | true => have : x = n := by simpa using hx
                  subst this; subst hb'; exact List.mem_cons_self
        | false => rw [hx] at h; exact List.mem_cons_of_mem _ (ih (fun y hy => hc y (List.mem_cons_of_mem _ hy)) k h hk)
      · dsimp only at h
        rw [if_neg hb,List.lookup_cons] at h
        cases hx : x == n with
        | true =>
          rw [hx] at h
          have : x = n := by simpa using hx
          subst this
          have e : k' = k := by simpa using h
          rcases hk with q | q
          · exact absurd (e.trans q) nc
          · rw [e,q]; exact List.mem_cons_self
        | false => rw [hx] at h; exact List.mem_cons_of_mem _ (ih (fun y hy => hc y (List.mem_cons_of_mem _ hy)) k h hk)
  rintro (h | h)
  · exact key _ hcell _ h (.inl rfl)
  · exact key _ hcell _ h (.inr rfl)
def blkCx (X : Cx) (pins : List (Addr × Obj)) (s2 : Shared) (H2 : Hp) (scope : Scope) (C : Addr) (N' : List Str) (fp : List Addr) : Cx where
  prog := X.prog
  w := X.w
  K := X.K
  mg := X.mg
  base := X.base
  A := X.A
  N := N'
  s₀ := s2
  H₀ := H2
  env := compEnvC scope (clAdd X.env scope.names []) C X.env
  outer := X.stack
  stack := X.stack
  ex := fp
  fn := fun _ => false
  calm := X.calm
  pn := X.pn ++ pins
  xe := fun _ _ => False
def blkSt (σ : St) (cap : List Nat) (k : Nat) : St := List.replicate k none ++ cap.map fun j => (σ[j]?).join
def leS (σ σ' : St) : Prop := σ'.length = σ.length ∧ ∀ (i : Nat) v,σ[i]? = some (some v) → σ'[i]? = some (some v)
theorem leS.set {σ : St} {i : Nat} {v : V} (h : σ[i]? = some none) : leS σ (σ.set i (some v)) := by
  refine ⟨by simp,fun j w e => ?_⟩
  by_cases hj : j = i
  · subst hj; rw [h] at e; cases e
  · rw [List.getElem?_set_ne (Ne.symm hj)]; exact e
structure CompOk (X : Cx) (scope : Scope) (own : List Str) (cs : List Str) (cap : List Nat) : Prop where
  kind : scope.kind = .function
  cell : ∀ y ∈ scope.names,y.2 ≠ .cell
  names : ∀ y ∈ scope.names,y.2 = .local → scope.names.lookup y.1 = some .local
  free : ∀ y ∈ scope.names,y.2 = .free → X.env.kindOf y.1 = some .cell ∨ X.env.kindOf y.1 = some .free
  caps : ∀ (i : Nat) y,cs[i]? = some y → ∃ j,cap[i]? = some j ∧ X.N[j]? = some y ∧ (y,NameKind.free) ∈ scope.names
  ownl : ∀ y ∈ own,scope.names.lookup y = some .local
  len : cs.length = cap.length
  free2 : ∀ y,(y,NameKind.free) ∈ scope.names → scope.names.lookup y = some .local → False
def PIfs (X : Cx) (ifs : List Expr) (tt : TT) : Prop :=
  ∀ (pins : List (Addr × Obj)) (s : Shared) (σ : St) (H : Hp) (Q : Bool → Hp → Prop),Inv X pins σ H s → tt σ H Q →
    wpAny (model X.prog X.w) X.A (forIn ifs true fun c r => if r = true then do let ok ← isTrue c X.env (eval c X.env); pure (ForInStep.yield ok) else pure (ForInStep.yield r)) (TP X pins σ Q) X.xe s
def tYes : TT := fun _ H Q => Q true H
theorem pifs_nil {X : Cx} : PIfs X [] tYes := fun _ _ _ H _ I h => wpAny_tests_nil ⟨H,I,h⟩
theorem pifs_one {X : Cx} {c : Expr} {tt : TT} (h : PT X c tt) : PIfs X [c] tt := fun pins s σ H Q I q => wpAny_tests_one (h pins s σ H Q I q)
def CompW (σ : St) (cap : List Nat) (k : Nat) (J : It) (g : TG) (tt : TT) (te : TE) (Q : List V → Hp → Prop) (W : Nat → Nat → List V → Hp → Prop) : Prop :=
  ∀ i m ys H,W i m ys H → (J.stop i H ∧ ys.length ≤ sizeLine ∧ Q ys H) ∨
    (J.go i H ∧ ys.length < sizeLine ∧ ∀ x H',J.yld i H x H' → g x (blkSt σ cap k) H' fun σ2 H2 => leS (blkSt σ cap k) σ2 ∧ tt σ2 H2 fun ok H3 =>
      if ok = true then te σ2 H3 (fun v H4 => ∃ m',m' < m ∧ W (i + 1) m' (ys ++ [v]) H4) else ∃ m',m' < m ∧ W (i + 1) m' ys H3)
theorem HOk.add {P : Program} {w : World} {H : Hp} {h : Heap} {a : Addr} {o : HO} (x : HOk P w H h) (n : H a = none) (new : ObjOk P w (upd H a o) h a o) : HOk P w (upd H a o) h := fun b u e => by
  by_cases hb : b = a
  · subst hb; rw [upd_same] at e; cases e; exact new
  · rw [upd_ne hb] at e
    exact (x b u e).stay (fun c v _ q => q) (fun c q => by rw [upd_ne (ne_of_none q n)]; exact q) fun c xs q => by rw [upd_ne (ne_of_none q n)]; exact q
section
variable {X : Cx} {pins : List (Addr × Obj)} {σ : St} {H2 : Hp} {s2 : Shared} {scope : Scope} {own cs : List Str} {cap : List Nat} {fp : List Addr}
theorem blk_start {h1 : Heap} {C : Addr} {tk : Nat} (I : Inv X pins σ H2 s2) (ok : CompOk X scope own cs cap) (hf : ∀ b ∈ fp,FpOk X pins H2 b) (hfl : ∀ b ∈ fp,b < s2.heap.objs.size)
    (hC : s2.heap.objs.size ≤ C) (hns : h1.Ns C (fun _ => none)) (old : ∀ b o,s2.heap.get? b = some o → h1.get? b = some o) :
    Inv (blkCx X pins s2 H2 scope C (own ++ cs) fp) [] (blkSt σ cap own.length) H2 { s2 with heap := h1,toks := tk } := by
  have hfr : ∀ y ∈ scope.names,y.2 = .free → ∃ c,X.env.cells.lookup y.1 = some c := fun y hy e => I.ok.has y.1 (ok.free y hy e)
  have sub : ∀ x c,(clAdd X.env scope.names []).lookup x = some c → X.env.cells.lookup x = some c := fun x c e => clAdd_lookup X.env scope.names [] x c hfr (fun _ _ z => by simp at z) e
  have clt : ∀ x c,(clAdd X.env scope.names []).lookup x = some c → c < s2.heap.objs.size := fun x c e => by
    obtain ⟨v,o,ho,_⟩ := I.cell x c (sub x c e)
    exact Heap.lt_size ho
  refine ⟨⟨I.ok.mod,ok.kind,I.ok.glob,I.ok.blt,hC,fun y z c h1 h2 => I.ok.inj y z c (sub y c h1) (sub z c h2),fun y hy => ?_,fun y c z => ?_,I.ok.hd,I.ok.frames,.inl rfl,fun b hb => ?_,I.bs,Nat.le_trans I.ok.bsz I.sz,fun b o e hb => ?_,fun b hb z => ?_,I.stack,I.stkFree⟩,
    rfl,I.bare,Un.kept old,⟨_,hns,fun i y v e1 e2 e3 => ?_⟩,fun y c e => ?_,I.hok.fresh hC,fun y c e => I.freeC y c (sub y c e),fun p hp => ?_,I.hok.kept old,?_⟩
  · have hm := relabel_back ok.cell hy
    exact clAdd_has X.env scope.names [] y hm
  · exact absurd (show false = true from z) Bool.false_ne_true
  · exact ⟨Nat.ne_of_lt (Nat.lt_of_lt_of_le (hfl b hb) hC),fun x c e => (hf b hb).2.2.2.2.1 x c (sub x c e)⟩
  · rcases (hf b hb).2.2.2.1 with z | z
    · exact I.ok.noex b o e z
    · exact absurd (Nat.lt_of_lt_of_le (Heap.lt_size (I.ok.bs b o e).1) z) (Nat.lt_irrefl _)
  · rcases List.mem_cons.mp (I.stkSub b z) with q | q
    · exact (hf b hb).2.1 q
    · exact (hf b hb).2.2.1 q
  · have hi : own.length ≤ i := by
      refine Nat.le_of_not_lt fun q => ?_
      unfold blkSt at e2
      rw [List.getElem?_append_left (by simpa using q),List.getElem?_replicate] at e2
      split at e2 <;> cases e2
    have e1' : cs[i - own.length]? = some y := by
      have e1 : (own ++ cs)[i]? = some y := e1
      rwa [List.getElem?_append_right hi] at e1
    obtain ⟨j,hj,hN,hm⟩ := ok.caps _ y e1'
    have hk := ok.free _ hm rfl
    have e2' : σ[j]? = some (some v) := by
      unfold blkSt at e2
      rw [List.getElem?_append_right (by simpa using hi),List.length_replicate,List.getElem?_map,hj] at e2
      have e2 : (σ[j]?).join = some v := by simpa using e2
      cases q : σ[j]? with
      | none => rw [q] at e2; cases e2
      | some w => rw [q] at e2; have : w = some v := e2; rw [this]
    obtain ⟨m,hn,hl⟩ := I.loc
    obtain ⟨u,ru,l⟩ := hl j y v hN e2' (by rcases hk with q | q; exact .inr (.inl q); exact .inr (.inr q))
    refine ⟨u,ru,.inr ?_⟩
    obtain ⟨c,hc⟩ := clAdd_has X.env scope.names [] y hm
    have hc' := sub y c hc
    have cellu : h1.IsCell c (some u) := by
      rcases l with ⟨k,_⟩ | ⟨k,c',e,o,ho,hd⟩
      · rcases hk with q | q <;> (have z : X.env.kindOf y = _ := q; rw [k] at z; cases z)
      · rw [hc'] at e; cases e
        exact ⟨o,old _ _ ho,hd⟩
    refine ⟨?_,c,hc,cellu⟩
    rcases e3 with z | z | z
    · exfalso
      have key : ∀ names : List (Str × NameKind),True := fun _ => trivial
      have z : (relabel scope X.env).names.lookup y = some .local := z
      have zz : scope.names.lookup y = some .local := by
        unfold relabel at z
        dsimp only at z
        revert z
        generalize scope.names = names
        induction names with
        | nil => intro z; simp at z
        | cons q r ih =>
          obtain ⟨n,k⟩ := q
          intro z
          rw [List.map_cons] at z
          by_cases hb : (k == NameKind.free && X.env.scope.kind == .function && X.env.kindOf n == some .cell) = true
          · dsimp only at z
            rw [if_pos hb,List.lookup_cons] at z
            rw [List.lookup_cons]
            cases hx : y == n with
            | true => rw [hx] at z; cases z
            | false => rw [hx] at z; exact ih z
          · dsimp only at z
            rw [if_neg hb,List.lookup_cons] at z
            rw [List.lookup_cons]
            cases hx : y == n with
            | true => rw [hx] at z; exact z
            | false => rw [hx] at z; exact ih z
      have := ok.free2 y hm zz
      exact this
    · exact .inl z
    · exact .inr z
  · obtain ⟨v,o,ho,hd⟩ := I.cell y c (sub y c e)
    exact ⟨v,o,old _ _ ho,hd⟩
  · have hp' : p ∈ X.pn ++ pins := by
      have : p ∈ (X.pn ++ pins) ++ [] := hp
      simpa using this
    obtain ⟨e,n,ne,nf,d⟩ := I.pin p hp'
    refine ⟨old _ _ e,n,Nat.ne_of_lt (Nat.lt_of_lt_of_le (Heap.lt_size e) hC),fun z => ?_,d⟩
    rcases List.mem_cons.mp (I.stkSub p.1 z) with q | q
    · exact ne q
    · exact nf q
  · show (blkSt σ cap own.length).length = (own ++ cs).length
    unfold blkSt
    rw [List.length_append,List.length_replicate,List.length_map,List.length_append,ok.len]
end
end L2
set_option Elab.async false
set_option linter.all false
set_option maxRecDepth 100000
namespace L2
open PySem PySem.Spec PyProof.Rows
section
variable {X : Cx} {pins : List (Addr × Obj)} {σ : St} {H2 : Hp} {s2 : Shared} {scope : Scope} {own cs : List Str} {cap : List Nat} {fp : List Addr} {it : Addr} {tn : Nat → Heap → Prop}
  {elt tg iter : Expr} {ifs : List Expr} {pos : Pos} {J : It} {g : TG} {tt : TT} {te : TE} {E : Value → Shared → Prop} {W : Nat → Nat → List V → Hp → Prop} {Qf : List V → Hp → Prop}
structure BlkEnd (X : Cx) (pins : List (Addr × Obj)) (σ : St) (Qf : List V → Hp → Prop) (D C : Addr) (s' : Shared) : Prop where
  ex : ∃ (ys : List V) (H' : Hp),H' D = none ∧ Qf ys H' ∧ Inv X pins σ (upd H' D (.lst ys)) s' ∧ FpOk X pins (upd H' D (.lst ys)) C
  ns : ∃ m,s'.heap.Ns C m
theorem Inv.bareP {pins' : List (Addr × Obj)} {H : Hp} {s : Shared} (I : Inv X pins' σ H s) : Inv X [] σ H s := I.pins_of fun p hp => absurd hp (by simp)
theorem comp_run {RR : Value → Addr → Result → Shared → Prop} (I : Inv X pins σ H2 s2) (ok : CompOk X scope own cs cap) (hc : X.calm = true) (T : Turn X.prog X.w X.K tg J fp it tn) (st : tn 0 s2.heap) (hf : ∀ b ∈ fp,FpOk X pins H2 b)
    (hg : ∀ C,PG (blkCx X pins s2 H2 scope C (own ++ cs) fp) tg g) (hi : ∀ C,PIfs (blkCx X pins s2 H2 scope C (own ++ cs) fp) ifs tt) (he : ∀ C,PE (blkCx X pins s2 H2 scope C (own ++ cs) fp) elt te)
    (w0 : ∃ m,W 0 m [] H2) (turn : CompW σ cap own.length J g tt te Qf W)
    (hRR : ∀ D C s',BlkEnd X pins σ Qf D C s' → RR (.ref D) C (.ok .next) s') :
    wpAny (model X.prog X.w) X.A (newList []) (fun acc s₃ => wpAny (model X.prog X.w) X.A (newFunctionEnv scope X.env.globals (clAdd X.env scope.names []) [] X.env.qual none .none (some X.env)) (fun cenv s₄ =>
      codeAny (model X.prog X.w) X.A (.compStart (.ListComp elt [⟨tg,iter,ifs,0⟩] scope pos) 0 (.ref it) acc { cenv with scope := relabel scope X.env }) (RR acc cenv.locals) s₄) E s₃) E s2 := by
  refine wpAny_newObj_type (wpAny_newFunctionEnv ok.cell (by intro y hy; simp at hy) (fun h₁ hns₁ hsb₁ => ?_) ok.kind)
  dsimp only at hns₁ hsb₁ ⊢
  generalize hHH : s2.heap.push { cls := .type "list",dict := none,data := .seq ([] : List Value).toArray } = HH at hns₁ hsb₁ ⊢
  have hCs : HH.objs.size = s2.heap.objs.size + 1 := by rw [← hHH,Heap.size_push]
  have hDC : s2.heap.objs.size ≠ HH.objs.size := by rw [hCs]; exact Nat.ne_of_lt (Nat.lt_succ_self _)
  have hCle : s2.heap.objs.size ≤ HH.objs.size := by rw [hCs]; exact Nat.le_succ _
  have hfl : ∀ b ∈ fp,b < s2.heap.objs.size := fun b hb => by
    obtain ⟨o,e,_⟩ := T.obj 0 _ st b hb
    exact Heap.lt_size e
  have old : ∀ b o,s2.heap.get? b = some o → h₁.get? b = some o := fun b o e => hsb₁.extBut b o (by rw [hCs]; exact Nat.ne_of_lt (Nat.lt_succ_of_lt (Heap.lt_size e))) (Heap.get?_push_of_some _ (hHH ▸ Heap.get?_push_of_some _ e))
  have hacc : h₁.PlainList s2.heap.objs.size #[] := ⟨_,hsb₁.extBut _ _ hDC (Heap.get?_push_of_some _ (hHH ▸ Heap.get?_push_size _ rfl))⟩
  generalize hD : s2.heap.objs.size = D at *
  generalize hCC : HH.objs.size = C at *
  have hns₁' : h₁.Ns C (fun _ => none) := hns₁
  have I0 : Inv (blkCx X pins s2 H2 scope C (own ++ cs) fp) [] (blkSt σ cap own.length) H2 { s2 with heap := h₁,toks := s2.toks + ([] : List (Str × Value)).length } :=
    blk_start I ok hf (fun b hb => by rw [hD]; exact hfl b hb) (by rw [hD]; exact hCle) hns₁' old
  have Dfs : D ∉ frs X.stack := fun hb => by
    obtain ⟨_,o,ho,_⟩ := I.stack.mem hb
    exact absurd (Heap.lt_size ho) (by rw [hD]; exact Nat.lt_irrefl _)
  have Dfp : ∀ b ∈ fp,D ≠ b := fun b hb z => absurd (hfl b hb) (by rw [← z]; exact Nat.lt_irrefl _)
  have clt : ∀ x c,(clAdd X.env scope.names []).lookup x = some c → c < D := fun x c e => by
    have e' := clAdd_lookup X.env scope.names [] x c (fun y hy e => I.ok.has y.1 (ok.free y hy e)) (fun _ _ z => by simp at z) e
    obtain ⟨v,o,ho,_⟩ := I.cell x c e'
    have := Heap.lt_size ho
    rw [hD] at this; exact this
  have plt : ∀ p ∈ X.pn ++ pins,p.1 < D := fun p hp => by
    have := Heap.lt_size (I.pin p hp).1
    rw [hD] at this; exact this
  have stat : ∀ {H' : Hp} {ob : Obj},(∀ b ∈ fp,H' b = none) → ∀ b ∈ fp,FpOk (blkCx X pins s2 H2 scope C (own ++ cs) fp) [(D,ob)] H' b := fun {H' ob} hn b hb => by
    have q := I0.ok.exf b hb
    refine ⟨hn b hb,q.1,I0.ok.exfs b hb,.inl hb,q.2,fun p hp => ?_⟩
    rcases List.mem_append.mp hp with z | z
    · exact (hf b hb).2.2.2.2.2 p z
    · have : p = (D,ob) := by simpa using z
      subst this
      exact Dfp b hb
  have loop : codeAny (model X.prog X.w) X.A (.compLoop (.ListComp elt [⟨tg,iter,ifs,0⟩] scope pos) 0 (.ref it) (.ref D) (compEnvC scope (clAdd X.env scope.names []) C X.env)) (RR (.ref D) C)
      { s2 with heap := h₁,toks := s2.toks + ([] : List (Str × Value)).length } := by
    obtain ⟨m0,w0⟩ := w0
    refine codeAny_loop rfl (fun n s' => ∃ i H' its ys,Inv (blkCx X pins s2 H2 scope C (own ++ cs) fp) [] (blkSt σ cap own.length) H' s' ∧ tn i s'.heap ∧ (∀ b ∈ fp,H' b = none) ∧ s'.heap.PlainList D its.toArray ∧ Vals ys its ∧ H' D = none ∧ W i n ys H') ?_ m0
      ⟨0,H2,[],[],I0,T.keep 0 _ _ st fun b _ o e => old b o e,fun b hb => (hf b hb).1,hacc,.nil,I.hok.fresh (by rw [hD]; exact Nat.le_refl _),w0⟩
    rintro n s3 ⟨i,H3,its,ys,I3,st3,fr3,⟨nn,pl3⟩,rv3,hD3,w3⟩
    show wpAny _ X.A ((compTurn (.ListComp elt [⟨tg,iter,ifs,0⟩] scope pos) 0 (.ref it) (.ref D) (compEnvC scope (clAdd X.env scope.names []) C X.env)).onRaise (fun x => do noteFrame x (compEnvC scope (clAdd X.env scope.names []) C X.env); theTreesLotGoes x)) _ _ s3
    refine wpAny_noted ?_
    rw [compTurn_list]
    refine wpAny_bind (wpAny_standAt (wpAny_bind ?_))
    have I3' : Inv (blkCx X pins s2 H2 scope C (own ++ cs) fp) [(D, { cls := .type "list", data := .seq its.toArray nn })] (blkSt σ cap own.length) H3 s3 :=
      I3.pins_of fun p hp => by
        have : p = (D,{ cls := .type "list",data := .seq its.toArray nn }) := by simpa using hp
        subst this
        exact ⟨pl3,hD3,hDC,Dfs,fun v z => by cases z⟩
    rcases turn i n ys H3 w3 with ⟨stop,hz,qf⟩ | ⟨go,hz,step⟩
    · refine thn (T.done (blkCx X pins s2 H2 scope C (own ++ cs) fp) rfl rfl rfl hc i _ s3 _ H3 _ I3' (stat fr3) st3 stop) fun r s4 ⟨hr,I4⟩ => ?_
      subst hr
      refine wpAny_pure (hRR D C s4 ⟨⟨ys,H3,hD3,qf,?_,?_⟩,?_⟩)
      · have pl4 := (I4.pin (D,_) (List.mem_append_right _ (List.mem_singleton.mpr rfl))).1
        have u4 := I4.base
        have Ds2 : s2.heap.get? D = none := Heap.get?_none_of_le (by rw [hD]; exact Nat.le_refl _)
        refine I.call' (s' := s4) (ch := fp) I4.os ⟨u4.keep,u4.slot,fun b o e n hx => ?_,u4.there,fun b xs e => ?_,fun b o u e => ?_,fun b ps e => ?_⟩ ?_ I4.bare fun b hb => ⟨(hf b hb).2.2.2.1,(hf b hb).2.1,(hf b hb).2.2.2.2.1,(hf b hb).2.2.2.2.2⟩
        · rw [upd_ne (fun z => by rw [z,Ds2] at e; cases e)]
          exact u4.free b o e n hx
        · have := u4.tups b xs e
          rw [upd_ne (ne_of_none this hD3)]; exact this
        · have := u4.frzs b o u e
          rw [upd_ne (ne_of_none this hD3)]; exact this
        · obtain ⟨more,e'⟩ := u4.tbls b ps e
          exact ⟨more,by rw [upd_ne (ne_of_none e' hD3)]; exact e'⟩
        · exact I4.hok.add hD3 ⟨hz,its,nn,rv3,pl4⟩
      · have CH : (upd H3 D (.lst ys)) C = none := by rw [upd_ne (Ne.symm hDC)]; exact I4.free
        exact I.fpOk (H' := upd H3 D (.lst ys)) (by rw [hD]; exact hCle) CH
      · obtain ⟨m,hn,_⟩ := I4.loc
        exact ⟨m,hn⟩
    · refine thn (T.item (blkCx X pins s2 H2 scope C (own ++ cs) fp) rfl rfl rfl hc i _ s3 _ H3 _ I3' (stat fr3) st3 go) fun r s4 ⟨u,hr,h4⟩ => ?_
      subst hr
      refine wpAny_bind (thn h4 fun _ s5 ⟨x,H5,I5,r5,y5,st5,fr5⟩ => ?_)
      have I5' := I5.pinned (stat fr5) (T.obj _ _ st5)
      refine wpAny_bind (wpAny_mono (hg C _ s5 _ H5 x u _ I5' r5 (step x H5 y5)) (fun _ s6 ⟨σ6,H6,I6,le6,q6⟩ => ?_) fun _ _ z => False.elim z)
      refine wpAny_bind (wpAny_mono (hi C _ s6 σ6 H6 _ I6 q6) (fun b s7 ⟨H7,I7,q7⟩ => ?_) fun _ _ z => False.elim z)
      have back : ∀ {pins' : List (Addr × Obj)} {H8 : Hp} {s8 : Shared},Inv (blkCx X pins s2 H2 scope C (own ++ cs) fp) pins' σ6 H8 s8 → Inv (blkCx X pins s2 H2 scope C (own ++ cs) fp) [] (blkSt σ cap own.length) H8 s8 := fun I8 =>
        I8.bareP.weak le6.1.symm fun i v e => le6.2 i v e
      cases b with
      | false =>
        rw [if_neg Bool.false_ne_true] at q7
        obtain ⟨m',hm,w7⟩ := q7
        refine wpAny_pure ⟨rfl,m',hm,i + 1,H7,its,ys,back I7,T.keep _ _ _ st5 fun b hb o e => ?_,fun b hb => ?_,⟨nn,?_⟩,rv3,?_,w7⟩
        · exact (I7.pin (b,o) (List.mem_append_right _ (List.mem_append_right _ (mem_pinsAt hb e)))).1
        · obtain ⟨o,e,d⟩ := T.obj _ _ st5 b hb
          exact (I7.pin (b,o) (List.mem_append_right _ (List.mem_append_right _ (mem_pinsAt hb e)))).2.1
        · exact (I7.pin (D,_) (List.mem_append_right _ (List.mem_append_left _ (List.mem_singleton.mpr rfl)))).1
        · exact (I7.pin (D,_) (List.mem_append_right _ (List.mem_append_left _ (List.mem_singleton.mpr rfl)))).2.1
      | true =>
        rw [if_pos rfl] at q7
        refine wpAny_bind (wpAny_bind (wpAny_mono (he C _ s7 σ6 H7 _ I7 q7) (fun y s8 ⟨v,H8,I8,r8,m',hm,w8⟩ => ?_) fun _ _ z => False.elim z))
        have pD := I8.pin (D,{ cls := .type "list",data := .seq its.toArray nn }) (List.mem_append_right _ (List.mem_append_left _ (List.mem_singleton.mpr rfl)))
        have hlen := rv3.length
        refine wpAny_bind (wpAny_list_append_plain (hsz := by rw [List.size_toArray]; omega) ⟨nn,pD.1⟩ fun h9 pl9 sb9 => wpAny_pure (wpAny_pure ?_))
        have I8' := back I8
        refine ⟨rfl,m',hm,i + 1,H8,its ++ [y],ys ++ [v],?_,T.keep _ _ _ st5 fun b hb o e => ?_,fun b hb => ?_,?_,rv3.append (.cons r8 .nil),pD.2.1,w8⟩
        · exact I8'.turned (t' := s8.toks) (fun b o hb e => sb9.extBut b o hb e) pD.2.1 hDC (.inr (by show s2.heap.objs.size ≤ D; rw [hD]; exact Nat.le_refl _)) (fun x c e => Nat.ne_of_lt (clt x c e)) fun p hp => by
            have hp' : p ∈ X.pn ++ pins := by
              have : p ∈ (X.pn ++ pins) ++ [] := hp
              simpa using this
            exact Nat.ne_of_lt (plt p hp')
        · exact sb9.extBut b o (Ne.symm (Dfp b hb)) (I8.pin (b,o) (List.mem_append_right _ (List.mem_append_right _ (mem_pinsAt hb e)))).1
        · obtain ⟨o,e,d⟩ := T.obj _ _ st5 b hb
          exact (I8.pin (b,o) (List.mem_append_right _ (List.mem_append_right _ (mem_pinsAt hb e)))).2.1
        · have e : its.toArray.push y = (its ++ [y]).toArray := by simp
          rw [← e]; exact pl9
  exact codeAny_compStart_list loop (T.self _ 0 _ _ _ (T.keep 0 _ _ st fun b _ o e => old b o e) loop)
def tComp (wi : TI) (cap : List Nat) (k : Nat) (g : TG) (tt : TT) (te : TE) : TE := fun σ H Q => wi σ H fun J H1 =>
  ∃ W : Nat → Nat → List V → Hp → Prop,(∃ m,W 0 m [] H1) ∧ CompW σ cap k J g tt te (fun ys H' => ∀ p,H' p = none → Q (.ref p) (upd H' p (.lst ys))) W
theorem pe_comp {wi : TI} (hc : X.calm = true) (hit : PI X tg iter wi) (ok : CompOk X scope own cs cap)
    (hg : ∀ pins s2 H2 C fp,PG (blkCx X pins s2 H2 scope C (own ++ cs) fp) tg g) (hi : ∀ pins s2 H2 C fp,PIfs (blkCx X pins s2 H2 scope C (own ++ cs) fp) ifs tt) (he : ∀ pins s2 H2 C fp,PE (blkCx X pins s2 H2 scope C (own ++ cs) fp) elt te)
    (hs : ∀ x,foldedSetIterable iter X.env x = pure x := by intro _; rfl) : PE X (.ListComp elt [⟨tg,iter,ifs,0⟩] scope pos) (tComp wi cap own.length g tt te) := by
  intro pins s σ H Q I h
  rw [eval_ListComp]
  refine wpAny_comprehension_free (use := none) rfl hs (closure_eq fun y hy e => I.ok.has y.1 (ok.free y hy e)) ok.kind ok.names (thn (hit pins s σ H _ I h) fun v s1 h1 => thn h1 fun itv s2 h2 => ?_)
  obtain ⟨it,fp,tn,J,H2,e,I2,T,st2,f2,W,w0,turn⟩ := h2
  subst e
  refine comp_run (RR := fun acc C => compPost (model X.prog X.w) X.A X.xe none (EP X pins σ Q) acc C) I2 ok hc T st2 f2 (fun C => hg _ _ _ _ _) (fun C => hi _ _ _ _ _) (fun C => he _ _ _ _ _) w0 turn fun D C s' B => ?_
  obtain ⟨⟨ys,H',hD,q,I',fp'⟩,m,hn⟩ := B
  obtain ⟨f0,f1,f2',f3,f4,f5⟩ := fp'
  exact ⟨m,hn,fun h' sb => ⟨.ref D,_,I'.turned (t' := s'.toks) (fun b o hb e => sb.extBut b o hb e) f0 f1 f3 f4 f5,rfl,q D hD⟩⟩
theorem ps_comp {wi : TI} {i : Nat} {y : Str} {py spos : Pos} (hc : X.calm = true) (hN : X.N.Nodup) (hiy : X.N[i]? = some y) (hy : X.env.scope.names.lookup y = some .local)
    (hsw : swapsWith (.ListComp elt [⟨tg,iter,ifs,0⟩] scope pos) (some (.Name y py)) spos.line X.env = pure true) (hit : PI X tg iter wi) (ok : CompOk X scope own cs cap)
    (hg : ∀ pins s2 H2 C fp,PG (blkCx X pins s2 H2 scope C (own ++ cs) fp) tg g) (hi : ∀ pins s2 H2 C fp,PIfs (blkCx X pins s2 H2 scope C (own ++ cs) fp) ifs tt) (he : ∀ pins s2 H2 C fp,PE (blkCx X pins s2 H2 scope C (own ++ cs) fp) elt te)
    (hs : ∀ x,foldedSetIterable iter X.env x = pure x := by intro _; rfl) : PS X (.Assign [.Name y py] (.ListComp elt [⟨tg,iter,ifs,0⟩] scope pos) spos) (tAsg (tComp wi cap own.length g tt te) (gName i)) := by
  intro pins s σ H D0 I h
  rw [exec_Assign_Name_used _ _ _ _ hsw]
  refine wpAny_bind (wpAny_standAt (wpAny_bind ?_))
  show wpAny _ X.A (do let _ ← comprehension (.ListComp elt [⟨tg,iter,ifs,0⟩] scope pos) scope X.env _ (newList []) false (eval iter X.env) (some (assign (.Name y py) X.env))) _ _ s
  refine wpAny_bind (wpAny_mono (wpAny_comprehension_free (use := some (assign (.Name y py) X.env)) (Q := fun _ s' => SP X pins D0 .next s') rfl hs (closure_eq fun y hy e => I.ok.has y.1 (ok.free y hy e)) ok.kind ok.names
    (thn (hit pins s σ H _ I h) fun v s1 h1 => thn h1 fun itv s2 h2 => ?_)) (fun _ s' hq => wpAny_pure (wpAny_pure hq)) fun _ _ e => e)
  obtain ⟨it,fp,tn,J,H2,e,I2,T,st2,f2,W,w0,turn⟩ := h2
  subst e
  refine comp_run (RR := fun acc C => compPost (model X.prog X.w) X.A X.xe (some (assign (.Name y py) X.env)) (fun _ s' => SP X pins D0 .next s') acc C) I2 ok hc T st2 f2 (fun C => hg _ _ _ _ _) (fun C => hi _ _ _ _ _) (fun C => he _ _ _ _ _) w0 turn fun D C s' B => ?_
  obtain ⟨⟨ys,H',hD,q,I',fp'⟩,m,hn⟩ := B
  obtain ⟨f0,f1,f2',f3,f4,f5⟩ := fp'
  show wpAny _ X.A (assign (.Name y py) X.env (.ref D)) _ _ _
  refine wpAny_assign_Name (store_ok2 I' hN hiy (.inl hy) (v := .ref D) rfl (fun s3 I3 ⟨a,sb,ha⟩ => ?_) (.inr hy))
  have hCa : C ≠ a := by
    rcases ha with z | z
    · rw [z]; exact f1
    · exact fun q => f4 y a z q.symm
  refine ⟨m,hn.sameBut sb hCa,fun h' sb' => ⟨_,_,I3.turned (t' := s3.toks) (fun b o hb e => sb'.extBut b o hb e) f0 f1 f3 f4 f5,q D hD⟩⟩
end
end L2
set_option Elab.async false
set_option linter.all false
set_option maxRecDepth 100000
namespace L2
open PySem PySem.Spec PyProof.Rows
def CDivB (i j : Int) : Prop := 0 < j ∧ j ≤ 10 ^ 60
theorem CDivB.np {i j : Int} (h : CDivB i j) : Builtin.divisionGoesByPylong i j = false := by
  refine PyProof.noPylong_of_log2 ?_
  have h1 : j.natAbs < 2 ^ 200 := by
    obtain ⟨a,b⟩ := h
    omega
  have h2 : j.natAbs.log2 < 200 := (Nat.log2_lt (by have := h.1; omega)).mpr h1
  omega
section
variable {X : Cx}
theorem op_fdivB : OpR X (binaryOp .FloorDiv) (rI CDivB fun i j => .int (i / j)) := opI fun i j _ _ _ _ _ hc q => by
  refine floordiv_int (by have := hc.1; omega) ?_ (.inl hc.np)
  rw [Int.fdiv_eq_ediv_of_nonneg _ (by have := hc.1; omega)]
  exact q
theorem Inv.kitx {pins : List (Addr × Obj)} {σ : St} {H : Hp} {s : Shared} {x : V} {u t : Value} (I : Inv X pins σ H s) (rx : RelV x u) (ty : TyOf X.K H x t) :
    ∃ P : Heap → Prop,PySem.W.KitX X.K u t P ∧ P s.heap ∧ u ≠ .builtin "__main__.__loader__#opaque" := by
  cases ty with
  | non => cases (show u = Value.none from rx); exact ⟨_,PySem.W.kitx_none,True.intro,fun z => nomatch z⟩
  | bl y => cases (show u = Value.bool y from rx); exact ⟨_,PySem.W.kitx_bool,True.intro,fun z => nomatch z⟩
  | int i => obtain ⟨t,q⟩ := (show ∃ t,u = Value.int i t from rx); cases q; exact ⟨_,PySem.W.kitx_int,True.intro,fun z => nomatch z⟩
  | str y => obtain ⟨t,q⟩ := (show ∃ t,u = Value.str y t from rx); cases q; exact ⟨_,PySem.W.kitx_str,True.intro,fun z => nomatch z⟩
  | flt y => obtain ⟨t,q⟩ := (show ∃ t,u = Value.float y t from rx); cases q; exact ⟨_,PySem.W.kitx_float,True.intro,fun z => nomatch z⟩
  | @lst a xs ea =>
    cases (show u = Value.ref a from rx)
    obtain ⟨_,_,n,_,h1⟩ := (show ObjOk X.prog X.w H s.heap a (.lst xs) from I.hok a _ ea)
    exact ⟨_,PySem.W.kitx_list,⟨_,h1,rfl⟩,fun z => nomatch z⟩
  | @frz a ob xs ea =>
    cases (show u = Value.ref a from rx)
    obtain ⟨_,_,_,n,_,h1⟩ := (show ObjOk X.prog X.w H s.heap a (.frz ob (.lst xs)) from I.hok a _ ea)
    exact ⟨_,PySem.W.kitx_list,⟨_,h1,rfl⟩,fun z => nomatch z⟩
  | @tup a xs ea =>
    cases (show u = Value.ref a from rx)
    obtain ⟨_,_,_,p⟩ := (show ObjOk X.prog X.w H s.heap a (.tup xs) from I.hok a _ ea)
    obtain ⟨o,h1,h2,_⟩ := p
    exact ⟨_,PySem.W.kitx_tuple,⟨o,h1,h2⟩,fun z => nomatch z⟩
  | @dK a kvs ea =>
    cases (show u = Value.ref a from rx)
    obtain ⟨_,_,vs,_,p⟩ := (show ObjOk X.prog X.w H s.heap a (.dK kvs) from I.hok a _ ea)
    obtain ⟨o,es,ep,h1,h2,_⟩ := p
    exact ⟨_,PySem.W.kitx_dict,⟨o,h1,h2.1⟩,fun z => nomatch z⟩
  | @dT a kvs ea =>
    cases (show u = Value.ref a from rx)
    obtain ⟨_,_,xs,_,o,es,ep,h1,h2,_⟩ := (show ObjOk X.prog X.w H s.heap a (.dT kvs) from I.hok a _ ea)
    exact ⟨_,PySem.W.kitx_dict,⟨o,h1,h2.1⟩,fun z => nomatch z⟩
  | @ins a C dx fs ea cl ha hn htk hm =>
    cases (show u = Value.ref a from rx)
    obtain ⟨mA,O,_⟩ := ins_get I.hok ea
    obtain ⟨od,J,_⟩ := O.look
    exact ⟨_,PySem.W.kitx_own (cl.get _) cl.hd ha hn htk hm,J,fun z => nomatch z⟩
def clV : V → Option Value
  | .ty T => some (.type T)
  | .ref C => some (.ref C)
  | _ => none
theorem clV.rel {v : V} {u c : Value} (e : clV v = some c) (r : RelV v u) : u = c := by
  cases v with
  | ty T => have e' : Value.type T = c := Option.some.inj e; rw [← e']; exact r
  | ref C => have e' : Value.ref C = c := Option.some.inj e; rw [← e']; exact r
  | _ => cases e
def clVs : List V → Option (List Value)
  | [] => some []
  | v :: r => match clV v,clVs r with
    | some c,some cs => some (c :: cs)
    | _,_ => none
theorem clVs.rel : ∀ {vs : List V} {us cs : List Value},clVs vs = some cs → Vals vs us → us = cs
  | [],_,_,e,.nil => Option.some.inj e
  | v :: r,_,_,e,.cons r1 r2 => by
    unfold clVs at e
    split at e
    · rename_i c cs' e1 e2
      cases e
      rw [clV.rel e1 r1,clVs.rel e2 r2]
    · cases e
theorem call_isinst : CallR X (.builtin "isinstance") (fun xs H Q => ∃ x cv t c b,xs = [x,cv] ∧ TyOf X.K H x t ∧ clV cv = some c ∧ PySem.W.kitOne X.K t c = some b ∧ Q (.bl b) H) := by
  intro pins s σ H xs us Q I rv h
  obtain ⟨x,cv,t,c,b,rfl,ty,e1,e2,q⟩ := h
  cases rv with
  | cons r1 rr =>
    cases rr with
    | cons r2 rr =>
      cases rr
      rw [clV.rel e1 r2]
      exact isinst_ok I r1 ty e2 fun tk => ⟨.bl b,H,I.tok tk,rfl,q⟩
theorem call_isinstT : CallR X (.builtin "isinstance") (fun xs H Q => ∃ x p t cvs cs b,xs = [x,.ref p] ∧ TyOf X.K H x t ∧ H p = some (.tup cvs) ∧ clVs cvs = some cs ∧ PySem.W.kitAny X.K t cs = some b ∧ Q (.bl b) H) := by
  intro pins s σ H xs us Q I rv h
  obtain ⟨x,p,t,cvs,cs,b,rfl,ty,hp,e1,e2,q⟩ := h
  cases rv with
  | cons r1 rr =>
    cases rr with
    | cons r2 rr =>
      cases rr
      cases r2
      obtain ⟨_,its,rits,o,ho,hc,n,hd⟩ := I.hok p _ hp
      obtain ⟨P,Z,p1,p2⟩ := I.kitx r1 ty
      obtain ⟨oc,od,dt,osl⟩ := o
      replace hc : oc = .type "tuple" := hc
      replace hd : dt = .seq its.toArray n := hd
      subst hc hd
      have e3 := clVs.rel e1 rits
      subst e3
      exact PySem.W.kia_tup Z I.kIn p1 ho e2 p2 fun tk => ⟨.bl b,H,I.tok tk,rfl,q⟩
end
mutual
inductive DatV (K : PySem.W.Frag) (H : Hp) : V → PyData → Prop
  | non : DatV K H .non .none
  | bl (b : Bool) : DatV K H (.bl b) (.bool b)
  | int (i : Int) : DatV K H (.int i) (.int i)
  | str (x : Str) : DatV K H (.str x) (.str x)
  | lst {a : Addr} {xs : List V} {ds : List PyData} : SqL K H a xs → DatVs K H xs ds → DatV K H (.ref a) (.list ds)
  | tup {a : Addr} {xs : List V} {ds : List PyData} : SqT K H a xs → DatVs K H xs ds → DatV K H (.ref a) (.tuple ds)
inductive DatVs (K : PySem.W.Frag) (H : Hp) : List V → List PyData → Prop
  | nil : DatVs K H [] []
  | cons {x : V} {d : PyData} {xs : List V} {ds : List PyData} : DatV K H x d → DatVs K H xs ds → DatVs K H (x :: xs) (d :: ds)
end
section
variable {X : Cx} {pins : List (Addr × Obj)} {σ : St} {H : Hp} {s : Shared}
mutual
theorem Inv.reads (I : Inv X pins σ H s) : ∀ {v : V} {d : PyData},DatV X.K H v d → ∀ {u : Value},RelV v u → ∃ as,Reads s.heap u d as
  | _,_,.non,u,r => by cases (show u = Value.none from r); exact ⟨_,.none⟩
  | _,_,.bl b,u,r => by cases (show u = Value.bool b from r); exact ⟨_,.bool b⟩
  | _,_,.int i,u,r => by obtain ⟨t,e⟩ := (show ∃ t,u = Value.int i t from r); subst e; exact ⟨_,.int i t⟩
  | _,_,.str x,u,r => by obtain ⟨t,e⟩ := (show ∃ t,u = Value.str x t from r); subst e; exact ⟨_,.str x t⟩
  | _,_,.lst (a := a) h hs,u,r => by
    cases (show u = Value.ref a from r)
    obtain ⟨its,rv,⟨o,n,e,c,_,d⟩,_⟩ := I.list h
    obtain ⟨as,ra⟩ := I.readsAll hs rv
    exact ⟨_,.list e c d (by simpa using ra)⟩
  | _,_,.tup (a := a) h hs,u,r => by
    cases (show u = Value.ref a from r)
    obtain ⟨its,rv,⟨o,e,c,n,d⟩,_⟩ := I.tuple h
    obtain ⟨as,ra⟩ := I.readsAll hs rv
    exact ⟨_,.tuple e c d (by simpa using ra)⟩
theorem Inv.readsAll (I : Inv X pins σ H s) : ∀ {vs : List V} {ds : List PyData},DatVs X.K H vs ds → ∀ {us : List Value},Vals vs us → ∃ as,ReadsAll s.heap us ds as
  | _,_,.nil,_,.nil => ⟨_,.nil⟩
  | _,_,.cons h hs,_,.cons r rs => by
    obtain ⟨as,ra⟩ := I.reads h r
    obtain ⟨bs,rb⟩ := I.readsAll hs rs
    exact ⟨_,.cons ra rb⟩
end
end
section
variable {X : Cx}
theorem op_neD (hu : X.A.units + 64 < cLine) : OpR X (compareOp .NotEq) (fun x y H Q => ∃ da db,DatV X.K H x da ∧ DatV X.K H y db ∧ SeqAt.shaped da = true ∧ SeqAt.shaped db = true ∧ Q (.bl (!PyData.eqv da db)) H) := by
  intro pins s σ H x y v u Q I rx ry h
  obtain ⟨da,db,hx,hy,s1,s2,q⟩ := h
  obtain ⟨as,ra⟩ := I.reads hx rx
  obtain ⟨bs,rb⟩ := I.reads hy ry
  exact ne_dataH ra rb s1 s2 hu ⟨.bl _,H,I,rfl,q⟩
end
section
variable {prog : Program} {w : World} {A : Around} {E : Value → Shared → Prop}
theorem draw_listN {it l : Addr} {items : Array Value} (hne : l ≠ it) : ∀ (n i : Nat) (s : Shared) (Q : List Value → Shared → Prop),s.heap.IsListIter it l i → s.heap.IsList l items → i + n ≤ items.size →
    (∀ h',h'.IsListIter it l (i + n) → Heap.SameBut it s.heap h' → Q ((items.toList.drop i).take n) { s with heap := h' }) → wpAny (model prog w) A (draw (.ref it) n) Q E s
  | 0,i,s,Q,hit,_,_,hQ => by
    show wpAny _ _ (pure []) Q E s
    exact wpAny_pure (by simpa using hQ s.heap hit (Heap.SameBut.refl ..))
  | n + 1,i,s,Q,hit,ht,hle,hQ => by
    have hlt : i < items.size := by omega
    show wpAny _ _ (pyNext (.ref it) >>= _) Q E s
    refine wpAny_bind (wpAny_pyNext_list_item hit ht (x := items[i]) (by simp [hlt]) fun h₁ hit₁ hs₁ => ?_)
    refine wpAny_bind (wpAny_holding (draw_listN hne n (i + 1) _ _ hit₁ (ht.extBut hs₁.extBut hne) (by omega) fun h₂ hit₂ hs₂ => wpAny_pure ?_))
    have hd : items.toList.drop i = items[i] :: items.toList.drop (i + 1) := by simp [List.drop_eq_getElem_cons,hlt]
    have q := hQ h₂ (by rw [show i + (n + 1) = i + 1 + n by omega]; exact hit₂) (hs₁.trans hs₂)
    rw [hd,List.take_succ_cons] at q
    exact q
theorem unpackItems_listN {s : Shared} {l : Addr} {items : Array Value} {Q : List Value → Shared → Prop} (hh : A.handled = none) (ht : s.heap.IsList l items)
    (hQ : ∀ h',Heap.ExtBut s.heap.objs.size s.heap h' → Q items.toList { s with heap := h' }) : wpAny (model prog w) A (unpackItems (.ref l) items.size none) Q E s := by
  have hlt : l ≠ s.heap.objs.size := by obtain ⟨o,ho,_⟩ := ht; exact Nat.ne_of_lt (Heap.lt_size ho)
  have hp : (s.heap.push { cls := .type "list_iterator",data := .fields #[.ref l,.int 0 0] }).IsList l items := by
    obtain ⟨o,ho,r⟩ := ht; exact ⟨o,Heap.get?_push_of_some _ ho,r⟩
  unfold unpackItems
  refine wpAny_bind ?_
  · unfold notIterableAtAll
    refine wpAny_bind (wpAny_specialOf ht.typeIs PySem.slot_list_iter.lookup ?_)
    refine wpAny_pure ?_
    simp only [Bool.false_eq_true,if_false]
    refine wpAny_bind (wpAny_holding (wpAny_pyIter_list ht ?_))
    refine wpAny_bind (wpAny_holding (draw_listN hlt items.size 0 _ _ ⟨_,Heap.get?_push_size _ rfl,rfl,rfl⟩ hp (by omega) fun h₁ hit₁ hs₁ => ?_))
    have hall : List.take items.size (List.drop 0 items.toList) = items.toList := by
      rw [List.drop_zero]; exact List.take_of_length_le (by simp)
    rw [hall]
    rw [if_neg (by simp)]
    have ht₁ : h₁.IsList l items := hp.extBut hs₁.extBut hlt
    refine wpAny_bind (wpAny_holding (wpAny_pyNext_list_end hh hit₁ ht₁ (by simp) fun h₂ he₂ => ?_))
    simp only [Option.isSome_none,Bool.false_eq_true,if_false]
    refine wpAny_pure (hQ h₂ fun b o hb e => he₂ b o hb (hs₁.extBut b o hb (Heap.get?_push_of_some _ e)))
theorem assign_Tuple_listN {s : Shared} {env : Env} {elts : List Expr} {x1} {pos : Pos} {l : Addr} {items : Array Value} {Q : Unit → Shared → Prop} (hh : A.handled = none) (ht : s.heap.IsList l items)
    (hn : (assignEach elts env).length = items.size) (hstar : (assignEach elts env).findIdx? (·.1) = none)
    (h : ∀ h',Heap.ExtBut s.heap.objs.size s.heap h' → wpAny (model prog w) A (assignInOrder ((assignEach elts env).map (·.2)) items.toList) Q E { s with heap := h' }) :
    wpAny (model prog w) A (assign (.Tuple elts x1 pos) env (.ref l)) Q E s := by
  rw [assign_Tuple]
  refine wpAny_bind (wpAny_standAt ?_)
  unfold unpack
  rw [hn,hstar]
  exact wpAny_bind (wpAny_holding (unpackItems_listN hh ht h))
end
section
variable {X : Cx} {pos : Pos}
def gSeq (K : PySem.W.Frag) (n : Nat) (t : TGs) : TG := fun v σ H Q => ∃ a xs,v = .ref a ∧ (SqL K H a xs ∨ SqT K H a xs) ∧ xs.length = n ∧ t xs σ H Q
theorem pg_seq {es : List Expr} {k : Nat} {t : TGs} {n : Nat} (hc : X.calm = true) (h : PGs X es t)
    (hn : (assignEach es X.env).length = n := by rfl) (hst : (assignEach es X.env).findIdx? (·.1) = none := by rfl) : PG X (.Tuple es k pos) (gSeq X.K n t) := by
  intro pins s σ H v u Q I r hw
  obtain ⟨a,xs,e1,hq,hl,hw⟩ := hw
  rcases hq with hq | hq
  · subst e1
    cases r
    obtain ⟨its,rv,ht,hz⟩ := I.list hq
    refine assign_Tuple_listN (I.ok.hd hc) ht.isList (by simp [hn,← hl,rv.length]) hst fun h' hx => ?_
    have I1 : Inv X pins σ H { s with heap := h' } := I.kept (t' := s.toks) fun b o e => hx b o (Nat.ne_of_lt (Heap.lt_size e)) e
    exact h pins _ σ H xs _ Q I1 (by simpa using rv) hw
  · exact pg_tup hc h hn hst pins s σ H v u Q I r ⟨a,xs,e1,hq,hl,hw⟩
end
def Itz (l1 l2 : Addr) : It :=
  ⟨fun i H => ∃ xs ys x y,H l1 = some (.lst xs) ∧ H l2 = some (.lst ys) ∧ xs[i]? = some x ∧ ys[i]? = some y,
   fun i H v H' => ∃ p xs ys x y,H p = none ∧ v = .ref p ∧ H' = upd H p (.tup [x,y]) ∧ H l1 = some (.lst xs) ∧ H l2 = some (.lst ys) ∧ xs[i]? = some x ∧ ys[i]? = some y,
   fun i H => ∃ xs ys,H l1 = some (.lst xs) ∧ H l2 = some (.lst ys) ∧ (xs.length ≤ i ∨ ys.length ≤ i)⟩
section
variable {X : Cx}
theorem Inv.turnedN {pins : List (Addr × Obj)} {σ : St} {H : Hp} {s : Shared} {h' : Heap} {t' : Nat} {ch : List Addr} (I : Inv X pins σ H s) (hf : ∀ b ∈ ch,FpOk X pins H b) (k : ∀ b o,b ∉ ch → s.heap.get? b = some o → h'.get? b = some o) : Inv X pins σ H { s with heap := h',toks := t' } := by
  have hLc : X.env.locals ∉ ch := fun z => (hf _ z).2.1 rfl
  have nt : ∀ b u,H b = some u → b ∉ ch := fun b u e z => by rw [(hf b z).1] at e; cases e
  refine I.step (g' := s.gens) (d' := s.drawn) (ch := ch) (fun b hb => ⟨(hf b hb).2.2.2.1,(hf b hb).2.1,(hf b hb).2.2.2.2.1,(hf b hb).2.2.2.2.2⟩) (fun b o _ _ hc e _ => k b o hc e) (fun b o _ _ hc e _ => ⟨o.slots,k b o hc e⟩) (fun _ _ _ _ n => n)
    (fun b o hc e => ⟨o,k b o hc e⟩) (fun _ _ e => e) (fun _ _ _ e => e) (fun b ps e => ⟨#[],by rw [e]; simp⟩) (fun m hm => ?_) (fun b u e => ?_) I.bare
  · obtain ⟨o,es,ep,ho,r⟩ := hm
    exact ⟨o,es,ep,k _ o hLc ho,r⟩
  · refine (I.hok b u e).stay (fun c v hc q => k c v ?_ q) (fun _ q => q) fun _ _ q => q
    rcases hc with z | z
    · rw [z]; exact nt b u e
    · exact nt c _ z
theorem Inv.track {pins : List (Addr × Obj)} {σ : St} {H : Hp} {s : Shared} {a : Addr} {o : HO} (I : Inv X pins σ H s) (hf : FpOk X pins H a) (fa : X.s₀.heap.objs.size ≤ a) (new : ObjOk X.prog X.w (upd H a o) s.heap a o) : Inv X pins σ (upd H a o) s := by
  obtain ⟨f0,f1,f2,f3,f4,f5⟩ := hf
  have s0 : ∀ b o,X.s₀.heap.get? b = some o → b ≠ a := fun b o e => Nat.ne_of_lt (Nat.lt_of_lt_of_le (Heap.lt_size e) fa)
  refine ⟨I.ok,I.os,I.bare,⟨I.base.keep,I.base.slot,fun b o e n hx => ?_,I.base.there,fun b xs e => ?_,fun b o u e => ?_,fun b ps e => ?_⟩,I.loc,I.cell,?_,fun x c e => ?_,fun p hp => ?_,I.hok.add f0 new,I.len⟩
  · rw [upd_ne (s0 b o e)]; exact I.base.free b o e n hx
  · have q := I.base.tups b xs e
    rw [upd_ne (ne_of_none q f0)]; exact q
  · have q := I.base.frzs b o u e
    rw [upd_ne (ne_of_none q f0)]; exact q
  · obtain ⟨more,q⟩ := I.base.tbls b ps e
    exact ⟨more,by rw [upd_ne (ne_of_none q f0)]; exact q⟩
  · rw [upd_ne (Ne.symm f1)]; exact I.free
  · rw [upd_ne (f4 x c e)]; exact I.freeC x c e
  · obtain ⟨e,n,r⟩ := I.pin p hp
    exact ⟨e,by rw [upd_ne (f5 p hp)]; exact n,r⟩
end
structure ZipAp (z TI TO i1 i2 : Addr) : Prop where
  nd : [z,TI,TO,i1,i2].Nodup
theorem turn_zip {P : Program} {w : World} {K : PySem.W.Frag} {es : List Expr} {kk : Nat} {tp : Pos} (l1 l2 z TI TO i1 i2 : Addr) (D : ZipAp z TI TO i1 i2) :
    Turn P w K (.Tuple es kk tp) (Itz l1 l2) [z,TI,TO,i1,i2] z (fun i h => IsZip h z TI TO .none ∧ IsPair h TI (.ref i1) (.ref i2) ∧ (∃ a b,IsPair h TO a b) ∧ h.IsListIter i1 l1 i ∧ h.IsListIter i2 l2 i) where
  mem := by simp
  obj := fun i h st b hb => by
    obtain ⟨a1,a2,⟨x,y,a3⟩,⟨o4,a4,_,d4⟩,⟨o5,a5,_,d5⟩⟩ := st
    simp only [List.mem_cons,List.not_mem_nil,or_false] at hb
    rcases hb with rfl | rfl | rfl | rfl | rfl
    · exact ⟨_,a1,fun v q => by cases q⟩
    · exact ⟨_,a2,fun v q => by cases q⟩
    · exact ⟨_,a3,fun v q => by cases q⟩
    · exact ⟨_,a4,fun v q => by rw [d4] at q; cases q⟩
    · exact ⟨_,a5,fun v q => by rw [d5] at q; cases q⟩
  keep := fun i h h' st k => by
    obtain ⟨a1,a2,⟨x,y,a3⟩,a4,a5⟩ := st
    exact ⟨k z (by simp) _ a1,k TI (by simp) _ a2,⟨x,y,k TO (by simp) _ a3⟩,a4.at fun o e => k i1 (by simp) o e,a5.at fun o e => k i2 (by simp) o e⟩
  item := by
    intro X hP hw hK hc i pins s σ H E I hf st hg
    subst hP hw hK
    obtain ⟨a1,a2,⟨x0,y0,a3⟩,a4,a5⟩ := st
    obtain ⟨xs,ys,x,y,e1,e2,ex,ey⟩ := hg
    have tr : ∀ {l : Addr} {zs : List V},H l = some (.lst zs) → ∀ b ∈ [z,TI,TO,i1,i2],l ≠ b := fun e b hb q => by rw [q,(hf b hb).1] at e; cases e
    have nd := D.nd
    simp only [List.nodup_cons,List.mem_cons,List.not_mem_nil,or_false,not_or,List.nodup_nil,and_true,not_false_eq_true] at nd
    obtain ⟨⟨n1,n2,n3,n4⟩,⟨n5,n6,n7⟩,⟨n8,n9⟩,n10⟩ := nd
    have A' : ZipApart z TI TO i1 i2 l1 l2 := ⟨Ne.symm n1,Ne.symm n2,Ne.symm n3,Ne.symm n4,n5,n6,n7,n8,n9,n10,tr e1 z (by simp),tr e1 TO (by simp),tr e1 i1 (by simp),tr e1 i2 (by simp),tr e2 z (by simp),tr e2 TO (by simp),tr e2 i1 (by simp),tr e2 i2 (by simp)⟩
    obtain ⟨its1,rv1,p1,_⟩ := I.list (SqL.of e1)
    obtain ⟨its2,rv2,p2,_⟩ := I.list (SqL.of e2)
    obtain ⟨u1,hu1,r1⟩ := rv1.get ex
    obtain ⟨u2,hu2,r2⟩ := rv2.get ey
    refine wpAny_pyNext_zip_item A' a1 a2 a3 a4 a5 p1.isList p2.isList (x := u1) (y := u2) (by simpa using hu1) (by simpa using hu2) fun h' b1 b2 b3 b4 b5 b6 bk => ⟨_,rfl,?_⟩
    refine wpAny_letOwnedTupleGo_zip b1 fun h'' c1 cs => ?_
    have zs : z < s.heap.objs.size := Heap.lt_size a1
    have k2 : ∀ b o,b ∉ [z,TI,TO,i1,i2] → s.heap.get? b = some o → h''.get? b = some o := fun b o hb e => by
      simp only [List.mem_cons,List.not_mem_nil,or_false,not_or] at hb
      exact cs.extBut b o hb.1 (bk b o hb.1 hb.2.2.1 hb.2.2.2.1 hb.2.2.2.2 e)
    have I1 : Inv X pins σ H { s with heap := h'' } := I.turnedN (t' := s.toks) hf k2
    have hp : h''.get? s.heap.objs.size = some { cls := .type "tuple", data := .seq #[u1, u2] } := cs.extBut _ _ (Nat.ne_of_gt zs) b5
    have hn : H s.heap.objs.size = none := I.hok.fresh (Nat.le_refl _)
    have fpk := I.fpOk (H' := H) (Nat.le_refl _) hn
    have I2 : Inv X pins σ (upd H s.heap.objs.size (.tup [x,y])) { s with heap := h'' } := I1.track fpk I.sz ⟨by show 2 ≤ sizeLine; decide,[u1,u2],.cons r1 (.cons r2 .nil),_,hp,rfl,_,rfl⟩
    refine ⟨.ref s.heap.objs.size,_,I2,rfl,⟨_,xs,ys,x,y,hn,rfl,rfl,e1,e2,ex,ey⟩,⟨c1,?_,⟨u1,u2,cs.extBut _ _ (Ne.symm n2) b2⟩,b3.extBut cs.extBut (Ne.symm n3),b4.extBut cs.extBut (Ne.symm n4)⟩,fun b hb => ?_⟩
    · exact cs.extBut _ _ (Ne.symm n1) (bk _ _ (Ne.symm n1) n5 n6 n7 a2)
    · have hbl : b < s.heap.objs.size := by
        simp only [List.mem_cons,List.not_mem_nil,or_false] at hb
        obtain ⟨o4,a4',_⟩ := a4
        obtain ⟨o5,a5',_⟩ := a5
        rcases hb with rfl | rfl | rfl | rfl | rfl
        · exact zs
        · exact Heap.lt_size a2
        · exact Heap.lt_size a3
        · exact Heap.lt_size a4'
        · exact Heap.lt_size a5'
      rw [upd_ne (Nat.ne_of_lt hbl)]
      exact (hf b hb).1
  done := by
    intro X hP hw hK hc i pins s σ H E I hf st hg
    subst hP hw hK
    obtain ⟨a1,a2,⟨x0,y0,a3⟩,a4,a5⟩ := st
    obtain ⟨xs,ys,e1,e2,ex⟩ := hg
    have tr : ∀ {l : Addr} {zs : List V},H l = some (.lst zs) → ∀ b ∈ [z,TI,TO,i1,i2],l ≠ b := fun e b hb q => by rw [q,(hf b hb).1] at e; cases e
    have nd := D.nd
    simp only [List.nodup_cons,List.mem_cons,List.not_mem_nil,or_false,not_or,List.nodup_nil,and_true,not_false_eq_true] at nd
    obtain ⟨⟨n1,n2,n3,n4⟩,⟨n5,n6,n7⟩,⟨n8,n9⟩,n10⟩ := nd
    have A' : ZipApart z TI TO i1 i2 l1 l2 := ⟨Ne.symm n1,Ne.symm n2,Ne.symm n3,Ne.symm n4,n5,n6,n7,n8,n9,n10,tr e1 z (by simp),tr e1 TO (by simp),tr e1 i1 (by simp),tr e1 i2 (by simp),tr e2 z (by simp),tr e2 TO (by simp),tr e2 i1 (by simp),tr e2 i2 (by simp)⟩
    obtain ⟨its1,rv1,p1,_⟩ := I.list (SqL.of e1)
    obtain ⟨its2,rv2,p2,_⟩ := I.list (SqL.of e2)
    have l1' := rv1.length
    have l2' := rv2.length
    refine wpAny_pyNext_zip_end (I.ok.hd hc) A' a1 a2 a3 a4 a5 p1.isList p2.isList (by rcases ex with q | q; exact .inl (by simp; omega); exact .inr (by simp; omega)) fun h' bk => ⟨rfl,?_⟩
    exact I.turnedN (t' := s.toks) hf fun b o hb e => by
      simp only [List.mem_cons,List.not_mem_nil,or_false,not_or] at hb
      exact bk b o hb.1 hb.2.2.1 hb.2.2.2.1 hb.2.2.2.2 e
  self := fun _ _ _ _ _ st h => wpAny_pyIter_zip st.1 h
def iZip (ta : TA) : TI := fun σ H R => ta σ H fun vs H1 => ∃ l1 l2 xs ys,vs = [.ref l1,.ref l2] ∧ H1 l1 = some (.lst xs) ∧ H1 l2 = some (.lst ys) ∧ R (Itz l1 l2) H1
theorem pi_zip {X : Cx} {a b : Expr} {ta : TA} {p pos tp : Pos} {es : List Expr} {kk : Nat} (hg : Gl X "zip") (hm : X.mg "zip" = none) (ha : PA X [a,b] ta)
    (hs : starEach [a,b] X.env = [(false,eval a X.env),(false,eval b X.env)] := by rfl) (hs2 : starEach [b] X.env = [(false,eval b X.env)] := by rfl) :
    PI X (.Tuple es kk tp) (.Call (.Name "zip" p) [a,b] [] pos) (iZip ta) := by
  intro pins s σ H R I h
  refine Call_ (ld_blt I hg hm PyProof.Rows.boot_zip (PyProof.Rows.callWith_type1 (thn (ha pos pins s σ H _ I h) fun us s1 ⟨vs,H1,I1,r1,q1⟩ => ?_) (by rw [hs,hs2]) (by rw [hs2]; rfl)))
  obtain ⟨l1,l2,xs,ys,rfl,e1,e2,q⟩ := q1
  cases r1 with
  | cons r rr =>
    cases rr with
    | cons r' rr =>
      cases rr
      cases r
      cases r'
      obtain ⟨its1,rv1,p1,_⟩ := I1.list (SqL.of e1)
      obtain ⟨its2,rv2,p2,_⟩ := I1.list (SqL.of e2)
      refine call_zip_2 p1.isList p2.isList fun h' z1 z2 z3 z4 z5 sz keep => ?_
      have I2 : Inv X pins σ H1 { s1 with heap := h' } := I1.kept (t' := s1.toks) keep
      refine wpAny_pyIter_zip z1 ⟨s1.heap.objs.size + 4,[s1.heap.objs.size + 4,s1.heap.objs.size + 2,s1.heap.objs.size + 3,s1.heap.objs.size,s1.heap.objs.size + 1],_,_,H1,rfl,I2,turn_zip l1 l2 _ _ _ _ _ ⟨by simp⟩,⟨z1,z2,⟨_,_,z3⟩,z4,z5⟩,fun b hb => ?_,q⟩
      have hb' : s1.heap.objs.size ≤ b := by
        simp only [List.mem_cons,List.not_mem_nil,or_false] at hb
        rcases hb with rfl | rfl | rfl | rfl | rfl <;> omega
      exact I1.fpOk hb' (I1.hok.fresh hb')
end L2
set_option Elab.async false
set_option linter.all false
set_option maxRecDepth 100000
namespace L2
open PySem PySem.Spec PyProof.Rows
def Dn (P : Program) (w : World) (K : PySem.W.Frag) (mg : Str → Option Value) (base : Heap) (x : Str) (ps : List Str) (k : Nat) (sp : Sp) : Prop :=
  ∃ (f : Addr) (fd : FuncData),FnOk P w K mg base CX0 k f fd ps sp ∧ Binds K fd ps [] ∧ PySem.W.keepIn K (.ref f) = true ∧ mg x = some (.ref f)
theorem pe_cD {X : Cx} {k : Nat} {ps : List Str} {sp : Sp} {x : Str} {p pos : Pos} {e : Expr} {es : List Expr} {t : TA} (D : Dn X.prog X.w X.K X.mg X.base x ps k sp) (hr : Room k X.A) (hg : Gl X x) (ha : PA X (e :: es) t)
    (hdb : (x == ("__debug__" : Str)) = false := by decide) (he : starEach (e :: es) X.env = (false,eval e X.env) :: starEach es X.env := by rfl) (hpl : (backTo pos (starEach es X.env)).any (·.1) = false := by rfl) :
    PE X (.Call (.Name x p) (e :: es) [] pos) (tCall sp [] E0 t) := by
  obtain ⟨f,fd,F,hb,hk,hm⟩ := D
  exact pe_call F hr hg hm hk hb .nil pass0 ha hdb he hpl
def compChk (sc : Scope) (N : List Str) (scope : Scope) (own cs : List Str) (cap : List Nat) : Bool :=
  decide (scope.kind = .function) && scope.names.all (fun y => decide (y.2 ≠ .cell)) && scope.names.all (fun y => decide (y.2 = .local → scope.names.lookup y.1 = some .local)) &&
  scope.names.all (fun y => decide (y.2 = .free → sc.names.lookup y.1 = some .cell ∨ sc.names.lookup y.1 = some .free)) && own.all (fun y => decide (scope.names.lookup y = some .local)) &&
  decide (cs.length = cap.length) && (cs.zip cap).all (fun y => decide (N[y.2]? = some y.1) && decide ((y.1,NameKind.free) ∈ scope.names)) && scope.names.all (fun y => decide (y.2 = .free → scope.names.lookup y.1 ≠ some .local))
theorem compOk_of {X : Cx} {sc : Scope} {N : List Str} {scope : Scope} {own cs : List Str} {cap : List Nat} (h1 : X.env.scope = sc) (h2 : X.N = N) (h : compChk sc N scope own cs cap = true) : CompOk X scope own cs cap := by
  subst h1 h2
  unfold compChk at h
  simp only [Bool.and_eq_true,List.all_eq_true,decide_eq_true_eq] at h
  obtain ⟨⟨⟨⟨⟨⟨⟨a1,a2⟩,a3⟩,a4⟩,a5⟩,a6⟩,a7⟩,a8⟩ := h
  refine ⟨a1,a2,a3,a4,fun i y e => ?_,a5,a6,fun y hy e => a8 _ hy rfl e⟩
  have hi : i < cs.length := (List.getElem?_eq_some_iff.mp e).1
  have hj : i < cap.length := by rw [← a6]; exact hi
  refine ⟨cap[i],List.getElem?_eq_getElem hj,?_⟩
  have hm : (y,cap[i]) ∈ cs.zip cap := by
    have : (cs.zip cap)[i]? = some (y,cap[i]) := by
      rw [List.getElem?_zip_eq_some]
      exact ⟨e,List.getElem?_eq_getElem hj⟩
    exact List.mem_of_getElem? this
  exact a7 _ hm
theorem tYes_ite {σ : St} {H : Hp} {A B : Hp → Prop} (h : A H) : tYes σ H (fun ok H3 => if ok = true then A H3 else B H3) := by
  show (if (true : Bool) = true then A H else B H)
  rw [if_pos rfl]
  exact h
section
variable {X : Cx} {tg : Expr}
def iSeq (K : PySem.W.Frag) (tl : TE) : TI := fun σ H R => iList K tl σ H R ∨ iTup K tl σ H R
theorem pi_seq {l : Expr} {tl : TE} (hl : PE X l tl) : PI X tg l (iSeq X.K tl) := by
  intro pins s σ H R I h
  rcases h with h | h
  · exact pi_list hl pins s σ H R I h
  · exact pi_tup hl pins s σ H R I h
end
def tyNames : List String := ["NoneType","bool","int","str","list","tuple","dict"]
theorem kit_int {K : PySem.W.Frag} : ∀ T ∈ tyNames,PySem.W.kitOne K (.type T) (.type "int") = some (T == "int" || T == "bool") := by
  intro T h
  simp only [tyNames,List.mem_cons,List.not_mem_nil,or_false] at h
  rcases h with rfl | rfl | rfl | rfl | rfl | rfl | rfl <;> kernel_rfl
theorem kit_bool {K : PySem.W.Frag} : ∀ T ∈ tyNames,PySem.W.kitOne K (.type T) (.type "bool") = some (T == "bool") := by
  intro T h
  simp only [tyNames,List.mem_cons,List.not_mem_nil,or_false] at h
  rcases h with rfl | rfl | rfl | rfl | rfl | rfl | rfl <;> kernel_rfl
theorem kit_list {K : PySem.W.Frag} : ∀ T ∈ tyNames,PySem.W.kitOne K (.type T) (.type "list") = some (T == "list") := by
  intro T h
  simp only [tyNames,List.mem_cons,List.not_mem_nil,or_false] at h
  rcases h with rfl | rfl | rfl | rfl | rfl | rfl | rfl <;> kernel_rfl
theorem kit_tuple {K : PySem.W.Frag} : ∀ T ∈ tyNames,PySem.W.kitOne K (.type T) (.type "tuple") = some (T == "tuple") := by
  intro T h
  simp only [tyNames,List.mem_cons,List.not_mem_nil,or_false] at h
  rcases h with rfl | rfl | rfl | rfl | rfl | rfl | rfl <;> kernel_rfl
theorem kit_row {K : PySem.W.Frag} : ∀ T ∈ tyNames,PySem.W.kitAny K (.type T) [.type "list",.type "tuple"] = some (T == "list" || T == "tuple") := by
  intro T h
  have h1 := kit_list (K := K) T h
  have h2 := kit_tuple (K := K) T h
  unfold PySem.W.kitAny
  rw [h1]
  cases e : (T == "list") with
  | true => rfl
  | false =>
    show PySem.W.kitAny K (.type T) [.type "tuple"] = _
    unfold PySem.W.kitAny
    rw [h2]
    cases e2 : (T == "tuple") <;> rfl
def Ty (K : PySem.W.Frag) (H : Hp) (x : V) (T : String) : Prop := T ∈ tyNames ∧ TyOf K H x (.type T)
theorem Ty.int {K : PySem.W.Frag} {H : Hp} {i : Int} : Ty K H (.int i) "int" := ⟨by simp [tyNames],.int i⟩
theorem Ty.bl {K : PySem.W.Frag} {H : Hp} {b : Bool} : Ty K H (.bl b) "bool" := ⟨by simp [tyNames],.bl b⟩
theorem Ty.lst {K : PySem.W.Frag} {H : Hp} {a : Addr} {xs : List V} (e : H a = some (.lst xs)) : Ty K H (.ref a) "list" := ⟨by simp [tyNames],.lst e⟩
theorem Ty.tup {K : PySem.W.Frag} {H : Hp} {a : Addr} {xs : List V} (e : H a = some (.tup xs)) : Ty K H (.ref a) "tuple" := ⟨by simp [tyNames],.tup e⟩
def whole : V → Int → Bool
  | .int i,l => decide (l ≤ i)
  | _,_ => false
def isBl : V → Bool
  | .bl _ => true
  | _ => false
theorem ty_int {K : PySem.W.Frag} {H : Hp} {x : V} {T : String} (t : TyOf K H x (.type T)) (h : T ∈ tyNames) : (T == "int") = true → ∃ i,x = .int i := by
  intro e
  have e' : T = "int" := by simpa using e
  subst e'
  generalize hv : Value.type "int" = tv at t
  cases t with
  | int i => exact ⟨i,rfl⟩
  | _ => exact absurd hv (by simp)
theorem ty_bool {K : PySem.W.Frag} {H : Hp} {x : V} {T : String} (t : TyOf K H x (.type T)) : (T == "bool") = isBl x := by
  generalize hv : Value.type T = tv at t
  cases t with
  | bl b => cases hv; rfl
  | non => cases hv; rfl
  | int i => cases hv; rfl
  | str i => cases hv; rfl
  | flt i => cases hv; rfl
  | lst i => cases hv; rfl
  | frz i => cases hv; rfl
  | tup i => cases hv; rfl
  | dK i => cases hv; rfl
  | dT i => cases hv; rfl
  | ins => cases hv
end L2
namespace Pc
open PySem L2
structure Pot (a b : Int) : Prop where
  a0 : 0 ≤ a
  b0 : 0 ≤ b
  b1 : b < 2147483629
def But (p : Addr) (H H' : Hp) : Prop := ∀ b o,b ≠ p → H b = some o → H' b = some o
theorem But.refl {p : Addr} {H : Hp} : But p H H := fun _ _ _ e => e
theorem But.trans {p : Addr} {H H1 H2 : Hp} (a : But p H H1) (b : But p H1 H2) : But p H H2 := fun c o n e => b c o n (a c o n e)
theorem But.upd {p : Addr} {H : Hp} {o : HO} : But p H (upd H p o) := fun b u n e => by rw [upd_ne n]; exact e
theorem But.new {p q : Addr} {H : Hp} {o : HO} (h : H q = none) : But p H (L2.upd H q o) := fun b u n e => by rw [upd_ne (ne_of_none e h)]; exact e
theorem But.same {p : Addr} {H H' : Hp} (b : But p H H') (h : H p = none) : Same H H' := fun c o e => b c o (ne_of_none e h) e
structure Kd where
  w : Int
  h : Int
  wo : Int
  wa : Int
  tu : Bool
def kdV (k : Kd) : List V := [.int k.w,.int k.h,.int k.wo,.int k.wa,.bl k.tu]
structure Good (k : Kd) : Prop where
  w : 1 ≤ k.w
  h : 1 ≤ k.h
  wo : 0 ≤ k.wo
  wa : 0 ≤ k.wa
  w' : k.w < 10 ^ 60
  h' : k.h < 10 ^ 60
  wo' : k.wo < 10 ^ 60
  wa' : k.wa < 10 ^ 60
def TupAt (H : Hp) (v : V) (k : Kd) : Prop := ∃ a,v = .ref a ∧ H a = some (.tup (kdV k))
def LstAt (H : Hp) (v : V) (k : Kd) : Prop := ∃ a,v = .ref a ∧ H a = some (.lst (kdV k))
def RowAt (H : Hp) (v : V) (k : Kd) : Prop := TupAt H v k ∨ LstAt H v k
abbrev Tups (H : Hp) : List V → List Kd → Prop := Paired (TupAt H)
theorem Tups.keep {H H' : Hp} (k : ∀ b xs,H b = some (.tup xs) → H' b = some (.tup xs)) : ∀ {xs : List V} {ks : List Kd},Tups H xs ks → Tups H' xs ks := fun r =>
  Paired.mapP r fun v kd ⟨a,e,h⟩ => ⟨a,e,k a _ h⟩
structure ToldAt (H : Hp) (t l : Addr) (bl : Int) (xs : List V) (ks : List Kd) : Prop where
  t : H t = some (.tup [.int bl,.ref l])
  l : H l = some (.lst xs)
  r : Tups H xs ks
  b0 : 0 ≤ bl
  b1 : bl < 10 ^ 60
  g : ∀ k ∈ ks,Good k
  n0 : 1 ≤ xs.length
  n1 : xs.length ≤ 8
def spWhole (K : PySem.W.Frag) : Sp := fun vs H Q _ => ∃ (x : V) (T : String) (l : Int),vs = [x,.int l] ∧ Ty K H x T ∧ Q (.bl (whole x l)) H
def spTruth (K : PySem.W.Frag) : Sp := fun vs H Q _ => ∃ (x : V) (T : String),vs = [x] ∧ Ty K H x T ∧ Q (.bl (isBl x)) H
def spRow (K : PySem.W.Frag) : Sp := fun vs H Q _ => ∃ (x : V) (T : String), vs = [x] ∧ Ty K H x T ∧ ∀ H', Same H H' → Q (.bl (T == "list" || T == "tuple")) H'
def kind5 : List V → Bool
  | [w,h,wo,wa,tu] => whole w 1 && whole h 1 && whole wo 0 && whole wa 0 && isBl tu
  | _ => false
def spIsKind (K : PySem.W.Frag) : Sp := fun vs H Q _ => ∃ (x : V) (T : String),vs = [x] ∧ Ty K H x T ∧ 
  ((T ≠ "list" ∧ T ≠ "tuple" ∧ ∀ H', Same H H' → Q (.bl false) H') ∨ ∃ (a : Addr) (xs : List V), x = .ref a ∧ (H a = some (.lst xs) ∨ H a = some (.tup xs)) ∧ (∀ y ∈ xs, ∃ U, Ty K H y U) ∧ ∀ H', Same H H' → Q (.bl (kind5 xs)) H')
theorem kind5_good {k : Kd} (g : Good k) : kind5 (kdV k) = true := by
  show (decide (1 ≤ k.w) && decide (1 ≤ k.h) && decide (0 ≤ k.wo) && decide (0 ≤ k.wa) && true) = true
  rw [decide_eq_true g.w,decide_eq_true g.h,decide_eq_true g.wo,decide_eq_true g.wa]
  rfl
theorem Ty.same {K : PySem.W.Frag} {H H' : Hp} {x : V} {T : String} (s : Same H H') (t : Ty K H x T) : Ty K H' x T := by
  refine ⟨t.1,?_⟩
  have t2 := t.2
  generalize hv : Value.type T = tv at t2 ⊢
  cases t2 with
  | non => exact .non
  | bl b => exact .bl b
  | int b => exact .int b
  | str b => exact .str b
  | flt b => exact .flt b
  | lst e => exact .lst (s _ _ e)
  | frz e => exact .frz (s _ _ e)
  | tup e => exact .tup (s _ _ e)
  | dK e => exact .dK (s _ _ e)
  | dT e => exact .dT (s _ _ e)
  | ins => cases hv
end Pc
set_option Elab.async false
set_option linter.all false
set_option maxRecDepth 100000
namespace L2
open PySem PySem.Spec PyProof.Rows
def rTupleOf (K : PySem.W.Frag) : List V → Hp → VK → Prop := fun xs H Q => ∃ p ys,xs = [V.ref p] ∧ ((SqL K H p ys ∧ ∀ l,H l = none → Q (.ref l) (upd H l (.tup ys))) ∨ (SqT K H p ys ∧ Q (.ref p) H))
theorem for_seqV {K : PySem.W.Frag} {j : Nat} {a : Addr} {xs : List V} {g : TG} {tb : TS} {D : Ends} {σ : St} {H : Hp} (hσ : σ[j]? = some (some (.ref a))) (hs : H a = some (.lst xs) ∨ H a = some (.tup xs)) (Pv : Nat → St → Hp → Prop) (h0 : Pv 0 σ H)
    (hk : ∀ i σ H',i ≤ xs.length → Pv i σ H' → ∀ o,H a = some o → H' a = some o)
    (ht : ∀ i x σ H,xs[i]? = some x → Pv i σ H → g x σ H fun σ2 H2 => tb { D with nx := Pv (i + 1),ct := Pv (i + 1),bk := D.nx } σ2 H2) (hd : ∀ σ H,Pv xs.length σ H → D.nx σ H) : tFor (iSeq K (tVar j)) g tb D σ H := by
  rcases hs with z | z
  · exact .inl ⟨_,hσ,a,rfl,⟨xs,SqL.of z⟩,for_list (xs := xs) Pv h0 (fun i σ H' hi p => SqL.of (hk i σ H' hi p _ z)) ht hd⟩
  · exact .inr ⟨_,hσ,a,rfl,⟨xs,SqT.of z⟩,for_tup (xs := xs) Pv h0 (fun i σ H' hi p => SqT.of (hk i σ H' hi p _ z)) ht hd⟩
def Nx (n : Nat) (Pv : Nat → List V → Hp → Prop) (i : Nat) (ys : List V) (H : Hp) : Prop := ∃ m',m' < n - i ∧ m' = n - (i + 1) ∧ i + 1 ≤ n ∧ Pv (i + 1) ys H
theorem Nx.of {n : Nat} {Pv : Nat → List V → Hp → Prop} {i : Nat} {ys : List V} {H : Hp} (h : i < n) (p : Pv (i + 1) ys H) : Nx n Pv i ys H := ⟨n - (i + 1),by omega,rfl,h,p⟩
theorem comp_seq {K : PySem.W.Frag} {a : Addr} {xs : List V} {σ : St} {cap : List Nat} {k : Nat} {g : TG} {tt : TT} {te : TE} {Q : List V → Hp → Prop} {H : Hp} (hs : H a = some (.lst xs) ∨ H a = some (.tup xs)) (Pv : Nat → List V → Hp → Prop)
    (hk : ∀ i ys H',i ≤ xs.length → Pv i ys H' → ∀ o,H a = some o → H' a = some o) (h0 : Pv 0 [] H)
    (ht : ∀ i x ys H',xs[i]? = some x → Pv i ys H' → ys.length < sizeLine ∧ g x (blkSt σ cap k) H' fun σ2 H2 => leS (blkSt σ cap k) σ2 ∧ tt σ2 H2 fun ok H3 => if ok = true then te σ2 H3 (fun v H4 => Nx xs.length Pv i (ys ++ [v]) H4) else Nx xs.length Pv i ys H3)
    (hd : ∀ ys H',Pv xs.length ys H' → ys.length ≤ sizeLine ∧ Q ys H') :
    (H a = some (.lst xs) → ∃ W,(∃ m,W 0 m [] H) ∧ CompW σ cap k (Itl K a) g tt te Q W) ∧ (H a = some (.tup xs) → ∃ W,(∃ m,W 0 m [] H) ∧ CompW σ cap k (Itt K a) g tt te Q W) := by
  refine ⟨fun z => ⟨fun i m ys H' => m = xs.length - i ∧ i ≤ xs.length ∧ Pv i ys H',⟨_,rfl,Nat.zero_le _,h0⟩,?_⟩,fun z => ⟨fun i m ys H' => m = xs.length - i ∧ i ≤ xs.length ∧ Pv i ys H',⟨_,rfl,Nat.zero_le _,h0⟩,?_⟩⟩
  · rintro i m ys H' ⟨rfl,hi,p⟩
    have z' := hk i ys H' hi p _ z
    by_cases hin : i < xs.length
    · obtain ⟨e,hg⟩ := ht i xs[i] ys H' (by simp [hin]) p
      refine .inr ⟨⟨xs,xs[i],SqL.of z',by simp [hin]⟩,e,fun x H2 yl => ?_⟩
      obtain ⟨e1,e2⟩ := yl
      have e3 := e2 xs (SqL.of z')
      have e4 : x = xs[i] := by simpa [hin] using e3.symm
      subst e1 e4
      exact hg
    · have e : i = xs.length := by omega
      subst e
      obtain ⟨a1,a2⟩ := hd ys H' p
      exact .inl ⟨⟨xs,SqL.of z',Nat.le_refl _⟩,a1,a2⟩
  · rintro i m ys H' ⟨rfl,hi,p⟩
    have z' := hk i ys H' hi p _ z
    by_cases hin : i < xs.length
    · obtain ⟨e,hg⟩ := ht i xs[i] ys H' (by simp [hin]) p
      refine .inr ⟨⟨xs,xs[i],SqT.of z',by simp [hin]⟩,e,fun x H2 yl => ?_⟩
      obtain ⟨e1,e2⟩ := yl
      have e3 := e2 xs (SqT.of z')
      have e4 : x = xs[i] := by simpa [hin] using e3.symm
      subst e1 e4
      exact hg
    · have e : i = xs.length := by omega
      subst e
      obtain ⟨a1,a2⟩ := hd ys H' p
      exact .inl ⟨⟨xs,SqT.of z',Nat.le_refl _⟩,a1,a2⟩
theorem comp_seqV {K : PySem.W.Frag} {j : Nat} {a : Addr} {xs : List V} {σ : St} {cap : List Nat} {k : Nat} {g : TG} {tt : TT} {te : TE} {Q : VK} {H : Hp} (hσ : σ[j]? = some (some (.ref a))) (hs : H a = some (.lst xs) ∨ H a = some (.tup xs)) (Pv : Nat → List V → Hp → Prop)
    (hk : ∀ i ys H',i ≤ xs.length → Pv i ys H' → ∀ o,H a = some o → H' a = some o) (h0 : Pv 0 [] H)
    (ht : ∀ i x ys H',xs[i]? = some x → Pv i ys H' → ys.length < sizeLine ∧ g x (blkSt σ cap k) H' fun σ2 H2 => leS (blkSt σ cap k) σ2 ∧ tt σ2 H2 fun ok H3 => if ok = true then te σ2 H3 (fun v H4 => Nx xs.length Pv i (ys ++ [v]) H4) else Nx xs.length Pv i ys H3)
    (hd : ∀ ys H',Pv xs.length ys H' → ys.length ≤ sizeLine ∧ ∀ p,H' p = none → Q (.ref p) (upd H' p (.lst ys))) : tComp (iSeq K (tVar j)) cap k g tt te σ H Q := by
  obtain ⟨c1,c2⟩ := comp_seq (K := K) (σ := σ) (cap := cap) (k := k) (g := g) (tt := tt) (te := te) hs Pv hk h0 ht hd
  rcases hs with z | z
  · exact .inl ⟨_,hσ,a,rfl,⟨xs,SqL.of z⟩,c1 z⟩
  · exact .inr ⟨_,hσ,a,rfl,⟨xs,SqT.of z⟩,c2 z⟩
end L2
namespace Pc
open PySem L2
def flds (b : Int) (r : Addr) : List (Str × V) := putF "kind_rows" (.ref r) (putF "blade_width" (.int b) [])
theorem kbw : ¬ (("blade_width" : Str) = "kind_rows") := by decide +kernel
theorem flds_blade (b : Int) (r : Addr) : (flds b r).lookup ("blade_width" : Str) = some (.int b) := by
  unfold flds
  rw [lookup_putF,if_neg kbw,lookup_putF,if_pos rfl]
theorem flds_rows (b : Int) (r : Addr) : (flds b r).lookup ("kind_rows" : Str) = some (.ref r) := by
  unfold flds
  rw [lookup_putF,if_pos rfl]
theorem flds_no (b : Int) (r : Addr) {m : Str} (h1 : ¬ m = "kind_rows") (h2 : ¬ m = "blade_width") : (flds b r).lookup m = none := by
  unfold flds
  rw [lookup_putF,if_neg h1,lookup_putF,if_neg h2]
  all_goals rfl
def ShopAt (C : Addr) (H : Hp) (x : Addr) (b : Int) (ks : List Kd) : Prop := ∃ dx r rs,H x = some (.ins C dx (flds b r)) ∧ H r = some (.tup rs) ∧ Tups H rs ks
theorem ShopAt.keep {C : Addr} {H H' : Hp} {x : Addr} {b : Int} {ks : List Kd} (s : ShopAt C H x b ks) (k1 : ∀ b xs,H b = some (.tup xs) → H' b = some (.tup xs)) (k2 : ∀ b C dx fs,H b = some (.ins C dx fs) → H' b = some (.ins C dx fs)) : ShopAt C H' x b ks := by
  obtain ⟨dx,r,rs,h1,h2,h3⟩ := s
  exact ⟨dx,r,rs,k2 _ _ _ _ h1,k1 _ _ h2,Tups.keep k1 h3⟩
def spInit (C : Addr) : Sp := fun vs H Q _ => ∃ (x dx ks : Addr) (b : Int) (rs : List V) (kds : List Kd),vs = [.ref x,.int b,.ref ks] ∧ H x = some (.ins C dx []) ∧ 0 ≤ b ∧ (H ks = some (.lst rs) ∨ H ks = some (.tup rs)) ∧ Paired (RowAt H) rs kds ∧ (∀ k ∈ kds,Good k) ∧ 1 ≤ rs.length ∧ rs.length ≤ 8 ∧
  ∀ H' : Hp,ShopAt C H' x b kds → (∀ c o,c ≠ x → H c = some o → H' c = some o) → Q .non H'
def spBlade (C : Addr) : Sp := fun vs H Q _ => ∃ (x : Addr) (b : Int) (ks : List Kd),vs = [.ref x] ∧ ShopAt C H x b ks ∧ Q (.int b) H
def spKinds (C : Addr) : Sp := fun vs H Q _ => ∃ (x : Addr) (b : Int) (ks : List Kd),vs = [.ref x] ∧ ShopAt C H x b ks ∧ ∀ (l : Addr) (rs : List V),H l = none → Tups H rs ks → Q (.ref l) (upd H l (.lst rs))
theorem rows_ty {K : PySem.W.Frag} {H : Hp} {k : Kd} : ∀ y ∈ kdV k,∃ U,Ty K H y U := by
  intro y hy
  simp only [kdV,List.mem_cons,List.not_mem_nil,or_false] at hy
  rcases hy with rfl | rfl | rfl | rfl | rfl
  · exact ⟨_,.int⟩
  · exact ⟨_,.int⟩
  · exact ⟨_,.int⟩
  · exact ⟨_,.int⟩
  · exact ⟨_,.bl⟩
theorem Paired.getR {α β : Type} {F : α → β → Prop} : ∀ {l₁ : List α} {l₂ : List β} {i : Nat} {x : α},Paired F l₁ l₂ → l₁[i]? = some x → ∃ y,l₂[i]? = some y ∧ F x y
  | _,_,_,_,.nil,e => by simp at e
  | _,_,0,_,.cons h _,e => by simp at e; subst e; exact ⟨_,rfl,h⟩
  | _,_,i + 1,x,.cons _ t,e => by
    obtain ⟨y,h1,h2⟩ := Paired.getR (i := i) (x := x) t (by simpa using e)
    exact ⟨y,by simpa using h1,h2⟩
theorem RowAt.same {H H' : Hp} {v : V} {k : Kd} (s : Same H H') (r : RowAt H v k) : RowAt H' v k := by
  rcases r with ⟨a,e,h⟩ | ⟨a,e,h⟩
  · exact .inl ⟨a,e,s _ _ h⟩
  · exact .inr ⟨a,e,s _ _ h⟩
theorem isKind_of {K : PySem.W.Frag} {H : Hp} {v : V} {k : Kd} {Q : VK} {E : XK} (r : RowAt H v k) (g : Good k) (q : ∀ H',Same H H' → Q (.bl true) H') : spIsKind K [v] H Q E := by
  rcases r with ⟨a,rfl,h⟩ | ⟨a,rfl,h⟩
  · exact ⟨_,_,rfl,.tup h,.inr ⟨a,_,rfl,.inr h,rows_ty,fun H' s => by rw [kind5_good g]; exact q H' s⟩⟩
  · exact ⟨_,_,rfl,.lst h,.inr ⟨a,_,rfl,.inl h,rows_ty,fun H' s => by rw [kind5_good g]; exact q H' s⟩⟩
structure ShopTxt (K : PySem.W.Frag) (C : Addr) : Prop where
  cl : Cls K C
  nB : NoAttr K C "blade_width"
  nK : NoAttr K C "kind_rows"
end Pc
set_option Elab.async false
set_option linter.all false
set_option maxRecDepth 100000
namespace L2
open PySem PySem.Spec PyProof.Rows
def Mn (P : Program) (w : World) (K : PySem.W.Frag) (mg : Str → Option Value) (base : Heap) (C : Addr) (m : Str) (ps : List Str) (k : Nat) (sp : Sp) : Prop :=
  ∃ (f : Addr) (fd : FuncData),FnOk P w K mg base CX0 k f fd ps sp ∧ Binds K fd ps [] ∧ Meth K C m f
theorem pe_mD0 {X : Cx} {k : Nat} {C : Addr} {ps : List Str} {sp : Sp} {m : Str} {o : Expr} {ta : TE} {apos pos : Pos} {pl : Sem Bool} (he : PE X o ta) (c : Cls X.K C) (D : Mn X.prog X.w X.K X.mg X.base C m ps k sp) (hr : Room k X.A)
    (ht : eval (.Call (.Attribute o m apos) [] [] pos) X.env = (do
      let ov ← eval o X.env
      standAt apos.atName
      let (f,first) ← holding [ov] (getMethod ov m pl)
      callWith pos f first (backTo pos (starEach [] X.env)) (backToKw pos (keywordEach [] X.env))) := by rfl) : PE X (.Call (.Attribute o m apos) [] [] pos) (tMeth C m sp [] E0 ta tNil) := by
  obtain ⟨f,fd,F,hb,hm⟩ := D
  exact pe_meth0 he c hm F hr hb .nil pass0 ht
def Kn (P : Program) (w : World) (K : PySem.W.Frag) (mg : Str → Option Value) (base : Heap) (x : Str) (C : Addr) (ps : List Str) (k : Nat) (sp : Sp) : Prop :=
  ∃ (f : Addr) (fd : FuncData),Mk K C f ∧ FnOk P w K mg base CX0 k f fd ps sp ∧ Binds K fd ps [] ∧ mg x = some (.ref C)
theorem pe_kD {X : Cx} {k : Nat} {C : Addr} {ps : List Str} {sp : Sp} {x : Str} {p pos : Pos} {e : Expr} {es : List Expr} {t : TA} (D : Kn X.prog X.w X.K X.mg X.base x C ps k sp) (hr : Room (k + 1) X.A) (hg : Gl X x) (ha : PA X (e :: es) t)
    (hdb : (x == ("__debug__" : Str)) = false := by decide) (he : starEach (e :: es) X.env = (false,eval e X.env) :: starEach es X.env := by rfl) (hpl : (backTo pos (starEach es X.env)).any (·.1) = false := by rfl) :
    PE X (.Call (.Name x p) (e :: es) [] pos) (tMake C sp [] E0 t) := by
  obtain ⟨f,fd,M,F,hb,hm⟩ := D
  exact pe_make M F hr hg hm hb .nil pass0 ha hdb he hpl
end L2
namespace Pc
open PySem L2
theorem Same.but {p : Addr} {H H' : Hp} (s : Same H H') : But p H H' := fun b o _ e => s b o e
theorem Same.new {q : Addr} {H : Hp} {o : HO} (h : H q = none) : Same H (upd H q o) := fun b u e => by rw [upd_ne (ne_of_none e h)]; exact e
end Pc
set_option Elab.async false
set_option linter.all false
set_option maxRecDepth 100000
namespace L2
open PySem PySem.Spec PyProof.Rows
theorem runs_det {M : Model} {Γ : PySem.Ctx} {p : Pos} {t : Sem Fin} {fs : List Frame} {s s' : Shared} {e : End} (h : Runs M Γ p t fs s e s') : ∀ {e2 : End} {s2 : Shared},Runs M Γ p t fs s e2 s2 → e = e2 ∧ s' = s2 := by
  induction h with
  | done => intro e2 s2 h2; cases h2; exact ⟨rfl,rfl⟩
  | raise => intro e2 s2 h2; cases h2; exact ⟨rfl,rfl⟩
  | again _ _ ih => intro e2 s2 h2; cases h2; rename_i a b; exact ih b
  | rule _ ih => intro e2 s2 h2; cases h2; rename_i b; exact ih b
  | «at» _ ih => intro e2 s2 h2; cases h2; rename_i b; exact ih b
  | load he _ ih => intro e2 s2 h2; cases h2; rename_i b1 b2 b3; rw [he] at b2; cases b2; exact ih b3
  | update _ _ ih => intro e2 s2 h2; cases h2; rename_i b1 b; exact ih b
  | loadIfAlive _ ih => intro e2 s2 h2; cases h2; rename_i b; exact ih b
  | point _ ih => intro e2 s2 h2; cases h2; rename_i b; exact ih b
  | alloc _ ih => intro e2 s2 h2; cases h2; rename_i b; exact ih b
  | fresh _ ih => intro e2 s2 h2; cases h2; rename_i b; exact ih b
  | ask _ ih => intro e2 s2 h2; cases h2; rename_i b; exact ih b
  | choose _ _ ih => intro e2 s2 h2; cases h2; rename_i b1 b; exact ih b
  | os _ ih => intro e2 s2 h2; cases h2; rename_i b; exact ih b
  | handled _ ih => intro e2 s2 h2; cases h2; rename_i b; exact ih b
  | genState he _ ih => intro e2 s2 h2; cases h2; rename_i b1 b2 b3; rw [he] at b2; cases b2; exact ih b3
  | stack _ ih => intro e2 s2 h2; cases h2; rename_i b; exact ih b
  | thread _ ih => intro e2 s2 h2; cases h2; rename_i b; exact ih b
  | newGen _ ih => intro e2 s2 h2; cases h2; rename_i b; exact ih b
  | call _ _ ih1 ih2 =>
    intro e2 s2 h2
    cases h2 with
    | call a b => obtain ⟨q1,q2⟩ := ih1 a; cases q1; subst q2; exact ih2 b
    | callSusp a => obtain ⟨q1,_⟩ := ih1 a; cases q1
  | callSusp _ ih1 =>
    intro e2 s2 h2
    cases h2 with
    | call a b => obtain ⟨q1,_⟩ := ih1 a; cases q1
    | callSusp a => obtain ⟨q1,q2⟩ := ih1 a; cases q1; exact ⟨rfl,q2⟩
  | yield => intro e2 s2 h2; cases h2; exact ⟨rfl,rfl⟩
  | resumeFresh hg _ _ _ ih1 ih2 =>
    intro e2 s2 h2
    cases h2 with
    | resumeFresh hg' a _ b => rw [hg] at hg'; cases hg'; obtain ⟨q1,q2⟩ := ih1 a; subst q1 q2; exact ih2 b
    | resumeSuspended hg' => rw [hg] at hg'; cases hg'
    | resumeJustStarted hg' n => exact absurd rfl n
    | resumeRunning hg' => rw [hg] at hg'; cases hg'
    | resumeFinished hg' => rw [hg] at hg'; cases hg'
  | resumeSuspended hg _ _ _ ih1 ih2 =>
    intro e2 s2 h2
    cases h2 with
    | resumeFresh hg' => rw [hg] at hg'; cases hg'
    | resumeSuspended hg' a _ b => rw [hg] at hg'; cases hg'; obtain ⟨q1,q2⟩ := ih1 a; subst q1 q2; exact ih2 b
    | resumeJustStarted hg' => rw [hg] at hg'; cases hg'
    | resumeThrowFresh hg' => rw [hg] at hg'; cases hg'
    | resumeRunning hg' => rw [hg] at hg'; cases hg'
    | resumeFinished hg' => rw [hg] at hg'; cases hg'
  | resumeJustStarted hg n _ ih =>
    intro e2 s2 h2
    cases h2 with
    | resumeFresh hg' => exact absurd rfl n
    | resumeSuspended hg' => rw [hg] at hg'; cases hg'
    | resumeJustStarted hg' n b => exact ih b
    | resumeRunning hg' => rw [hg] at hg'; cases hg'
    | resumeFinished hg' => rw [hg] at hg'; cases hg'
  | resumeThrowFresh hg _ ih =>
    intro e2 s2 h2
    cases h2 with
    | resumeSuspended hg' => rw [hg] at hg'; cases hg'
    | resumeThrowFresh hg' b => exact ih b
    | resumeRunning hg' => rw [hg] at hg'; cases hg'
    | resumeFinished hg' => rw [hg] at hg'; cases hg'
  | resumeRunning hg _ ih =>
    intro e2 s2 h2
    cases h2 with
    | resumeFresh hg' => rw [hg] at hg'; cases hg'
    | resumeSuspended hg' => rw [hg] at hg'; cases hg'
    | resumeJustStarted hg' => rw [hg] at hg'; cases hg'
    | resumeThrowFresh hg' => rw [hg] at hg'; cases hg'
    | resumeRunning hg' b => exact ih b
    | resumeFinished hg' => rw [hg] at hg'; cases hg'
  | resumeFinished hg _ ih =>
    intro e2 s2 h2
    cases h2 with
    | resumeFresh hg' => rw [hg] at hg'; cases hg'
    | resumeSuspended hg' => rw [hg] at hg'; cases hg'
    | resumeJustStarted hg' => rw [hg] at hg'; cases hg'
    | resumeThrowFresh hg' => rw [hg] at hg'; cases hg'
    | resumeRunning hg' => rw [hg] at hg'; cases hg'
    | resumeFinished hg' b => exact ih b
  | segRet _ _ ih1 ih2 =>
    intro e2 s2 h2
    cases h2 with
    | segRet a b => obtain ⟨q1,q2⟩ := ih1 a; cases q1; subst q2; exact ih2 b
    | segSuspOut _ a => obtain ⟨q1,_⟩ := ih1 a; cases q1
    | segSuspGen _ a => obtain ⟨q1,_⟩ := ih1 a; cases q1
  | segGen _ _ ih1 ih2 =>
    intro e2 s2 h2
    cases h2 with
    | segGen a b => obtain ⟨q1,q2⟩ := ih1 a; cases q1; subst q2; exact ih2 b
    | segSuspOut _ a => obtain ⟨q1,_⟩ := ih1 a; cases q1
    | segSuspGen _ a => obtain ⟨q1,_⟩ := ih1 a; cases q1
  | segSuspOut hn _ ih1 =>
    intro e2 s2 h2
    cases h2 with
    | segRet a b => obtain ⟨q1,_⟩ := ih1 a; cases q1
    | segGen a b => obtain ⟨q1,_⟩ := ih1 a; cases q1
    | segSuspOut _ a => obtain ⟨q1,q2⟩ := ih1 a; cases q1; exact ⟨rfl,q2⟩
    | segSuspGen hs a => rw [hn] at hs; cases hs
  | segSuspGen hs _ _ _ ih1 ih2 =>
    intro e2 s2 h2
    cases h2 with
    | segRet a b => obtain ⟨q1,_⟩ := ih1 a; cases q1
    | segGen a b => obtain ⟨q1,_⟩ := ih1 a; cases q1
    | segSuspOut hn a => rw [hn] at hs; cases hs
    | segSuspGen hs' a _ b => rw [hs] at hs'; cases hs'; obtain ⟨q1,q2⟩ := ih1 a; cases q1; subst q2; exact ih2 b
theorem wp_conj {α : Type} (M : Model) (Γ : PySem.Ctx) (t : Sem α) : ∀ (Q Q' : α → Pos → Shared → Prop) (E E' : Value → Pos → Shared → Prop) (p : Pos) (s : Shared),Sem.wp M Γ t Q E p s → Sem.wp M Γ t Q' E' p s →
    Sem.wp M Γ t (fun a p' s' => Q a p' s' ∧ Q' a p' s') (fun e p' s' => E e p' s' ∧ E' e p' s') p s := by
  have det : ∀ {Δ : PySem.Ctx} {p : Pos} {s : Shared} {r r' : Result} {s1 s2 : Shared},Returns M Δ p s r s1 → Returns M Δ p s r' s2 → r = r' ∧ s1 = s2 := by
    intro Δ p s r r' s1 s2 h1 h2
    obtain ⟨q1,q2⟩ := runs_det h1 h2
    cases q1
    exact ⟨rfl,q2⟩
  have detW : ∀ {Δ : PySem.Ctx} {p : Pos} {g : Nat} {r : Resume} {s : Shared} {x x' : GenResult} {s1 s2 : Shared},Wakes M Δ p g r s x s1 → Wakes M Δ p g r s x' s2 → x = x' ∧ s1 = s2 := by
    intro Δ p g r s x x' s1 s2 h1 h2
    unfold Wakes at h1 h2
    split at h1
    · exact h1.elim
    · split at h1
      · obtain ⟨e1,t1,a1,_,rfl,rfl⟩ := h1
        rename_i hg _ _
        simp only [hg] at h2
        obtain ⟨e2,t2,a2,_,rfl,rfl⟩ := h2
        obtain ⟨q1,q2⟩ := runs_det a1 a2
        subst q1 q2
        exact ⟨rfl,rfl⟩
      · rename_i hg _ _ hn
        simp only [hg] at h2
        obtain ⟨rfl,rfl⟩ := h1
        obtain ⟨rfl,rfl⟩ := h2
        exact ⟨rfl,rfl⟩
      · rename_i hg _ _
        simp only [hg] at h2
        obtain ⟨rfl,rfl⟩ := h1
        obtain ⟨rfl,rfl⟩ := h2
        exact ⟨rfl,rfl⟩
    · rename_i hg
      simp only [hg] at h2
      obtain ⟨e1,t1,a1,_,rfl,rfl⟩ := h1
      obtain ⟨e2,t2,a2,_,rfl,rfl⟩ := h2
      obtain ⟨q1,q2⟩ := runs_det a1 a2
      subst q1 q2
      exact ⟨rfl,rfl⟩
    · rename_i hg
      simp only [hg] at h2
      obtain ⟨rfl,rfl⟩ := h1
      obtain ⟨rfl,rfl⟩ := h2
      exact ⟨rfl,rfl⟩
    · rename_i hg
      simp only [hg] at h2
      obtain ⟨rfl,rfl⟩ := h1
      obtain ⟨rfl,rfl⟩ := h2
      exact ⟨rfl,rfl⟩
  induction t with
  | pure a => intro Q Q' E E' p s h h'; exact ⟨h,h'⟩
  | raise e => intro Q Q' E E' p s h h'; exact ⟨h,h'⟩
  | unsupported _ => intro Q Q' E E' p s h _; exact h
  | finish _ => intro Q Q' E E' p s h _; exact h
  | rule _ k ih => intro Q Q' E E' p s h h'; exact ih () _ _ _ _ p s h h'
  | «at» p' k ih => intro Q Q' E E' p s h h'; exact ih () _ _ _ _ p' s h h'
  | load a _ k ih =>
    intro Q Q' E E' p s h h'; obtain ⟨o,ho,h⟩ := h; obtain ⟨o',ho',h'⟩ := h'
    rw [ho] at ho'; cases ho'; exact ⟨o,ho,ih o _ _ _ _ p s h h'⟩
  | update a _ f k ih => intro Q Q' E E' p s h h'; exact ⟨h.1,ih () _ _ _ _ p _ h.2 h'.2⟩
  | loadIfAlive a k ih => intro Q Q' E E' p s h h'; exact ih _ _ _ _ _ p s h h'
  | point _ k ih => intro Q Q' E E' p s h h'; exact ih () _ _ _ _ p s h h'
  | register _ _ => intro Q Q' E E' p s h _; exact h
  | alloc o k ih => intro Q Q' E E' p s h h'; exact ih _ _ _ _ _ p _ h h'
  | fresh k ih => intro Q Q' E E' p s h h'; exact ih _ _ _ _ _ p _ h h'
  | ask k ih => intro Q Q' E E' p s h h'; exact ih _ _ _ _ _ p s h h'
  | choose src m k ih => intro Q Q' E E' p s h h'; exact ⟨h.1,ih _ _ _ _ _ p _ h.2 h'.2⟩
  | os q _ k ih => intro Q Q' E E' p s h h'; exact ih _ _ _ _ _ p _ h h'
  | call c hd _ _ k ih =>
    intro Q Q' E E' p s h h'; obtain ⟨r,s',hr,h⟩ := h; obtain ⟨r',s'',hr',h'⟩ := h'
    obtain ⟨rfl,rfl⟩ := det hr hr'
    exact ⟨r,s',hr,ih r _ _ _ _ p s' h h'⟩
  | handled own k ih => intro Q Q' E E' p s h h'; exact ih _ _ _ _ _ p s h h'
  | genState g k ih =>
    intro Q Q' E E' p s h h'; obtain ⟨st,hs,h⟩ := h; obtain ⟨st',hs',h'⟩ := h'
    rw [hs] at hs'; cases hs'; exact ⟨st,hs,ih _ _ _ _ _ p s h h'⟩
  | newGen c k ih => intro Q Q' E E' p s h h'; exact ih _ _ _ _ _ p _ h h'
  | resume g r _ k ih =>
    intro Q Q' E E' p s h h'; obtain ⟨x,s',hw,h⟩ := h; obtain ⟨x',s'',hw',h'⟩ := h'
    obtain ⟨rfl,rfl⟩ := detW hw hw'
    exact ⟨x,s',hw,ih x _ _ _ _ p s' h h'⟩
  | yield _ _ _ _ => intro Q Q' E E' p s h _; exact h
  | stack k ih => intro Q Q' E E' p s h h'; exact ih _ _ _ _ _ p s h h'
  | fork _ _ => intro Q Q' E E' p s h _; exact h
  | thread k ih => intro Q Q' E E' p s h h'; exact ih _ _ _ _ _ p s h h'
  | await _ _ _ _ _ => intro Q Q' E E' p s h _; exact h
theorem wpAny_conj {α : Type} {M : Model} {A : Around} {t : Sem α} {Q Q' : α → Shared → Prop} {E E' : Value → Shared → Prop} {s : Shared} (h : wpAny M A t Q E s) (h' : wpAny M A t Q' E' s) :
    wpAny M A t (fun a s' => Q a s' ∧ Q' a s') (fun e s' => E e s' ∧ E' e s') s := fun Γ p hΓ => wp_conj M Γ t _ _ _ _ p s (h Γ p hΓ) (h' Γ p hΓ)
def Q2 (e : Addr) (h : Heap) : Prop := ∃ oe vs,h.get? e = some oe ∧ oe.data = .fields vs ∧ vs[2]? = some .none
section
variable {M : Model} {A : Around} {E : Value → Shared → Prop} {s : Shared} {base : Heap} {env : Env} {outer l : List Env} {L e : Addr} {cls a0 fl : Value} {Q : Unit → Shared → Prop}
theorem Q2.set {e c : Addr} {h : Heap} {i : Nat} {v : Value} (hi : i ≠ 2) (q : Q2 e h) : Q2 e (h.update c (Obj.mapFields (·.setIfInBounds i v))) := by
  obtain ⟨oe,vs,he,hd,h2⟩ := q
  by_cases z : c = e
  · subst z
    have hd' := Obj.data_mapFields hd (·.setIfInBounds i v)
    exact ⟨_,_,Heap.get?_update_self _ he (Obj.isFreed_of_fields hd'),hd',by rw [Array.getElem?_setIfInBounds_ne hi]; exact h2⟩
  · exact ⟨oe,vs,(Heap.get?_update_other _ _ z).trans he,hd,h2⟩
theorem Q2.push {e : Addr} {h : Heap} {o : Obj} (q : Q2 e h) : Q2 e (h.push o) := let ⟨oe,vs,he,r⟩ := q; ⟨oe,vs,Heap.get?_push_of_some _ he,r⟩
theorem entry2 {head : Value} {nx : Bool} (hfr : A.frames = some (env :: outer)) (hl : s.heap.FunFrames base (env :: outer)) (hf : env.frame = some L) (q : Q2 e s.heap)
    (h : ∀ h₁ o ts,Q2 e h₁ → o.data = .fields ts → 3 < ts.size → Q () { s with heap := (h₁.push o).update e (Obj.mapFields (·.setIfInBounds 1 (Value.ref h₁.objs.size))) }) :
    wpAny M A (do let a ← frameOf env; let pl ← entryPlaceOf L nx; let b ← EntryCells.newEntry head a .none (rawInt L) .none pl; setField (.ref e) 1 b) Q E s := by
  obtain ⟨oe,vs,he,hd,h2⟩ := q
  have hene : e ∉ (env :: outer).filterMap (·.frame) := fun hm => by
    obtain ⟨_,o,ho,hnf⟩ := hl.mem hm
    rw [he] at ho; injection ho with ho; subst ho; exact hnf vs hd
  refine wpAny_bind (wpAny_frameOf_fun hfr hl hf fun h₁ hs₁ => ?_)
  refine wpAny_bind (wpAny_entryPlaceOf fun pl hpl => ?_)
  unfold EntryCells.newEntry newFields
  refine wpAny_bind (wpAny_newObj_type ?_ (hpl.sizeOk5 _ _ _ _ _))
  have he₁ : h₁.get? e = some oe := (hs₁.2.1 e hene).trans he
  have h2s : 2 < vs.size := (Array.getElem?_eq_some_iff.mp h2).1
  exact wpAny_setField (Heap.get?_push_of_some _ he₁) hd (by omega) (h h₁ _ _ ⟨oe,vs,he₁,hd,h2⟩ rfl (by simp only [List.size_toArray,List.length_append,List.length_cons,List.length_nil]; omega))
theorem leave2 {h : Heap} {args : List Value} (hfr : A.frames = some (env :: outer)) (hf : env.frame = some L) (hl : h.FunFrames base (env :: outer)) (hx : Heap.MadeExcOf h s.heap e cls args) : wpAny M A (leaving env (.ref e)) (fun _ s' => Q2 e s'.heap) E s := by
  obtain ⟨t,he,htn,ht⟩ := hx.there
  have q : Q2 e s.heap := ⟨_,_,he,rfl,rfl⟩
  unfold leaving noteFrame
  simp only [hf]
  refine wpAny_bind (wpAny_bind (wpAny_field he rfl (x := .none) rfl ?_))
  rw [if_neg (by decide)]
  refine entry2 (base := base) hfr (hl.of_keeps fun b o hb _ => ⟨o,hx.keeps b o hb,rfl⟩) hf q fun h₁ o ts q1 ho h3 => ?_
  obtain ⟨oe1,vs1,he1,hd1,h21⟩ := q1
  have hTe : h₁.objs.size ≠ e := Nat.ne_of_gt (Heap.lt_size he1)
  have hd3 := Obj.data_mapFields hd1 (·.setIfInBounds 1 (Value.ref h₁.objs.size))
  have he3 := Heap.get?_update_self (Obj.mapFields (·.setIfInBounds 1 (Value.ref h₁.objs.size))) (Heap.get?_push_of_some o he1) (Obj.isFreed_of_fields hd3)
  have h2s : 2 < vs1.size := (Array.getElem?_eq_some_iff.mp h21).1
  have hT := (Heap.get?_update_other (h₁.push o) (Obj.mapFields (·.setIfInBounds 1 (Value.ref h₁.objs.size))) (Ne.symm hTe)).trans (Heap.get?_push_size h₁ (Obj.isFreed_of_fields ho))
  unfold setFlight
  refine wpAny_bind (wpAny_field he3 hd3 (x := .ref h₁.objs.size) (by rw [Array.getElem?_setIfInBounds_self_of_lt (by omega)]) ?_)
  rw [if_pos (show (Value.ref h₁.objs.size != Value.none) = true from by simp)]
  exact wpAny_setField hT ho h3 ((Q2.push (o := o) ⟨oe1,vs1,he1,hd1,h21⟩).set (i := 1) (by decide) |>.set (by decide))
end
section
variable {M : Model} {A : Around} {E : Value → Shared → Prop} {s : Shared} {base : Heap} {env : Env} {outer l : List Env} {L e : Addr} {cls a0 fl : Value} {Q : Unit → Shared → Prop}
theorem leaves_madeQ {h : Heap} {args : List Value} (hfr : A.frames = some (env :: outer)) (hf : env.frame = some L) (hkb : base.StaysIn h) (hl : h.FunFrames base (env :: outer)) (hx : Heap.MadeExcOf h s.heap e cls args)
    (hQ : ∀ h' t,Heap.FlyingW base outer e cls (.ref t) h' → h'.TupAt t args → base.get? t = none → s.heap.UpToSlots h' → Q2 e h' → Q () { s with heap := h' }) : wpAny M A (leaving env (.ref e)) Q E s :=
  wpAny_mono (wpAny_conj (leave2 (E := E) hfr hf hl hx) (wpAny_leaves_madeW (Q := fun _ s' => Q2 e s'.heap → Q () s') (E := E) hfr hf hkb hl hx fun h' t a b c d q => hQ h' t a b c d q)) (fun _ _ z => z.2 z.1) fun _ _ z => z.1
end
end L2
set_option Elab.async false
set_option linter.all false
set_option maxRecDepth 100000
namespace L2
open PySem PySem.Spec PyProof.Rows
theorem ObjOk.ex {P : Program} {w : World} {H : Hp} {h : Heap} {a : Addr} {o : HO} (x : ObjOk P w H h a o) : ∃ ob,h.get? a = some ob := by
  cases o with
  | lst xs => obtain ⟨_,_,_,_,e⟩ := x; exact ⟨_,e⟩
  | tup xs => obtain ⟨_,_,_,o,e,_⟩ := x; exact ⟨_,e⟩
  | dK kvs => obtain ⟨_,_,_,_,o,_,_,e,_⟩ := x; exact ⟨_,e⟩
  | dT kvs => obtain ⟨_,_,_,_,o,_,_,e,_⟩ := x; exact ⟨_,e⟩
  | set S n => obtain ⟨o,_,_,_,e,_⟩ := x; exact ⟨_,e⟩
  | ins C dx fs => obtain ⟨_,_,_,e,_⟩ := x; exact ⟨_,e⟩
  | own y => exact x
  | xd fs => obtain ⟨_,⟨_,_,_,e,_⟩,_⟩ := x; exact ⟨_,e⟩
  | rng lo hi => obtain ⟨_,_,_,e⟩ := x; exact ⟨_,e⟩
  | frz ob u => exact ⟨_,x.1⟩
  | tbl ps => exact ⟨_,(show h.get? a = some _ from x)⟩
  | met f y => exact ⟨_,(show h.get? a = some _ from x)⟩
  | ext φ => exact x.2.1
structure Flew (P : Program) (w : World) (outer : List Env) (H : Hp) (s : Shared) (ea : Addr) (C : Value) (H' : Hp) (B : Heap) (s' : Shared) : Prop where
  os : s'.os = s.os
  bare : AllBare s'.gens
  un : Un (frs outer) [] H H' s.heap s'.heap
  hok : HOk P w H' s'.heap
  fly : ∃ a0,Heap.FlyingW B outer ea C a0 s'.heap
  ctx : Q2 ea s'.heap
  cov : ∀ b o,b ∉ frs outer → (H' b ≠ none ∨ ∃ o',s.heap.get? b = some o') → s'.heap.get? b = some o → B.get? b = some o
  new : s.heap.get? ea = none ∧ H' ea = none
def CXx (P : Program) (w : World) : CXT := fun outer H s E e s' => ∃ ea C H' B,e = Value.ref ea ∧ Flew P w outer H s ea C H' B s' ∧ E C none H'
section
variable {X : Cx} {pins : List (Addr × Obj)} {σ : St} {H : Hp} {s : Shared}
theorem Inv.raised {h2 : Heap} {ea : Addr} {C : Value} {vs : List Value} {M : Model} {E : Value → Shared → Prop} {Q : Unit → Shared → Prop} (I : Inv X pins σ H s) (hst : X.stack = X.env :: X.outer) (hfr : X.env.frame = some X.env.locals) (hex : X.ex = [])
    (hx : Heap.MadeExcOf s.heap h2 ea C vs) (hQ : ∀ B h',Flew X.prog X.w X.outer X.H₀ X.s₀ ea C H B { s with heap := h' } → Q () { s with heap := h' }) :
    wpAny M X.A (leaving X.env (.ref ea)) Q E { s with heap := h2 } := by
  have fS : frs X.stack = X.env.locals :: X.fs := by rw [hst]; unfold frs; rw [List.filterMap_cons,hfr]; rfl
  have st : s.heap.FunFrames X.base (X.env :: X.outer) := by rw [← hst]; exact I.stack
  have hin : ∀ env ∈ (X.env :: X.outer),∀ b,env.frame = some b → b ∈ frs X.stack := fun env he b hb => by rw [hst]; exact List.mem_filterMap.mpr ⟨env,he,hb⟩
  have s0L : ∀ b o,X.s₀.heap.get? b = some o → b ≠ X.env.locals := fun b o e => Nat.ne_of_lt (Nat.lt_of_lt_of_le (Heap.lt_size e) I.ok.above)
  have Ubase : Un X.fs [] X.H₀ H X.s₀.heap s.heap := by have := I.base; rw [hex] at this; exact this
  have trk : ∀ b u,H b = some u → b ∉ frs X.stack := fun b u e hb => by rw [I.stkFree b hb] at e; cases e
  have ofd : ∀ b,b ∈ X.fs → ∃ o,s.heap.get? b = some o ∧ ∀ vs,o.data ≠ .fields vs := fun b hb => by
    obtain ⟨_,o,ho,hd⟩ := I.funs.mem hb
    exact ⟨o,ho,hd⟩
  refine leaves_madeQ (base := PySem.W.hideAll s.heap (frs X.stack)) (h := s.heap) (by rw [← hst]; exact I.ok.frames) hfr (fun b o q => PySem.W.of_hideAll _ q) (PySem.W.funFrames_hide st hin) hx fun h' t fl tup hbt sm q2 => hQ (PySem.W.hideAll s.heap (frs X.stack)) h' ?_
  have toB : ∀ b o,b ∉ frs X.stack → s.heap.get? b = some o → h'.get? b = some o := fun b o nb e => fl.1 _ _ (PySem.W.hideAll_get _ e nb)
  have nfs : ∀ b o,X.s₀.heap.get? b = some o → b ∉ X.fs → b ∉ frs X.stack := fun b o e nb z => by
    rw [fS] at z
    rcases List.mem_cons.mp z with q | q
    · exact s0L b o e q
    · exact nb q
  have slot1 : ∀ b o,b ∈ X.fs → s.heap.get? b = some o → ∃ sl,h'.get? b = some { o with slots := sl } := fun b o hb e => by
    obtain ⟨o',e',hd⟩ := ofd b hb
    rw [e] at e'; cases e'
    exact sm b o (hx.keeps _ _ e) hd
  refine ⟨I.os,I.bare,⟨fun b o e n hb _ => ?_,fun b o e n hb _ => ?_,fun b o e n _ => Ubase.free b o e n (by simp),fun b o e _ => ?_,Ubase.tups,Ubase.frzs,Ubase.tbls⟩,fun b u e => ?_,⟨_,fl⟩,q2,fun b o nb hh e => ?_,?_,?_⟩
  · exact toB b o (nfs b o e hb) (Ubase.keep b o e n hb (by simp))
  · obtain ⟨sl,e1⟩ := Ubase.slot b o e n hb (by simp)
    obtain ⟨sl',e2⟩ := slot1 b _ hb e1
    exact ⟨sl',e2⟩
  · obtain ⟨o',e1⟩ := Ubase.there b o e (by simp)
    by_cases hb : b ∈ X.fs
    · obtain ⟨sl,e2⟩ := slot1 b _ hb e1
      exact ⟨_,e2⟩
    · exact ⟨o',toB b o' (nfs b o e hb) e1⟩
  · refine (I.hok b u e).stay (fun c v hc q => toB c v ?_ q) (fun _ q => q) fun _ _ q => q
    rcases hc with z | z
    · rw [z]; exact trk b u e
    · exact trk c _ z
  · rcases hh with z | ⟨o',z⟩
    · cases q : H b with
      | none => exact absurd q z
      | some u =>
        obtain ⟨ob,eb⟩ := (I.hok b u q).ex
        have eB := PySem.W.hideAll_get _ eb (trk b u q)
        have := fl.1 _ _ eB
        rw [e] at this; cases this
        exact eB
    · obtain ⟨o'',e1⟩ := Ubase.there b o' z (by simp)
      have eB := PySem.W.hideAll_get _ e1 (nfs b o' z nb)
      have := fl.1 _ _ eB
      rw [e] at this; cases this
      exact eB
  · cases q : X.s₀.heap.get? ea with
    | none => rfl
    | some o =>
      obtain ⟨o',e1⟩ := Ubase.there ea o q (by simp)
      rw [hx.new] at e1; cases e1
  · cases q : H ea with
    | none => rfl
    | some u =>
      obtain ⟨ob,eb⟩ := (I.hok ea u q).ex
      rw [hx.new] at eb; cases eb
end
def bmVE : List Value := [.type "ValueError",.type "Exception",.type "BaseException",.type "object"]
def ExcC (K : PySem.W.Frag) (C : Addr) : Prop := PySem.W.excIn K C bmVE "ValueError.__new__" = true
theorem ExcC.obj {K : PySem.W.Frag} {C : Addr} {h : Heap} (X : K.In h) (q : ExcC K C) : ∃ bm N nm qn bs hdct sn sub ab col dd k0 k1 k2 k3 k5 mN,
    h.get? C = some (excClassObj nm qn C N bs bm hdct sn sub ab col dd k0 k1 k2 k3 k5 "ValueError.__new__") ∧ h.Ns N mN ∧ mN "__init__" = none ∧ OwnTail h bmVE bm := by
  unfold ExcC PySem.W.excIn at q
  split at q
  · rename_i dd cd sl ho
    split at q
    · rename_i C' bm k0 k1 k2 k3 n k5 hm hs
      simp only [Bool.and_eq_true,beq_iff_eq,Bool.not_eq_true'] at q
      obtain ⟨⟨⟨⟨⟨e1,e2⟩,e3⟩,e4⟩,e5⟩,e6⟩ := q
      obtain ⟨nm,bs,mro,ns,qn,hd,sn,sub,ab,col,del⟩ := cd
      dsimp only at hm e3 e5 e6
      subst e1 e2 hm e3
      obtain ⟨l⟩ := sl
      simp only at hs
      subst hs
      exact ⟨bm,ns,nm,qn,bs,hd,sn,sub,ab,col,dd,k0,k1,k2,k3,k5,_,X _ _ ho,.of_isNs (PySem.W.isNs_of_in X e5),PySem.W.nsMap_none_of_in X e5 e6,PySem.W.tail_of_in X e4⟩
    · cases q
  · cases q
section
variable {X : Cx} {x : Str} {C : Addr} {e0 : Expr} {np cpos pos : Pos} {t : TA}
def tRaise (R : Value → Hp → Prop) (C : Addr) (t : TA) : TS := fun _ σ H => t σ H fun vs H1 => vs.length ≤ sizeLine ∧ R (.ref C) H1
theorem ps_raise {R : Value → Hp → Prop} (hc : X.calm = true) (hg : Gl X x) (hm : X.mg x = some (.ref C)) (ec : ExcC X.K C) (ha : PA X [e0] t)
    (hR : ∀ pins σ H s h2 ea vs,Inv X pins σ H s → Heap.MadeExcOf s.heap h2 ea (.ref C) vs → R (.ref C) H → X.xe (.ref ea) { s with heap := h2 })
    (he : starEach [e0] X.env = [(false,eval e0 X.env)] := by rfl) (hd : (x == ("__debug__" : Str)) = false := by decide) :
    PS X (.Raise (some (.Call (.Name x np) [e0] [] cpos)) none pos) (tRaise R C t) := by
  intro pins s σ H D I h
  obtain ⟨bm,N,nm,qn,bs,hdct,sn,sub,ab,col,dd,k0,k1,k2,k3,k5,mN,hC,hN,hni,T⟩ := ec.obj I.ok.mod.kin
  refine wpAny_Raise_call_subT (C := C) (nm := nm) (q := qn) (N := N) (bs := bs) (bm := bm) (hdct := hdct) (sn := sn) (sub := sub) (ab := ab) (col := col) (dd := dd) (k0 := k0) (k1 := k1) (k2 := k2) (k3 := k3) (k5 := k5)
    PySem.F.excBase_ValueError (mN := mN) (T.hasType PySem.F.excBase_ValueError.hasBase) (I.ok.hd hc) (by rw [he]; rfl) hni (ld_glob I hg hm ⟨rfl,?_⟩ hd)
  have h2 := ha cpos pins s σ H _ I h
  rw [he] at h2 ⊢
  refine Calls.evalArgs_plain (thn h2 fun us s2 ⟨vs,H1,I1,rv,hl,q⟩ => ⟨rfl,by rw [← rv.length]; exact hl,I1.bk _ _ hC,hN.keeps I1.bk,T.keeps I1.bk,fun h' ea hx => ?_⟩)
  exact hR pins σ H1 s2 h' ea us I1 hx q
end
section
variable {P : Program} {w : World} {K : PySem.W.Frag} {mg : Str → Option Value} {base : Heap}
theorem raise_ends {N : List Str} {qual : Str} {scope : Scope} {f : Addr} {cd : Value} {A : Around} {outer : List Env} {s₀ : Shared} {H₀ : Hp} {E : XK} {C : Addr} :
    ∀ pins σ H s h2 ea vs,Inv (cxOf (CXx P w) P w K mg base N qual scope f cd A outer s₀ H₀ E) pins σ H s → Heap.MadeExcOf s.heap h2 ea (.ref C) vs → (fun c H => E c none H) (Value.ref C) H →
      (cxOf (CXx P w) P w K mg base N qual scope f cd A outer s₀ H₀ E).xe (.ref ea) { s with heap := h2 } := fun pins σ H s h2 ea vs I hx q =>
  I.raised (E := fun e' s'' => CXx P w outer H₀ s₀ E e' s'') rfl rfl rfl hx fun B h' f => ⟨ea,_,H,B,rfl,f,q⟩
theorem Fun.okX {x qual : Str} {st : Stmt} {f : Addr} {fd : FuncData} {N ps : List Str} {k : Nat} {sp : Sp} (F : Fun K x qual st f fd) (S : FnScope N ps (defScope st)) (len : ∀ vs H Q E,sp vs H Q E → vs.length = ps.length)
    (hbody : ∀ (cdv : Value) (A : Around) (outer : List Env) (s : Shared) (H : Hp) (vs : List V) (Q : VK) (E : XK),Room k (A.deeper (envOfC qual (defScope st) s.heap.objs.size f cdv)) → sp vs H Q E →
      ∃ t,PSs (cxOf (CXx P w) P w K mg base N qual (defScope st) f cdv A outer s H E) (defBody st) t ∧ t { nx := fun _ H' => Q .non H',rt := Q } (start N vs) H) : FnOk P w K mg base (CXx P w) (k + 1) f fd ps sp := by
  obtain ⟨oc,od,kV,doc,pm,an,cdv,ct,osl,rfl,lk,hcd⟩ := F.ex
  exact fn_of lk hcd S len fun A outer s H vs Q E hr hsp => hbody cdv A outer s H vs Q E hr hsp
end
def XP (X : Cx) (pins : List (Addr × Obj)) (σ : St) (E : XK) (v : Value) (s' : Shared) : Prop := ∃ ea C H H' B s0,v = Value.ref ea ∧ Inv X pins σ H s0 ∧ Flew X.prog X.w X.stack H s0 ea C H' B s' ∧ E C none H'
section
variable {X : Cx} {k : Nat} {f C : Addr} {fd : FuncData} {ps : List Str} {sp : Sp} {x m : Str} {p pos apos : Pos} {e o : Expr} {es : List Expr} {ta : TE} {t : TA}
end
end L2
set_option Elab.async false
set_option linter.all false
set_option maxRecDepth 100000
namespace PySem
open Sem (wp)
open AutoSeq1 (wpAny_loadPart')
section
variable {prog : Program} {w : World} {A : Around} {E : Value → Shared → Prop} {s : Shared}
theorem nextOf_tup_item {it t : Addr} {i : Nat} {items} {x : Value} {Q : Value → Shared → Prop} (hit : s.heap.IsTupleIter it t i)
    (ht : s.heap.IsTuple t items) (hx : items[i]? = some x)
    (hQ : ∀ h',h'.IsTupleIter it t (i + 1) → Heap.SameBut it s.heap h' → Q x { s with heap := h' }) :
    wpAny (model prog w) A (Builtin.SmallTypes.nextOf (.ref it)) Q E s := by
  obtain ⟨o,ho,hc,hd⟩ := id hit
  obtain ⟨ol,hol,_,nl,hdl⟩ := ht
  unfold Builtin.SmallTypes.nextOf
  refine wpAny_bind (wpAny_callSpecial?_slot (name := Str.ofString "__next__") hit.typeIs F.slot_tuple_iterator_next
    (wpAny_call_entry F.slot_tuple_iterator_next hit.typeIs F.entry_tuple_iterator_next ?_ (F.args_tuple_iterator_next_1 _)))
  show wpAny _ _ (field (.ref it) 0 >>= _) _ _ s
  refine wpAny_bind (wpAny_field ho hd (x := .ref t) rfl ?_)
  show wpAny _ _ (if (Value.ref t == Value.none) = true then _ else _) _ _ s
  rw [if_neg (show ¬ ((Value.ref t == Value.none) = true) from Bool.false_ne_true)]
  show wpAny _ _ (field (.ref it) 1 >>= _) _ _ s
  refine wpAny_bind (wpAny_field ho hd (x := .int i 0) rfl ?_)
  show wpAny _ _ (seqItems? (.ref t) >>= _) _ _ s
  refine wpAny_bind (wpAny_seqItems hol hdl ?_)
  simp only [Int.toNat_natCast,hx]
  refine wpAny_bind (wpAny_setField ho hd (by simp) (wpAny_pure ⟨x,rfl,wpAny_pure (hQ _ ?_ (Heap.SameBut.update ..))⟩))
  exact ⟨_,Heap.get?_update_self _ ho (Obj.isFreed_of_fields (Obj.data_mapFields hd _)),(Obj.cls_mapFields ..).trans hc,by
    rw [Obj.data_mapFields hd]; simp [rawInt]⟩
theorem nextOf_tup_end {it t : Addr} {i : Nat} {items} {Q : Value → Shared → Prop} (hh : A.handled = none)
    (hit : s.heap.IsTupleIter it t i) (ht : s.heap.IsTuple t items) (hx : items[i]? = none)
    (hE : ∀ h' e, Heap.ExtBut it s.heap h' → (∃ o, h'.get? e = some o ∧ o.cls = .type "StopIteration") → E (.ref e) { s with heap := h' }) :
    wpAny (model prog w) A (Builtin.SmallTypes.nextOf (.ref it)) Q E s := by
  obtain ⟨o,ho,hc,hd⟩ := id hit
  obtain ⟨ol,hol,_,nl,hdl⟩ := ht
  unfold Builtin.SmallTypes.nextOf
  refine wpAny_bind (wpAny_callSpecial?_slot (name := Str.ofString "__next__") hit.typeIs F.slot_tuple_iterator_next
    (wpAny_call_entry F.slot_tuple_iterator_next hit.typeIs F.entry_tuple_iterator_next ?_ (F.args_tuple_iterator_next_1 _)))
  show wpAny _ _ (field (.ref it) 0 >>= _) _ _ s
  refine wpAny_bind (wpAny_field ho hd (x := .ref t) rfl ?_)
  show wpAny _ _ (if (Value.ref t == Value.none) = true then _ else _) _ _ s
  rw [if_neg (show ¬ ((Value.ref t == Value.none) = true) from Bool.false_ne_true)]
  show wpAny _ _ (field (.ref it) 1 >>= _) _ _ s
  refine wpAny_bind (wpAny_field ho hd (x := .int i 0) rfl ?_)
  show wpAny _ _ (seqItems? (.ref t) >>= _) _ _ s
  refine wpAny_bind (wpAny_seqItems hol hdl ?_)
  simp only [Int.toNat_natCast,hx]
  refine wpAny_bind (wpAny_rule (wpAny_bind (wpAny_setField ho hd (by simp) ?_)))
  show wpAny _ _ (newExc (.type "StopIteration") [] >>= _) _ _ _
  refine wpAny_bind ?_
  simp only [newExc,newTuple]
  refine wpAny_bind (wpAny_newObj_type ?_ (by size_fits))
  refine wpAny_bind (m := firstArgMember _ _) (wpAny_of_eq (a := Value.none) (by first | rfl | (simp only [firstArgMember]; rfl)) ?_)
  refine wpAny_newObj_type ?_ (by size_fits)
  simp only [raiseNew]
  refine wpAny_bind (wpAny_handled ?_)
  first | rw [show A.in1.handled = none from hh] | rw [hh]
  refine wpAny_bind (wpAny_pure (wpAny_throw ?_))
  exact hE _ _ (((Heap.SameBut.update ..).extBut.push _).push _) ⟨_,Heap.get?_push_size _ rfl,rfl⟩
end
theorem drawsTup {prog : Program} {w : World} {A : Around} (hh : A.handled = none) (it l : Addr) (hne : l ≠ it) (items : Array Value) :
    Draws prog w A it [it,l] items.size (fun i v => items[i]? = some v) (fun i h => h.IsTupleIter it l i ∧ h.IsTuple l items) where
  live := fun _ _ st => let ⟨o,ho,_⟩ := st.1; ⟨o,ho⟩
  frame := fun _ _ _ st hk => ⟨st.1.at fun o e => hk it (by simp) o e,let ⟨o,ho,r⟩ := st.2; ⟨o,hk l (by simp) o ho,r⟩⟩
  item := fun i s Q E hi st hQ => by
    refine nextOf_tup_item st.1 st.2 (x := items[i]) (by simp [hi]) fun h' hit' hs' => ?_
    exact hQ _ h' s.toks (by simp [hi]) ⟨hit',st.2.extBut hs'.extBut hne⟩ hs'
  done := fun s Q E st hE => nextOf_tup_end hh st.1 st.2 (by simp) hE
theorem enumerate_newT (l : Addr) (items : Array Value) (n : Nat) (dct : Option Addr) (sl : Array (Option Value)) :
    Meets (Builtin.«enumerate.__new__» ⟨[.type "enumerate",.ref l],[]⟩) (fun _ R s => s.heap.get? l = some { cls := .type "tuple",dict := dct,data := .seq items n,slots := sl } ∧
      R (.ok (.ret (.ref (s.heap.push { cls := .type "tuple_iterator",data := .fields #[.ref l,.int 0 0] }).objs.size)))
        { s with heap := (s.heap.push { cls := .type "tuple_iterator",data := .fields #[.ref l,.int 0 0] }).push { cls := .type "enumerate",data := .fields #[.none,.bool false,.ref s.heap.objs.size,rawInt 0,.none,.none] } }) :=
  .of_wp fun prog w A R s h => by
    obtain ⟨hp,g,d,tk,os⟩ := s; obtain ⟨hl,h⟩ := h
    have hsub := sub_enumerate
    have hL : Heap.IsTuple (Shared.heap ⟨hp,g,d,tk,os⟩) l items := ⟨_,hl,rfl,n,rfl⟩
    wp_walk using wpAny_loadPart' hl
    refine wpAny_stack_any fun st => wpAny_pure ?_
    split
    · rename_i c _ _ _ _ _
      cases (c == Value.type "enumerate")
      · wp_walk using wpAny_loadPart' hl,wpAny_pyIter_tuple hL
        exact ⟨_,rfl,h⟩
      · wp_walk using wpAny_loadPart' hl,wpAny_pyIter_tuple hL
        exact ⟨_,rfl,h⟩
    · wp_walk using wpAny_loadPart' hl,wpAny_pyIter_tuple hL
      exact ⟨_,rfl,h⟩
section
variable {prog : Program} {w : World} {A : Around} {E : Value → Shared → Prop} {s : Shared}
theorem call_enumerate_tup {l : Addr} {items : Array Value} {Q : Value → Shared → Prop} (hL : s.heap.IsTuple l items)
    (h : ∀ h',IsEnum h' (s.heap.objs.size + 1) s.heap.objs.size 0 .none → h'.IsTupleIter s.heap.objs.size l 0 → h'.objs.size = s.heap.objs.size + 2 →
      (∀ b o,s.heap.get? b = some o → h'.get? b = some o) → Q (.ref (s.heap.objs.size + 1)) { s with heap := h' }) :
    wpAny (model prog w) A (call (.type "enumerate") [.ref l]) Q E s := by
  obtain ⟨⟨c,dct,dt,sl⟩,hl,hc,n,hd⟩ := hL
  replace hc : c = .type "tuple" := hc
  replace hd : dt = .seq items n := hd
  subst hc hd
  refine callType_new F.called_enumerate (by decide) (F.typeCall_enumerate_1 _) (F.newCall_enumerate_1 _) (fun obj => F.args_object_init_2 obj _) F.entry_enumerate_new
    (enumerate_newT l items n dct sl) ⟨hl,?_⟩
  have hz : (s.heap.push { cls := .type "tuple_iterator",data := .fields #[.ref l,.int 0 0] }).objs.size = s.heap.objs.size + 1 := Heap.size_push ..
  show _ ∧ _
  rw [hz]
  have he : IsEnum ((s.heap.push { cls := .type "tuple_iterator",data := .fields #[.ref l,.int 0 0] }).push
      { cls := .type "enumerate",data := .fields #[.none,.bool false,.ref s.heap.objs.size,rawInt 0,.none,.none] }) (s.heap.objs.size + 1) s.heap.objs.size 0 .none := by
    have := Heap.get?_push_size (s.heap.push { cls := .type "tuple_iterator",data := .fields #[.ref l,.int 0 0] })
      (o := { cls := .type "enumerate",data := .fields #[.none,.bool false,.ref s.heap.objs.size,rawInt 0,.none,.none] }) rfl
    rw [hz] at this; exact this
  refine ⟨⟨_,he,rfl⟩,h _ he ⟨_,Heap.get?_push_of_some _ (Heap.get?_push_size _ rfl),rfl,rfl⟩ (by rw [Heap.size_push,hz]) fun b o x => Heap.get?_push_of_some _ (Heap.get?_push_of_some _ x)⟩
end
end PySem
set_option Elab.async false
set_option linter.all false
set_option maxRecDepth 100000
namespace L2
open PySem PySem.Spec PyProof.Rows
def Ite (f : List V → HO) (l : Addr) : It :=
  ⟨fun i H => ∃ xs x,H l = some (f xs) ∧ xs[i]? = some x,
   fun i H v H' => ∃ p xs x,H p = none ∧ v = .ref p ∧ H' = upd H p (.tup [.int i,x]) ∧ H l = some (f xs) ∧ xs[i]? = some x,
   fun i H => ∃ xs,H l = some (f xs) ∧ xs.length ≤ i⟩
section
variable {X : Cx} {pins : List (Addr × Obj)} {σ : St} {H : Hp} {s : Shared}
theorem enum_step {f : List V → HO} {tn : Nat → Heap → Prop} {es : List Expr} {kk : Nat} {tp : Pos} {e it l : Addr} {i : Nat} {xs : List V} {x : V} {u : Value} {tk : Nat} {h' : Heap} {E : Value → Shared → Prop} (hne : e ≠ it) (I : Inv X pins σ H s) (hf : ∀ b ∈ [e,it],FpOk X pins H b) (hl : H l = some (f xs)) (hx : xs[i]? = some x)
    (ho : ∀ b ∈ [e, it], b < s.heap.objs.size) (r : RelV x u) (b1 : IsEnumOut h' e it ((i : Int) + 1) u s.heap.objs.size) (b3 : h'.get? s.heap.objs.size = some { cls := .type "tuple", data := .seq #[.int i tk, u] })
    (bk : ∀ b o,b ≠ e → b ≠ it → s.heap.get? b = some o → h'.get? b = some o) (hn : ∀ h'',IsEnum h'' e it ((i + 1 : Nat) : Int) u → Heap.SameBut e h' h'' → tn (i + 1) h'') :
    wpAny (model X.prog X.w) X.A (letOwnedTupleGo (.Tuple es kk tp) (.ref e) (.ref s.heap.objs.size)) (fun _ s2 => ∃ x H',Inv X pins σ H' s2 ∧ RelV x (.ref s.heap.objs.size) ∧ (Ite f l).yld i H x H' ∧ tn (i + 1) s2.heap ∧ ∀ b ∈ [e,it],H' b = none) E { s with heap := h',toks := tk + 1 } := by
  refine wpAny_letOwnedTupleGo_enum b1 fun h'' c1 cs => ?_
  have es' : e < s.heap.objs.size := ho e (by simp)
  have k2 : ∀ b o,b ∉ [e,it] → s.heap.get? b = some o → h''.get? b = some o := fun b o hb q => by
    simp only [List.mem_cons,List.not_mem_nil,or_false,not_or] at hb
    exact cs.extBut b o hb.1 (bk b o hb.1 hb.2 q)
  have I1 : Inv X pins σ H { s with heap := h'',toks := tk + 1 } := I.turnedN (t' := tk + 1) hf k2
  have hp : h''.get? s.heap.objs.size = some { cls := .type "tuple", data := .seq #[.int i tk, u] } := cs.extBut _ _ (Nat.ne_of_gt es') b3
  have hn0 : H s.heap.objs.size = none := I.hok.fresh (Nat.le_refl _)
  have fpk := I.fpOk (H' := H) (Nat.le_refl _) hn0
  have I2 : Inv X pins σ (upd H s.heap.objs.size (.tup [.int i,x])) { s with heap := h'',toks := tk + 1 } := I1.track fpk I.sz ⟨by show 2 ≤ sizeLine; decide,[.int i tk,u],.cons ⟨tk,rfl⟩ (.cons r .nil),_,hp,rfl,_,rfl⟩
  refine ⟨.ref s.heap.objs.size,_,I2,rfl,⟨_,xs,x,hn0,rfl,rfl,hl,hx⟩,hn h'' c1 cs,fun b hb => ?_⟩
  rw [upd_ne (Nat.ne_of_lt (ho b hb))]
  exact (hf b hb).1
end
theorem turn_enumL {P : Program} {w : World} {K : PySem.W.Frag} {es : List Expr} {kk : Nat} {tp : Pos} (l e it : Addr) (hne : e ≠ it) :
    Turn P w K (.Tuple es kk tp) (Ite .lst l) [e,it] e (fun i h => (∃ old,IsEnum h e it i old) ∧ h.IsListIter it l i) where
  mem := by simp
  obj := fun i h st b hb => by
    obtain ⟨⟨old,a1⟩,⟨o2,a2,_,d2⟩⟩ := st
    simp only [List.mem_cons,List.not_mem_nil,or_false] at hb
    rcases hb with rfl | rfl
    · exact ⟨_,a1,fun v q => by cases q⟩
    · exact ⟨_,a2,fun v q => by rw [d2] at q; cases q⟩
  keep := fun i h h' st k => by
    obtain ⟨⟨old,a1⟩,a2⟩ := st
    exact ⟨⟨old,k e (by simp) _ a1⟩,a2.at fun o q => k it (by simp) o q⟩
  item := by
    intro X hP hw hK hc i pins s σ H E I hf st hg
    subst hP hw hK
    obtain ⟨⟨old,a1⟩,a2⟩ := st
    obtain ⟨xs,x,e1,ex⟩ := hg
    obtain ⟨its,rv,p1,_⟩ := I.list (SqL.of e1)
    obtain ⟨u,hu,r⟩ := rv.get ex
    have ho : ∀ b ∈ [e,it],b < s.heap.objs.size := fun b hb => by
      obtain ⟨o2,a2',_⟩ := a2
      simp only [List.mem_cons,List.not_mem_nil,or_false] at hb
      rcases hb with rfl | rfl
      · exact Heap.lt_size a1
      · exact Heap.lt_size a2'
    refine wpAny_pyNext_enum_item a1 a2 p1.isList (x := u) (by simpa using hu) hne fun h' b1 b2 b3 b4 bk => ⟨_,rfl,?_⟩
    exact enum_step (tn := fun i h => (∃ old,IsEnum h e it i old) ∧ h.IsListIter it l i) hne I hf e1 ex ho r b1 b3 bk fun h'' c1 cs => ⟨⟨u,c1⟩,b2.extBut cs.extBut (Ne.symm hne)⟩
  done := by
    intro X hP hw hK hc i pins s σ H E I hf st hg
    subst hP hw hK
    obtain ⟨⟨old,a1⟩,a2⟩ := st
    obtain ⟨xs,e1,ex⟩ := hg
    obtain ⟨its,rv,p1,_⟩ := I.list (SqL.of e1)
    have lv := rv.length
    refine wpAny_pyNext_enum_end (I.ok.hd hc) a1 a2 p1.isList (by simp; omega) fun h' bk => ⟨rfl,?_⟩
    exact I.turnedN (t' := s.toks) hf fun b o hb q => by
      simp only [List.mem_cons,List.not_mem_nil,or_false,not_or] at hb
      exact bk b o hb.2 q
  self := fun _ _ _ _ _ st h => by obtain ⟨⟨old,a1⟩,_⟩ := st; exact wpAny_pyIter_enum a1 h
theorem turn_enumT {P : Program} {w : World} {K : PySem.W.Frag} {es : List Expr} {kk : Nat} {tp : Pos} (l e it : Addr) (hne : e ≠ it) :
    Turn P w K (.Tuple es kk tp) (Ite .tup l) [e,it] e (fun i h => (∃ old,IsEnum h e it i old) ∧ h.IsTupleIter it l i) where
  mem := by simp
  obj := fun i h st b hb => by
    obtain ⟨⟨old,a1⟩,⟨o2,a2,_,d2⟩⟩ := st
    simp only [List.mem_cons,List.not_mem_nil,or_false] at hb
    rcases hb with rfl | rfl
    · exact ⟨_,a1,fun v q => by cases q⟩
    · exact ⟨_,a2,fun v q => by rw [d2] at q; cases q⟩
  keep := fun i h h' st k => by
    obtain ⟨⟨old,a1⟩,a2⟩ := st
    exact ⟨⟨old,k e (by simp) _ a1⟩,a2.at fun o q => k it (by simp) o q⟩
  item := by
    intro X hP hw hK hc i pins s σ H E I hf st hg
    subst hP hw hK
    obtain ⟨⟨old,a1⟩,a2⟩ := st
    obtain ⟨xs,x,e1,ex⟩ := hg
    obtain ⟨its,rv,p1,_⟩ := I.tuple (SqT.of e1)
    obtain ⟨u,hu,r⟩ := rv.get ex
    have lt : i < its.toArray.size := by simp; exact (List.getElem?_eq_some_iff.mp hu).1
    have ho : ∀ b ∈ [e,it],b < s.heap.objs.size := fun b hb => by
      obtain ⟨o2,a2',_⟩ := a2
      simp only [List.mem_cons,List.not_mem_nil,or_false] at hb
      rcases hb with rfl | rfl
      · exact Heap.lt_size a1
      · exact Heap.lt_size a2'
    have nl : ∀ b ∈ [e,it],l ≠ b := fun b hb q => by rw [q,(hf b hb).1] at e1; cases e1
    have p1' : s.heap.IsTuple l its.toArray := p1
    have DD : Draws X.prog X.w X.A.in1 it [it,l] its.toArray.size (fun i v => its.toArray[i]? = some v) (fun i h => h.IsTupleIter it l i ∧ h.IsTuple l its.toArray) := drawsTup (show X.A.in1.handled = none from I.ok.hd hc) it l (nl it (by simp)) its.toArray
    refine wpAny_pyNext_enum_itemD DD a1 ⟨a2,p1'⟩ lt hne (by simp only [List.mem_cons,List.not_mem_nil,or_false,not_or]; exact ⟨hne,Ne.symm (nl e (by simp))⟩) fun x' h' tk px b1 b2 b3 b4 bk => ⟨_,rfl,?_⟩
    have hu' : its.toArray[i]? = some u := by simpa using hu
    have eu : u = x' := Option.some.inj (hu'.symm.trans px)
    subst eu
    exact enum_step (tn := fun i h => (∃ old,IsEnum h e it i old) ∧ h.IsTupleIter it l i) hne I hf e1 ex ho r b1 b3 bk fun h'' c1 cs => ⟨⟨u,c1⟩,b2.1.extBut cs.extBut (Ne.symm hne)⟩
  done := by
    intro X hP hw hK hc i pins s σ H E I hf st hg
    subst hP hw hK
    obtain ⟨⟨old,a1⟩,a2⟩ := st
    obtain ⟨xs,e1,ex⟩ := hg
    obtain ⟨its,rv,p1,_⟩ := I.tuple (SqT.of e1)
    have lv := rv.length
    have p1' : s.heap.IsTuple l its.toArray := p1
    have hT : s.TypeIs (.ref e) "enumerate" := ⟨_,a1,rfl⟩
    unfold pyNext
    refine wpAny_bind (wpAny_attempt (wpAny_callSpecial?_slot (name := Str.ofString "__next__") hT F.slot_enumerate_next
      (wpAny_call_entry F.slot_enumerate_next hT F.entry_enumerate_next ?_ (F.args_enumerate_next_1 _))))
    show wpAny _ _ (field (.ref e) 2 >>= _) _ _ _
    refine wpAny_bind (wpAny_field a1 rfl (x := .ref it) rfl ?_)
    refine wpAny_bind (nextOf_tup_end (I.ok.hd hc) a2 p1' (by simp; omega) fun h' x he' hx' => ?_)
    obtain ⟨o,ho,hc⟩ := hx'
    refine wpAny_bind (wpAny_isInstance (T := "StopIteration") (b := true) ⟨o,ho,hc⟩ isSubtype_stop ?_)
    refine wpAny_pure ⟨rfl,?_⟩
    exact I.turnedN (t' := s.toks) hf fun b o hb q => by
      simp only [List.mem_cons,List.not_mem_nil,or_false,not_or] at hb
      exact he' b o hb.2 q
  self := fun _ _ _ _ _ st h => by obtain ⟨⟨old,a1⟩,_⟩ := st; exact wpAny_pyIter_enum a1 h
def iEnum (ta : TA) : TI := fun σ H R => ta σ H fun vs H1 => ∃ l xs,vs = [.ref l] ∧ ((H1 l = some (.lst xs) ∧ R (Ite .lst l) H1) ∨ (H1 l = some (.tup xs) ∧ R (Ite .tup l) H1))
theorem pi_enum {X : Cx} {a : Expr} {ta : TA} {p pos tp : Pos} {es : List Expr} {kk : Nat} (hg : Gl X "enumerate") (hm : X.mg "enumerate" = none) (ha : PA X [a] ta)
    (hs : starEach [a] X.env = [(false,eval a X.env)] := by rfl) :
    PI X (.Tuple es kk tp) (.Call (.Name "enumerate" p) [a] [] pos) (iEnum ta) := by
  intro pins s σ H R I h
  refine Call_ (ld_blt I hg hm PyProof.Rows.boot_enumerate (PyProof.Rows.callWith_type1 (thn (ha pos pins s σ H _ I h) fun us s1 ⟨vs,H1,I1,r1,q1⟩ => ?_) (by rw [hs]; rfl) (by rfl)))
  obtain ⟨l,xs,rfl,q⟩ := q1
  cases r1 with
  | cons r rr =>
    cases rr
    cases r
    rcases q with ⟨e1,q⟩ | ⟨e1,q⟩
    · obtain ⟨its1,rv1,p1,_⟩ := I1.list (SqL.of e1)
      refine call_enumerate_list p1.isList fun h' z1 z2 sz keep => ?_
      have I2 : Inv X pins σ H1 { s1 with heap := h' } := I1.kept (t' := s1.toks) keep
      refine wpAny_pyIter_enum z1 ⟨s1.heap.objs.size + 1,[s1.heap.objs.size + 1,s1.heap.objs.size],_,_,H1,rfl,I2,turn_enumL l _ _ (Nat.succ_ne_self _),⟨⟨_,z1⟩,z2⟩,fun b hb => ?_,q⟩
      have hb' : s1.heap.objs.size ≤ b := by
        simp only [List.mem_cons,List.not_mem_nil,or_false] at hb
        rcases hb with rfl | rfl <;> omega
      exact I1.fpOk hb' (I1.hok.fresh hb')
    · obtain ⟨its1,rv1,p1,_⟩ := I1.tuple (SqT.of e1)
      have p1' : s1.heap.IsTuple l its1.toArray := p1
      refine call_enumerate_tup p1' fun h' z1 z2 sz keep => ?_
      have I2 : Inv X pins σ H1 { s1 with heap := h' } := I1.kept (t' := s1.toks) keep
      refine wpAny_pyIter_enum z1 ⟨s1.heap.objs.size + 1,[s1.heap.objs.size + 1,s1.heap.objs.size],_,_,H1,rfl,I2,turn_enumT l _ _ (Nat.succ_ne_self _),⟨⟨_,z1⟩,z2⟩,fun b hb => ?_,q⟩
      have hb' : s1.heap.objs.size ≤ b := by
        simp only [List.mem_cons,List.not_mem_nil,or_false] at hb
        rcases hb with rfl | rfl <;> omega
      exact I1.fpOk hb' (I1.hok.fresh hb')
theorem for_enum {f : List V → HO} (hf : ∀ xs ys,f xs = f ys → xs = ys) {l : Addr} {xs : List V} {g : TG} {tb : TS} {D : Ends} {σ : St} {H : Hp} (Pv : Nat → St → Hp → Prop) (h0 : Pv 0 σ H) (hk : ∀ i σ H',Pv i σ H' → H' l = some (f xs))
    (ht : ∀ i x p σ H,xs[i]? = some x → H p = none → Pv i σ H → g (.ref p) σ (upd H p (.tup [.int i,x])) fun σ2 H2 => tb { D with nx := Pv (i + 1),ct := Pv (i + 1),bk := D.nx } σ2 H2) (hd : ∀ σ H,Pv xs.length σ H → D.nx σ H) :
    ∃ W : Nat → Nat → St → Hp → Prop,(∃ m,W 0 m σ H) ∧ ∀ i m σ H,W i m σ H →
      ((Ite f l).stop i H ∧ D.nx σ H) ∨ ((Ite f l).go i H ∧ ∃ N : St → Hp → Prop,(∀ σ' H',N σ' H' → ∃ m',m' < m ∧ W (i + 1) m' σ' H') ∧ ∀ x H',(Ite f l).yld i H x H' → g x σ H' fun σ2 H2 => tb { D with nx := N,ct := N,bk := D.nx } σ2 H2) := by
  refine ⟨fun i m σ H => m = xs.length - i ∧ i ≤ xs.length ∧ Pv i σ H,⟨xs.length,by simp,Nat.zero_le _,h0⟩,?_⟩
  rintro i m σ H ⟨rfl,hi,p⟩
  have e1 := hk i σ H p
  by_cases hlt : i < xs.length
  · refine .inr ⟨⟨xs,xs[i],e1,by simp [hlt]⟩,Pv (i + 1),fun σ' H' p' => ⟨xs.length - (i + 1),by omega,rfl,hlt,p'⟩,fun v H' y => ?_⟩
    obtain ⟨q,xs',x,hq,rfl,rfl,e1',ex⟩ := y
    rw [e1] at e1'
    cases hf _ _ (Option.some.inj e1')
    exact ht i x q σ H ex hq p
  · have e : i = xs.length := by omega
    subst e
    exact .inl ⟨⟨xs,e1,Nat.le_refl _⟩,hd σ H p⟩
end L2
set_option Elab.async false
set_option linter.all false
set_option maxRecDepth 100000
namespace Pc
open PySem L2
def turnable (k : Kd) : Bool := k.tu && !decide (k.w = k.h)
def lyT (i : Nat) (k : Kd) : List (Nat × Bool) := (i,false) :: if turnable k = true then [(i,true)] else []
def lyK : List Kd → Nat → List (Nat × Bool)
  | [],_ => []
  | k :: r,i => lyT i k ++ lyK r (i + 1)
theorem lyK_snoc (k : Kd) : ∀ (ks : List Kd) (i : Nat),lyK (ks ++ [k]) i = lyK ks i ++ lyT (i + ks.length) k
  | [],i => by simp [lyK]
  | c :: r,i => by
    show lyT i c ++ lyK (r ++ [k]) (i + 1) = (lyT i c ++ lyK r (i + 1)) ++ _
    rw [lyK_snoc k r (i + 1),List.append_assoc]
    congr 2
    simp only [List.length_cons]
    congr 1
    omega
theorem lyT_len (i : Nat) (k : Kd) : (lyT i k).length ≤ 2 := by unfold lyT; split <;> simp
theorem lyK_len : ∀ (ks : List Kd) (i : Nat),(lyK ks i).length ≤ 2 * ks.length
  | [],i => by simp [lyK]
  | c :: r,i => by
    have := lyK_len r (i + 1)
    have := lyT_len i c
    simp only [lyK,List.length_append,List.length_cons]
    omega
def LyAt (H : Hp) (v : V) (p : Nat × Bool) : Prop := ∃ a,v = .ref a ∧ H a = some (.tup [.int p.1,.bl p.2])
abbrev Lys (H : Hp) : List V → List (Nat × Bool) → Prop := Paired (LyAt H)
theorem Lys.keep {H H' : Hp} (k : ∀ b xs,H b = some (.tup xs) → H' b = some (.tup xs)) {xs : List V} {ps : List (Nat × Bool)} (r : Lys H xs ps) : Lys H' xs ps :=
  Paired.mapP r fun v kd ⟨a,e,h⟩ => ⟨a,e,k a _ h⟩
theorem ly_put {H H3 : Hp} {l t : Addr} {ys : List V} {ps : List (Nat × Bool)} {i : Nat} {b : Bool} (hl : H l = none) (s3 : Same H H3) (l3 : H3 l = some (.lst ys)) (y3 : Lys H3 ys ps) (ht : H3 t = none) :
    Same H (upd (upd H3 t (.tup [.int (i : Int),.bl b])) l (.lst (ys ++ [.ref t]))) ∧ (upd (upd H3 t (.tup [.int (i : Int),.bl b])) l (.lst (ys ++ [.ref t]))) l = some (.lst (ys ++ [.ref t])) ∧
      Lys (upd (upd H3 t (.tup [.int (i : Int),.bl b])) l (.lst (ys ++ [.ref t]))) (ys ++ [.ref t]) (ps ++ [(i,b)]) := by
  have lt : l ≠ t := ne_of_none l3 ht
  refine ⟨fun c o e => ?_,upd_same,Paired.snoc (Lys.keep (fun c xs e => ?_) y3) ⟨t,rfl,by rw [upd_ne (Ne.symm lt),upd_same]⟩⟩
  · have e3 := s3 c o e
    rw [upd_ne (ne_of_none e hl),upd_ne (ne_of_none e3 ht)]; exact e3
  · have cl : c ≠ l := fun z => by rw [z,l3] at e; cases e
    rw [upd_ne cl,upd_ne (ne_of_none e ht)]; exact e
def spTurned (K : PySem.W.Frag) : Sp := fun vs H Q _ => ∃ (a : Addr) (k : Kd),vs = [.ref a] ∧ H a = some (.tup (kdV k)) ∧ Q (.bl (turnable k)) H
def spLyings (C : Addr) : Sp := fun vs H Q _ => ∃ (x : Addr) (b : Int) (ks : List Kd),vs = [.ref x] ∧ ShopAt C H x b ks ∧ ks.length ≤ 8 ∧
  ∀ (l : Addr) (ys : List V) (H' : Hp),H l = none → H' l = some (.lst ys) → Lys H' ys (lyK ks 0) → Same H H' → Q (.ref l) H'
def isLy (ks : List Kd) (x t : V) : Bool := match x,t with
  | .int i,.bl b => decide (0 ≤ i) && match ks[i.toNat]? with
    | some k => !b || turnable k
    | none => false
  | _,_ => false
def spIsLying (K : PySem.W.Frag) (C : Addr) : Sp := fun vs H Q _ => ∃ (s : Addr) (b : Int) (ks : List Kd) (x t : V) (T U : String),vs = [.ref s,x,t] ∧ ShopAt C H s b ks ∧ Ty K H x T ∧ Ty K H t U ∧ Q (.bl (isLy ks x t)) H
end Pc
set_option Elab.async false
set_option linter.all false
set_option maxRecDepth 100000
namespace L2
open PySem PySem.Spec PyProof.Rows
section
variable {X : Cx}
theorem pe_mD {k : Nat} {C : Addr} {ps : List Str} {sp : Sp} {m : Str} {o : Expr} {e : Expr} {es : List Expr} {ta : TE} {t : TA} {apos pos : Pos} {pl : Sem Bool} (he : PE X o ta) (c : Cls X.K C) (D : Mn X.prog X.w X.K X.mg X.base C m ps k sp) (hr : Room k X.A) (ha : PA X (e :: es) t)
    (hst : starEach (e :: es) X.env = (false,eval e X.env) :: starEach es X.env := by rfl) (hpl : (backTo pos (starEach es X.env)).any (·.1) = false := by rfl)
    (ht : eval (.Call (.Attribute o m apos) (e :: es) [] pos) X.env = (do
      let ov ← eval o X.env
      standAt apos.atName
      let (f,first) ← holding [ov] (getMethod ov m pl)
      callWith pos f first (backTo pos (starEach (e :: es) X.env)) (backToKw pos (keywordEach [] X.env))) := by rfl) : PE X (.Call (.Attribute o m apos) (e :: es) [] pos) (tMeth C m sp [] E0 ta t) := by
  obtain ⟨f,fd,F,hb,hm⟩ := D
  exact pe_meth he c hm F hr hb .nil pass0 ha hst hpl ht
def MnX (P : Program) (w : World) (K : PySem.W.Frag) (mg : Str → Option Value) (base : Heap) (C : Addr) (m : Str) (ps : List Str) (k : Nat) (sp : Sp) : Prop :=
  ∃ (f : Addr) (fd : FuncData),FnOk P w K mg base (CXx P w) k f fd ps sp ∧ Binds K fd ps [] ∧ Meth K C m f
end
end L2
set_option Elab.async false
set_option linter.all false
set_option maxRecDepth 100000
namespace L2
open PySem PySem.Spec PyProof.Rows
theorem passX {P : Program} {w : World} {X : Cx} : Passes (CXx P w) X E0 := fun _ _ _ _ _ _ _ ⟨_,_,_,_,_,_,h⟩ => h.elim
section
variable {X : Cx}
theorem pe_mDX {k : Nat} {C : Addr} {ps : List Str} {sp : Sp} {m : Str} {o : Expr} {e : Expr} {es : List Expr} {ta : TE} {t : TA} {apos pos : Pos} {pl : Sem Bool} (he : PE X o ta) (c : Cls X.K C) (D : MnX X.prog X.w X.K X.mg X.base C m ps k sp) (hr : Room k X.A) (ha : PA X (e :: es) t)
    (hst : starEach (e :: es) X.env = (false,eval e X.env) :: starEach es X.env := by rfl) (hpl : (backTo pos (starEach es X.env)).any (·.1) = false := by rfl)
    (ht : eval (.Call (.Attribute o m apos) (e :: es) [] pos) X.env = (do
      let ov ← eval o X.env
      standAt apos.atName
      let (f,first) ← holding [ov] (getMethod ov m pl)
      callWith pos f first (backTo pos (starEach (e :: es) X.env)) (backToKw pos (keywordEach [] X.env))) := by rfl) : PE X (.Call (.Attribute o m apos) (e :: es) [] pos) (tMeth C m sp [] E0 ta t) := by
  obtain ⟨f,fd,F,hb,hm⟩ := D
  exact pe_meth he c hm F hr hb .nil passX ha hst hpl ht
end
end L2
namespace Pc
open PySem L2
end Pc
namespace Pc
open PySem PySem.Spec L2
end Pc
set_option Elab.async false
set_option linter.all false
set_option maxRecDepth 100000
namespace L2
open PySem PySem.Spec PyProof.Rows
theorem ints_of : ∀ {ns : List Int} {its : List Value},Vals (ns.map V.int) its → IntsAre its ns
  | [],_,r => by cases r; exact .nil
  | n :: ns,_,r => by
    cases r with
    | cons r1 r2 =>
      obtain ⟨t,e⟩ := r1
      subst e
      exact .cons n t (ints_of r2)
section
variable {X : Cx}
theorem call_divmodB : CallR X (.builtin "divmod") (fun xs H Q => ∃ i j,xs = [.int i,.int j] ∧ CDivB i j ∧ ∀ p,H p = none → Q (.ref p) (upd H p (.tup [.int (i / j),.int (i % j)]))) := by
  intro pins s σ H xs us Q I r h
  obtain ⟨i,j,rfl,hc,q⟩ := h
  have h1 := hc.1
  obtain ⟨u,w',rfl,⟨t,rfl⟩,⟨t',rfl⟩⟩ := vals2 r
  refine divmod_int (by omega) ?_ (.inl hc.np)
  rw [Int.fdiv_eq_ediv_of_nonneg i (by omega),Int.fmod_eq_emod_of_nonneg i (by omega)]
  have hn : H s.heap.objs.size = none := I.hok.fresh (Nat.le_refl _)
  refine ⟨.ref s.heap.objs.size,_,?_,rfl,q _ hn⟩
  refine I.laid (fun b o e => Heap.get?_push_of_some _ e) (Nat.le_refl _) ⟨by simp only [List.length_cons,List.length_nil]; rw [sizeLine_eq]; decide,[.int (i / j) s.toks,.int (i % j) (s.toks + 1)],.cons ⟨_,rfl⟩ (.cons ⟨_,rfl⟩ .nil),?_⟩
  exact ⟨_,Heap.get?_push_size s.heap rfl,rfl,0,rfl⟩
theorem call_sortedI : CallR X (.builtin "sorted") (fun xs H Q => ∃ (p : Addr) (ns : List Int), xs = [.ref p] ∧ SqL X.K H p (ns.map V.int) ∧ ns.length < 64 ∧ ∀ (l : Addr) (ns' : List Int), H l = none → ns'.Perm ns → ns'.Pairwise (· ≤ ·) → Q (.ref l) (upd H l (.lst (ns'.map V.int)))) := by
  intro pins s σ H xs us Q I r h
  obtain ⟨p,ns,rfl,hs,h64,q⟩ := h
  obtain ⟨u,rfl,rfl⟩ := vals1 r
  obtain ⟨its,rv,pl,_⟩ := I.list hs
  have hi := ints_of rv
  have hl := hi.length
  refine sorted_ints pl.isList hi (by omega) fun out ns' a1 a2 a3 => ?_
  obtain ⟨e,he⟩ := sortedAll_at s.heap its out
  have hn : H (s.heap.objs.size + 1) = none := I.hok.fresh (Nat.le_succ _)
  refine ⟨.ref (s.heap.objs.size + 1),upd H (s.heap.objs.size + 1) (.lst (ns'.map V.int)),I.laid (o := .lst (ns'.map V.int)) (t' := s.toks) (fun _ _ => sortedAll_old) (Nat.le_succ _) (show ObjOk _ _ _ _ _ (.lst _) from ⟨?_,out.toList,e,vals_ints a1,?_⟩),rfl,q _ ns' hn a2 a3⟩
  · rw [List.length_map,a2.length_eq]
    have : (64 : Nat) ≤ sizeLine := by decide
    omega
  · rw [he]
theorem vals_bls : ∀ {bs : List Bool} {its : List Value},Vals (bs.map V.bl) its → its = bs.map Value.bool
  | [],_,r => by cases r; rfl
  | b :: bs,_,r => by
    cases r with
    | cons r1 r2 =>
      have e : _ = Value.bool b := r1
      subst e
      rw [List.map_cons,vals_bls r2]
theorem range_all (bs : List Bool) : (List.range bs.length).all (fun i => bs.getD i false) = bs.all id := by
  rw [Bool.eq_iff_iff,List.all_eq_true,List.all_eq_true]
  constructor
  · intro h b hb
    obtain ⟨i,hi,e⟩ := List.getElem_of_mem hb
    have := h i (List.mem_range.mpr hi)
    rw [List.getD_eq_getElem?_getD,List.getElem?_eq_getElem hi] at this
    simpa [e] using this
  · intro h i hi
    have hi' := List.mem_range.mp hi
    rw [List.getD_eq_getElem?_getD,List.getElem?_eq_getElem hi']
    exact h _ (List.getElem_mem hi')
theorem call_allB (hc : X.calm = true) : CallR X (.builtin "all") (fun xs H Q => ∃ (p : Addr) (bs : List Bool),xs = [.ref p] ∧ SqL X.K H p (bs.map V.bl) ∧ Q (.bl (bs.all id)) H) := by
  intro pins s σ H xs us Q I r h
  obtain ⟨p,bs,rfl,hs,q⟩ := h
  obtain ⟨u,rfl,rfl⟩ := vals1 r
  obtain ⟨its,rv,pl,_⟩ := I.list hs
  have e := vals_bls rv
  subst e
  have hlt : p < s.heap.objs.size := by obtain ⟨_,_,e,_⟩ := pl; exact Heap.lt_size e
  refine call_all_walk (wpAny_pyIter_list pl.isList ?_)
  refine ⟨_,_,_,_,_,_,fun i => bs.getD i false,rfl,Walks.list (A := X.A.in1) (I.ok.hd hc) _ p (Nat.ne_of_lt hlt) _,⟨⟨_,Heap.get?_push_size _ rfl,rfl,rfl⟩,pl.isList.push _⟩,fun i v s' Q' E' hP hQ' => ?_,fun h' tk hk => ?_⟩
  · have hP' : (bs.map Value.bool)[i]? = some v := by simpa using hP
    rw [List.getElem?_map] at hP'
    cases hb : bs[i]? with
    | none => rw [hb] at hP'; cases hP'
    | some b =>
      rw [hb] at hP'
      cases hP'
      have hQ2 : Q' (bs.getD i false) s' := hQ'
      rw [List.getD_eq_getElem?_getD,hb] at hQ2
      exact wpAny_truthy_bool hQ2
  · have e2 : ((bs.map Value.bool).toArray.size) = bs.length := by simp
    rw [e2,range_all]
    refine ⟨.bl (bs.all id),H,I.kept (h' := h') (t' := tk) (fun b o e => hk b o ?_ (Heap.get?_push_of_some _ e)),rfl,q⟩
    intro z
    rw [List.mem_singleton.mp z] at e
    exact absurd (Heap.lt_size e) (Nat.lt_irrefl _)
end
end L2
set_option Elab.async false
set_option linter.all false
set_option maxRecDepth 100000
namespace Pc
open PySem L2
def m0 (x : Int) : Int := if x > 0 then x else 0
theorem m0_nn (x : Int) : 0 ≤ m0 x := by unfold m0; split <;> omega
def gI (l : List Int) (i : Int) : Int := l.getD i.toNat 0
def bst (b : Int) (ws ls : List Int) (s : Int) : Nat → Int × Int
  | 0 => (0,0)
  | k + 1 => if (bst b ws ls s k).1 < gI ws k + gI ls (m0 (s - (k + 1) - b)) then (gI ws k + gI ls (m0 (s - (k + 1) - b)),(k : Int) + 1) else bst b ws ls s k
def tab (b : Int) (ws : List Int) : Nat → List Int × List Int
  | 0 => ([0],[0])
  | n + 1 => ((tab b ws n).1 ++ [(bst b ws (tab b ws n).1 (n + 1) (n + 1)).1],(tab b ws n).2 ++ [(bst b ws (tab b ws n).1 (n + 1) (n + 1)).2])
def Ld (b : Int) (ws : List Int) (n : Nat) : Int := (tab b ws n).1.getD n 0
def Sst (b : Int) (ws : List Int) (n : Nat) : Int := (tab b ws n).2.getD n 0
theorem tab_len (b : Int) (ws : List Int) : ∀ n,(tab b ws n).1.length = n + 1 ∧ (tab b ws n).2.length = n + 1
  | 0 => ⟨rfl,rfl⟩
  | n + 1 => by
    obtain ⟨h1,h2⟩ := tab_len b ws n
    simp only [tab,List.length_append,List.length_cons,List.length_nil,h1,h2]
    exact ⟨trivial,trivial⟩
theorem tab_at (b : Int) (ws : List Int) : ∀ (n i : Nat),i ≤ n → (tab b ws n).1.getD i 0 = Ld b ws i ∧ (tab b ws n).2.getD i 0 = Sst b ws i
  | 0,i,h => by
    have e : i = 0 := by omega
    subst e; exact ⟨rfl,rfl⟩
  | n + 1,i,h => by
    by_cases e : i = n + 1
    · subst e; exact ⟨rfl,rfl⟩
    · have hi : i ≤ n := by omega
      obtain ⟨q1,q2⟩ := tab_at b ws n i hi
      obtain ⟨l1,l2⟩ := tab_len b ws n
      rw [← q1,← q2]
      simp only [tab,List.getD_eq_getElem?_getD]
      rw [List.getElem?_append_left (by omega),List.getElem?_append_left (by omega)]
      exact ⟨rfl,rfl⟩
theorem Ld_zero (b : Int) (ws : List Int) : Ld b ws 0 = 0 := rfl
theorem Ld_succ (b : Int) (ws : List Int) (n : Nat) : Ld b ws (n + 1) = (bst b ws (tab b ws n).1 (n + 1) (n + 1)).1 := by
  have l1 := (tab_len b ws n).1
  unfold Ld
  simp only [tab,List.getD_eq_getElem?_getD]
  rw [List.getElem?_append_right (by omega),l1,Nat.sub_self]
  rfl
theorem Sst_succ (b : Int) (ws : List Int) (n : Nat) : Sst b ws (n + 1) = (bst b ws (tab b ws n).1 (n + 1) (n + 1)).2 := by
  have l1 := (tab_len b ws n).2
  unfold Sst
  simp only [tab,List.getD_eq_getElem?_getD]
  rw [List.getElem?_append_right (by omega),l1,Nat.sub_self]
  rfl
theorem bst_ge (b : Int) (ws ls : List Int) (s : Int) : ∀ (k j : Nat),j < k → gI ws j + gI ls (m0 (s - (j + 1) - b)) ≤ (bst b ws ls s k).1
  | 0,_,h => absurd h (Nat.not_lt_zero _)
  | k + 1,j,h => by
    simp only [bst]
    by_cases e : j = k
    · subst e
      split
      · exact Int.le_refl _
      · omega
    · have := bst_ge b ws ls s k j (by omega)
      split
      · omega
      · exact this
theorem bst_is (b : Int) (ws ls : List Int) (s : Int) : ∀ k : Nat,bst b ws ls s k = (0,0) ∨ ∃ j : Nat,j < k ∧ (bst b ws ls s k).2 = (j : Int) + 1 ∧ (bst b ws ls s k).1 = gI ws j + gI ls (m0 (s - (j + 1) - b)) ∧ 0 < (bst b ws ls s k).1
  | 0 => .inl rfl
  | k + 1 => by
    have ih := bst_is b ws ls s k
    have nn : 0 ≤ (bst b ws ls s k).1 := by
      rcases ih with e | ⟨_,_,_,_,e⟩
      · rw [e]; exact Int.le_refl _
      · omega
    simp only [bst]
    split
    · rename_i c
      exact .inr ⟨k,Nat.lt_succ_self _,rfl,rfl,by dsimp only; omega⟩
    · rcases ih with e | ⟨j,h1,h2⟩
      · exact .inl e
      · exact .inr ⟨j,by omega,h2⟩
theorem m0_lt {n j : Nat} {b : Int} (hb : 0 ≤ b) : (m0 (((n : Int) + 1) - (j + 1) - b)).toNat ≤ n := by unfold m0; split <;> omega
theorem Ld_ge {b : Int} {ws : List Int} (hb : 0 ≤ b) (n j : Nat) (h : j ≤ n) : gI ws j + Ld b ws (m0 (((n : Int) + 1) - (j + 1) - b)).toNat ≤ Ld b ws (n + 1) := by
  have h1 := bst_ge b ws (tab b ws n).1 ((n : Int) + 1) (n + 1) j (by omega)
  rw [Ld_succ,← (tab_at b ws n _ (m0_lt (n := n) (j := j) hb)).1]
  exact h1
theorem LS_is {b : Int} {ws : List Int} (hb : 0 ≤ b) (n : Nat) : (Ld b ws (n + 1) = 0 ∧ Sst b ws (n + 1) = 0) ∨ ∃ j : Nat,j ≤ n ∧ Sst b ws (n + 1) = (j : Int) + 1 ∧ Ld b ws (n + 1) = gI ws j + Ld b ws (m0 (((n : Int) + 1) - (j + 1) - b)).toNat := by
  rw [Ld_succ,Sst_succ]
  rcases bst_is b ws (tab b ws n).1 ((n : Int) + 1) (n + 1) with e | ⟨j,h1,h2,h3,_⟩
  · rw [e]; exact .inl ⟨rfl,rfl⟩
  · refine .inr ⟨j,by omega,h2,?_⟩
    rw [h3,← (tab_at b ws n _ (m0_lt (n := n) (j := j) hb)).1]
    rfl
def lens (b : Int) (st : List Int) : Nat → Int → List Int
  | 0,_ => []
  | f + 1,s => if 0 < s ∧ 0 < gI st s then gI st s :: lens b st f (s - (gI st s + b)) else []
theorem lens_stop {b : Int} {st : List Int} {f : Nat} {s : Int} (h : ¬ (0 < s ∧ 0 < gI st s)) : lens b st f s = [] := by
  cases f with
  | zero => rfl
  | succ f => simp only [lens]; rw [if_neg h]
theorem lens_go {b : Int} {st : List Int} {f : Nat} {s : Int} (h : 0 < s ∧ 0 < gI st s) : lens b st (f + 1) s = gI st s :: lens b st f (s - (gI st s + b)) := by
  simp only [lens]; rw [if_pos h]
theorem lens_fuel {b : Int} {st : List Int} (hb : 0 ≤ b) : ∀ (f : Nat) (s : Int),s ≤ f → ∀ g : Nat,s ≤ g → lens b st f s = lens b st g s
  | 0,s,h,g,hg => by
    have c : ¬ (0 < s ∧ 0 < gI st s) := by omega
    rw [lens_stop c,lens_stop c]
  | f + 1,s,h,g,hg => by
    by_cases c : 0 < s ∧ 0 < gI st s
    · obtain ⟨g',rfl⟩ : ∃ g',g = g' + 1 := ⟨g - 1,by omega⟩
      rw [lens_go c,lens_go c,lens_fuel hb f _ (by omega) g' (by omega)]
    · rw [lens_stop c,lens_stop c]
theorem Ld_nn {b : Int} {ws : List Int} (n : Nat) : 0 ≤ Ld b ws n := by
  cases n with
  | zero => exact Int.le_refl _
  | succ n =>
    rw [Ld_succ]
    rcases bst_is b ws (tab b ws n).1 ((n : Int) + 1) (n + 1) with e | ⟨j,h1,h2,h3,h4⟩
    · rw [e]; exact Int.le_refl _
    · omega
theorem Ld_le {b : Int} {ws : List Int} (hb : 0 ≤ b) {M : Int} (hM : ∀ i,gI ws i ≤ M) (hM0 : 0 ≤ M) : ∀ n : Nat,Ld b ws n ≤ n * M := by
  intro n
  induction n using Nat.strongRecOn with
  | ind n ih =>
    cases n with
    | zero => rw [Ld_zero]; simp
    | succ n =>
      rcases LS_is (ws := ws) hb n with ⟨e1,_⟩ | ⟨j,hj,_,e2⟩
      · rw [e1]; exact Int.mul_nonneg (by omega) hM0
      · rw [e2]
        have h1 := hM j
        have h2 := m0_lt (n := n) (j := j) hb
        have h3 := ih _ (Nat.lt_succ_of_le h2)
        have h4 : ((m0 (((n : Int) + 1) - (j + 1) - b)).toNat : Int) * M ≤ (n : Int) * M := Int.mul_le_mul_of_nonneg_right (by omega) hM0
        have h5 : ((n + 1 : Nat) : Int) * M = n * M + M := by rw [Int.natCast_add,Int.add_mul]; simp
        omega
end Pc
set_option Elab.async false
set_option linter.all false
set_option maxRecDepth 100000
namespace L2
open PySem PySem.Spec PyProof.Rows
section
variable {X : Cx}
def CMulB (i j : Int) : Prop := i.natAbs < 2 ^ 4096 ∧ j.natAbs < 2 ^ 4096
theorem bits_le {k : Int} (h : k.natAbs < 2 ^ 4096) : Builtin.Int.intBits k ≤ 2 ^ 20 := by
  have e : (2 : Nat) ^ 20 = 1048576 := by decide
  unfold Builtin.Int.intBits
  split
  · exact Nat.zero_le _
  · have : k.natAbs.log2 < 4096 := by
      rcases Nat.eq_zero_or_pos k.natAbs with h0 | hp
      · rw [h0]; decide
      · exact (Nat.log2_lt (Nat.ne_of_gt hp)).mpr h
    omega
theorem CMulB.ok {i j : Int} (h : CMulB i j) : IntMulOk i j := .of_bits (bits_le h.1) (bits_le h.2)
theorem op_mulB : OpR X (binaryOp .Mult) (rI CMulB fun i j => .int (i * j)) := opI fun _ _ _ _ _ _ _ hc q => mul_int q hc.ok
end
theorem atI_int {α : Type} {xs : List α} {i : Int} {v : α} (h0 : 0 ≤ i) (h : xs[i.toNat]? = some v) : atI xs i = some v := by
  have e : i = ((i.toNat : Nat) : Int) := by omega
  have z : atI xs ((i.toNat : Nat) : Int) = some v := atI_nat h
  rw [← e] at z; exact z
end L2
namespace Pc
open PySem L2
def PotB (H : Hp) (p : Addr) : Prop := ∃ a b : Int,0 ≤ a ∧ 0 ≤ b ∧ b < 2147483648 ∧ H p = some (.lst [.int a,.int b])
theorem PotB.new {H : Hp} {p q : Addr} {o : HO} (x : PotB H p) (h : H q = none) : PotB (upd H q o) p := by
  obtain ⟨a,b,h1,h2,h3,e⟩ := x
  exact ⟨a,b,h1,h2,h3,by rw [upd_ne (ne_of_none e h)]; exact e⟩
theorem PotB.same {H H' : Hp} {p : Addr} (x : PotB H p) (s : Same H H') : PotB H' p := by
  obtain ⟨a,b,h1,h2,h3,e⟩ := x
  exact ⟨a,b,h1,h2,h3,s _ _ e⟩
theorem PotB.some {H : Hp} {p : Addr} (x : PotB H p) : H p ≠ none := by
  obtain ⟨a,b,h1,h2,h3,e⟩ := x
  rw [e]; exact fun z => by cases z
theorem PotB.ne {H : Hp} {p q : Addr} (x : PotB H p) (h : H q = none) : p ≠ q := fun z => x.some (z ▸ h)
theorem But.freeB {p q : Addr} {H H' : Hp} (b : But p H H') (x : PotB H' p) (h : H' q = none) : q ≠ p ∧ H q = none := by
  have n : q ≠ p := fun z => x.some (z ▸ h)
  refine ⟨n,?_⟩
  cases e : H q with
  | none => rfl
  | some o => rw [b q o n e] at h; cases h
def spCell (K : PySem.W.Frag) : Sp := fun vs H Q _ => ∃ (a : Addr) (ns : List Int) (n : Int),vs = [.ref a,.int n] ∧ SqL K H a (ns.map V.int) ∧ 0 ≤ n ∧ ∀ c : Int,Q (.int c) H
def spPotB : Sp := fun vs H Q _ => ∃ (c : Int),vs = [.int c] ∧ ∀ (p : Addr) (H' : Hp),H p = none → PotB H' p → Same H H' → Q (.ref p) H'
def spDrawB : Sp := fun vs H Q _ => ∃ (p : Addr) (m : Int),vs = [.ref p,.int m] ∧ PotB H p ∧ 0 < m ∧ m ≤ 10 ^ 60 ∧ ∀ (r : Int) (H' : Hp),0 ≤ r → r < m → PotB H' p → But p H H' → Q (.int r) H'
def spGreat : Sp := fun vs H Q _ => ∃ (p : Addr),vs = [.ref p] ∧ PotB H p ∧ ∀ (r : Int) (H' : Hp),0 ≤ r → r < 10 ^ 58 → PotB H' p → But p H H' → Q (.int r) H'
end Pc
set_option Elab.async false
set_option linter.all false
set_option maxRecDepth 100000
namespace L2
open PySem
end L2
namespace Pc
open PySem L2
def dI (ns : List Int) : PyData := .list (ns.map PyData.int)
theorem datI {K : PySem.W.Frag} {H : Hp} : ∀ ns : List Int,DatVs K H (ns.map V.int) (ns.map PyData.int)
  | [] => .nil
  | n :: r => .cons (.int n) (datI r)
theorem canI : ∀ ns : List Int,PyData.canLayAll0 (ns.map PyData.int) = true
  | [] => rfl
  | n :: r => by simp [PyData.canLayAll0,PyData.canLay0,canI r]
theorem depI : ∀ ns : List Int,PyData.depthAll (ns.map PyData.int) = 0
  | [] => rfl
  | n :: r => by simp [PyData.depthAll,PyData.depth,depI r]
theorem shapedI (ns : List Int) : SeqAt.shaped (dI ns) = true := by
  unfold dI
  simp [SeqAt.shaped,PyData.canLay0,PyData.depth,canI ns,depI ns]
def Short (i : Int) : Prop := i.natAbs < 10 ^ 62
end Pc
set_option Elab.async false
set_option linter.all false
set_option maxRecDepth 100000
namespace L2
open PySem PySem.Spec PyProof.Rows
theorem pg_two {X : Cx} (K : PySem.W.Frag) {x y : Str} {px py pos : Pos} {k : Nat} (hK : X.K = K) (hc : X.calm = true) (hN : X.N.Nodup) (h0 : X.N[0]? = some x) (h1 : X.N[1]? = some y) (l0 : X.env.scope.names.lookup x = some .local) (l1 : X.env.scope.names.lookup y = some .local) :
    PG X (.Tuple [.Name x px,.Name y py] k pos) (gTup K 2 (gCons (gName 0) (gCons (gName 1) gNil))) :=
  hK ▸ pg_tup hc (pgs_cons (pg_name hN h0 (.inl l0) (.inr l0)) (pgs_cons (pg_name hN h1 (.inl l1) (.inr l1)) pgs_nil))
theorem comp_zip {l1 l2 : Addr} {xs ys : List V} {σ : St} {cap : List Nat} {k : Nat} {g : TG} {tt : TT} {te : TE} {Q : List V → Hp → Prop} {H : Hp} (Pv : Nat → List V → Hp → Prop) (hn : xs.length = ys.length)
    (hk : ∀ i zs H',Pv i zs H' → H' l1 = some (.lst xs) ∧ H' l2 = some (.lst ys)) (h0 : Pv 0 [] H)
    (hz : ∀ i zs H',i < xs.length → Pv i zs H' → zs.length < sizeLine)
    (ht : ∀ i x y p zs H',xs[i]? = some x → ys[i]? = some y → H' p = none → Pv i zs H' → g (.ref p) (blkSt σ cap k) (upd H' p (.tup [x,y])) fun σ2 H2 => leS (blkSt σ cap k) σ2 ∧ tt σ2 H2 fun ok H3 => if ok = true then te σ2 H3 (fun v H4 => Nx xs.length Pv i (zs ++ [v]) H4) else Nx xs.length Pv i zs H3)
    (hd : ∀ zs H',Pv xs.length zs H' → zs.length ≤ sizeLine ∧ Q zs H') : ∃ W,(∃ m,W 0 m [] H) ∧ CompW σ cap k (Itz l1 l2) g tt te Q W := by
  refine ⟨fun i m zs H' => m = xs.length - i ∧ i ≤ xs.length ∧ Pv i zs H',⟨_,rfl,Nat.zero_le _,h0⟩,?_⟩
  rintro i m zs H' ⟨rfl,hi,p⟩
  obtain ⟨e1,e2⟩ := hk i zs H' p
  by_cases hlt : i < xs.length
  · have hx : xs[i]? = some xs[i] := by simp [hlt]
    have hy : ys[i]? = some (ys[i]'(by omega)) := by simp [show i < ys.length by omega]
    refine .inr ⟨⟨xs,ys,_,_,e1,e2,hx,hy⟩,hz i zs H' hlt p,fun v H2 yl => ?_⟩
    · obtain ⟨q,xs',ys',x,y,hq,rfl,rfl,e1',e2',ex,ey⟩ := yl
      rw [e1] at e1'; cases e1'
      rw [e2] at e2'; cases e2'
      exact ht i x y q zs H' ex ey hq p
  · have e : i = xs.length := by omega
    subst e
    obtain ⟨a1,a2⟩ := hd zs H' p
    exact .inl ⟨⟨xs,ys,e1,e2,.inl (Nat.le_refl _)⟩,a1,a2⟩
end L2
namespace L2
open PySem PySem.Spec PyProof.Rows
section
variable {X : Cx}
end
end L2
set_option Elab.async false
set_option linter.all false
set_option maxRecDepth 100000
namespace PySem
open Sem (wp)
section
variable {prog : Program} {w : World} {A : Around} {R : Result → Shared → Prop} {I : Addr} {fp wr : List Addr} {n : Nat} {P : Nat → Value → Prop} {St : Nat → Heap → Prop}
theorem codeAny_min_loopD (W : Walks prog w A.in1 I fp wr n P St) (bt : Nat → Nat → Bool) (hcmp : CmpOf prog w A.in1 .Lt P bt) (S : Addr) (hSf : S ∉ fp) :
    ∀ (k j : Nat) (s : Shared) (vb : Value) (c : Nat),n - (j + 1) = k → j + 1 ≤ n → St (j + 1) s.heap → P (argBest bt j) vb →
    s.heap.get? S = some { cls := .type "list",dict := none,data := .seq #[vb,vb] c,slots := #[] } →
    (∀ v h' tk,P (argBest bt (n - 1)) v → (∀ b o,b ∉ wr → b ≠ S → s.heap.get? b = some o → h'.get? b = some o) → R (.ok (.ret v)) { s with heap := h',toks := tk }) →
    codeAny (model prog w) A (.builtin "min.loop" ⟨[.ref I,.none,.ref S],[("default",.none)]⟩) R s := by
  have hSw : S ∉ wr := fun h => hSf (W.sub _ h)
  have hname : (toString "min" ++ toString ".loop" : String) = "min.loop" := by decide
  intro k
  induction k with
  | zero =>
    intro j s vb c hk hj hst hPb hS hR
    have hin : j + 1 = n := by omega
    refine codeAny_builtin F.entry_min_loop ?_
    rw [Around.under_plainId F.plain_min_loop _]
    show wpAny _ A.in1 (seqItems? (.ref S) >>= _) _ _ s
    refine wpAny_bind (wpAny_seqItems hS rfl ?_)
    show wpAny _ A.in1 (tryCatch (pyNext (.ref I)) _ >>= _) _ _ s
    refine wpAny_bind (wpAny_tryCatch (W.done s _ _ (hin ▸ hst) fun h' tk hk' => ?_))
    have hS' := hk' S _ hSw hS
    show wpAny _ A.in1 (updateSeq S (fun _ => #[]) >>= _) _ _ _
    refine wpAny_bind ?_
    refine wpAny_updateSeq hS' rfl (wpAny_bind (wpAny_letGo (wpAny_pure ?_)))
    refine hR vb _ tk (by rw [← hin]; exact hPb) fun b o hbw hbS e => (Heap.get?_update_other _ _ (Ne.symm hbS)).trans (hk' b o hbw e)
  | succ k ih =>
    intro j s vb c hk hj hst hPb hS hR
    have hlt : j + 1 < n := by omega
    refine codeAny_builtin F.entry_min_loop ?_
    rw [Around.under_plainId F.plain_min_loop _]
    show wpAny _ A.in1 (seqItems? (.ref S) >>= _) _ _ s
    refine wpAny_bind (wpAny_seqItems hS rfl ?_)
    show wpAny _ A.in1 (tryCatch (pyNext (.ref I)) _ >>= _) _ _ s
    refine wpAny_bind (wpAny_tryCatch (W.item (j + 1) s _ _ hlt hst fun v h' tk hP hst' hk' => ?_))
    have hS' := hk' S _ hSw hS
    show wpAny _ A.in1 (tryCatch (holding [v,v] (richCompare .Lt v vb >>= _)) _ >>= _) _ _ _
    refine wpAny_bind (wpAny_tryCatch (wpAny_holding (wpAny_bind (hcmp (j + 1) (argBest bt j) v vb _ _ _ hP hPb ?_))))
    refine wpAny_bind (wpAny_holding (wpAny_truthy_bool ?_))
    refine wpAny_bind (wpAny_letGo (wpAny_pure ?_))
    cases hb : bt (j + 1) (argBest bt j) with
    | true =>
      simp only [if_true]
      refine wpAny_bind ?_
      refine wpAny_updateSeq hS' rfl (wpAny_bind (wpAny_letGo ?_))
      rw [hname]
      refine wpAny_pure ⟨plainId_quiet F.plain_min_loop _,ih (j + 1) _ v _ (by omega) hlt (W.frame _ _ _ hst' fun b hbf o e => ?_) (by simp only [argBest,hb,if_true]; exact hP) (Heap.get?_update_self _ hS' rfl)
        fun v' h'' tk'' hP' hk'' => ?_⟩
      · exact (Heap.get?_update_other _ _ (fun h : S = b => hSf (by rw [h]; exact hbf))).trans e
      · exact hR v' h'' tk'' hP' fun b o hbw hbS e => hk'' b o hbw hbS ((Heap.get?_update_other _ _ (Ne.symm hbS)).trans (hk' b o hbw e))
    | false =>
      simp only [Bool.false_eq_true,if_false]
      refine wpAny_bind (wpAny_letGo ?_)
      rw [hname]
      refine wpAny_pure ⟨plainId_quiet F.plain_min_loop _,ih (j + 1) _ vb c (by omega) hlt hst' (by simp only [argBest,hb,Bool.false_eq_true,if_false]; exact hPb) hS' fun v' h'' tk'' hP' hk'' => ?_⟩
      exact hR v' h'' tk'' hP' fun b o hbw hbS e => hk'' b o hbw hbS (hk' b o hbw e)
theorem codeAny_min_loop_firstD (W : Walks prog w A.in1 I fp wr n P St) (bt : Nat → Nat → Bool) (hcmp : CmpOf prog w A.in1 .Lt P bt) (S : Addr) (hSf : S ∉ fp) (hn : 0 < n) {s : Shared} {c : Nat} (hst : St 0 s.heap)
    (hS : s.heap.get? S = some { cls := .type "list",dict := none,data := .seq #[] c,slots := #[] })
    (hR : ∀ v h' tk,P (argBest bt (n - 1)) v → (∀ b o,b ∉ wr → b ≠ S → s.heap.get? b = some o → h'.get? b = some o) → R (.ok (.ret v)) { s with heap := h',toks := tk }) :
    codeAny (model prog w) A (.builtin "min.loop" ⟨[.ref I,.none,.ref S],[("default",.none)]⟩) R s := by
  have hSw : S ∉ wr := fun h => hSf (W.sub _ h)
  have hname : (toString "min" ++ toString ".loop" : String) = "min.loop" := by decide
  refine codeAny_builtin F.entry_min_loop ?_
  rw [Around.under_plainId F.plain_min_loop _]
  show wpAny _ A.in1 (seqItems? (.ref S) >>= _) _ _ s
  refine wpAny_bind (wpAny_seqItems hS rfl ?_)
  show wpAny _ A.in1 (tryCatch (pyNext (.ref I)) _ >>= _) _ _ s
  refine wpAny_bind (wpAny_tryCatch (W.item 0 s _ _ hn hst fun v h' tk hP hst' hk' => ?_))
  have hS' := hk' S _ hSw hS
  show wpAny _ A.in1 (updateSeq S (fun _ => #[v,v]) >>= _) _ _ _
  refine wpAny_bind ?_
  refine wpAny_updateSeq hS' rfl ?_
  rw [hname]
  refine wpAny_pure ⟨plainId_quiet F.plain_min_loop _,codeAny_min_loopD W bt hcmp S hSf _ 0 _ v _ rfl hn (W.frame _ _ _ hst' fun b hbf o e => ?_) hP (Heap.get?_update_self _ hS' rfl) fun v' h'' tk'' hP' hk'' => ?_⟩
  · exact (Heap.get?_update_other _ _ (fun h : S = b => hSf (by rw [h]; exact hbf))).trans e
  · exact hR v' h'' tk'' hP' fun b o hbw hbS e => hk'' b o hbw hbS ((Heap.get?_update_other _ _ (Ne.symm hbS)).trans (hk' b o hbw e))
theorem codeAny_min_loop_noneD (W : Walks prog w A.in1 I fp wr n P St) (S : Addr) (hSf : S ∉ fp) (hn : n = 0) {s : Shared} {c : Nat} (hst : St 0 s.heap)
    (hS : s.heap.get? S = some { cls := .type "list",dict := none,data := .seq #[] c,slots := #[] })
    (hR : ∀ h' tk,(∀ b o,b ∉ wr → s.heap.get? b = some o → h'.get? b = some o) → R (.ok (.ret .none)) { s with heap := h',toks := tk }) :
    codeAny (model prog w) A (.builtin "min.loop" ⟨[.ref I,.none,.ref S],[("default",.none)]⟩) R s := by
  refine codeAny_builtin F.entry_min_loop ?_
  rw [Around.under_plainId F.plain_min_loop _]
  show wpAny _ A.in1 (seqItems? (.ref S) >>= _) _ _ s
  refine wpAny_bind (wpAny_seqItems hS rfl ?_)
  show wpAny _ A.in1 (tryCatch (pyNext (.ref I)) _ >>= _) _ _ s
  refine wpAny_bind (wpAny_tryCatch (W.done s _ _ (by rw [hn]; exact hst) fun h' tk hk' => ?_))
  exact wpAny_bind (wpAny_rule (wpAny_pure (hR h' tk hk')))
end
section
variable {prog : Program} {w : World} {A : Around} {E : Value → Shared → Prop} {s : Shared}
theorem call_function_treeK {id : String} {b : Builtin} {args : List Value} {kw : List (Str × Value)} {Q : Value → Shared → Prop} (hk : builtinKind id = none) (hp : plainId id = true)
    (hb : entryFor table id = some b) (ha : argsOk id ⟨args,kw⟩)
    (hc : wpAny (model prog w) A.in1 (b ⟨args,kw⟩) (fun fin s' => match fin with
      | .done f => (match (Except.ok f : Result) with | .ok (.ret v) => Q v s' | .ok _ => False | .error e => E e s')
      | .again c' => c'.quiet = true ∧ codeAny (model prog w) A c' (fun r s' => match r with | .ok (.ret v) => Q v s' | .ok _ => False | .error e => E e s') s') E s) :
    wpAny (model prog w) A (call (.builtin id) args kw) Q E s := by
  refine wpAny_call (codeAny_call_builtin hp hb ?_)
  simp only [checkBuiltinCall,hk]
  cases hsig : Manifest.signature? id with
  | none => exact wpAny_pure hc
  | some sig =>
    simp only [argsOk,hsig] at ha
    have h2 : Bind.checkArgs id sig ⟨args,kw⟩ = pure () := ha
    show wpAny _ A.in1 (Bind.checkArgs id sig ⟨args,kw⟩) _ _ s
    rw [h2]; exact wpAny_pure hc
theorem F.args_minD (a : Value) : argsOk "min" ⟨[a],[("default",.none)]⟩ := by unfold argsOk; kernel_rfl
theorem call_min_walkD {x : Value} {Q : Value → Shared → Prop}
    (h : wpAny (model prog w) A.in1 (pyIter x) (fun it s₂ => ∃ I fp wr n P St bt,it = .ref I ∧ Walks prog w A.in1 I fp wr n P St ∧ St 0 s₂.heap ∧ (∀ b ∈ fp,b < s₂.heap.objs.size) ∧ CmpOf prog w A.in1 .Lt P bt ∧
      (0 < n → ∀ v h' tk,P (argBest bt (n - 1)) v → (∀ b o,b ∉ wr → s₂.heap.get? b = some o → h'.get? b = some o) → Q v { s₂ with heap := h',toks := tk }) ∧
      (n = 0 → ∀ h' tk,(∀ b o,b ∉ wr → s₂.heap.get? b = some o → h'.get? b = some o) → Q .none { s₂ with heap := h',toks := tk })) E s) :
    wpAny (model prog w) A (call (.builtin "min") [x] [("default",.none)]) Q E s := by
  have hname : (toString "min" ++ toString ".loop" : String) = "min.loop" := by decide
  refine call_function_treeK F.kind_min F.plain_min F.entry_min (F.args_minD _) ?_
  show wpAny _ A.in1 (Builtin.Builtins.bindParams "min" ["key","default"] 0 ⟨[],[("default",.none)]⟩ >>= _) _ _ s
  refine wpAny_bind (wpAny_of_eq (show Builtin.Builtins.bindParams "min" ["key","default"] 0 ⟨[],[("default",.none)]⟩ = pure [none,some .none] from rfl) ?_)
  refine wpAny_bind (wpAny_pure ?_)
  refine wpAny_bind (wpAny_mono h (fun it s₂ h₂ => ?_) fun _ _ e => e)
  obtain ⟨I,fp,wr,n,P,St,bt,rfl,W,hst,hfp,hcmp,hQ,hQ0⟩ := h₂
  refine wpAny_bind (wpAny_newObj_type ?_)
  have hSf : s₂.heap.objs.size ∉ fp := fun hm => Nat.lt_irrefl _ (hfp _ hm)
  rw [hname]
  rcases Nat.eq_zero_or_pos n with hn | hn
  · refine wpAny_pure ⟨plainId_quiet F.plain_min_loop _,codeAny_min_loop_noneD W s₂.heap.objs.size hSf hn (W.frame _ _ _ hst fun b _ o e => Heap.get?_push_of_some _ e) (Heap.get?_push_size _ rfl) fun h' tk hk => ?_⟩
    exact hQ0 hn h' tk fun b o hbw e => hk b o hbw (Heap.get?_push_of_some _ e)
  · refine wpAny_pure ⟨plainId_quiet F.plain_min_loop _,codeAny_min_loop_firstD W bt hcmp s₂.heap.objs.size hSf hn (W.frame _ _ _ hst fun b _ o e => Heap.get?_push_of_some _ e) (Heap.get?_push_size _ rfl) fun v h' tk hP hk => ?_⟩
    exact hQ hn v h' tk hP fun b o hbw e => hk b o hbw (Nat.ne_of_lt (Heap.lt_size e)) (Heap.get?_push_of_some _ e)
theorem min_intListD {l : Addr} {xs : Array (Int × Tok)} {Q : Value → Shared → Prop} (hh : A.handled = none) (hl : s.heap.IsList l (intItems xs))
    (h : 0 < xs.size → ∀ v h' tk,(intItems xs)[argBest (fun i j => decide (numAt xs i < numAt xs j)) (xs.size - 1)]? = some v → (∀ b o,s.heap.get? b = some o → h'.get? b = some o) → Q v { s with heap := h',toks := tk })
    (h0 : xs.size = 0 → ∀ h' tk,(∀ b o,s.heap.get? b = some o → h'.get? b = some o) → Q .none { s with heap := h',toks := tk }) :
    wpAny (model prog w) A (call (.builtin "min") [.ref l] [("default",.none)]) Q E s := by
  refine call_min_walkD (iter_intList hl fun s₂ e st hfp hlI => ?_)
  subst e
  have sz : (intItems xs).size = xs.size := by simp [intItems]
  refine ⟨_,_,_,_,_,_,_,rfl,Walks.list (A := A.in1) hh _ l hlI (intItems xs),st,hfp,CmpOf.ints_lt (numAt xs) (fun _ _ => intItems_at),fun hn v h' tk hP hk => ?_,fun hn h' tk hk => ?_⟩
  · exact h (by rw [← sz]; exact hn) v h' tk (by rw [← sz]; exact hP) (old_kept hk)
  · exact h0 (by rw [← sz]; exact hn) h' tk (old_kept hk)
end
end PySem
namespace L2
open PySem PySem.Spec PyProof.Rows
theorem argBest_lt (val : Nat → Int) : ∀ k,argBest (fun i j => decide (val i < val j)) k ≤ k ∧ ∀ j,j ≤ k → val (argBest (fun i j => decide (val i < val j)) k) ≤ val j
  | 0 => ⟨Nat.le_refl _,fun j hj => by rw [Nat.le_zero.mp hj]; exact Int.le_refl _⟩
  | k + 1 => by
    obtain ⟨h1,h2⟩ := argBest_lt val k
    unfold argBest
    by_cases c : val (k + 1) < val (argBest (fun i j => decide (val i < val j)) k)
    · rw [if_pos (decide_eq_true c)]
      refine ⟨Nat.le_refl _,fun j hj => ?_⟩
      rcases Nat.lt_or_ge k j with z | z
      · rw [show j = k + 1 by omega]; exact Int.le_refl _
      · have := h2 j z; omega
    · rw [if_neg (fun z => c (of_decide_eq_true z))]
      refine ⟨by omega,fun j hj => ?_⟩
      rcases Nat.lt_or_ge k j with z | z
      · rw [show j = k + 1 by omega]; omega
      · exact h2 j z
section
variable {X : Cx} {e kv : Expr} {t : TE} {p pos kp : Pos}
def tMinD (K : PySem.W.Frag) (t : TE) : TE := fun σ H Q => t σ H fun v H1 => ∃ (a : Addr) (ns : List Int),v = .ref a ∧ SqL K H1 a (ns.map V.int) ∧ (ns = [] → Q .non H1) ∧ ∀ m,m ∈ ns → (∀ x ∈ ns,m ≤ x) → Q (.int m) H1
theorem pe_minD (hc : X.calm = true) (hg : Gl X "min") (hm : X.mg "min" = none) (he : PE X e t) (hv : PE X kv (tC .non)) (hst : starEach [e] X.env = [(false,eval e X.env)] := by rfl) :
    PE X (.Call (.Name "min" p) [e] [⟨some "default",kv,kp⟩] pos) (tMinD X.K t) := by
  intro pins s σ H Q I h
  refine wpAny_Call_Name_kw (ld_blt I hg hm PyProof.Rows.boot_min ?_ (by decide) (by decide))
  refine callWith_kw (thn ((pa_cons he pa_nil hst : PA X [e] _) pos pins s σ H (fun vs H1 => match vs with | [v] => ∃ (a : Addr) (ns : List Int),v = .ref a ∧ SqL X.K H1 a (ns.map V.int) ∧ (ns = [] → Q .non H1) ∧ ∀ m,m ∈ ns → (∀ x ∈ ns,m ≤ x) → Q (.int m) H1 | _ => False) I h) fun us s1 h1 => ?_) (by rw [hst]; rfl) (by rw [hst]; rfl) rfl rfl
  obtain ⟨vs,H1,I1,r1,hq⟩ := h1
  obtain ⟨v,rfl⟩ : ∃ v,vs = [v] := by
    match vs,hq with
    | [v],_ => exact ⟨v,rfl⟩
  obtain ⟨a,ns,rfl,hs,q0,q1⟩ := hq
  obtain ⟨u,rfl,rfl⟩ := vals1 r1
  refine thn ((pk_cons hv pk_nil : PK X [⟨some "default",kv,kp⟩] _) pos pins s1 σ H1 (fun zs H2 => zs = [.non] ∧ H2 = H1) I1 ⟨rfl,rfl⟩) fun ws s2 h2 => ?_
  obtain ⟨zs,H2,I2,rz,rfl,rfl⟩ := h2
  obtain ⟨w0,rfl,rw0⟩ := vals1 rz
  cases (show w0 = Value.none from rw0)
  show wpAny _ _ (call (.builtin "min") [.ref a] [("default",.none)]) _ _ _
  obtain ⟨its,rv,pl,_⟩ := I2.list hs
  have hi := ints_of rv
  obtain ⟨xs,e'⟩ := hi.allInts.items
  have pl' := pl.isList
  rw [e'] at pl'
  have en : (xs.toList.map (·.1)) = ns := by
    have h1 := hi.numsOf
    have h2 := nums_intItems (xs := xs)
    rw [← e',show its.toArray.toList = its from rfl] at h2
    rw [← h1,h2]
  have sz : xs.size = ns.length := by rw [← en,List.length_map]; rfl
  have nat : ∀ i,i < xs.size → numAt xs i ∈ ns := fun i h => by
    unfold numAt
    rw [← en,Array.getElem?_eq_getElem h]
    exact List.mem_map.mpr ⟨xs[i],by simp,rfl⟩
  have all : ∀ x ∈ ns,∃ i,i < xs.size ∧ numAt xs i = x := fun x hx => by
    rw [← en] at hx
    obtain ⟨y,hy,rfl⟩ := List.mem_map.mp hx
    obtain ⟨i,hi',e''⟩ := List.getElem_of_mem hy
    refine ⟨i,by simpa using hi',?_⟩
    unfold numAt
    rw [Array.getElem?_eq_getElem (by simpa using hi')]
    simpa using congrArg Prod.fst e''
  refine min_intListD (I2.ok.hd hc) pl' (fun hn v h' tk hv hk => ?_) fun hn h' tk hk => ?_
  · obtain ⟨g1,g2⟩ := argBest_lt (numAt xs) (xs.size - 1)
    obtain ⟨t',rfl⟩ := intItems_at hv
    refine ⟨.int _,_,I2.kept hk,⟨t',rfl⟩,q1 _ (nat _ (by omega)) fun x hx => ?_⟩
    obtain ⟨i,h1,h2⟩ := all x hx
    rw [← h2]
    exact g2 i (by omega)
  · exact ⟨.non,_,I2.kept hk,rfl,q0 (List.length_eq_zero_iff.mp (by omega))⟩
end
end L2
set_option Elab.async false
set_option linter.all false
set_option maxRecDepth 100000
namespace PySem
namespace F
theorem typeCall_zip_3 (a b c : Value) : checkTypeCall "zip" ⟨[a,b,c],[]⟩ = pure () := by kernel_rfl
theorem newCall_zip_3 (a b c : Value) : checkBuiltinCall "zip.__new__" ⟨[.type "zip",a,b,c],[]⟩ = pure () := by kernel_rfl
theorem args_object_init_4 (a b c d : Value) : argsOk "object.__init__" ⟨[a,b,c,d],[]⟩ := by
  unfold argsOk; rw [signature?_of (id := "object.__init__") (n := ['_', '_', 't', 'i', 'n', 'i', '_', '_']) (o := ['t', 'c', 'e', 'j', 'b', 'o']) (by kernel_rfl) owner_object]; kernel_rfl
end F
abbrev IsTri (h : Heap) (T : Addr) (a b c : Value) : Prop := h.get? T = some { cls := .type "tuple",data := .seq #[a,b,c] }
section
variable {prog : Program} {w : World} {A : Around} {E : Value → Shared → Prop} {s : Shared}
theorem wpAny_updateSeq_tri {T : Addr} {a b c x : Value} {k : Nat} {Q : Unit → Shared → Prop} (hT : IsTri s.heap T a b c)
    (h : ∀ h', h'.get? T = some { cls := .type "tuple", data := .seq ((#[a, b, c] : Array Value).setIfInBounds k x) } → Heap.SameBut T s.heap h' → Q () { s with heap := h' }) :
    wpAny (model prog w) A (updateSeq T (·.setIfInBounds k x)) Q E s := by
  refine wpAny_updateSeq hT rfl (h _ ?_ (Heap.SameBut.update ..))
  rw [Heap.get?_update_self _ hT rfl]
  simp [Obj.mapSeq]
structure ZipApart3 (z TI TO i1 i2 i3 l1 l2 l3 : Addr) : Prop where
  TIz : TI ≠ z
  TOz : TO ≠ z
  i1z : i1 ≠ z
  i2z : i2 ≠ z
  i3z : i3 ≠ z
  TITO : TI ≠ TO
  TIi1 : TI ≠ i1
  TOi1 : TO ≠ i1
  TIi2 : TI ≠ i2
  TOi2 : TO ≠ i2
  TIi3 : TI ≠ i3
  TOi3 : TO ≠ i3
  i12 : i1 ≠ i2
  i13 : i1 ≠ i3
  i23 : i2 ≠ i3
  l1z : l1 ≠ z
  l1TO : l1 ≠ TO
  l1i1 : l1 ≠ i1
  l1i2 : l1 ≠ i2
  l1i3 : l1 ≠ i3
  l2z : l2 ≠ z
  l2TO : l2 ≠ TO
  l2i1 : l2 ≠ i1
  l2i2 : l2 ≠ i2
  l2i3 : l2 ≠ i3
  l3z : l3 ≠ z
  l3TO : l3 ≠ TO
  l3i1 : l3 ≠ i1
  l3i2 : l3 ≠ i2
  l3i3 : l3 ≠ i3
theorem zip_next_item3 {z TI TO i1 i2 i3 l1 l2 l3 : Addr} {k : Nat} {xs ys zs : Array Value} {x y w' a b c : Value} {Q : Value → Shared → Prop} (D : ZipApart3 z TI TO i1 i2 i3 l1 l2 l3)
    (hz : IsZip s.heap z TI TO .none) (hTI : IsTri s.heap TI (.ref i1) (.ref i2) (.ref i3)) (hTO : IsTri s.heap TO a b c)
    (h1 : s.heap.IsListIter i1 l1 k) (h2 : s.heap.IsListIter i2 l2 k) (h3 : s.heap.IsListIter i3 l3 k) (hl1 : s.heap.IsList l1 xs) (hl2 : s.heap.IsList l2 ys) (hl3 : s.heap.IsList l3 zs) (hx : xs[k]? = some x) (hy : ys[k]? = some y) (hw : zs[k]? = some w')
    (hQ : ∀ h',IsZip h' z TI TO (rawInt s.heap.objs.size) → IsTri h' TO x y w' → h'.IsListIter i1 l1 (k + 1) → h'.IsListIter i2 l2 (k + 1) → h'.IsListIter i3 l3 (k + 1) → IsTri h' s.heap.objs.size x y w' → h'.objs.size = s.heap.objs.size + 1 →
      (∀ c o,c ≠ z → c ≠ TO → c ≠ i1 → c ≠ i2 → c ≠ i3 → s.heap.get? c = some o → h'.get? c = some o) → Q (.ref s.heap.objs.size) { s with heap := h' }) :
    wpAny (model prog w) A (Builtin.«zip.__next__» ⟨[.ref z],[]⟩) (fun fin s' => ∃ v,fin = .done (.ret v) ∧ Q v s') E s := by
  show wpAny _ _ (field (.ref z) 2 >>= _) _ _ _
  refine wpAny_bind (wpAny_field hz rfl (x := .bool false) rfl ?_)
  show wpAny _ _ (field (.ref z) 3 >>= _) _ _ _
  refine wpAny_bind (wpAny_field hz rfl (x := .ref TI) rfl ?_)
  refine wpAny_bind (wpAny_seqItems hTI rfl ?_)
  show wpAny _ _ (Builtin.SmallTypes.ownedTupleIsFree (.ref z) >>= _) _ _ _
  refine wpAny_bind ?_
  unfold Builtin.SmallTypes.ownedTupleIsFree
  refine wpAny_bind (wpAny_field hz rfl (x := .none) rfl (wpAny_pure ?_))
  simp only [if_true]
  refine wpAny_bind (wpAny_rule ?_)
  refine wpAny_bind (wpAny_field hz rfl (x := .ref TO) rfl ?_)
  refine wpAny_bind (wpAny_setField_rec hz (by simp) fun g1 hz1 hs1 => ?_)
  replace hz1 : IsZip g1 z TI TO .ellipsis := hz1
  refine wpAny_bind ?_
  simp only [List.zipIdx_cons,List.zipIdx_nil,List.forIn_cons,List.forIn_nil]
  have hTO1 : IsTri g1 TO a b c := hs1.extBut _ _ D.TOz hTO
  refine wpAny_bind (wpAny_bind (wpAny_onRaise ?_))
  show wpAny _ _ (Builtin.SmallTypes.nextOf (.ref i1) >>= _) _ _ _
  refine wpAny_bind (wpAny_nextOf_list_item (h1.extBut hs1.extBut D.i1z) (hl1.extBut hs1.extBut D.l1z) hx fun g2 q1 hs2 => wpAny_pure ?_)
  have hTO2 : IsTri g2 TO a b c := hs2.extBut _ _ D.TOi1 hTO1
  refine wpAny_bind (wpAny_seqItems hTO2 rfl ?_)
  refine wpAny_bind (wpAny_updateSeq_tri hTO2 fun g3 hTO3 hs3 => ?_)
  replace hTO3 : IsTri g3 TO x b c := hTO3
  refine wpAny_bind (wpAny_letGo (wpAny_pure ?_))
  refine wpAny_bind (wpAny_bind (wpAny_onRaise ?_))
  show wpAny _ _ (Builtin.SmallTypes.nextOf (.ref i2) >>= _) _ _ _
  refine wpAny_bind (wpAny_nextOf_list_item (((h2.extBut hs1.extBut D.i2z).extBut hs2.extBut D.i12.symm).extBut hs3.extBut D.TOi2.symm) (((hl2.extBut hs1.extBut D.l2z).extBut hs2.extBut D.l2i1).extBut hs3.extBut D.l2TO) hy fun g4 q2 hs4 => wpAny_pure ?_)
  have hTO4 : IsTri g4 TO x b c := hs4.extBut _ _ D.TOi2 hTO3
  refine wpAny_bind (wpAny_seqItems hTO4 rfl ?_)
  refine wpAny_bind (wpAny_updateSeq_tri hTO4 fun g5 hTO5 hs5 => ?_)
  replace hTO5 : IsTri g5 TO x y c := hTO5
  refine wpAny_bind (wpAny_letGo (wpAny_pure ?_))
  refine wpAny_bind (wpAny_bind (wpAny_onRaise ?_))
  show wpAny _ _ (Builtin.SmallTypes.nextOf (.ref i3) >>= _) _ _ _
  refine wpAny_bind (wpAny_nextOf_list_item (((((h3.extBut hs1.extBut D.i3z).extBut hs2.extBut D.i13.symm).extBut hs3.extBut D.TOi3.symm).extBut hs4.extBut D.i23.symm).extBut hs5.extBut D.TOi3.symm) (((((hl3.extBut hs1.extBut D.l3z).extBut hs2.extBut D.l3i1).extBut hs3.extBut D.l3TO).extBut hs4.extBut D.l3i2).extBut hs5.extBut D.l3TO) hw fun g6 q3 hs6 => wpAny_pure ?_)
  have hTO6 : IsTri g6 TO x y c := hs6.extBut _ _ D.TOi3 hTO5
  refine wpAny_bind (wpAny_seqItems hTO6 rfl ?_)
  refine wpAny_bind (wpAny_updateSeq_tri hTO6 fun g7 hTO7 hs7 => ?_)
  replace hTO7 : IsTri g7 TO x y w' := hTO7
  refine wpAny_bind (wpAny_letGo (wpAny_pure (wpAny_pure ?_)))
  refine wpAny_bind (wpAny_seqItems hTO7 rfl ?_)
  refine wpAny_bind (wpAny_newTuple ?_)
  have hsz : g7.objs.size = s.heap.objs.size := by rw [hs7.1,hs6.1,hs5.1,hs4.1,hs3.1,hs2.1,hs1.1]
  have hz5 : IsZip g7 z TI TO .ellipsis := hs7.extBut _ _ D.TOz.symm (hs6.extBut _ _ D.i3z.symm (hs5.extBut _ _ D.TOz.symm (hs4.extBut _ _ D.i2z.symm (hs3.extBut _ _ D.TOz.symm (hs2.extBut _ _ D.i1z.symm hz1)))))
  have hk5 : ∀ c o,c ≠ z → c ≠ TO → c ≠ i1 → c ≠ i2 → c ≠ i3 → s.heap.get? c = some o → g7.get? c = some o := fun c o c1 c2 c3 c4 c5 e =>
    hs7.extBut _ _ c2 (hs6.extBut _ _ c5 (hs5.extBut _ _ c2 (hs4.extBut _ _ c4 (hs3.extBut _ _ c2 (hs2.extBut _ _ c3 (hs1.extBut _ _ c1 e))))))
  have e1 : g7.IsListIter i1 l1 (k + 1) := ((((q1.extBut hs3.extBut D.TOi1.symm).extBut hs4.extBut D.i12).extBut hs5.extBut D.TOi1.symm).extBut hs6.extBut D.i13).extBut hs7.extBut D.TOi1.symm
  have e2 : g7.IsListIter i2 l2 (k + 1) := ((q2.extBut hs5.extBut D.TOi2.symm).extBut hs6.extBut D.i23).extBut hs7.extBut D.TOi2.symm
  have e3 : g7.IsListIter i3 l3 (k + 1) := q3.extBut hs7.extBut D.TOi3.symm
  have hzlt : z < g7.objs.size := Heap.lt_size hz5
  show wpAny _ _ (Builtin.SmallTypes.ownedTupleHandOut (.ref z) (.ref g7.objs.size) >>= _) _ _ _
  refine wpAny_bind ?_
  unfold Builtin.SmallTypes.ownedTupleHandOut
  have hz6 : IsZip (g7.push { cls := .type "tuple", data := .seq #[x, y, w'] }) z TI TO .ellipsis := Heap.get?_push_of_some _ hz5
  refine wpAny_bind (wpAny_setField_rec hz6 (by simp) fun g8 hz8 hs8 => ?_)
  replace hz8 : IsZip g8 z TI TO (rawInt g7.objs.size) := hz8
  refine wpAny_setField_rec hz8 (by simp) fun g9 hz9 hs9 => ?_
  replace hz9 : IsZip g9 z TI TO (rawInt g7.objs.size) := hz9
  have up : ∀ c o,c ≠ z → g7.get? c = some o → g9.get? c = some o := fun c o c1 e => hs9.extBut _ _ c1 (hs8.extBut _ _ c1 (Heap.get?_push_of_some _ e))
  have hT9 : IsTri g9 g7.objs.size x y w' := hs9.extBut _ _ (Nat.ne_of_gt hzlt) (hs8.extBut _ _ (Nat.ne_of_gt hzlt) (Heap.get?_push_size _ rfl))
  have sz9 : g9.objs.size = g7.objs.size + 1 := by rw [hs9.1,hs8.1,Heap.size_push]
  rw [hsz] at hz9 hT9 sz9
  refine wpAny_pure ⟨_,rfl,?_⟩
  show Q (.ref g7.objs.size) _
  rw [hsz]
  exact hQ g9 hz9 (up _ _ D.TOz hTO7) (e1.at fun o e => up _ o D.i1z e) (e2.at fun o e => up _ o D.i2z e) (e3.at fun o e => up _ o D.i3z e) hT9 sz9 fun c o c1 c2 c3 c4 c5 e => up c o c1 (hk5 c o c1 c2 c3 c4 c5 e)
theorem zip_next_end3 {z TI TO i1 i2 i3 l1 l2 l3 : Addr} {k : Nat} {xs ys zs : Array Value} {a b c : Value} {Q : Fin → Shared → Prop} (hh : A.handled = none) (D : ZipApart3 z TI TO i1 i2 i3 l1 l2 l3)
    (hz : IsZip s.heap z TI TO .none) (hTI : IsTri s.heap TI (.ref i1) (.ref i2) (.ref i3)) (hTO : IsTri s.heap TO a b c)
    (h1 : s.heap.IsListIter i1 l1 k) (h2 : s.heap.IsListIter i2 l2 k) (h3 : s.heap.IsListIter i3 l3 k) (hl1 : s.heap.IsList l1 xs) (hl2 : s.heap.IsList l2 ys) (hl3 : s.heap.IsList l3 zs) (hx : xs[k]? = none)
    (hE : ∀ h' e, (∀ c o, c ≠ z → c ≠ TO → c ≠ i1 → c ≠ i2 → c ≠ i3 → s.heap.get? c = some o → h'.get? c = some o) → (∃ o, h'.get? e = some o ∧ o.cls = .type "StopIteration") → E (.ref e) { s with heap := h' }) :
    wpAny (model prog w) A (Builtin.«zip.__next__» ⟨[.ref z],[]⟩) Q E s := by
  show wpAny _ _ (field (.ref z) 2 >>= _) _ _ _
  refine wpAny_bind (wpAny_field hz rfl (x := .bool false) rfl ?_)
  show wpAny _ _ (field (.ref z) 3 >>= _) _ _ _
  refine wpAny_bind (wpAny_field hz rfl (x := .ref TI) rfl ?_)
  refine wpAny_bind (wpAny_seqItems hTI rfl ?_)
  show wpAny _ _ (Builtin.SmallTypes.ownedTupleIsFree (.ref z) >>= _) _ _ _
  refine wpAny_bind ?_
  unfold Builtin.SmallTypes.ownedTupleIsFree
  refine wpAny_bind (wpAny_field hz rfl (x := .none) rfl (wpAny_pure ?_))
  simp only [if_true]
  refine wpAny_bind (wpAny_rule ?_)
  refine wpAny_bind (wpAny_field hz rfl (x := .ref TO) rfl ?_)
  refine wpAny_bind (wpAny_setField_rec hz (by simp) fun g1 hz1 hs1 => ?_)
  replace hz1 : IsZip g1 z TI TO .ellipsis := hz1
  refine wpAny_bind ?_
  simp only [List.zipIdx_cons,List.zipIdx_nil,List.forIn_cons,List.forIn_nil]
  refine wpAny_bind (wpAny_bind (wpAny_onRaise ?_))
  show wpAny _ _ (Builtin.SmallTypes.nextOf (.ref i1) >>= _) _ _ _
  refine wpAny_bind (wpAny_nextOf_list_end hh (h1.extBut hs1.extBut D.i1z) (hl1.extBut hs1.extBut D.l1z) hx fun g2 e hs2 he => ?_)
  obtain ⟨oe,hoe,hce⟩ := he
  have hz2 : IsZip g2 z TI TO .ellipsis := hs2 _ _ D.i1z.symm hz1
  have hez : e ≠ z := fun x => by subst x; rw [hz2] at hoe; cases hoe; simp at hce
  exact wpAny_setField_rec hz2 (by simp) fun g3 _ hs3 => hE g3 e (fun c o c1 _ c3 _ _ x => hs3.extBut _ _ c1 (hs2 _ _ c3 (hs1.extBut _ _ c1 x))) ⟨oe,hs3.extBut _ _ hez hoe,hce⟩
theorem wpAny_pyNext_zip_item3 {z TI TO i1 i2 i3 l1 l2 l3 : Addr} {k : Nat} {xs ys zs : Array Value} {x y w' a b c : Value} {Q : Option Value → Shared → Prop} (D : ZipApart3 z TI TO i1 i2 i3 l1 l2 l3)
    (hz : IsZip s.heap z TI TO .none) (hTI : IsTri s.heap TI (.ref i1) (.ref i2) (.ref i3)) (hTO : IsTri s.heap TO a b c)
    (h1 : s.heap.IsListIter i1 l1 k) (h2 : s.heap.IsListIter i2 l2 k) (h3 : s.heap.IsListIter i3 l3 k) (hl1 : s.heap.IsList l1 xs) (hl2 : s.heap.IsList l2 ys) (hl3 : s.heap.IsList l3 zs) (hx : xs[k]? = some x) (hy : ys[k]? = some y) (hw : zs[k]? = some w')
    (hQ : ∀ h',IsZip h' z TI TO (rawInt s.heap.objs.size) → IsTri h' TO x y w' → h'.IsListIter i1 l1 (k + 1) → h'.IsListIter i2 l2 (k + 1) → h'.IsListIter i3 l3 (k + 1) → IsTri h' s.heap.objs.size x y w' → h'.objs.size = s.heap.objs.size + 1 →
      (∀ c o,c ≠ z → c ≠ TO → c ≠ i1 → c ≠ i2 → c ≠ i3 → s.heap.get? c = some o → h'.get? c = some o) → Q (some (.ref s.heap.objs.size)) { s with heap := h' }) :
    wpAny (model prog w) A (pyNext (.ref z)) Q E s := by
  have hT : s.TypeIs (.ref z) "zip" := ⟨_,hz,rfl⟩
  unfold pyNext
  exact wpAny_bind (wpAny_attempt (wpAny_callSpecial?_slot (name := Str.ofString "__next__") hT F.slot_zip_next
    (wpAny_call_entry F.slot_zip_next hT F.entry_zip_next
      (zip_next_item3 D hz hTI hTO h1 h2 h3 hl1 hl2 hl3 hx hy hw fun h' a1 a2 a3 a4 a5 a6 a7 a8 => wpAny_pure (hQ h' a1 a2 a3 a4 a5 a6 a7 a8)) (F.args_zip_next_1 _))))
theorem wpAny_pyNext_zip_end3 {z TI TO i1 i2 i3 l1 l2 l3 : Addr} {k : Nat} {xs ys zs : Array Value} {a b c : Value} {Q : Option Value → Shared → Prop} (hh : A.handled = none) (D : ZipApart3 z TI TO i1 i2 i3 l1 l2 l3)
    (hz : IsZip s.heap z TI TO .none) (hTI : IsTri s.heap TI (.ref i1) (.ref i2) (.ref i3)) (hTO : IsTri s.heap TO a b c)
    (h1 : s.heap.IsListIter i1 l1 k) (h2 : s.heap.IsListIter i2 l2 k) (h3 : s.heap.IsListIter i3 l3 k) (hl1 : s.heap.IsList l1 xs) (hl2 : s.heap.IsList l2 ys) (hl3 : s.heap.IsList l3 zs) (hx : xs[k]? = none)
    (hQ : ∀ h',(∀ c o,c ≠ z → c ≠ TO → c ≠ i1 → c ≠ i2 → c ≠ i3 → s.heap.get? c = some o → h'.get? c = some o) → Q none { s with heap := h' }) : wpAny (model prog w) A (pyNext (.ref z)) Q E s := by
  have hT : s.TypeIs (.ref z) "zip" := ⟨_,hz,rfl⟩
  unfold pyNext
  refine wpAny_bind (wpAny_attempt (wpAny_callSpecial?_slot (name := Str.ofString "__next__") hT F.slot_zip_next
    (wpAny_call_entry F.slot_zip_next hT F.entry_zip_next (zip_next_end3 hh D hz hTI hTO h1 h2 h3 hl1 hl2 hl3 hx fun h' e hk he => ?_) (F.args_zip_next_1 _))))
  obtain ⟨o,ho,hc⟩ := he
  refine wpAny_bind (wpAny_isInstance (T := "StopIteration") (b := true) ⟨o,ho,hc⟩ isSubtype_stop ?_)
  exact wpAny_pure (hQ _ hk)
end
abbrev zip3H1 (h : Heap) (l1 : Addr) : Heap := h.push { cls := .type "list_iterator",data := .fields #[.ref l1,.int 0 0] }
abbrev zip3H2 (h : Heap) (l1 l2 : Addr) : Heap := (zip3H1 h l1).push { cls := .type "list_iterator",data := .fields #[.ref l2,.int 0 0] }
abbrev zip3H3 (h : Heap) (l1 l2 l3 : Addr) : Heap := (zip3H2 h l1 l2).push { cls := .type "list_iterator",data := .fields #[.ref l3,.int 0 0] }
abbrev zip3H4 (h : Heap) (l1 l2 l3 : Addr) : Heap := (zip3H3 h l1 l2 l3).push { cls := .type "tuple",data := .seq #[.ref h.objs.size,.ref (zip3H1 h l1).objs.size,.ref (zip3H2 h l1 l2).objs.size] }
abbrev zip3H5 (h : Heap) (l1 l2 l3 : Addr) : Heap := (zip3H4 h l1 l2 l3).push { cls := .type "tuple",data := .seq #[.none,.none,.none] }
abbrev zip3H6 (h : Heap) (l1 l2 l3 : Addr) : Heap := (zip3H5 h l1 l2 l3).push { cls := .type "zip",data := .fields #[.none,.bool false,.bool false,.ref (zip3H3 h l1 l2 l3).objs.size,.ref (zip3H4 h l1 l2 l3).objs.size] }
theorem meets_zip_new3 (l1 l2 l3 : Addr) (xs ys zs : Array Value) :
    Meets (Builtin.«zip.__new__» ⟨[.type "zip",.ref l1,.ref l2,.ref l3],[]⟩) (fun _ R s => s.heap.IsList l1 xs ∧ s.heap.IsList l2 ys ∧ s.heap.IsList l3 zs ∧
      R (.ok (.ret (.ref (zip3H5 s.heap l1 l2 l3).objs.size))) { s with heap := zip3H6 s.heap l1 l2 l3 }) :=
  .of_wp fun prog w A R s h => by
    obtain ⟨hp,g,d,tk,os⟩ := s; obtain ⟨hl1,hl2,hl3,h⟩ := h
    have hsub := sub_zip
    have hL1 : Heap.IsList (Shared.heap ⟨hp,g,d,tk,os⟩) l1 xs := hl1
    have hL2 : Heap.IsList (Shared.heap ⟨hp.push { cls := .type "list_iterator",data := .fields #[.ref l1,.int 0 0] },g,d,tk,os⟩) l2 ys := Heap.IsList.push hl2 _
    have hL3 : Heap.IsList (Shared.heap ⟨(hp.push { cls := .type "list_iterator",data := .fields #[.ref l1,.int 0 0] }).push { cls := .type "list_iterator",data := .fields #[.ref l2,.int 0 0] },g,d,tk,os⟩) l3 zs := Heap.IsList.push (Heap.IsList.push hl3 _) _
    wp_walk using wpAny_pyIter_list hL1,wpAny_pyIter_list hL2,wpAny_pyIter_list hL3
    exact ⟨_,rfl,h⟩
section
variable {prog : Program} {w : World} {A : Around} {E : Value → Shared → Prop} {s : Shared}
theorem call_zip_3 {l1 l2 l3 : Addr} {xs ys zs : Array Value} {Q : Value → Shared → Prop} (hl1 : s.heap.IsList l1 xs) (hl2 : s.heap.IsList l2 ys) (hl3 : s.heap.IsList l3 zs)
    (h : ∀ h',IsZip h' (s.heap.objs.size + 5) (s.heap.objs.size + 3) (s.heap.objs.size + 4) .none → IsTri h' (s.heap.objs.size + 3) (.ref s.heap.objs.size) (.ref (s.heap.objs.size + 1)) (.ref (s.heap.objs.size + 2)) →
      IsTri h' (s.heap.objs.size + 4) .none .none .none → h'.IsListIter s.heap.objs.size l1 0 → h'.IsListIter (s.heap.objs.size + 1) l2 0 → h'.IsListIter (s.heap.objs.size + 2) l3 0 → h'.objs.size = s.heap.objs.size + 6 →
      (∀ c o,s.heap.get? c = some o → h'.get? c = some o) → Q (.ref (s.heap.objs.size + 5)) { s with heap := h' }) :
    wpAny (model prog w) A (call (.type "zip") [.ref l1,.ref l2,.ref l3]) Q E s := by
  refine callType_new F.called_zip (by decide) (F.typeCall_zip_3 _ _ _) (F.newCall_zip_3 _ _ _) (fun obj => F.args_object_init_4 obj _ _ _) F.entry_zip_new
    (meets_zip_new3 l1 l2 l3 xs ys zs) ⟨hl1,hl2,hl3,?_⟩
  have z1 : (zip3H1 s.heap l1).objs.size = s.heap.objs.size + 1 := Heap.size_push ..
  have z2 : (zip3H2 s.heap l1 l2).objs.size = s.heap.objs.size + 2 := by rw [Heap.size_push,z1]
  have z3 : (zip3H3 s.heap l1 l2 l3).objs.size = s.heap.objs.size + 3 := by rw [Heap.size_push,z2]
  have z4 : (zip3H4 s.heap l1 l2 l3).objs.size = s.heap.objs.size + 4 := by rw [Heap.size_push,z3]
  have z5 : (zip3H5 s.heap l1 l2 l3).objs.size = s.heap.objs.size + 5 := by rw [Heap.size_push,z4]
  have z6 : (zip3H6 s.heap l1 l2 l3).objs.size = s.heap.objs.size + 6 := by rw [Heap.size_push,z5]
  have g6 : (zip3H6 s.heap l1 l2 l3).get? (zip3H5 s.heap l1 l2 l3).objs.size = some _ := Heap.get?_push_size _ rfl
  have g5 : (zip3H6 s.heap l1 l2 l3).get? (zip3H4 s.heap l1 l2 l3).objs.size = some _ := Heap.get?_push_of_some _ (Heap.get?_push_size _ rfl)
  have g4 : (zip3H6 s.heap l1 l2 l3).get? (zip3H3 s.heap l1 l2 l3).objs.size = some _ := Heap.get?_push_of_some _ (Heap.get?_push_of_some _ (Heap.get?_push_size _ rfl))
  have g3 : (zip3H6 s.heap l1 l2 l3).get? (zip3H2 s.heap l1 l2).objs.size = some _ := Heap.get?_push_of_some _ (Heap.get?_push_of_some _ (Heap.get?_push_of_some _ (Heap.get?_push_size _ rfl)))
  have g2 : (zip3H6 s.heap l1 l2 l3).get? (zip3H1 s.heap l1).objs.size = some _ := Heap.get?_push_of_some _ (Heap.get?_push_of_some _ (Heap.get?_push_of_some _ (Heap.get?_push_of_some _ (Heap.get?_push_size _ rfl))))
  have g1 : (zip3H6 s.heap l1 l2 l3).get? s.heap.objs.size = some _ := Heap.get?_push_of_some _ (Heap.get?_push_of_some _ (Heap.get?_push_of_some _ (Heap.get?_push_of_some _ (Heap.get?_push_of_some _ (Heap.get?_push_size _ rfl)))))
  show _ ∧ _
  rw [z3,z4,z5] at g6
  rw [z4] at g5
  rw [z1,z2,z3] at g4
  rw [z2] at g3
  rw [z1] at g2
  rw [z5]
  exact ⟨⟨_,g6,rfl⟩,h _ g6 g4 g5 ⟨_,g1,rfl,rfl⟩ ⟨_,g2,rfl,rfl⟩ ⟨_,g3,rfl,rfl⟩ z6 fun c o x =>
    Heap.get?_push_of_some _ (Heap.get?_push_of_some _ (Heap.get?_push_of_some _ (Heap.get?_push_of_some _ (Heap.get?_push_of_some _ (Heap.get?_push_of_some _ x)))))⟩
end
end PySem
namespace L2
open PySem PySem.Spec PyProof.Rows
def Itz3 (l1 l2 l3 : Addr) : It :=
  ⟨fun i H => ∃ xs ys zs x y w,H l1 = some (.lst xs) ∧ H l2 = some (.lst ys) ∧ H l3 = some (.lst zs) ∧ xs[i]? = some x ∧ ys[i]? = some y ∧ zs[i]? = some w,
   fun i H v H' => ∃ p xs ys zs x y w,H p = none ∧ v = .ref p ∧ H' = upd H p (.tup [x,y,w]) ∧ H l1 = some (.lst xs) ∧ H l2 = some (.lst ys) ∧ H l3 = some (.lst zs) ∧ xs[i]? = some x ∧ ys[i]? = some y ∧ zs[i]? = some w,
   fun i H => ∃ xs ys zs,H l1 = some (.lst xs) ∧ H l2 = some (.lst ys) ∧ H l3 = some (.lst zs) ∧ xs.length ≤ i⟩
theorem turn_zip3 {P : Program} {w : World} {K : PySem.W.Frag} {es : List Expr} {kk : Nat} {tp : Pos} (l1 l2 l3 z TI TO i1 i2 i3 : Addr) (D : [z,TI,TO,i1,i2,i3].Nodup) :
    Turn P w K (.Tuple es kk tp) (Itz3 l1 l2 l3) [z,TI,TO,i1,i2,i3] z (fun i h => IsZip h z TI TO .none ∧ IsTri h TI (.ref i1) (.ref i2) (.ref i3) ∧ (∃ a b c,IsTri h TO a b c) ∧ h.IsListIter i1 l1 i ∧ h.IsListIter i2 l2 i ∧ h.IsListIter i3 l3 i) where
  mem := by simp
  obj := fun i h st b hb => by
    obtain ⟨a1,a2,⟨x,y,w0,a3⟩,⟨o4,a4,_,d4⟩,⟨o5,a5,_,d5⟩,⟨o6,a6,_,d6⟩⟩ := st
    simp only [List.mem_cons,List.not_mem_nil,or_false] at hb
    rcases hb with rfl | rfl | rfl | rfl | rfl | rfl
    · exact ⟨_,a1,fun v q => by cases q⟩
    · exact ⟨_,a2,fun v q => by cases q⟩
    · exact ⟨_,a3,fun v q => by cases q⟩
    · exact ⟨_,a4,fun v q => by rw [d4] at q; cases q⟩
    · exact ⟨_,a5,fun v q => by rw [d5] at q; cases q⟩
    · exact ⟨_,a6,fun v q => by rw [d6] at q; cases q⟩
  keep := fun i h h' st k => by
    obtain ⟨a1,a2,⟨x,y,w0,a3⟩,a4,a5,a6⟩ := st
    exact ⟨k z (by simp) _ a1,k TI (by simp) _ a2,⟨x,y,w0,k TO (by simp) _ a3⟩,a4.at fun o e => k i1 (by simp) o e,a5.at fun o e => k i2 (by simp) o e,a6.at fun o e => k i3 (by simp) o e⟩
  item := by
    intro X hP hw hK hc i pins s σ H E I hf st hg
    subst hP hw hK
    obtain ⟨a1,a2,⟨x0,y0,w0,a3⟩,a4,a5,a6⟩ := st
    obtain ⟨xs,ys,zz,x,y,w1,e1,e2,e3,ex,ey,ew⟩ := hg
    have tr : ∀ {l : Addr} {zs : List V},H l = some (.lst zs) → ∀ b ∈ [z,TI,TO,i1,i2,i3],l ≠ b := fun e b hb q => by rw [q,(hf b hb).1] at e; cases e
    have nd := D
    simp only [List.nodup_cons,List.mem_cons,List.not_mem_nil,or_false,not_or,List.nodup_nil,and_true,not_false_eq_true] at nd
    obtain ⟨⟨n1,n2,n3,n4,n11⟩,⟨n5,n6,n7,n12⟩,⟨n8,n9,n13⟩,⟨n10,n14⟩,n15⟩ := nd
    have A' : ZipApart3 z TI TO i1 i2 i3 l1 l2 l3 := ⟨Ne.symm n1,Ne.symm n2,Ne.symm n3,Ne.symm n4,Ne.symm n11,n5,n6,n8,n7,n9,n12,n13,n10,n14,n15,tr e1 z (by simp),tr e1 TO (by simp),tr e1 i1 (by simp),tr e1 i2 (by simp),tr e1 i3 (by simp),tr e2 z (by simp),tr e2 TO (by simp),tr e2 i1 (by simp),tr e2 i2 (by simp),tr e2 i3 (by simp),tr e3 z (by simp),tr e3 TO (by simp),tr e3 i1 (by simp),tr e3 i2 (by simp),tr e3 i3 (by simp)⟩
    obtain ⟨its1,rv1,p1,_⟩ := I.list (SqL.of e1)
    obtain ⟨its2,rv2,p2,_⟩ := I.list (SqL.of e2)
    obtain ⟨its3,rv3,p3,_⟩ := I.list (SqL.of e3)
    obtain ⟨u1,hu1,r1⟩ := rv1.get ex
    obtain ⟨u2,hu2,r2⟩ := rv2.get ey
    obtain ⟨u3,hu3,r3⟩ := rv3.get ew
    refine wpAny_pyNext_zip_item3 A' a1 a2 a3 a4 a5 a6 p1.isList p2.isList p3.isList (x := u1) (y := u2) (w' := u3) (by simpa using hu1) (by simpa using hu2) (by simpa using hu3) fun h' b1 b2 b3 b4 b4' b5 b6 bk => ⟨_,rfl,?_⟩
    refine wpAny_letOwnedTupleGo_zip b1 fun h'' c1 cs => ?_
    have zs : z < s.heap.objs.size := Heap.lt_size a1
    have k2 : ∀ b o,b ∉ [z,TI,TO,i1,i2,i3] → s.heap.get? b = some o → h''.get? b = some o := fun b o hb e => by
      simp only [List.mem_cons,List.not_mem_nil,or_false,not_or] at hb
      exact cs.extBut b o hb.1 (bk b o hb.1 hb.2.2.1 hb.2.2.2.1 hb.2.2.2.2.1 hb.2.2.2.2.2 e)
    have I1 : Inv X pins σ H { s with heap := h'' } := I.turnedN (t' := s.toks) hf k2
    have hp : h''.get? s.heap.objs.size = some { cls := .type "tuple", data := .seq #[u1, u2, u3] } := cs.extBut _ _ (Nat.ne_of_gt zs) b5
    have hn : H s.heap.objs.size = none := I.hok.fresh (Nat.le_refl _)
    have fpk := I.fpOk (H' := H) (Nat.le_refl _) hn
    have I2 : Inv X pins σ (upd H s.heap.objs.size (.tup [x,y,w1])) { s with heap := h'' } := I1.track fpk I.sz ⟨by show 3 ≤ sizeLine; decide,[u1,u2,u3],.cons r1 (.cons r2 (.cons r3 .nil)),_,hp,rfl,_,rfl⟩
    refine ⟨.ref s.heap.objs.size,_,I2,rfl,⟨_,xs,ys,zz,x,y,w1,hn,rfl,rfl,e1,e2,e3,ex,ey,ew⟩,⟨c1,?_,⟨u1,u2,u3,cs.extBut _ _ (Ne.symm n2) b2⟩,b3.extBut cs.extBut (Ne.symm n3),b4.extBut cs.extBut (Ne.symm n4),b4'.extBut cs.extBut (Ne.symm n11)⟩,fun b hb => ?_⟩
    · exact cs.extBut _ _ (Ne.symm n1) (bk _ _ (Ne.symm n1) n5 n6 n7 n12 a2)
    · have hbl : b < s.heap.objs.size := by
        simp only [List.mem_cons,List.not_mem_nil,or_false] at hb
        obtain ⟨o4,a4',_⟩ := a4
        obtain ⟨o5,a5',_⟩ := a5
        obtain ⟨o6,a6',_⟩ := a6
        rcases hb with rfl | rfl | rfl | rfl | rfl | rfl
        · exact zs
        · exact Heap.lt_size a2
        · exact Heap.lt_size a3
        · exact Heap.lt_size a4'
        · exact Heap.lt_size a5'
        · exact Heap.lt_size a6'
      rw [upd_ne (Nat.ne_of_lt hbl)]
      exact (hf b hb).1
  done := by
    intro X hP hw hK hc i pins s σ H E I hf st hg
    subst hP hw hK
    obtain ⟨a1,a2,⟨x0,y0,w0,a3⟩,a4,a5,a6⟩ := st
    obtain ⟨xs,ys,zs,e1,e2,e3,ex⟩ := hg
    have tr : ∀ {l : Addr} {zs : List V},H l = some (.lst zs) → ∀ b ∈ [z,TI,TO,i1,i2,i3],l ≠ b := fun e b hb q => by rw [q,(hf b hb).1] at e; cases e
    have nd := D
    simp only [List.nodup_cons,List.mem_cons,List.not_mem_nil,or_false,not_or,List.nodup_nil,and_true,not_false_eq_true] at nd
    obtain ⟨⟨n1,n2,n3,n4,n11⟩,⟨n5,n6,n7,n12⟩,⟨n8,n9,n13⟩,⟨n10,n14⟩,n15⟩ := nd
    have A' : ZipApart3 z TI TO i1 i2 i3 l1 l2 l3 := ⟨Ne.symm n1,Ne.symm n2,Ne.symm n3,Ne.symm n4,Ne.symm n11,n5,n6,n8,n7,n9,n12,n13,n10,n14,n15,tr e1 z (by simp),tr e1 TO (by simp),tr e1 i1 (by simp),tr e1 i2 (by simp),tr e1 i3 (by simp),tr e2 z (by simp),tr e2 TO (by simp),tr e2 i1 (by simp),tr e2 i2 (by simp),tr e2 i3 (by simp),tr e3 z (by simp),tr e3 TO (by simp),tr e3 i1 (by simp),tr e3 i2 (by simp),tr e3 i3 (by simp)⟩
    obtain ⟨its1,rv1,p1,_⟩ := I.list (SqL.of e1)
    obtain ⟨its2,rv2,p2,_⟩ := I.list (SqL.of e2)
    obtain ⟨its3,rv3,p3,_⟩ := I.list (SqL.of e3)
    have l1' := rv1.length
    have l2' := rv2.length
    refine wpAny_pyNext_zip_end3 (I.ok.hd hc) A' a1 a2 a3 a4 a5 a6 p1.isList p2.isList p3.isList (by simp; omega) fun h' bk => ⟨rfl,?_⟩
    exact I.turnedN (t' := s.toks) hf fun b o hb e => by
      simp only [List.mem_cons,List.not_mem_nil,or_false,not_or] at hb
      exact bk b o hb.1 hb.2.2.1 hb.2.2.2.1 hb.2.2.2.2.1 hb.2.2.2.2.2 e
  self := fun _ _ _ _ _ st h => wpAny_pyIter_zip st.1 h
def iZip3 (ta : TA) : TI := fun σ H R => ta σ H fun vs H1 => ∃ l1 l2 l3 xs ys zs,vs = [.ref l1,.ref l2,.ref l3] ∧ H1 l1 = some (.lst xs) ∧ H1 l2 = some (.lst ys) ∧ H1 l3 = some (.lst zs) ∧ R (Itz3 l1 l2 l3) H1
theorem pi_zip3 {X : Cx} {a b c : Expr} {ta : TA} {p pos tp : Pos} {es : List Expr} {kk : Nat} (hg : Gl X "zip") (hm : X.mg "zip" = none) (ha : PA X [a,b,c] ta)
    (hs : starEach [a,b,c] X.env = [(false,eval a X.env),(false,eval b X.env),(false,eval c X.env)] := by rfl) (hs2 : starEach [b,c] X.env = [(false,eval b X.env),(false,eval c X.env)] := by rfl) :
    PI X (.Tuple es kk tp) (.Call (.Name "zip" p) [a,b,c] [] pos) (iZip3 ta) := by
  intro pins s σ H R I h
  refine Call_ (ld_blt I hg hm PyProof.Rows.boot_zip (PyProof.Rows.callWith_type1 (thn (ha pos pins s σ H _ I h) fun us s1 ⟨vs,H1,I1,r1,q1⟩ => ?_) (by rw [hs,hs2]) (by rw [hs2]; rfl)))
  obtain ⟨l1,l2,l3,xs,ys,zs,rfl,e1,e2,e3,q⟩ := q1
  cases r1 with
  | cons r rr =>
    cases rr with
    | cons r' rr =>
      cases rr with
      | cons r'' rr =>
        cases rr
        cases r
        cases r'
        cases r''
        obtain ⟨its1,rv1,p1,_⟩ := I1.list (SqL.of e1)
        obtain ⟨its2,rv2,p2,_⟩ := I1.list (SqL.of e2)
        obtain ⟨its3,rv3,p3,_⟩ := I1.list (SqL.of e3)
        refine call_zip_3 p1.isList p2.isList p3.isList fun h' z1 z2 z3 z4 z5 z6 sz keep => ?_
        have I2 : Inv X pins σ H1 { s1 with heap := h' } := I1.kept (t' := s1.toks) keep
        refine wpAny_pyIter_zip z1 ⟨s1.heap.objs.size + 5,[s1.heap.objs.size + 5,s1.heap.objs.size + 3,s1.heap.objs.size + 4,s1.heap.objs.size,s1.heap.objs.size + 1,s1.heap.objs.size + 2],_,_,H1,rfl,I2,turn_zip3 l1 l2 l3 _ _ _ _ _ _ (by simp),⟨z1,z2,⟨_,_,_,z3⟩,z4,z5,z6⟩,fun b hb => ?_,q⟩
        have hb' : s1.heap.objs.size ≤ b := by
          simp only [List.mem_cons,List.not_mem_nil,or_false] at hb
          rcases hb with rfl | rfl | rfl | rfl | rfl | rfl <;> omega
        exact I1.fpOk hb' (I1.hok.fresh hb')
theorem for_zip3 {l1 l2 l3 : Addr} {xs ys zs : List V} {g : TG} {tb : TS} {D : Ends} {σ : St} {H : Hp} (Pv : Nat → St → Hp → Prop) (hn : xs.length = ys.length) (hn' : xs.length = zs.length) (h0 : Pv 0 σ H) (hk : ∀ i σ H',Pv i σ H' → H' l1 = some (.lst xs) ∧ H' l2 = some (.lst ys) ∧ H' l3 = some (.lst zs))
    (ht : ∀ i x y w p σ H,xs[i]? = some x → ys[i]? = some y → zs[i]? = some w → H p = none → Pv i σ H → g (.ref p) σ (upd H p (.tup [x,y,w])) fun σ2 H2 => tb { D with nx := Pv (i + 1),ct := Pv (i + 1),bk := D.nx } σ2 H2) (hd : ∀ σ H,Pv xs.length σ H → D.nx σ H) :
    ∃ W : Nat → Nat → St → Hp → Prop,(∃ m,W 0 m σ H) ∧ ∀ i m σ H,W i m σ H →
      ((Itz3 l1 l2 l3).stop i H ∧ D.nx σ H) ∨ ((Itz3 l1 l2 l3).go i H ∧ ∃ N : St → Hp → Prop,(∀ σ' H',N σ' H' → ∃ m',m' < m ∧ W (i + 1) m' σ' H') ∧ ∀ x H',(Itz3 l1 l2 l3).yld i H x H' → g x σ H' fun σ2 H2 => tb { D with nx := N,ct := N,bk := D.nx } σ2 H2) := by
  refine ⟨fun i m σ H => m = xs.length - i ∧ i ≤ xs.length ∧ Pv i σ H,⟨xs.length,by simp,Nat.zero_le _,h0⟩,?_⟩
  rintro i m σ H ⟨rfl,hi,p⟩
  obtain ⟨e1,e2,e3⟩ := hk i σ H p
  by_cases hlt : i < xs.length
  · refine .inr ⟨⟨xs,ys,zs,xs[i],ys[i]'(by omega),zs[i]'(by omega),e1,e2,e3,by simp [hlt],by simp [show i < ys.length by omega],by simp [show i < zs.length by omega]⟩,Pv (i + 1),fun σ' H' p' => ⟨xs.length - (i + 1),by omega,rfl,hlt,p'⟩,fun v H' y => ?_⟩
    obtain ⟨q,xs',ys',zs',x,y,w,hq,rfl,rfl,e1',e2',e3',ex,ey,ew⟩ := y
    rw [e1] at e1'; cases e1'
    rw [e2] at e2'; cases e2'
    rw [e3] at e3'; cases e3'
    exact ht i x y w q σ H ex ey ew hq p
  · have e : i = xs.length := by omega
    subst e
    exact .inl ⟨⟨xs,ys,zs,e1,e2,e3,Nat.le_refl _⟩,hd σ H p⟩
theorem op_notF {X : Cx} : OpR X (compareOp .IsNot) (fun x y H Q => y = .bl false ∧ ∃ b,x = .bl b ∧ Q (.bl b) H) := by
  intro pins s σ H x y v u Q I rx ry h
  obtain ⟨rfl,b,rfl,q⟩ := h
  cases ry
  cases rx
  unfold compareOp isSame
  cases b
  · exact wpAny_bind (wpAny_pure (wpAny_pure (fin_bl I q rfl)))
  · exact wpAny_bind (wpAny_pure (wpAny_pure (fin_bl I q rfl)))
end L2
set_option Elab.async false
set_option linter.all false
set_option maxRecDepth 100000
namespace Pc
open PySem L2
def top (i : Nat) : Stmt := PySem.Challenge.pw_platecuts_k64_whole_trees_weighed.main.body.getD i (.Pass ⟨0,0,0,0⟩)
abbrev sWhole : Stmt := top 11
abbrev sTruth : Stmt := top 12
abbrev sRow : Stmt := top 13
abbrev sCheckPlate : Stmt := top 14
abbrev sCheckSides : Stmt := top 15
abbrev sIsWeights : Stmt := top 18
abbrev sBestLength : Stmt := top 19
abbrev sLengthsBySteps : Stmt := top 20
abbrev sLoadOf : Stmt := top 21
abbrev sLiesIn : Stmt := top 23
abbrev sLyingsIn : Stmt := top 24
abbrev sCheckWeights : Stmt := top 27
abbrev sKindWeights : Stmt := top 28
abbrev sPlateLoad : Stmt := top 29
abbrev sBearsWorth : Stmt := top 30
abbrev sIsKind : Stmt := top 34
abbrev sTurned : Stmt := top 35
abbrev sShopInit : Stmt := inClass (top 36) 0
abbrev sShopBlade : Stmt := inClass (top 36) 1
abbrev sShopKinds : Stmt := inClass (top 36) 2
abbrev sShopWanted : Stmt := inClass (top 36) 3
abbrev sShopLyings : Stmt := inClass (top 36) 4
abbrev sShopIsLying : Stmt := inClass (top 36) 5
abbrev sShopSides : Stmt := inClass (top 36) 6
abbrev sCell : Stmt := top 38
abbrev sPot : Stmt := top 39
abbrev sDraw : Stmt := top 40
abbrev sGreat : Stmt := top 41
abbrev sWeights : Stmt := top 42
abbrev sBlade : Stmt := top 43
abbrev sSide : Stmt := top 44
abbrev sLain : Stmt := top 45
abbrev sWeighed : Stmt := top 46
abbrev sWorth : Stmt := top 47
abbrev sKinds : Stmt := top 48
abbrev sFitting : Stmt := top 49
abbrev sParts : Stmt := top 50
abbrev sCounts : Stmt := top 51
abbrev sMost : Stmt := top 52
abbrev sRight : Stmt := top 53
abbrev sLaw : Stmt := top 54
section
variable {P : Program} {w : World} {K : PySem.W.Frag} {mg : Str → Option Value} {base : Heap}
structure Blt (mg : Str → Option Value) : Prop where
  isi : mg "isinstance" = none
  int : mg "int" = none
  bool : mg "bool" = none
  list : mg "list" = none
  tuple : mg "tuple" = none
  len : mg "len" = none
  range : mg "range" = none
  max : mg "max" = none
  min : mg "min" = none
  abs : mg "abs" = none
  divmod : mg "divmod" = none
  sum : mg "sum" = none
  sorted : mg "sorted" = none
  all : mg "all" = none
  repr : mg "repr" = none
  zip : mg "zip" = none
  enumerate : mg "enumerate" = none
  mostk : ∃ t,mg "MOST_KINDS" = some (.int 8 t)
  fivek : ∃ t,mg "THINGS_OF_A_KIND" = some (.int 5 t)
theorem sccell : FnScope ["_law_script","_law_k"] ["_law_script","_law_k"] (defScope sCell) := ⟨rfl,rfl,rfl,by decide +kernel,rfl,by decide +kernel,by decide +kernel⟩
theorem ok_cell {f : Addr} {fd : FuncData} (F : Fun K "_law_cell" "_law_cell" sCell f fd) (B : Blt mg) : FnOk P w K mg base CX0 1 f fd ["_law_script","_law_k"] (spCell K) := by
  refine F.ok sccell (fun vs H Q E h => ?_) (fun cdv A outer s H vs Q E hr h => ?_)
  · obtain ⟨a,ns,n,rfl,_⟩ := h
    rfl
  obtain ⟨a,ns,n,rfl,hS,n0,q⟩ := h
  have nd := sccell.nd
  refine ⟨_,(@pss_cons _ _ _ _ _ (@ps_if _ _ _ _ _ _ _ _ (@pt_cmpR _ _ _ _ _ _ _ _ op_lt (pv 1) (@pe_callB _ _ _ _ _ _ _ _ _ call_len_seq rfl B.len PySem.boot_len (@pa_cons _ _ _ _ _ (pv 0) pa_nil rfl) (by decide) (by decide) rfl rfl) (nomark _)) (@pss_one _ _ _ (@ps_ret _ _ _ _ (@pe_ix _ _ _ _ _ _ _ ix_list (pv 0) (pv 1) (fun _ _ => rfl)))) pss_nil) (@pss_one _ _ _ (@ps_ret _ _ _ _ pe_int))),?_⟩
  have hl : (ns.map V.int).length = ns.length := List.length_map _
  refine ⟨_,rfl,_,rfl,a,_,rfl,.inl hS,_,_,rfl,rfl,_,rfl,?_⟩
  refine ite2 (fun c => ?_) (fun c => ?_)
  · have c' : n < ((ns.map V.int).length : Int) := of_decide_eq_true c
    rw [hl] at c'
    have hk : n.toNat < ns.length := by omega
    have hv : atI (ns.map V.int) n = some (.int ns[n.toNat]) := atI_int n0 (by rw [List.getElem?_map,List.getElem?_eq_getElem hk]; rfl)
    exact ⟨_,rfl,_,rfl,a,_,_,_,rfl,rfl,hS,hv,q _⟩
  · exact q _
theorem scpot : FnScope ["_law_cell_here"] ["_law_cell_here"] (defScope sPot) := ⟨rfl,rfl,rfl,by decide +kernel,rfl,by decide +kernel,by decide +kernel⟩
theorem ok_pot {f : Addr} {fd : FuncData} (F : Fun K "_law_pot" "_law_pot" sPot f fd) (B : Blt mg) : FnOk P w K mg base CX0 1 f fd ["_law_cell_here"] (spPotB) := by
  refine F.ok scpot (fun vs H Q E h => ?_) (fun cdv A outer s H vs Q E hr h => ?_)
  · obtain ⟨c,rfl,_⟩ := h
    rfl
  obtain ⟨c,rfl,q⟩ := h
  have nd := scpot.nd
  refine ⟨_,(@pss_one _ _ _ (@ps_ret _ _ _ _ (@pe_lst _ _ _ _ (@pa_cons _ _ _ _ _ (@pe_callB _ _ _ _ _ _ _ _ _ (call_max2 rfl) rfl B.max PyProof.Rows.boot_max (@pa_cons _ _ _ _ _ pe_int (@pa_cons _ _ _ _ _ (@pe_op _ _ _ _ _ _ _ _ op_sub (@pe_callB _ _ _ _ _ _ _ _ _ call_abs rfl B.abs PyProof.Rows.boot_abs (@pa_cons _ _ _ _ _ (pv 0) pa_nil rfl) (by decide) (by decide) rfl rfl) (@pe_op _ _ _ _ _ _ _ _ op_pow pe_int pe_int)) pa_nil rfl) rfl) (by decide) (by decide) rfl rfl) (@pa_cons _ _ _ _ _ (@pe_op _ _ _ _ _ _ _ _ op_add (@pe_op _ _ _ _ _ _ _ _ op_mod (@pe_callB _ _ _ _ _ _ _ _ _ call_abs rfl B.abs PyProof.Rows.boot_abs (@pa_cons _ _ _ _ _ (pv 0) pa_nil rfl) (by decide) (by decide) rfl rfl) pe_int) pe_int) pa_nil rfl) rfl)))),?_⟩
  refine ⟨_,rfl,_,rfl,_,_,rfl,rfl,⟨by decide,by decide,by decide⟩,_,_,rfl,rfl,_,_,rfl,_,rfl,_,rfl,_,_,rfl,rfl,(by show (0 : Int) < 2147483629; decide),_,_,rfl,rfl,(by show 2 ≤ sizeLine; decide),fun p hp => ?_⟩
  refine q p _ hp ⟨_,_,?_,?_,?_,upd_same⟩ (Same.new hp)
  · split <;> omega
  · have := Int.emod_nonneg (if c < 0 then -c else c) (show (2147483629 : Int) ≠ 0 by decide)
    omega
  · have := Int.emod_lt_of_pos (if c < 0 then -c else c) (show (0 : Int) < 2147483629 by decide)
    omega
theorem scdraw : FnScope ["_law_pot_here","_law_many","_law_digit"] ["_law_pot_here","_law_many"] (defScope sDraw) := ⟨rfl,rfl,rfl,by decide +kernel,rfl,by decide +kernel,by decide +kernel⟩
theorem ok_draw {f : Addr} {fd : FuncData} (F : Fun K "_law_draw" "_law_draw" sDraw f fd) (B : Blt mg) : FnOk P w K mg base CX0 1 f fd ["_law_pot_here","_law_many"] (spDrawB) := by
  refine F.ok scdraw (fun vs H Q E h => ?_) (fun cdv A outer s H vs Q E hr h => ?_)
  · obtain ⟨p,m,rfl,_⟩ := h
    rfl
  obtain ⟨p,m,rfl,⟨a,b,a0,b0,b1,hp⟩,m0,m1,q⟩ := h
  have nd := scdraw.nd
  refine ⟨_,(@pss_cons _ _ _ _ _ (@ps_if _ _ _ _ _ _ _ _ (@pt_cmpR _ _ _ _ _ _ _ _ op_gt (@pe_ix _ _ _ _ _ _ _ ix_list (pv 0) pe_int (fun _ _ => rfl)) pe_int (nomark _)) (@pss_cons _ _ _ _ _ (@ps_asg _ _ _ _ _ _ (@pe_callB _ _ _ _ _ _ _ _ _ call_divmodB rfl B.divmod PyProof.Rows.boot_divmod (@pa_cons _ _ _ _ _ (@pe_ix _ _ _ _ _ _ _ ix_list (pv 0) pe_int (fun _ _ => rfl)) (@pa_cons _ _ _ _ _ (pv 1) pa_nil rfl) rfl) (by decide) (by decide) rfl rfl) (pg_tup rfl (pgs_cons (pg_sub (pv 0) pe_int set_list) (pgs_cons (pg_name (i := 2) nd rfl (Or.inl rfl)) pgs_nil))) rfl rfl rfl) (@pss_one _ _ _ (@ps_ret _ _ _ _ (pv 2)))) pss_nil) (@pss_cons _ _ _ _ _ (@ps_asg _ _ _ _ _ _ (@pe_op _ _ _ _ _ _ _ _ op_mod (@pe_op _ _ _ _ _ _ _ _ op_add (@pe_op _ _ _ _ _ _ _ _ op_mul (@pe_ix _ _ _ _ _ _ _ ix_list (pv 0) pe_int (fun _ _ => rfl)) pe_int) pe_int) pe_int) (pg_sub (pv 0) pe_int set_list) rfl rfl rfl) (@pss_one _ _ _ (@ps_ret _ _ _ _ (@pe_op _ _ _ _ _ _ _ _ op_mod (@pe_op _ _ _ _ _ _ _ _ op_fdivB (@pe_op _ _ _ _ _ _ _ _ op_mod (@pe_op _ _ _ _ _ _ _ _ op_mul (@pe_ix _ _ _ _ _ _ _ ix_list (pv 0) pe_int (fun _ _ => rfl)) (@pe_ix _ _ _ _ _ _ _ ix_list (pv 0) pe_int (fun _ _ => rfl))) pe_int) pe_int) (pv 1)))))),?_⟩
  have at0 : atI [V.int a,V.int b] 0 = some (.int a) := rfl
  have at1 : atI [V.int a,V.int b] 1 = some (.int b) := rfl
  refine ⟨_,rfl,p,_,_,_,rfl,rfl,SqL.of hp,at0,_,_,rfl,rfl,_,rfl,?_⟩
  refine ite2 (fun c => ?_) (fun c => ?_)
  · have c' : 0 < a := of_decide_eq_true c
    refine ⟨_,rfl,p,_,_,_,rfl,rfl,SqL.of hp,at0,_,rfl,_,_,rfl,⟨m0,m1⟩,fun t ht => ?_⟩
    have npt : p ≠ t := ne_of_none hp ht
    have hp1 : (upd H t (.tup [.int (a / m),.int (a % m)])) p = some (.lst [.int a,.int b]) := by rw [upd_ne npt]; exact hp
    refine ⟨t,_,rfl,SqT.of upd_same,rfl,_,_,rfl,_,rfl,p,_,_,_,rfl,rfl,hp1,rfl,_,_,rfl,rfl,?_⟩
    refine ⟨_,rfl,q _ _ (Int.emod_nonneg _ (by omega)) (Int.emod_lt_of_pos _ m0) ⟨a / m,b,Int.ediv_nonneg a0 (by omega),b0,b1,upd_same⟩ ((But.new ht).trans But.upd)⟩
  · refine ⟨_,rfl,p,_,_,_,rfl,rfl,SqL.of hp,at1,_,_,rfl,rfl,.inr ⟨by decide,by decide⟩,_,_,rfl,rfl,_,_,rfl,rfl,(by show (0 : Int) < 2147483647; decide),_,rfl,p,_,_,_,rfl,rfl,hp,rfl,?_⟩
    have n0 : 0 ≤ (b * 48271 + 11) % 2147483647 := Int.emod_nonneg _ (by decide)
    have n1 : (b * 48271 + 11) % 2147483647 < 2147483647 := Int.emod_lt_of_pos _ (by decide)
    refine ⟨_,rfl,p,_,_,_,rfl,rfl,SqL.of upd_same,rfl,_,rfl,p,_,_,_,rfl,rfl,SqL.of upd_same,rfl,_,_,rfl,rfl,.inl ⟨by omega,by omega⟩,_,_,rfl,rfl,(by show (0 : Int) < 2147483629; decide),_,_,rfl,rfl,⟨by decide,by decide⟩,_,rfl,_,_,rfl,rfl,m0,?_⟩
    exact q _ _ (Int.emod_nonneg _ (by omega)) (Int.emod_lt_of_pos _ m0) ⟨a,_,a0,n0,by omega,upd_same⟩ But.upd
theorem scgreat : FnScope ["_law_pot_here"] ["_law_pot_here"] (defScope sGreat) := ⟨rfl,rfl,rfl,by decide +kernel,rfl,by decide +kernel,by decide +kernel⟩
theorem ok_great {f : Addr} {fd : FuncData} (F : Fun K "_law_great" "_law_great" sGreat f fd) (DD : Dn P w K mg base "_law_draw" ["_law_pot_here","_law_many"] 1 spDrawB) : FnOk P w K mg base CX0 2 f fd ["_law_pot_here"] (spGreat) := by
  refine F.ok scgreat (fun vs H Q E h => ?_) (fun cdv A outer s H vs Q E hr h => ?_)
  · obtain ⟨p,rfl,_⟩ := h
    rfl
  obtain ⟨p,rfl,pt,q⟩ := h
  have nd := scgreat.nd
  refine ⟨_,(@pss_one _ _ _ (@ps_ret _ _ _ _ (@pe_op _ _ _ _ _ _ _ _ op_mod (@pe_op _ _ _ _ _ _ _ _ op_mulB (@pe_cD _ _ _ _ _ _ _ _ _ _ DD hr rfl (@pa_cons _ _ _ _ _ (pv 0) (@pa_cons _ _ _ _ _ (@pe_op _ _ _ _ _ _ _ _ op_pow pe_int pe_int) pa_nil rfl) rfl) (by decide) rfl rfl) (@pe_op _ _ _ _ _ _ _ _ op_pow pe_int pe_int)) (@pe_op _ _ _ _ _ _ _ _ op_pow pe_int pe_int)))),?_⟩
  refine ⟨_,rfl,_,_,rfl,rfl,⟨by decide,by decide,by decide⟩,p,_,rfl,pt,(by show (0 : Int) < 10 ^ (58 : Int).toNat; decide),(by show (10 : Int) ^ (58 : Int).toNat ≤ 10 ^ 60; decide),fun r H' r0 r1 pt' b' => ?_⟩
  have r1' : r < 10 ^ 58 := r1
  refine ⟨_,_,rfl,rfl,⟨by decide,by decide,by decide⟩,_,_,rfl,rfl,⟨?_,by decide⟩,_,_,rfl,rfl,⟨by decide,by decide,by decide⟩,_,_,rfl,rfl,(by show (0 : Int) < 10 ^ (58 : Int).toNat; decide),?_⟩
  · have e : (10 : Int) ^ 58 < 2 ^ 4096 := by decide +kernel
    have e2 : (10 : Nat) ^ 58 < 2 ^ 4096 := by decide +kernel
    have : r.natAbs < 10 ^ 58 := by omega
    omega
  · exact q _ _ (Int.emod_nonneg _ (by decide)) (Int.emod_lt_of_pos _ (by decide)) pt' b' 
end
section
variable {P : Program} {w : World} {K : PySem.W.Frag} {mg : Str → Option Value} {base : Heap}
theorem scWhole : FnScope ["thing","least"] ["thing","least"] (defScope sWhole) := ⟨rfl,rfl,rfl,by decide +kernel,rfl,by decide +kernel,by decide +kernel⟩
theorem ok_whole {f : Addr} {fd : FuncData} (F : Fun K "is_whole" "is_whole" sWhole f fd) (B : Blt mg) : FnOk P w K mg base CX0 1 f fd ["thing","least"] (spWhole K) := by
  refine F.ok scWhole (fun vs H Q E h => ?_) (fun cdv A outer s H vs Q E hr h => ?_)
  · obtain ⟨x,T,l,rfl,_⟩ := h
    rfl
  obtain ⟨x,T,l,rfl,⟨tn,ty⟩,q⟩ := h
  refine ⟨_,pss_one (ps_ret (pe_and (pe_callB call_isinst rfl B.isi PyProof.Rows.boot_isinstance (pa_cons (pv 0) (pa_cons (pe_bltn (v := .ty "int") rfl B.int PyProof.Rows.boot_int rfl) pa_nil)))
    (pe_and (pe_not (pe_callB call_isinst rfl B.isi PyProof.Rows.boot_isinstance (pa_cons (pv 0) (pa_cons (pe_bltn (v := .ty "bool") rfl B.bool PyProof.Rows.boot_bool rfl) pa_nil))))
    (pe_one (pe_cmpR op_ge (pv 0) (pv 1) (nomark _)))))),?_⟩
  refine ⟨_,rfl,x,_,_,_,_,rfl,ty,rfl,kit_int T tn,_,rfl,?_⟩
  have tb := ty_bool ty
  refine ite2 (fun c => ?_) (fun c => ?_)
  · refine ⟨_,rfl,x,_,_,_,_,rfl,ty,rfl,kit_bool T tn,_,rfl,_,rfl,?_⟩
    refine ite2 (fun c2 => ?_) (fun c2 => ?_)
    · have hT : (T == "int") = true := by
        have : (T == "bool") = false := by simpa using c2
        rw [this,Bool.or_false] at c; exact c
      obtain ⟨i,rfl⟩ := ty_int ty tn hT
      exact ⟨_,rfl,_,rfl,_,_,rfl,rfl,q⟩
    · have hT : isBl x = true := by
        rw [← tb]
        cases e : (T == "bool") with
        | true => rfl
        | false => rw [e] at c2; exact absurd rfl c2
      cases x <;> first | exact q | (exact absurd hT Bool.false_ne_true)
  · have hx : whole x l = false := by
      cases x with
      | int i =>
        exfalso
        have ty' := ty
        generalize hv : Value.type T = tv at ty'
        cases ty' with
        | int => cases hv; exact c rfl
      | _ => rfl
    rw [hx] at q
    exact q
theorem scTruth : FnScope ["thing"] ["thing"] (defScope sTruth) := ⟨rfl,rfl,rfl,by decide +kernel,rfl,by decide +kernel,by decide +kernel⟩
theorem ok_truth {f : Addr} {fd : FuncData} (F : Fun K "is_truth" "is_truth" sTruth f fd) (B : Blt mg) : FnOk P w K mg base CX0 1 f fd ["thing"] (spTruth K) := by
  refine F.ok scTruth (fun vs H Q E h => ?_) (fun cdv A outer s H vs Q E hr h => ?_)
  · obtain ⟨x,T,rfl,_⟩ := h
    rfl
  obtain ⟨x,T,rfl,⟨tn,ty⟩,q⟩ := h
  refine ⟨_,pss_one (ps_ret (pe_callB call_isinst rfl B.isi PyProof.Rows.boot_isinstance (pa_cons (pv 0) (pa_cons (pe_bltn (v := .ty "bool") rfl B.bool PyProof.Rows.boot_bool rfl) pa_nil)))),?_⟩
  refine ⟨_,rfl,x,_,_,_,_,rfl,ty,rfl,kit_bool T tn,?_⟩
  rw [ty_bool ty]
  exact q
theorem scRow : FnScope ["thing"] ["thing"] (defScope sRow) := ⟨rfl,rfl,rfl,by decide +kernel,rfl,by decide +kernel,by decide +kernel⟩
theorem ok_row {f : Addr} {fd : FuncData} (F : Fun K "is_row" "is_row" sRow f fd) (B : Blt mg) : FnOk P w K mg base CX0 1 f fd ["thing"] (spRow K) := by
  refine F.ok scRow (fun vs H Q E h => ?_) (fun cdv A outer s H vs Q E hr h => ?_)
  · obtain ⟨x,T,rfl,_⟩ := h
    rfl
  obtain ⟨x,T,rfl,ty,q⟩ := h
  refine ⟨_,pss_one (ps_ret (pe_callB call_isinstT rfl B.isi PyProof.Rows.boot_isinstance (pa_cons (pv 0) (pa_cons (pe_tup (pa_cons (pe_bltn (v := .ty "list") rfl B.list PyProof.Rows.boot_list rfl) (pa_cons (pe_bltn (v := .ty "tuple") rfl B.tuple PyProof.Rows.boot_tuple rfl) pa_nil))) pa_nil)))),?_⟩
  refine ⟨_,rfl,(by show 2 ≤ sizeLine; decide),fun p hp => ?_⟩
  have s1 : Same H (upd H p (.tup [.ty "list",.ty "tuple"])) := fun b o e => by rw [upd_ne (ne_of_none e hp)]; exact e
  have t2 := Ty.same s1 ty
  exact ⟨x,p,_,_,_,_,rfl,t2.2,upd_same,rfl,kit_row T ty.1,q _ s1⟩
theorem scIsKind : FnScope ["thing","wide","high","worth","wanted","turns"] ["thing"] (defScope sIsKind) := ⟨rfl,rfl,rfl,by decide +kernel,rfl,by decide +kernel,by decide +kernel⟩
theorem ok_iskind {f : Addr} {fd : FuncData} (F : Fun K "is_kind" "is_kind" sIsKind f fd) (B : Blt mg) (DW : Dn P w K mg base "is_whole" ["thing","least"] 1 (spWhole K)) (DT : Dn P w K mg base "is_truth" ["thing"] 1 (spTruth K)) (DR : Dn P w K mg base "is_row" ["thing"] 1 (spRow K)) :
    FnOk P w K mg base CX0 2 f fd ["thing"] (spIsKind K) := by
  refine F.ok scIsKind (fun vs H Q E h => ?_) (fun cdv A outer s H vs Q E hr h => ?_)
  · obtain ⟨x,T,rfl,_⟩ := h
    rfl
  obtain ⟨x,T,rfl,ty,q⟩ := h
  obtain ⟨tk,htk⟩ := B.fivek
  have nd := scIsKind.nd
  refine ⟨_,pss_cons (ps_if (PW.pt (pw_or (pt_not (pt_val (pe_cD DR hr rfl (pa_cons (pv 0) pa_nil)))) (pw_or1 (pt_cmpR op_ne (pe_callB call_len_seq rfl B.len PySem.boot_len (pa_cons (pv 0) pa_nil)) (pe_glob (v := .int 5) rfl htk ⟨tk,rfl⟩) (nomark _))))) (pss_one (ps_ret pe_bl)) pss_nil)
    (pss_cons (ps_asg (pv 0) (pg_seq rfl (pgs_cons (pg_name (i := 1) nd rfl (Or.inl rfl)) (pgs_cons (pg_name (i := 2) nd rfl (Or.inl rfl)) (pgs_cons (pg_name (i := 3) nd rfl (Or.inl rfl)) (pgs_cons (pg_name (i := 4) nd rfl (Or.inl rfl)) (pgs_cons (pg_name (i := 5) nd rfl (Or.inl rfl)) pgs_nil)))))))
    (pss_cons (ps_if (PW.pt (pw_or (pt_not (pt_val (pe_cD DW hr rfl (pa_cons (pv 1) (pa_cons pe_int pa_nil))))) (pw_or1 (pt_not (pt_val (pe_cD DW hr rfl (pa_cons (pv 2) (pa_cons pe_int pa_nil)))))))) (pss_one (ps_ret pe_bl)) pss_nil)
    (pss_one (ps_ret (pe_and (pe_cD DW hr rfl (pa_cons (pv 3) (pa_cons pe_int pa_nil))) (pe_and (pe_cD DW hr rfl (pa_cons (pv 4) (pa_cons pe_int pa_nil))) (pe_one (pe_cD DT hr rfl (pa_cons (pv 5) pa_nil))))))))),?_⟩
  refine ⟨_,rfl,x,T,rfl,ty,fun H1 s1 => ⟨_,rfl,?_⟩⟩
  rcases q with ⟨n1,n2,q⟩ | ⟨a,xs,rfl,hx,its,q⟩
  · have e : (T == "list" || T == "tuple") = false := by simp [n1,n2]
    rw [e]
    refine iteT (iteT ?_)
    exact q H1 s1
  · have e : (T == "list" || T == "tuple") = true := by
      have t2 := ty.2
      generalize hv : Value.type T = tv at t2
      generalize hr : V.ref a = rv at t2
      cases t2 with
      | lst _ => cases hv; rfl
      | frz _ => cases hv; rfl
      | tup _ => cases hv; rfl
      | dK e => cases hr; rcases hx with z | z <;> (rw [z] at e; cases e)
      | dT e => cases hr; rcases hx with z | z <;> (rw [z] at e; cases e)
      | ins => cases hv
      | _ => cases hr
    rw [e]
    have sq : SqL K H1 a xs ∨ SqT K H1 a xs := by
      rcases hx with z | z
      · exact .inl (SqL.of (s1 _ _ z))
      · exact .inr (SqT.of (s1 _ _ z))
    refine iteF ⟨_,rfl,a,xs,rfl,sq,rfl,_,rfl,?_⟩
    refine ite2 (fun c => ?_) (fun c => ?_)
    · have hl : xs.length ≠ 5 := fun z => by rw [z] at c; exact absurd c (by decide)
      have : kind5 xs = false := by
        unfold kind5
        split
        · exact absurd rfl hl
        · rfl
      rw [this] at q
      exact q H1 s1
    · have hl : xs.length = 5 := by
        by_cases z : xs.length = 5
        · exact z
        · exfalso
          apply c
          have : ¬ (V.int (xs.length : Int) = V.int 5) := fun h => z (by have := V.int.inj h; omega)
          rw [decide_eq_false this]; rfl
      obtain ⟨x1,x2,x3,x4,x5,rfl⟩ : ∃ x1 x2 x3 x4 x5,xs = [x1,x2,x3,x4,x5] := by
        match xs,hl with
        | [a,b,c,d,e],_ => exact ⟨a,b,c,d,e,rfl⟩
      obtain ⟨T1,t1⟩ := its x1 (by simp)
      obtain ⟨T2,t2⟩ := its x2 (by simp)
      obtain ⟨T3,t3⟩ := its x3 (by simp)
      obtain ⟨T4,t4⟩ := its x4 (by simp)
      obtain ⟨T5,t5⟩ := its x5 (by simp)
      refine ⟨_,rfl,a,_,rfl,sq,rfl,x1,_,rfl,x2,_,rfl,x3,_,rfl,x4,_,rfl,x5,_,rfl,rfl,?_⟩
      refine ⟨_,rfl,x1,T1,1,rfl,Ty.same s1 t1,_,rfl,?_⟩
      have q' : ∀ b,kind5 [x1,x2,x3,x4,x5] = b → Q (.bl b) H1 := fun b e => by rw [← e]; exact q H1 s1
      have k5 : kind5 [x1,x2,x3,x4,x5] = (whole x1 1 && whole x2 1 && whole x3 0 && whole x4 0 && isBl x5) := rfl
      cases w1 : whole x1 1 with
      | false =>
        refine iteT (iteT ?_)
        exact q' false (by rw [k5,w1]; rfl)
      | true =>
        refine iteF ⟨_,rfl,x2,T2,1,rfl,Ty.same s1 t2,_,rfl,?_⟩
        cases w2 : whole x2 1 with
        | false =>
          refine iteT ?_
          exact q' false (by rw [k5,w1,w2]; rfl)
        | true =>
          refine iteF ⟨_,rfl,x3,T3,0,rfl,Ty.same s1 t3,_,rfl,?_⟩
          cases w3 : whole x3 0 with
          | false =>
            refine iteF ?_
            exact q' false (by rw [k5,w1,w2,w3]; rfl)
          | true =>
            refine iteT ⟨_,rfl,x4,T4,0,rfl,Ty.same s1 t4,_,rfl,?_⟩
            cases w4 : whole x4 0 with
            | false =>
              refine iteF ?_
              exact q' false (by rw [k5,w1,w2,w3,w4]; rfl)
            | true =>
              refine iteT ⟨_,rfl,x5,T5,rfl,Ty.same s1 t5,?_⟩
              exact q' _ (by rw [k5,w1,w2,w3,w4]; rfl)
end
section
variable {P : Program} {w : World} {K : PySem.W.Frag} {mg : Str → Option Value} {base : Heap}
theorem scInit : FnScope ["self","blade","kinds","kind"] ["self","blade","kinds"] (defScope sShopInit) := ⟨rfl,rfl,rfl,by decide +kernel,rfl,by decide +kernel,by decide +kernel⟩
theorem ok_init {f C : Addr} {fd : FuncData} (F : Fun K "__init__" "Shop.__init__" sShopInit f fd) (B : Blt mg) (T : ShopTxt K C) (DW : Dn P w K mg base "is_whole" ["thing","least"] 1 (spWhole K)) (DR : Dn P w K mg base "is_row" ["thing"] 1 (spRow K))
    (DK : Dn P w K mg base "is_kind" ["thing"] 2 (spIsKind K)) : FnOk P w K mg base CX0 3 f fd ["self","blade","kinds"] (spInit C) := by
  refine F.ok scInit (fun vs H Q E h => ?_) (fun cdv A outer s H vs Q E hr h => ?_)
  · obtain ⟨x,dx,ks,b,rs,kds,rfl,_⟩ := h
    rfl
  obtain ⟨x,dx,ks,b,rs,kds,rfl,hx,b0,hks,hrs,hgd,n1,n8,q⟩ := h
  have hr1 := hr.mono (show 1 ≤ 2 by decide)
  obtain ⟨tk,htk⟩ := B.mostk
  have nd := scInit.nd
  have n8' : (8 : Nat) < sizeLine := by decide
  refine ⟨_,pss_cons (ps_if (pt_not (pt_val (pe_cD DW hr1 rfl (pa_cons (pv 1) (pa_cons pe_int pa_nil))))) pss_never pss_nil)
    (pss_cons (ps_if (PW.pt (pw_or (pt_not (pt_val (pe_cD DR hr1 rfl (pa_cons (pv 2) pa_nil)))) (pw_or1 (pt_not (pt_chain op_le op_le pe_int (pe_callB call_len_seq rfl B.len PySem.boot_len (pa_cons (pv 2) pa_nil)) (pe_glob (v := .int 8) rfl htk ⟨tk,rfl⟩)))))) pss_never pss_nil)
    (pss_cons (ps_for PassesOwn.never rfl (pi_seq (pv 2)) (pg_name (i := 3) nd rfl (Or.inl rfl)) (pss_one (ps_if (pt_not (pt_val (pe_cD DK hr rfl (pa_cons (pv 3) pa_nil)))) pss_never pss_nil)))
    (pss_cons (ps_fld (pv 0) (pv 1) rfl)
    (pss_one (ps_fld (pv 0) (pe_callTy call_tuple_of rfl B.tuple PyProof.Rows.boot_tuple (pa_cons (pe_comp (own := ["kind"]) (cs := []) (cap := []) rfl (pi_seq (pv 2))
      (compOk_of (sc := defScope sShopInit) (N := ["self","blade","kinds","kind"]) rfl rfl (by decide +kernel))
      (fun _ _ _ _ _ => pg_name (i := 0) (by show List.Nodup (["kind"] : List Str); decide +kernel) rfl (Or.inl rfl) (Or.inr rfl)) (fun _ _ _ _ _ => pifs_nil)
      (fun _ _ _ _ _ => pe_callTy (r := rTupleOf K) call_tuple_of rfl B.tuple PyProof.Rows.boot_tuple (pa_cons (pv 0) pa_nil))) pa_nil)) rfl))))),?_⟩
  refine ⟨_,rfl,.int b,_,0,rfl,.int,_,rfl,?_⟩
  have wb : whole (.int b) 0 = true := decide_eq_true b0
  rw [wb]
  refine iteF ?_
  have tyk : ∃ T,Ty K H (.ref ks) T ∧ (T == "list" || T == "tuple") = true := by
    rcases hks with e | e
    · exact ⟨_,.lst e,rfl⟩
    · exact ⟨_,.tup e,rfl⟩
  obtain ⟨T0,ty0,te0⟩ := tyk
  refine ⟨_,rfl,.ref ks,T0,rfl,ty0,fun H1 s1 => ⟨_,rfl,?_⟩⟩
  rw [te0]
  have sq : ∀ {H2 : Hp},Same H H2 → SqL K H2 ks rs ∨ SqT K H2 ks rs := fun s2 => by
    rcases hks with z | z
    · exact .inl (SqL.of (s2 _ _ z))
    · exact .inr (SqT.of (s2 _ _ z))
  refine iteF ⟨_,rfl,ks,rs,rfl,sq s1,_,_,rfl,rfl,_,rfl,?_⟩
  rw [decide_eq_true (show (1 : Int) ≤ (rs.length : Int) by omega)]
  refine iteT ⟨_,_,rfl,rfl,_,rfl,?_⟩
  rw [decide_eq_true (show (rs.length : Int) ≤ 8 by omega)]
  refine iteF ?_
  have len2 := Paired.length hrs
  refine for_seqV (j := 2) (a := ks) (xs := rs) rfl (hks.imp (fun z => s1 _ _ z) fun z => s1 _ _ z) (fun i σ H2 => ∃ v,σ = [some (.ref x),some (.int b),some (.ref ks),v] ∧ Same H1 H2) ⟨none,rfl,Same.refl _⟩ (fun i σ H2 _ ⟨_,_,s2⟩ o e => s2 _ _ e) ?_ ?_
  · rintro i y σ H2 hi ⟨v,rfl,s2⟩
    obtain ⟨k,hk,rk⟩ := Paired.getR hrs hi
    refine ⟨_,rfl,?_⟩
    simp only [tNil,List.append_nil]
    refine isKind_of ((rk.same s1).same s2) (hgd k (List.mem_of_getElem? hk)) fun H3 s3 => ⟨_,rfl,iteF ?_⟩
    exact ⟨_,rfl,s2.trans s3⟩
  rintro σ H2 ⟨v,rfl,s12⟩
  have s2 : Same H H2 := s1.trans s12
  refine ⟨_,rfl,_,rfl,x,C,dx,[],rfl,s2 _ _ hx,T.cl,T.nB,(by show 0 < 1000; decide),?_⟩
  have k3 : ∀ c o,c ≠ x → H c = some o → (upd H2 x (.ins C dx (putF "blade_width" (.int b) []))) c = some o := fun c o n e => by rw [upd_ne n]; exact s2 c o e
  have x3 : (upd H2 x (.ins C dx (putF "blade_width" (.int b) []))) x = some (.ins C dx (putF "blade_width" (.int b) [])) := upd_same
  generalize upd H2 x (.ins C dx (putF "blade_width" (.int b) [])) = H3 at k3 x3 ⊢
  have rx : ∀ c xs,H c = some (.lst xs) ∨ H c = some (.tup xs) → c ≠ x := fun c xs e z => by
    subst z
    rcases e with e | e <;> (rw [hx] at e; cases e)
  dsimp only [sFld,tCB,tCons]
  refine comp_seqV (j := 2) (a := ks) (xs := rs) rfl (hks.imp (fun z => k3 _ _ (rx _ _ (.inl z)) z) fun z => k3 _ _ (rx _ _ (.inr z)) z) (fun i ys H4 => ys.length = i ∧ Same H3 H4 ∧ Tups H4 ys (kds.take i)) (fun i ys H4 _ ⟨_,s4,_⟩ o e => s4 _ _ e) ⟨rfl,Same.refl _,.nil⟩ ?_ ?_
  · rintro i y ys H4 hi ⟨hy,s4,ty4⟩
    have hin : i < rs.length := (List.getElem?_eq_some_iff.mp hi).1
    obtain ⟨k,hk,rk⟩ := Paired.getR hrs hi
    have tk1 : kds.take (i + 1) = kds.take i ++ [k] := by rw [List.take_add_one,hk]; rfl
    refine ⟨by omega,leS.set rfl,tYes_ite ?_⟩
    rcases rk with ⟨a,rfl,h⟩ | ⟨a,rfl,h⟩
    · have h4 := s4 _ _ (k3 _ _ (rx _ _ (.inr h)) h)
      exact ⟨_,rfl,a,_,rfl,.inr ⟨SqT.of h4,Nx.of hin ⟨by rw [List.length_append,hy]; rfl,s4,by rw [tk1]; exact Paired.snoc ty4 ⟨a,rfl,h4⟩⟩⟩⟩
    · have h4 := s4 _ _ (k3 _ _ (rx _ _ (.inl h)) h)
      refine ⟨_,rfl,a,_,rfl,.inl ⟨SqL.of h4,fun l hl => Nx.of hin ⟨by rw [List.length_append,hy]; rfl,fun c o e => ?_,?_⟩⟩⟩
      · have e4 := s4 c o e
        rw [upd_ne (ne_of_none e4 hl)]; exact e4
      · rw [tk1]
        exact Paired.snoc (Tups.keep (fun c xs e => by rw [upd_ne (ne_of_none e hl)]; exact e) ty4) ⟨l,rfl,upd_same⟩
  rintro ys H4 ⟨hy,s4,ty4⟩
  refine ⟨by omega,fun p hp => ?_⟩
  refine ⟨p,ys,rfl,.inl ⟨SqL.of upd_same,fun r hr' => ?_⟩⟩
  have hpr : r ≠ p := fun z => by rw [z,upd_same] at hr'; cases hr'
  have hr4 : H4 r = none := by rw [upd_ne hpr] at hr'; exact hr'
  have x4 := s4 _ _ x3
  have xp : x ≠ p := ne_of_none x4 hp
  have xr : x ≠ r := ne_of_none x4 hr4
  refine ⟨_,rfl,x,C,dx,_,rfl,(by rw [upd_ne xr,upd_ne xp]; exact x4),T.cl,T.nK,(Nat.lt_of_le_of_lt (length_putF _ _ _) (by decide)),?_⟩
  rw [len2,List.take_length] at ty4
  refine q _ ⟨dx,r,ys,upd_same,by rw [upd_ne (Ne.symm xr),upd_same],?_⟩ fun c o n e => ?_
  · refine Tups.keep (fun c xs e => ?_) ty4
    rw [upd_ne (fun z => by rw [z,x4] at e; cases e),upd_ne (ne_of_none e hr4),upd_ne (ne_of_none e hp)]
    exact e
  · have e4 := s4 _ _ (k3 c o n e)
    rw [upd_ne n,upd_ne (ne_of_none e4 hr4),upd_ne (ne_of_none e4 hp)]
    exact e4
theorem scBlade : FnScope ["self"] ["self"] (defScope sShopBlade) := ⟨rfl,rfl,rfl,by decide +kernel,rfl,by decide +kernel,by decide +kernel⟩
theorem ok_blade {f C : Addr} {fd : FuncData} (F : Fun K "blade" "Shop.blade" sShopBlade f fd) (T : ShopTxt K C) : FnOk P w K mg base CX0 1 f fd ["self"] (spBlade C) := by
  refine F.ok scBlade (fun vs H Q E h => ?_) (fun cdv A outer s H vs Q E hr h => ?_)
  · obtain ⟨x,b,ks,rfl,_⟩ := h
    rfl
  obtain ⟨x,b,ks,rfl,⟨dx,r,rs,h1,h2,h3⟩,q⟩ := h
  exact ⟨_,pss_one (ps_ret (pe_fld (pv 0) rfl)),_,rfl,x,C,dx,_,_,rfl,h1,T.cl,T.nB,flds_blade _ _,q⟩
theorem scKinds : FnScope ["self"] ["self"] (defScope sShopKinds) := ⟨rfl,rfl,rfl,by decide +kernel,rfl,by decide +kernel,by decide +kernel⟩
theorem ok_kinds {f C : Addr} {fd : FuncData} (F : Fun K "kinds" "Shop.kinds" sShopKinds f fd) (T : ShopTxt K C) (ml : mg "list" = none) : FnOk P w K mg base CX0 1 f fd ["self"] (spKinds C) := by
  refine F.ok scKinds (fun vs H Q E h => ?_) (fun cdv A outer s H vs Q E hr h => ?_)
  · obtain ⟨x,b,ks,rfl,_⟩ := h
    rfl
  obtain ⟨x,b,ks,rfl,⟨dx,r,rs,h1,h2,h3⟩,q⟩ := h
  refine ⟨_,pss_one (ps_ret (pe_callTy call_list_of rfl ml PyProof.Rows.boot_list (pa_cons (pe_fld (pv 0) rfl) pa_nil))),?_⟩
  exact ⟨_,rfl,x,C,dx,_,_,rfl,h1,T.cl,T.nK,flds_rows _ _,r,rs,rfl,.inr (SqT.of h2),fun l hl => q l rs hl h3⟩
end
section
variable {P : Program} {w : World} {K : PySem.W.Frag} {mg : Str → Option Value} {base : Heap}
theorem scTurned : FnScope ["kind"] ["kind"] (defScope sTurned) := ⟨rfl,rfl,rfl,by decide +kernel,rfl,by decide +kernel,by decide +kernel⟩
theorem ok_turned {f : Addr} {fd : FuncData} (F : Fun K "can_lie_turned" "can_lie_turned" sTurned f fd) : FnOk P w K mg base CX0 1 f fd ["kind"] (spTurned K) := by
  refine F.ok scTurned (fun vs H Q E h => ?_) (fun cdv A outer s H vs Q E hr h => ?_)
  · obtain ⟨a,k,rfl,_⟩ := h
    rfl
  obtain ⟨a,k,rfl,ha,q⟩ := h
  refine ⟨_,pss_one (ps_ret (pe_and (pe_ix ix_tup (pv 0) pe_int (fun _ _ => rfl)) (pe_one (pe_cmpR op_ne (pe_ix ix_tup (pv 0) pe_int (fun _ _ => rfl)) (pe_ix ix_tup (pv 0) pe_int (fun _ _ => rfl)) (nomark _))))),?_⟩
  refine ⟨_,rfl,a,_,4,_,rfl,rfl,SqT.of ha,rfl,_,rfl,?_⟩
  unfold turnable at q
  refine ite2 (fun c => ?_) (fun c => ?_)
  · rw [c,Bool.true_and] at q
    refine ⟨_,rfl,a,_,0,_,rfl,rfl,SqT.of ha,rfl,_,rfl,a,_,1,_,rfl,rfl,SqT.of ha,rfl,rfl,?_⟩
    rw [dec_int]
    rw [show (decide (k.w = k.h)) = (k.w == k.h) from rfl] at q
    exact q
  · have c' : k.tu = false := by simpa using c
    rw [c',Bool.false_and] at q
    exact q
theorem scLyings : FnScope ["self","told","number","kind"] ["self"] (defScope sShopLyings) := ⟨rfl,rfl,rfl,by decide +kernel,rfl,by decide +kernel,by decide +kernel⟩
theorem ok_lyings {f C : Addr} {fd : FuncData} (F : Fun K "lyings" "Shop.lyings" sShopLyings f fd) (T : ShopTxt K C) (me : mg "enumerate" = none) (DT : Dn P w K mg base "can_lie_turned" ["kind"] 1 (spTurned K)) :
    FnOk P w K mg base CX0 2 f fd ["self"] (spLyings C) := by
  refine F.ok scLyings (fun vs H Q E h => ?_) (fun cdv A outer s H vs Q E hr h => ?_)
  · obtain ⟨x,b,ks,rfl,_⟩ := h
    rfl
  obtain ⟨x,b,ks,rfl,⟨dx,r,rs,h1,h2,h3⟩,n8,q⟩ := h
  have nd := scLyings.nd
  refine ⟨_,pss_cons (ps_set (i := 1) nd rfl (Or.inl rfl) (pe_lst pa_nil))
    (pss_cons (ps_for PassesOwn.never rfl (pi_enum rfl me (pa_cons (pe_fld (pv 0) rfl) pa_nil)) (pg_tup rfl (pgs_cons (pg_name (i := 2) nd rfl (Or.inl rfl)) (pgs_cons (pg_name (i := 3) nd rfl (Or.inl rfl)) pgs_nil)))
      (pss_cons (ps_expr (pe_bm PySem.F.plainAttrs_list PySem.F.slot_list_append PySem.F.type_list_append mt_append (pv 1) (pa_cons (pe_tup (pa_cons (pv 2) (pa_cons pe_bl pa_nil))) pa_nil)))
      (pss_one (ps_if (pt_val (pe_cD DT hr rfl (pa_cons (pv 3) pa_nil)))
        (pss_one (ps_expr (pe_bm PySem.F.plainAttrs_list PySem.F.slot_list_append PySem.F.type_list_append mt_append (pv 1) (pa_cons (pe_tup (pa_cons (pv 2) (pa_cons pe_bl pa_nil))) pa_nil)))) pss_nil))))
    (pss_one (ps_ret (pv 1)))),?_⟩
  refine ⟨by decide,fun l hl => ?_⟩
  have s1 : Same H (upd H l (.lst [])) := Same.new hl
  have l1 : (upd H l (.lst ([] : List V))) l = some (.lst []) := upd_same
  generalize upd H l (.lst ([] : List V)) = H1 at s1 l1 ⊢
  have len3 := Paired.length h3
  have n8' : (100 : Nat) < sizeLine := by decide
  refine ⟨_,rfl,x,C,dx,_,_,rfl,s1 _ _ h1,T.cl,T.nK,flds_rows _ _,r,rs,rfl,.inr ⟨s1 _ _ h2,?_⟩⟩
  refine for_enum (f := HO.tup) (fun _ _ e => HO.tup.inj e) (xs := rs) (fun i σ H2 => ∃ v2 v3 ys,σ = [some (.ref x),some (.ref l),v2,v3] ∧ Same H H2 ∧ H2 l = some (.lst ys) ∧ Lys H2 ys (lyK (ks.take i) 0)) ⟨none,none,[],rfl,s1,l1,.nil⟩
    (fun i σ H2 ⟨_,_,_,_,s2,_⟩ => s2 _ _ h2) ?_ ?_
  · rintro i y p σ H2 hi hp ⟨v2,v3,ys,rfl,s2,l2,y2⟩
    obtain ⟨k,hk,a,rfl,ha⟩ := Paired.getR h3 hi
    have s3 : Same H (upd H2 p (.tup [.int i,.ref a])) := s2.trans (Same.new hp)
    have l3 : (upd H2 p (.tup [.int (i : Int),.ref a])) l = some (.lst ys) := by rw [upd_ne (ne_of_none l2 hp)]; exact l2
    have y3 : Lys (upd H2 p (.tup [.int (i : Int),.ref a])) ys (lyK (ks.take i) 0) := Lys.keep (fun c xs e => by rw [upd_ne (ne_of_none e hp)]; exact e) y2
    have p3 : (upd H2 p (.tup [.int (i : Int),.ref a])) p = some (.tup [.int (i : Int),.ref a]) := upd_same
    generalize upd H2 p (.tup [.int (i : Int),.ref a]) = H3 at s3 l3 y3 p3 ⊢
    have hli : i < ks.length := (List.getElem?_eq_some_iff.mp hk).1
    have ylen : ys.length ≤ 16 := by
      have e1 := Paired.length y2
      have e2 := lyK_len (ks.take i) 0
      rw [List.length_take] at e2
      omega
    have tk1 : lyK (ks.take (i + 1)) 0 = lyK (ks.take i) 0 ++ lyT i k := by
      rw [List.take_add_one,hk]
      show lyK (ks.take i ++ [k]) 0 = _
      rw [lyK_snoc,List.length_take,Nat.zero_add,Nat.min_eq_left (Nat.le_of_lt hli)]
    refine ⟨p,_,rfl,SqT.of p3,rfl,_,_,rfl,_,_,rfl,rfl,?_⟩
    refine ⟨_,rfl,.inl ⟨rfl,_,SqL.of l3⟩,_,rfl,(by show 2 ≤ sizeLine; decide),fun t ht => ?_⟩
    have lt : l ≠ t := ne_of_none l3 ht
    refine ⟨l,ys,_,rfl,rfl,(by rw [upd_ne lt]; exact l3),(by omega),?_⟩
    obtain ⟨s4,l4,y4⟩ := ly_put (b := false) hl s3 l3 y3 ht
    generalize upd (upd H3 t (.tup [.int (i : Int),.bl false])) l (.lst (ys ++ [.ref t])) = H4 at s4 l4 y4 ⊢
    refine ⟨_,rfl,a,k,rfl,s4 _ _ ha,_,rfl,?_⟩
    refine ite2 (fun c => ?_) (fun c => ?_)
    · refine ⟨_,rfl,.inl ⟨rfl,_,SqL.of l4⟩,_,rfl,(by show 2 ≤ sizeLine; decide),fun t' ht' => ?_⟩
      have lt' : l ≠ t' := ne_of_none l4 ht'
      refine ⟨l,_,_,rfl,rfl,(by rw [upd_ne lt']; exact l4),(by rw [List.length_append]; show ys.length + 1 < sizeLine; omega),?_⟩
      obtain ⟨s5,l5,y5⟩ := ly_put (b := true) hl s4 l4 y4 ht'
      refine ⟨_,_,_,rfl,s5,l5,?_⟩
      rw [tk1]
      unfold lyT
      rw [if_pos c]
      rw [show lyK (ks.take i) 0 ++ [(i,false),(i,true)] = lyK (ks.take i) 0 ++ [(i,false)] ++ [(i,true)] by simp]
      exact y5
    · refine ⟨_,_,_,rfl,s4,l4,?_⟩
      rw [tk1]
      unfold lyT
      rw [if_neg c]
      exact y4
  · rintro σ H2 ⟨v2,v3,ys,rfl,s2,l2,y2⟩
    rw [len3,List.take_length] at y2
    exact ⟨_,rfl,q l ys H2 hl l2 y2 s2⟩
theorem scIsLying : FnScope ["self","kind","turned"] ["self","kind","turned"] (defScope sShopIsLying) := ⟨rfl,rfl,rfl,by decide +kernel,rfl,by decide +kernel,by decide +kernel⟩
theorem ok_islying {f C : Addr} {fd : FuncData} (F : Fun K "is_lying" "Shop.is_lying" sShopIsLying f fd) (B : Blt mg) (T : ShopTxt K C) (DW : Dn P w K mg base "is_whole" ["thing","least"] 1 (spWhole K)) (DU : Dn P w K mg base "is_truth" ["thing"] 1 (spTruth K)) (DT : Dn P w K mg base "can_lie_turned" ["kind"] 1 (spTurned K)) :
    FnOk P w K mg base CX0 2 f fd ["self","kind","turned"] (spIsLying K C) := by
  refine F.ok scIsLying (fun vs H Q E h => ?_) (fun cdv A outer s H vs Q E hr h => ?_)
  · obtain ⟨s,b,ks,x,t,T0,U,rfl,_⟩ := h
    rfl
  obtain ⟨s,b,ks,x,t,T0,U,rfl,⟨dx,r,rs,h1,h2,h3⟩,tx,tt,q⟩ := h
  have len3 := Paired.length h3
  refine ⟨_,pss_cons (ps_if (PW.pt (pw_or (pt_not (pt_val (pe_cD DW hr rfl (pa_cons (pv 1) (pa_cons pe_int pa_nil))))) (pw_or (pt_cmpR op_ge (pv 1) (pe_callB call_len_seq rfl B.len PySem.boot_len (pa_cons (pe_fld (pv 0) rfl) pa_nil)) (nomark _))
      (pw_or1 (pt_not (pt_val (pe_cD DU hr rfl (pa_cons (pv 2) pa_nil)))))))) (pss_one (ps_ret pe_bl)) pss_nil)
    (pss_one (ps_ret (pe_or (pe_not (pv 2)) (pe_one (pe_cD DT hr rfl (pa_cons (pe_ix ix_tup (pe_fld (pv 0) rfl) (pv 1) (fun _ _ => rfl)) pa_nil)))))),?_⟩
  refine ⟨_,rfl,x,_,0,rfl,tx,_,rfl,?_⟩
  cases hw : whole x 0 with
  | false =>
    have e : isLy ks x t = false := by
      cases x with
      | int i =>
        have h0 : decide (0 ≤ i) = false := hw
        cases t <;> first | rfl | (show (decide (0 ≤ i) && _) = false; rw [h0,Bool.false_and])
      | _ => rfl
    rw [e] at q
    exact iteT (iteT q)
  | true =>
    have ex : ∃ i,x = .int i ∧ 0 ≤ i := by
      cases x with
      | int i => exact ⟨i,rfl,of_decide_eq_true hw⟩
      | _ => cases hw
    obtain ⟨i,rfl,i0⟩ := ex
    refine iteF ⟨_,rfl,_,rfl,s,C,dx,_,_,rfl,h1,T.cl,T.nK,flds_rows _ _,r,rs,rfl,.inr (SqT.of h2),i,_,rfl,rfl,_,rfl,?_⟩
    by_cases hi : (rs.length : Int) ≤ i
    · rw [decide_eq_true hi]
      have e : isLy ks (.int i) t = false := by
        have hn : ks[i.toNat]? = none := List.getElem?_eq_none (by omega)
        cases t <;> first | rfl | (show (decide (0 ≤ i) && match ks[i.toNat]? with | some k => _ | none => false) = false; rw [hn,Bool.and_false])
      rw [e] at q
      exact iteT (iteT q)
    · rw [decide_eq_false hi]
      refine iteF ⟨_,rfl,t,_,rfl,tt,_,rfl,?_⟩
      have hlt : i.toNat < ks.length := by omega
      cases hb : isBl t with
      | false =>
        have e : isLy ks (.int i) t = false := by cases t <;> first | rfl | cases hb
        rw [e] at q
        exact iteT q
      | true =>
        have ex : ∃ c,t = .bl c := by cases t <;> first | exact ⟨_,rfl⟩ | cases hb
        obtain ⟨c,rfl⟩ := ex
        obtain ⟨y,hy⟩ : ∃ y,rs[i.toNat]? = some y := ⟨rs[i.toNat]'(by omega),by simp [show i.toNat < rs.length by omega]⟩
        obtain ⟨k,hk,a,rfl,ha⟩ := Paired.getR h3 hy
        have e : isLy ks (.int i) (.bl c) = (!c || turnable k) := by
          show (decide (0 ≤ i) && match ks[i.toNat]? with | some k => (!c || turnable k) | none => false) = _
          rw [hk,decide_eq_true i0,Bool.true_and]
        rw [e] at q
        refine iteF ⟨_,rfl,c,rfl,_,rfl,?_⟩
        refine ite2 (fun d => ?_) (fun d => ?_)
        · rw [d,Bool.true_or] at q
          exact q
        · have d' : (!c) = false := by simpa using d
          rw [d',Bool.false_or] at q
          have at' : atI rs i = some (.ref a) := by
            have en : ixN rs.length i = some i.toNat := by
              unfold ixN
              rw [if_pos i0,if_pos (by omega)]
            unfold atI
            rw [en]
            exact hy
          exact ⟨_,rfl,s,C,dx,_,_,rfl,h1,T.cl,T.nK,flds_rows _ _,_,rfl,r,rs,i,_,rfl,rfl,SqT.of h2,at',a,k,rfl,ha,q⟩
end
section
variable {P : Program} {w : World} {K : PySem.W.Frag} {mg : Str → Option Value} {base : Heap}
def ws60 (xs : List V) : Bool := decide (1 ≤ xs.length) && decide (xs.length ≤ 60) && xs.all (fun y => whole y 0)
def spIsW (K : PySem.W.Frag) : Sp := fun vs H Q _ => ∃ (x : V) (T : String),vs = [x] ∧ Ty K H x T ∧
  ((T ≠ "list" ∧ T ≠ "tuple" ∧ ∀ H', Same H H' → Q (.bl false) H') ∨ ∃ (a : Addr) (xs : List V), x = .ref a ∧ (H a = some (.lst xs) ∨ H a = some (.tup xs)) ∧ (∀ y ∈ xs, ∃ U, Ty K H y U) ∧ ∀ H', Same H H' → Q (.bl (ws60 xs)) H')
theorem ty_row {K : PySem.W.Frag} {H : Hp} {a : Addr} {xs : List V} {T : String} (ty : Ty K H (.ref a) T) (hx : H a = some (.lst xs) ∨ H a = some (.tup xs)) : (T == "list" || T == "tuple") = true := by
  have t2 := ty.2
  generalize hv : Value.type T = tv at t2
  generalize hr : V.ref a = rv at t2
  cases t2 with
  | lst _ => cases hv; rfl
  | frz _ => cases hv; rfl
  | tup _ => cases hv; rfl
  | dK e => cases hr; rcases hx with z | z <;> (rw [z] at e; cases e)
  | dT e => cases hr; rcases hx with z | z <;> (rw [z] at e; cases e)
  | ins => cases hv
  | _ => cases hr
theorem scisw : FnScope ["thing"] ["thing"] (defScope sIsWeights) := ⟨rfl,rfl,rfl,by decide +kernel,rfl,by decide +kernel,by decide +kernel⟩
theorem ok_isw {f : Addr} {fd : FuncData} (F : Fun K "is_weights" "is_weights" sIsWeights f fd) (B : Blt mg) (mw : ∃ t,mg "MOST_WEIGHTS" = some (.int 60 t)) (DW : Dn P w K mg base "is_whole" ["thing","least"] 1 (spWhole K)) (DR : Dn P w K mg base "is_row" ["thing"] 1 (spRow K)) : FnOk P w K mg base CX0 2 f fd ["thing"] (spIsW K) := by
  refine F.ok scisw (fun vs H Q E h => ?_) (fun cdv A outer s H vs Q E hr h => ?_)
  · obtain ⟨x,T,rfl,_⟩ := h
    rfl
  obtain ⟨x,T,rfl,ty,q⟩ := h
  have nd := scisw.nd
  obtain ⟨tk,htk⟩ := mw
  refine ⟨_,(@pss_cons _ _ _ _ _ (@ps_if _ _ _ _ _ _ _ _ (PW.pt (pw_or (@pt_not _ _ _ _ (@pt_val _ _ _ (@pe_cD _ _ _ _ _ _ _ _ _ _ DR hr rfl (@pa_cons _ _ _ _ _ (pv 0) pa_nil rfl) (by decide) rfl rfl) (by intro _; rfl))) (pw_or1 (@pt_not _ _ _ _ (pt_chain op_le op_le pe_int (@pe_callB _ _ _ _ _ _ _ _ _ call_len_seq rfl B.len PySem.boot_len (@pa_cons _ _ _ _ _ (pv 0) pa_nil rfl) (by decide) (by decide) rfl rfl) (pe_glob (v := .int 60) rfl htk ⟨tk,rfl⟩)))))) (@pss_one _ _ _ (@ps_ret _ _ _ _ pe_bl)) pss_nil) (@pss_one _ _ _ (@ps_ret _ _ _ _ (@pe_callB _ _ _ _ _ _ _ _ _ (call_allB rfl) rfl B.all PyProof.Rows.boot_all (@pa_cons _ _ _ _ _ (pe_comp (own := ["weight"]) (cs := []) (cap := []) rfl (pi_seq (pv 0)) (compOk_of (sc := defScope sIsWeights) (N := ["thing"]) rfl rfl (by decide +kernel)) (fun _ _ _ _ _ => pg_name (i := 0) (by show List.Nodup (["weight"] : List Str) ; decide +kernel) rfl (Or.inl rfl) (Or.inr rfl)) (fun _ _ _ _ _ => pifs_nil) (fun _ _ _ _ _ => (@pe_cD _ _ _ _ _ _ _ _ _ _ DW hr rfl (@pa_cons _ _ _ _ _ (pv 0) (@pa_cons _ _ _ _ _ pe_int pa_nil rfl) rfl) (by decide) rfl rfl))) pa_nil rfl) (by decide) (by decide) rfl rfl)))),?_⟩
  refine ⟨_,rfl,x,T,rfl,ty,fun H1 s1 => ⟨_,rfl,?_⟩⟩
  rcases q with ⟨n1,n2,q⟩ | ⟨a,xs,rfl,hx,its,q⟩
  · have e : (T == "list" || T == "tuple") = false := by simp [n1,n2]
    rw [e]
    refine iteT (iteT ?_)
    exact q H1 s1
  · rw [ty_row ty hx]
    have hx1 : H1 a = some (.lst xs) ∨ H1 a = some (.tup xs) := hx.imp (fun z => s1 _ _ z) fun z => s1 _ _ z
    have sq : SqL K H1 a xs ∨ SqT K H1 a xs := hx1.imp (fun z => SqL.of z) fun z => SqT.of z
    refine iteF ⟨_,rfl,a,xs,rfl,sq,_,_,rfl,rfl,_,rfl,?_⟩
    have no : ws60 xs = false → tRet (tC (V.bl false)) { nx := fun x H' => Q V.non H',rt := Q } [some (.ref a)] H1 := fun e => by
      have q1 := q H1 s1
      rw [e] at q1
      exact q1
    refine ite2 (fun c => ?_) (fun c => ?_)
    · refine ⟨_,_,rfl,rfl,_,rfl,?_⟩
      have c1 : 1 ≤ xs.length := by have := of_decide_eq_true c; omega
      refine ite2 (fun c2 => ?_) (fun c2 => ?_)
      · refine no ?_
        have : ¬ xs.length ≤ 60 := fun z => by
          rw [decide_eq_true (show (xs.length : Int) ≤ 60 by omega)] at c2
          cases c2
        unfold ws60
        rw [decide_eq_false this]
        simp
      · have c3 : xs.length ≤ 60 := by
          by_cases z : (xs.length : Int) ≤ 60
          · omega
          · rw [decide_eq_false z] at c2; exact absurd rfl c2
        have sz : (100 : Nat) < sizeLine := by decide
        dsimp only [tNext,tRet,tCB,tCons,tNil]
        refine comp_seqV (j := 0) (a := a) (xs := xs) rfl hx1 (fun i ys H4 => Same H1 H4 ∧ ys = ((xs.take i).map fun y => whole y 0).map V.bl) (fun i ys H4 _ ⟨s4,_⟩ o e => s4 _ _ e) ⟨Same.refl _,rfl⟩ ?_ ?_
        · rintro i y ys H4 hi ⟨s4,rfl⟩
          have hin : i < xs.length := (List.getElem?_eq_some_iff.mp hi).1
          obtain ⟨U,hU⟩ := its y (List.mem_of_getElem? hi)
          refine ⟨by rw [List.length_map,List.length_map,List.length_take]; omega,leS.set rfl,tYes_ite ?_⟩
          refine ⟨_,rfl,y,U,0,rfl,Ty.same (s1.trans s4) hU,Nx.of hin ⟨s4,?_⟩⟩
          rw [List.take_add_one,hi]
          simp only [Option.toList_some,List.map_append,List.map_cons,List.map_nil]
        · rintro ys H4 ⟨s4,rfl⟩
          refine ⟨by rw [List.length_map,List.length_map,List.length_take]; omega,fun p hp => ?_⟩
          rw [List.take_length]
          refine ⟨p,_,rfl,SqL.of upd_same,?_⟩
          have q1 := q _ ((s1.trans s4).trans (Same.new hp (o := .lst ((xs.map fun y => whole y 0).map V.bl))))
          have e : ws60 xs = (xs.map fun y => whole y 0).all id := by
            unfold ws60
            rw [decide_eq_true c1,decide_eq_true c3,List.all_map]
            rfl
          rw [e] at q1
          exact q1
    · have c1 : ¬ 1 ≤ xs.length := fun z => c (decide_eq_true (by omega))
      refine ⟨_,rfl,iteT (no ?_)⟩
      unfold ws60
      rw [decide_eq_false c1]
      rfl
def RowI (H : Hp) (a : Addr) (ws : List Int) : Prop := H a = some (.lst (ws.map V.int)) ∨ H a = some (.tup (ws.map V.int))
theorem RowI.same {H H' : Hp} {a : Addr} {ws : List Int} (s : Same H H') (h : RowI H a ws) : RowI H' a ws := h.imp (fun z => s _ _ z) fun z => s _ _ z
theorem rix_row {K : PySem.W.Frag} {H : Hp} {a : Addr} {ws : List Int} {i : Int} {Q : VK} (h : RowI H a ws) (i0 : 0 ≤ i) (i1 : i < ws.length) (q : Q (.int (gI ws i)) H) : rIx K (.ref a) (.int i) H Q := by
  have hv : atI (ws.map V.int) i = some (.int (gI ws i)) := by
    refine atI_int i0 ?_
    have hi : i.toNat < ws.length := by omega
    unfold gI
    rw [List.getElem?_map,List.getElem?_eq_getElem hi,List.getD_eq_getElem?_getD,List.getElem?_eq_getElem hi]
    rfl
  rcases h with z | z
  · exact .inl ⟨a,_,_,_,rfl,rfl,SqL.of z,hv,q⟩
  · exact .inr (.inl ⟨a,_,_,_,rfl,rfl,SqT.of z,hv,q⟩)
theorem at_row {ws : List Int} {i : Int} (i0 : 0 ≤ i) (i1 : i < ws.length) : atI (ws.map V.int) i = some (.int (gI ws i)) := by
  refine atI_int i0 ?_
  have hi : i.toNat < ws.length := by omega
  unfold gI
  rw [List.getElem?_map,List.getElem?_eq_getElem hi,List.getD_eq_getElem?_getD,List.getElem?_eq_getElem hi]
  rfl
def spBest (K : PySem.W.Frag) : Sp := fun vs H Q _ => ∃ (b : Int) (a l : Addr) (ws ls : List Int) (n : Nat),vs = [.int b,.ref a,.ref l,.int n] ∧ 0 ≤ b ∧ RowI H a ws ∧ H l = some (.lst (ls.map V.int)) ∧ ls.length = n ∧ 1 ≤ n ∧ n ≤ ws.length ∧ n ≤ 60 ∧
  ∀ (t : Addr) (H' : Hp),H t = none → H' t = some (.tup [.int (bst b ws ls n n).1,.int (bst b ws ls n n).2]) → Same H H' → Q (.ref t) H'
theorem scbest : FnScope ["blade","weights","loads","side","load","length","first","behind","together"] ["blade","weights","loads","side"] (defScope sBestLength) := ⟨rfl,rfl,rfl,by decide +kernel,rfl,by decide +kernel,by decide +kernel⟩
theorem ok_best {f : Addr} {fd : FuncData} (F : Fun K "best_length" "best_length" sBestLength f fd) (B : Blt mg) : FnOk P w K mg base CX0 1 f fd ["blade","weights","loads","side"] (spBest K) := by
  refine F.ok scbest (fun vs H Q E h => ?_) (fun cdv A outer s H vs Q E hr h => ?_)
  · obtain ⟨b,a,l,ws,ls,n,rfl,_⟩ := h
    rfl
  obtain ⟨b,a,l,ws,ls,n,rfl,b0,hw,hl,len,n1,n2,n60,q⟩ := h
  have nd := scbest.nd
  refine ⟨_,(@pss_cons _ _ _ _ _ (@ps_asg _ _ _ _ _ _ (@pe_tup _ _ _ _ _ (@pa_cons _ _ _ _ _ pe_int (@pa_cons _ _ _ _ _ pe_int pa_nil rfl) rfl)) (pg_tup rfl (pgs_cons (pg_name (i := 4) nd rfl (Or.inl rfl)) (pgs_cons (pg_name (i := 5) nd rfl (Or.inl rfl)) pgs_nil))) rfl rfl rfl) (@pss_cons _ _ _ _ _ (@ps_for _ _ _ _ _ _ _ _ PassesOwn.never rfl (pi_range2 rfl B.range (@pa_cons _ _ _ _ _ pe_int (@pa_cons _ _ _ _ _ (@pe_op _ _ _ _ _ _ _ _ op_add (pv 3) pe_int) pa_nil rfl) rfl)) (pg_name (i := 6) nd rfl (Or.inl rfl)) (@pss_cons _ _ _ _ _ (@ps_set _ _ 7 _ _ _ _ nd rfl (Or.inl rfl) (@pe_callB _ _ _ _ _ _ _ _ _ (call_max2 rfl) rfl B.max PyProof.Rows.boot_max (@pa_cons _ _ _ _ _ pe_int (@pa_cons _ _ _ _ _ (@pe_op _ _ _ _ _ _ _ _ op_sub (@pe_op _ _ _ _ _ _ _ _ op_sub (pv 3) (pv 6)) (pv 0)) pa_nil rfl) rfl) (by decide) (by decide) rfl rfl) rfl (Or.inl rfl)) (@pss_cons _ _ _ _ _ (@ps_set _ _ 8 _ _ _ _ nd rfl (Or.inl rfl) (@pe_op _ _ _ _ _ _ _ _ op_add (@pe_ix _ _ _ _ _ _ _ ix_seq (pv 1) (@pe_op _ _ _ _ _ _ _ _ op_sub (pv 6) pe_int) (fun _ _ => rfl)) (@pe_ix _ _ _ _ _ _ _ ix_list (pv 2) (pv 7) (fun _ _ => rfl))) rfl (Or.inl rfl)) (@pss_one _ _ _ (@ps_if _ _ _ _ _ _ _ _ (@pt_cmpR _ _ _ _ _ _ _ _ op_gt (pv 8) (pv 4) (nomark _)) (@pss_one _ _ _ (ps_par rfl nd rfl rfl (i := 4) (j := 5) (by decide) rfl rfl (@pa_cons _ _ _ _ _ (pv 8) (@pa_cons _ _ _ _ _ (pv 6) pa_nil rfl) rfl) rfl)) pss_nil)))) (by intro _; rfl)) (@pss_one _ _ _ (@ps_ret _ _ _ _ (@pe_tup _ _ _ _ _ (@pa_cons _ _ _ _ _ (pv 4) (@pa_cons _ _ _ _ _ (pv 5) pa_nil rfl) rfl)))))),?_⟩
  refine ⟨(by show 2 ≤ sizeLine; decide),fun t0 ht0 => ⟨t0,_,rfl,SqT.of upd_same,rfl,_,_,rfl,_,_,rfl,rfl,?_⟩⟩
  have s0 : Same H (upd H t0 (.tup [.int 0,.int 0])) := Same.new ht0
  generalize upd H t0 (.tup [.int 0,.int 0]) = H0 at s0 ⊢
  replace hw := hw.same s0
  replace hl := s0 _ _ hl
  refine ⟨_,rfl,_,_,rfl,rfl,_,_,rfl,⟨by decide,by decide,by omega,by omega⟩,?_⟩
  have en : ((n : Int) + 1 - 1).toNat = n := by omega
  rw [en]
  refine for_range (lo := 1) (n := n) (fun i σ H' => H' = H0 ∧ ∃ v6 v7 v8,σ = [some (.int b),some (.ref a),some (.ref l),some (.int n),some (.int (bst b ws ls n i).1),some (.int (bst b ws ls n i).2),v6,v7,v8]) ⟨rfl,none,none,none,rfl⟩ ?_ ?_
  · rintro i σ _ hi ⟨rfl,v6,v7,v8,rfl⟩
    refine ⟨_,rfl,_,rfl,_,_,rfl,rfl,_,rfl,_,_,rfl,rfl,_,_,rfl,?_⟩
    have em : (if (n : Int) - (1 + (i : Int)) - b > 0 then (n : Int) - (1 + (i : Int)) - b else 0) = m0 ((n : Int) - ((i : Int) + 1) - b) := by rw [Int.add_comm 1 (i : Int)]; rfl
    have h0 : 0 ≤ m0 ((n : Int) - ((i : Int) + 1) - b) := m0_nn _
    have h1 : m0 ((n : Int) - ((i : Int) + 1) - b) < ls.length := by unfold m0; split <;> omega
    refine ⟨_,rfl,_,rfl,_,_,rfl,rfl,rix_row hw (by omega) (by omega) ?_⟩
    have ei : (1 + (i : Int)) - 1 = i := by omega
    refine ⟨_,rfl,_,rfl,l,_,_,_,rfl,rfl,SqL.of hl,(by rw [em]; exact at_row h0 h1),_,_,rfl,rfl,?_⟩
    refine ⟨_,rfl,_,rfl,_,_,rfl,rfl,_,rfl,?_⟩
    rw [ei]
    refine ite2 (fun c => ?_) (fun c => ?_)
    · have c' := of_decide_eq_true c
      have eb : bst b ws ls n (i + 1) = (gI ws i + gI ls (m0 ((n : Int) - ((i : Int) + 1) - b)),(i : Int) + 1) := by
        simp only [bst]; rw [if_pos c']
      exact ⟨_,rfl,_,rfl,_,_,rfl,rfl,_,_,_,by rw [eb,Int.add_comm (i : Int) 1]; rfl⟩
    · have eb : bst b ws ls n (i + 1) = bst b ws ls n i := by
        simp only [bst]; rw [if_neg (fun z => c (decide_eq_true z))]
      exact ⟨rfl,_,_,_,by rw [eb]; rfl⟩
  · rintro σ _ ⟨rfl,v6,v7,v8,rfl⟩
    exact ⟨_,rfl,_,rfl,(by show 2 ≤ sizeLine; decide),fun t ht => q t _ (s0.free ht) upd_same (s0.trans (Same.new ht))⟩
theorem lens_len {b : Int} {st : List Int} : ∀ (f : Nat) (s : Int),(lens b st f s).length ≤ f
  | 0,_ => Nat.zero_le _
  | f + 1,s => by
    by_cases c : 0 < s ∧ 0 < gI st s
    · rw [lens_go c,List.length_cons]; exact Nat.succ_le_succ (lens_len f _)
    · rw [lens_stop c]; exact Nat.zero_le _
def lensN (b : Int) (st : List Int) (s : Int) : List Int := lens b st s.toNat s
theorem lensN_go {b : Int} {st : List Int} {s : Int} (hb : 0 ≤ b) (h : 0 < s ∧ 0 < gI st s) : lensN b st s = gI st s :: lensN b st (s - (gI st s + b)) := by
  unfold lensN
  obtain ⟨f,hf⟩ : ∃ f : Nat,s.toNat = f + 1 := ⟨s.toNat - 1,by omega⟩
  rw [hf,lens_go h,lens_fuel hb f _ (by omega) (s - (gI st s + b)).toNat (by omega)]
theorem lensN_stop {b : Int} {st : List Int} {s : Int} (h : ¬ (0 < s ∧ 0 < gI st s)) : lensN b st s = [] := lens_stop h
def spLens : Sp := fun vs H Q _ => ∃ (b : Int) (l : Addr) (st : List Int) (n : Nat),vs = [.int b,.ref l,.int n] ∧ 0 ≤ b ∧ H l = some (.lst (st.map V.int)) ∧ n < st.length ∧ n ≤ 60 ∧
  ∀ (t : Addr) (ns : List Int) (H' : Hp),H t = none → ns.Perm (lensN b st n) → ns.Pairwise (· ≤ ·) → H' t = some (.lst (ns.map V.int)) → Same H H' → Q (.ref t) H'
theorem sclens : FnScope ["blade","steps","side","lengths","length"] ["blade","steps","side"] (defScope sLengthsBySteps) := ⟨rfl,rfl,rfl,by decide +kernel,rfl,by decide +kernel,by decide +kernel⟩
theorem ok_lens {f : Addr} {fd : FuncData} (F : Fun K "lengths_by_steps" "lengths_by_steps" sLengthsBySteps f fd) (B : Blt mg) : FnOk P w K mg base CX0 1 f fd ["blade","steps","side"] (spLens) := by
  refine F.ok sclens (fun vs H Q E h => ?_) (fun cdv A outer s H vs Q E hr h => ?_)
  · obtain ⟨b,l,st,n,rfl,_⟩ := h
    rfl
  obtain ⟨b,l,st,n,rfl,b0,hl,n1,n60,q⟩ := h
  have nd := sclens.nd
  refine ⟨_,(@pss_cons _ _ _ _ _ (@ps_set _ _ 3 _ _ _ _ nd rfl (Or.inl rfl) (@pe_lst _ _ _ _ pa_nil) rfl (Or.inl rfl)) (@pss_cons _ _ _ _ _ (ps_while PassesOwn.never (PW.pt (pw_and (@pt_cmpR _ _ _ _ _ _ _ _ op_gt (pv 2) pe_int (nomark _)) (pw_and1 (@pt_cmpR _ _ _ _ _ _ _ _ op_gt (@pe_ix _ _ _ _ _ _ _ ix_list (pv 1) (pv 2) (fun _ _ => rfl)) pe_int (nomark _))))) (@pss_cons _ _ _ _ _ (@ps_set _ _ 4 _ _ _ _ nd rfl (Or.inl rfl) (@pe_ix _ _ _ _ _ _ _ ix_list (pv 1) (pv 2) (fun _ _ => rfl)) rfl (Or.inl rfl)) (@pss_cons _ _ _ _ _ (@ps_expr _ _ _ _ (@pe_bm _ _ _ _ _ _ _ _ _ _ _ _ PySem.F.plainAttrs_list PySem.F.slot_list_append PySem.F.type_list_append mt_append (pv 3) (@pa_cons _ _ _ _ _ (pv 4) pa_nil rfl) rfl rfl rfl rfl rfl) rfl) (@pss_one _ _ _ (ps_aug (i := 2) nd rfl (Or.inl rfl) (@pe_op _ _ _ _ _ _ _ _ op_add (pv 4) (pv 0)) ip_sub))))) (@pss_one _ _ _ (@ps_ret _ _ _ _ (@pe_callB _ _ _ _ _ _ _ _ _ call_sortedI rfl B.sorted PyProof.Rows.boot_sorted (@pa_cons _ _ _ _ _ (pv 3) pa_nil rfl) (by decide) (by decide) rfl rfl))))),?_⟩
  refine ⟨by decide,fun t ht => ?_⟩
  have lt : l ≠ t := ne_of_none hl ht
  have sz : (100 : Nat) < sizeLine := by decide
  have ln := lens_len (b := b) (st := st) n (n : Int)
  refine while_by (fun σ H' => ∃ (dn : List Int) (r : Int) (v : Option V),σ = [some (.int b),some (.ref l),some (.int r),some (.ref t),v] ∧ r ≤ n ∧ H' t = some (.lst (dn.map V.int)) ∧ Same H H' ∧ dn ++ lensN b st r = lensN b st n)
    (fun σ _ => match σ with | [_,_,some (.int r),_,_] => r.toNat | _ => 0) ⟨[],n,none,rfl,Int.le_refl _,upd_same,Same.new ht,rfl⟩ ?_ ?_
  · rintro σ H1 ⟨dn,r,v,rfl,hr1,t1,s1,e1⟩
    have dl : dn.length ≤ 60 := by
      have := congrArg List.length e1
      rw [List.length_append] at this
      unfold lensN at this
      rw [Int.toNat_natCast] at this
      omega
    have out : ¬ (0 < r ∧ 0 < gI st r) → dn = lensN b st n := fun c => by rw [lensN_stop c,List.append_nil] at e1; exact e1
    have fin : dn = lensN b st n → tRet (tCB (fun xs H Q => ∃ (p : Addr) (ns : List Int),xs = [.ref p] ∧ SqL K H p (ns.map V.int) ∧ ns.length < 64 ∧ ∀ (l : Addr) (ns' : List Int),H l = none → ns'.Perm ns → ns'.Pairwise (· ≤ ·) → Q (.ref l) (upd H l (.lst (ns'.map V.int)))) (tCons (tVar 3) tNil)) { nx := fun x H' => Q V.non H',rt := Q } [some (.int b),some (.ref l),some (.int r),some (.ref t),v] H1 := fun e => by
      refine ⟨_,rfl,t,dn,rfl,SqL.of t1,by omega,fun t' ns' ht' pm pw => ?_⟩
      rw [e] at pm
      have ht0 : H t' = none := by
        cases z : H t' with
        | none => rfl
        | some o => rw [s1 _ _ z] at ht'; cases ht'
      exact q t' ns' _ ht0 pm pw upd_same (s1.trans (Same.new ht'))
    refine ⟨_,rfl,_,_,rfl,rfl,_,rfl,?_⟩
    refine ite2 (fun c => ?_) (fun c => ?_)
    · have c0 : 0 < r := of_decide_eq_true c
      refine ⟨_,rfl,_,rfl,l,_,_,_,rfl,rfl,SqL.of (s1 _ _ hl),at_row (by omega) (by omega),_,_,rfl,rfl,_,rfl,?_⟩
      refine ite2 (fun c2 => ?_) (fun c2 => ?_)
      · have c3 : 0 < gI st r := of_decide_eq_true c2
        refine ⟨_,rfl,_,rfl,l,_,_,_,rfl,rfl,SqL.of (s1 _ _ hl),at_row (by omega) (by omega),?_⟩
        refine ⟨_,rfl,.inl ⟨rfl,_,SqL.of t1⟩,_,rfl,t,_,_,rfl,rfl,t1,(by rw [List.length_map]; omega),?_⟩
        refine ⟨_,rfl,_,rfl,_,rfl,_,_,rfl,rfl,_,_,rfl,rfl,⟨dn ++ [gI st r],r - (gI st r + b),_,rfl,by omega,?_,?_,?_⟩,?_⟩
        · rw [upd_same,List.map_append]; rfl
        · intro c o e
          rw [upd_ne (fun z => by rw [z,ht] at e; cases e)]
          exact s1 c o e
        · rw [List.append_assoc,List.singleton_append,← lensN_go b0 ⟨c0,c3⟩]; exact e1
        · show (r - (gI st r + b)).toNat < r.toNat
          omega
      · exact fin (out fun z => c2 (decide_eq_true z.2))
    · exact fin (out fun z => c (decide_eq_true z.1))
  · rintro σ H1 Q1 Q2 hq ⟨x,e1,i,j,e2,e3,k,e4,h⟩
    refine ⟨x,e1,i,j,e2,e3,k,e4,?_⟩
    cases k with
    | false => rw [if_neg Bool.false_ne_true] at h ⊢; exact hq _ _ h
    | true =>
      rw [if_pos rfl] at h ⊢
      obtain ⟨x1,f1,x2,f2,p1,a1,a2,a3,g1,g2,g3,g4,i2,j2,g5,g6,k2,g7,h2⟩ := h
      exact ⟨x1,f1,x2,f2,p1,a1,a2,a3,g1,g2,g3,g4,i2,j2,g5,g6,k2,g7,hq _ _ h2⟩
end
section
variable {P : Program} {w : World} {K : PySem.W.Frag} {mg : Str → Option Value} {base : Heap}
theorem ws60_ints {ws : List Int} (h0 : 1 ≤ ws.length) (h1 : ws.length ≤ 60) (h : ∀ x ∈ ws,0 ≤ x) : ws60 (ws.map V.int) = true := by
  unfold ws60
  rw [List.length_map,decide_eq_true h0,decide_eq_true h1,Bool.true_and,Bool.true_and,List.all_eq_true]
  intro y hy
  obtain ⟨x,hx,rfl⟩ := List.mem_map.mp hy
  exact decide_eq_true (h x hx)
def spLoad (K : PySem.W.Frag) : Sp := fun vs H Q _ => ∃ (b : Int) (a : Addr) (ws : List Int) (n : Nat),vs = [.int b,.ref a,.int n] ∧ 0 ≤ b ∧ RowI H a ws ∧ ws.length ≤ 60 ∧ (∀ x ∈ ws,0 ≤ x) ∧ 1 ≤ n ∧ n ≤ ws.length ∧
  ∀ (t l : Addr) (ns : List Int) (H' : Hp),H t = none → H l = none → ns.Perm (lensN b (tab b ws n).2 n) → ns.Pairwise (· ≤ ·) → H' t = some (.tup [.int (Ld b ws n),.ref l]) → H' l = some (.lst (ns.map V.int)) → Same H H' → Q (.ref t) H'
theorem scload : FnScope ["blade","weights","side","loads","steps","reach","load","length"] ["blade","weights","side"] (defScope sLoadOf) := ⟨rfl,rfl,rfl,by decide +kernel,rfl,by decide +kernel,by decide +kernel⟩
theorem ok_load {f : Addr} {fd : FuncData} (F : Fun K "load_of" "load_of" sLoadOf f fd) (B : Blt mg) (DW : Dn P w K mg base "is_whole" ["thing","least"] 1 (spWhole K)) (DI : Dn P w K mg base "is_weights" ["thing"] 2 (spIsW K)) (DB : Dn P w K mg base "best_length" ["blade","weights","loads","side"] 1 (spBest K)) (DL : Dn P w K mg base "lengths_by_steps" ["blade","steps","side"] 1 spLens) : FnOk P w K mg base CX0 3 f fd ["blade","weights","side"] (spLoad K) := by
  refine F.ok scload (fun vs H Q E h => ?_) (fun cdv A outer s H vs Q E hr h => ?_)
  · obtain ⟨b,a,ws,n,rfl,_⟩ := h
    rfl
  obtain ⟨b,a,ws,n,rfl,b0,hw,m60,wnn,n1,n2,q⟩ := h
  have nd := scload.nd
  have hr1 := hr.mono (show 1 ≤ 2 by decide)
  refine ⟨_,(@pss_cons _ _ _ _ _ (@ps_if _ _ _ _ _ _ _ _ (@pt_not _ _ _ _ (@pt_val _ _ _ (@pe_cD _ _ _ _ _ _ _ _ _ _ DW hr1 rfl (@pa_cons _ _ _ _ _ (pv 0) (@pa_cons _ _ _ _ _ pe_int pa_nil rfl) rfl) (by decide) rfl rfl) (by intro _; rfl))) (@pss_one _ _ _ ps_never) pss_nil) (@pss_cons _ _ _ _ _ (@ps_if _ _ _ _ _ _ _ _ (@pt_not _ _ _ _ (@pt_val _ _ _ (@pe_cD _ _ _ _ _ _ _ _ _ _ DI hr rfl (@pa_cons _ _ _ _ _ (pv 1) pa_nil rfl) (by decide) rfl rfl) (by intro _; rfl))) (@pss_one _ _ _ ps_never) pss_nil) (@pss_cons _ _ _ _ _ (@ps_if _ _ _ _ _ _ _ _ (PW.pt (pw_or (@pt_not _ _ _ _ (@pt_val _ _ _ (@pe_cD _ _ _ _ _ _ _ _ _ _ DW hr1 rfl (@pa_cons _ _ _ _ _ (pv 2) (@pa_cons _ _ _ _ _ pe_int pa_nil rfl) rfl) (by decide) rfl rfl) (by intro _; rfl))) (pw_or1 (@pt_cmpR _ _ _ _ _ _ _ _ op_gt (pv 2) (@pe_callB _ _ _ _ _ _ _ _ _ call_len_seq rfl B.len PySem.boot_len (@pa_cons _ _ _ _ _ (pv 1) pa_nil rfl) (by decide) (by decide) rfl rfl) (nomark _))))) (@pss_one _ _ _ ps_never) pss_nil) (@pss_cons _ _ _ _ _ (@ps_set _ _ 3 _ _ _ _ nd rfl (Or.inl rfl) (@pe_lst _ _ _ _ (@pa_cons _ _ _ _ _ pe_int pa_nil rfl)) rfl (Or.inl rfl)) (@pss_cons _ _ _ _ _ (@ps_set _ _ 4 _ _ _ _ nd rfl (Or.inl rfl) (@pe_lst _ _ _ _ (@pa_cons _ _ _ _ _ pe_int pa_nil rfl)) rfl (Or.inl rfl)) (@pss_cons _ _ _ _ _ (@ps_for _ _ _ _ _ _ _ _ PassesOwn.never rfl (pi_range2 rfl B.range (@pa_cons _ _ _ _ _ pe_int (@pa_cons _ _ _ _ _ (@pe_op _ _ _ _ _ _ _ _ op_add (pv 2) pe_int) pa_nil rfl) rfl)) (pg_name (i := 5) nd rfl (Or.inl rfl)) (@pss_cons _ _ _ _ _ (@ps_asg _ _ _ _ _ _ (@pe_cD _ _ _ _ _ _ _ _ _ _ DB hr1 rfl (@pa_cons _ _ _ _ _ (pv 0) (@pa_cons _ _ _ _ _ (pv 1) (@pa_cons _ _ _ _ _ (pv 3) (@pa_cons _ _ _ _ _ (pv 5) pa_nil rfl) rfl) rfl) rfl) (by decide) rfl rfl) (pg_tup rfl (pgs_cons (pg_name (i := 6) nd rfl (Or.inl rfl)) (pgs_cons (pg_name (i := 7) nd rfl (Or.inl rfl)) pgs_nil))) rfl rfl rfl) (@pss_cons _ _ _ _ _ (@ps_expr _ _ _ _ (@pe_bm _ _ _ _ _ _ _ _ _ _ _ _ PySem.F.plainAttrs_list PySem.F.slot_list_append PySem.F.type_list_append mt_append (pv 3) (@pa_cons _ _ _ _ _ (pv 6) pa_nil rfl) rfl rfl rfl rfl rfl) rfl) (@pss_one _ _ _ (@ps_expr _ _ _ _ (@pe_bm _ _ _ _ _ _ _ _ _ _ _ _ PySem.F.plainAttrs_list PySem.F.slot_list_append PySem.F.type_list_append mt_append (pv 4) (@pa_cons _ _ _ _ _ (pv 7) pa_nil rfl) rfl rfl rfl rfl rfl) rfl)))) (by intro _; rfl)) (@pss_one _ _ _ (@ps_ret _ _ _ _ (@pe_tup _ _ _ _ _ (@pa_cons _ _ _ _ _ (@pe_ix _ _ _ _ _ _ _ ix_list (pv 3) (pv 2) (fun _ _ => rfl)) (@pa_cons _ _ _ _ _ (@pe_cD _ _ _ _ _ _ _ _ _ _ DL hr1 rfl (@pa_cons _ _ _ _ _ (pv 0) (@pa_cons _ _ _ _ _ (pv 4) (@pa_cons _ _ _ _ _ (pv 2) pa_nil rfl) rfl) rfl) (by decide) rfl rfl) pa_nil rfl) rfl)))))))))),?_⟩
  have w0 : whole (.int b) 0 = true := decide_eq_true b0
  have w1 : whole (.int (n : Int)) 1 = true := decide_eq_true (show (1 : Int) ≤ n by omega)
  have sz : (100 : Nat) < sizeLine := by decide
  refine ⟨_,rfl,.int b,"int",0,rfl,Ty.int,_,rfl,?_⟩
  rw [w0]
  refine iteF ?_
  obtain ⟨T,ty⟩ : ∃ T,Ty K H (.ref a) T := by
    rcases hw with z | z
    · exact ⟨_,Ty.lst z⟩
    · exact ⟨_,Ty.tup z⟩
  refine ⟨_,rfl,.ref a,T,rfl,ty,.inr ⟨a,_,rfl,hw,fun y hy => ?_,fun H1 s1 => ⟨_,rfl,?_⟩⟩⟩
  · obtain ⟨x,_,rfl⟩ := List.mem_map.mp hy
    exact ⟨_,Ty.int⟩
  rw [ws60_ints (by omega) m60 wnn]
  refine iteF ?_
  have hw1 := hw.same s1
  have sq : SqL K H1 a (ws.map V.int) ∨ SqT K H1 a (ws.map V.int) := hw1.imp (fun z => SqL.of z) fun z => SqT.of z
  refine ⟨_,rfl,.int n,"int",1,rfl,Ty.int,_,rfl,?_⟩
  rw [w1]
  refine iteF ⟨_,rfl,_,rfl,a,_,rfl,sq,_,_,rfl,rfl,_,rfl,?_⟩
  rw [List.length_map,decide_eq_false (show ¬ (ws.length : Int) < n by omega)]
  refine iteF ?_
  refine ⟨(by show 1 ≤ sizeLine; decide),fun lo hlo => ?_⟩
  refine ⟨(by show 1 ≤ sizeLine; decide),fun st hst => ?_⟩
  have nls : st ≠ lo := fun z => by rw [z,upd_same] at hst; cases hst
  have hst1 : H1 st = none := by rw [upd_ne nls] at hst; exact hst
  have s2 : Same H1 (upd (upd H1 lo (.lst [.int 0])) st (.lst [.int 0])) := (Same.new hlo).trans (Same.new hst)
  have l2 : (upd (upd H1 lo (.lst [.int 0])) st (.lst [.int 0])) lo = some (.lst [.int 0]) := by rw [upd_ne (Ne.symm nls),upd_same]
  have t2 : (upd (upd H1 lo (.lst [.int 0])) st (.lst [.int 0])) st = some (.lst [.int 0]) := upd_same
  generalize upd (upd H1 lo (.lst [.int 0])) st (.lst [.int 0]) = H2 at s2 l2 t2 ⊢
  refine ⟨_,rfl,_,_,rfl,rfl,_,_,rfl,⟨by decide,by decide,by omega,by omega⟩,?_⟩
  have en : ((n : Int) + 1 - 1).toNat = n := by omega
  rw [en]
  refine for_range (lo := 1) (n := n) (fun i σ H' => ∃ v5 v6 v7,σ = [some (.int b),some (.ref a),some (.int n),some (.ref lo),some (.ref st),v5,v6,v7] ∧ H' lo = some (.lst ((tab b ws i).1.map V.int)) ∧ H' st = some (.lst ((tab b ws i).2.map V.int)) ∧ Same H1 H') ⟨none,none,none,rfl,l2,t2,s2⟩ ?_ ?_
  · rintro i σ H3 hi ⟨v5,v6,v7,rfl,l3,t3,s3⟩
    have er : (1 + (i : Int)) = ((i + 1 : Nat) : Int) := by omega
    have tl := tab_len b ws i
    refine ⟨_,rfl,_,rfl,_,rfl,_,rfl,b,a,lo,ws,(tab b ws i).1,i + 1,(by rw [er]; rfl),b0,hw1.same s3,l3,tl.1,by omega,by omega,by omega,fun t H4 ht ht4 s4 => ?_⟩
    refine ⟨t,_,rfl,SqT.of ht4,rfl,_,_,rfl,_,_,rfl,rfl,?_⟩
    have l4 := s4 _ _ l3
    have t4 := s4 _ _ t3
    refine ⟨_,rfl,.inl ⟨rfl,_,SqL.of l4⟩,_,rfl,lo,_,_,rfl,rfl,l4,(by rw [List.length_map,tl.1]; omega),?_⟩
    refine ⟨_,rfl,.inl ⟨rfl,_,SqL.of (by rw [upd_ne nls]; exact t4)⟩,_,rfl,st,_,_,rfl,rfl,(by rw [upd_ne nls]; exact t4),(by rw [List.length_map,tl.2]; omega),⟨_,_,_,rfl,?_,?_,?_⟩⟩
    · rw [upd_ne (Ne.symm nls),upd_same]
      simp only [tab,List.map_append,List.map_cons,List.map_nil]
      rfl
    · rw [upd_same]
      simp only [tab,List.map_append,List.map_cons,List.map_nil]
      rfl
    · intro c o e
      rw [upd_ne (fun z => by rw [z,hst1] at e; cases e),upd_ne (fun z => by rw [z,hlo] at e; cases e)]
      exact s4 _ _ (s3 _ _ e)
  · rintro σ H3 ⟨v5,v6,v7,rfl,l3,t3,s3⟩
    have tl := tab_len b ws n
    refine ⟨_,rfl,_,rfl,lo,_,_,_,rfl,rfl,SqL.of l3,at_row (by omega) (by omega),_,rfl,_,rfl,_,rfl,b,st,(tab b ws n).2,n,rfl,b0,t3,by omega,by omega,fun l ns H4 hl pm pw e4 s4 => ⟨(by show 2 ≤ sizeLine; decide),fun t ht => ?_⟩⟩
    have s14 := s1.trans (s3.trans s4)
    have nlt : l ≠ t := ne_of_none e4 ht
    refine q t l ns _ (s14.free ht) ((s1.trans s3).free hl) pm pw ?_ (by rw [upd_ne nlt]; exact e4) (s14.trans (Same.new ht))
    rw [upd_same]
    rfl
end
section
variable {P : Program} {w : World} {K : PySem.W.Frag} {mg : Str → Option Value} {base : Heap}
def GoodW (ws : List Int) : Prop := ∀ x ∈ ws,0 ≤ x ∧ x < 10 ^ 58
def spWeights : Sp := fun vs H Q _ => ∃ (p : Addr) (m : Int),vs = [.ref p,.int m] ∧ PotB H p ∧ 1 ≤ m ∧ m ≤ 60 ∧ ∀ (l : Addr) (ws : List Int) (H' : Hp),H l = none → l ≠ p → H' l = some (.lst (ws.map V.int)) → (ws.length : Int) = m → GoodW ws → PotB H' p → But p H H' → Q (.ref l) H'
def spBladeB : Sp := fun vs H Q _ => ∃ (p : Addr) (m : Int),vs = [.ref p,.int m] ∧ PotB H p ∧ 1 ≤ m ∧ m ≤ 60 ∧ ∀ (b : Int) (H' : Hp),0 ≤ b → b < 10 ^ 58 → PotB H' p → But p H H' → Q (.int b) H'
theorem sclblade : FnScope ["_law_pot_here","_law_many","_law_way"] ["_law_pot_here","_law_many"] (defScope sBlade) := ⟨rfl,rfl,rfl,by decide +kernel,rfl,by decide +kernel,by decide +kernel⟩
theorem ok_lblade {f : Addr} {fd : FuncData} (F : Fun K "_law_blade" "_law_blade" sBlade f fd) (DD : Dn P w K mg base "_law_draw" ["_law_pot_here","_law_many"] 1 spDrawB) (DG : Dn P w K mg base "_law_great" ["_law_pot_here"] 2 spGreat) : FnOk P w K mg base CX0 3 f fd ["_law_pot_here","_law_many"] (spBladeB) := by
  refine F.ok sclblade (fun vs H Q E h => ?_) (fun cdv A outer s H vs Q E hr h => ?_)
  · obtain ⟨p,m,rfl,_⟩ := h
    rfl
  obtain ⟨p,m,rfl,pt,m0,m1,q⟩ := h
  have nd := sclblade.nd
  have hr1 := hr.mono (show 1 ≤ 2 by decide)
  have hr2 := hr.mono (show 2 ≤ 2 by decide)
  refine ⟨_,(@pss_cons _ _ _ _ _ (@ps_set _ _ 2 _ _ _ _ nd rfl (Or.inl rfl) (@pe_cD _ _ _ _ _ _ _ _ _ _ DD hr1 rfl (@pa_cons _ _ _ _ _ (pv 0) (@pa_cons _ _ _ _ _ pe_int pa_nil rfl) rfl) (by decide) rfl rfl) rfl (Or.inl rfl)) (@pss_cons _ _ _ _ _ (@ps_if _ _ _ _ _ _ _ _ (@pt_cmpR _ _ _ _ _ _ _ _ op_lt (pv 2) pe_int (nomark _)) (@pss_one _ _ _ (@ps_ret _ _ _ _ (@pe_cD _ _ _ _ _ _ _ _ _ _ DD hr1 rfl (@pa_cons _ _ _ _ _ (pv 0) (@pa_cons _ _ _ _ _ pe_int pa_nil rfl) rfl) (by decide) rfl rfl))) pss_nil) (@pss_cons _ _ _ _ _ (@ps_if _ _ _ _ _ _ _ _ (@pt_cmpR _ _ _ _ _ _ _ _ op_eq (pv 2) pe_int (nomark _)) (@pss_one _ _ _ (@ps_ret _ _ _ _ (@pe_cD _ _ _ _ _ _ _ _ _ _ DD hr1 rfl (@pa_cons _ _ _ _ _ (pv 0) (@pa_cons _ _ _ _ _ (@pe_op _ _ _ _ _ _ _ _ op_add (pv 1) pe_int) pa_nil rfl) rfl) (by decide) rfl rfl))) pss_nil) (@pss_one _ _ _ (@ps_ret _ _ _ _ (@pe_op _ _ _ _ _ _ _ _ op_mul (@pe_cD _ _ _ _ _ _ _ _ _ _ DD hr1 rfl (@pa_cons _ _ _ _ _ (pv 0) (@pa_cons _ _ _ _ _ pe_int pa_nil rfl) rfl) (by decide) rfl rfl) (@pe_cD _ _ _ _ _ _ _ _ _ _ DG hr2 rfl (@pa_cons _ _ _ _ _ (pv 0) pa_nil rfl) (by decide) rfl rfl))))))),?_⟩
  have e58 : (3 : Int) < 10 ^ 58 := by decide
  have e59 : (63 : Int) < 10 ^ 58 := by decide
  refine ⟨_,rfl,p,4,rfl,pt,by decide,by decide,fun wy H1 w0 w1 pt1 b1 => ?_⟩
  refine ⟨_,rfl,_,_,rfl,rfl,_,rfl,?_⟩
  refine ite2 (fun c => ?_) (fun c => ?_)
  · refine ⟨_,rfl,p,3,rfl,pt1,by decide,by decide,fun r H2 r0 r1 pt2 b2 => ?_⟩
    exact q _ _ r0 (by omega) pt2 (b1.trans b2)
  refine ⟨_,rfl,rfl,_,rfl,?_⟩
  refine ite2 (fun c => ?_) (fun c => ?_)
  · refine ⟨_,rfl,_,rfl,_,_,rfl,rfl,p,_,rfl,pt1,by omega,?_,fun r H2 r0 r1 pt2 b2 => ?_⟩
    · have : (62 : Int) ≤ 10 ^ 60 := by decide
      omega
    exact q _ _ r0 (by omega) pt2 (b1.trans b2)
  · refine ⟨_,rfl,p,2,rfl,pt1,by decide,by decide,fun r H2 r0 r1 pt2 b2 => ?_⟩
    refine ⟨_,rfl,p,rfl,pt2,fun g H3 g0 g1 pt3 b3 => ⟨_,_,rfl,rfl,.inl ⟨by omega,by omega⟩,?_⟩⟩
    have rr : r = 0 ∨ r = 1 := by omega
    have hq : 0 ≤ r * g ∧ r * g < 10 ^ 58 := by
      rcases rr with e | e
      · rw [e,Int.zero_mul]; exact ⟨by decide,by decide⟩
      · rw [e,Int.one_mul]; exact ⟨g0,g1⟩
    exact q _ _ hq.1 hq.2 pt3 ((b1.trans b2).trans b3)
def WInv (p l : Addr) (m way bs : Int) (H2 : Hp) (i : Nat) (σ : St) (H' : Hp) : Prop := ∃ (ws : List Int) (v : Option V),σ = [some (.ref p),some (.int m),some (.int way),some (.int bs),some (.ref l),v] ∧ H' l = some (.lst (ws.map V.int)) ∧ ws.length = i ∧ GoodW ws ∧ PotB H' p ∧ But p H2 H'
theorem scweights : FnScope ["_law_pot_here","_law_many","_law_way","_law_base","_law_found","_law_length"] ["_law_pot_here","_law_many"] (defScope sWeights) := ⟨rfl,rfl,rfl,by decide +kernel,rfl,by decide +kernel,by decide +kernel⟩
theorem ok_weights {f : Addr} {fd : FuncData} (F : Fun K "_law_weights" "_law_weights" sWeights f fd) (B : Blt mg) (DD : Dn P w K mg base "_law_draw" ["_law_pot_here","_law_many"] 1 spDrawB) (DG : Dn P w K mg base "_law_great" ["_law_pot_here"] 2 spGreat) : FnOk P w K mg base CX0 3 f fd ["_law_pot_here","_law_many"] (spWeights) := by
  refine F.ok scweights (fun vs H Q E h => ?_) (fun cdv A outer s H vs Q E hr h => ?_)
  · obtain ⟨p,m,rfl,_⟩ := h
    rfl
  obtain ⟨p,m,rfl,pt,m0,m1,q⟩ := h
  have nd := scweights.nd
  have hr1 := hr.mono (show 1 ≤ 2 by decide)
  have hr2 := hr.mono (show 2 ≤ 2 by decide)
  refine ⟨_,(@pss_cons _ _ _ _ _ (@ps_set _ _ 2 _ _ _ _ nd rfl (Or.inl rfl) (@pe_cD _ _ _ _ _ _ _ _ _ _ DD hr1 rfl (@pa_cons _ _ _ _ _ (pv 0) (@pa_cons _ _ _ _ _ pe_int pa_nil rfl) rfl) (by decide) rfl rfl) rfl (Or.inl rfl)) (@pss_cons _ _ _ _ _ (@ps_set _ _ 3 _ _ _ _ nd rfl (Or.inl rfl) (@pe_op _ _ _ _ _ _ _ _ op_add pe_int (@pe_cD _ _ _ _ _ _ _ _ _ _ DD hr1 rfl (@pa_cons _ _ _ _ _ (pv 0) (@pa_cons _ _ _ _ _ pe_int pa_nil rfl) rfl) (by decide) rfl rfl)) rfl (Or.inl rfl)) (@pss_cons _ _ _ _ _ (@ps_set _ _ 4 _ _ _ _ nd rfl (Or.inl rfl) (@pe_lst _ _ _ _ pa_nil) rfl (Or.inl rfl)) (@pss_cons _ _ _ _ _ (@ps_for _ _ _ _ _ _ _ _ PassesOwn.never rfl (pi_range2 rfl B.range (@pa_cons _ _ _ _ _ pe_int (@pa_cons _ _ _ _ _ (@pe_op _ _ _ _ _ _ _ _ op_add (pv 1) pe_int) pa_nil rfl) rfl)) (pg_name (i := 5) nd rfl (Or.inl rfl)) (@pss_one _ _ _ (@ps_if _ _ _ _ _ _ _ _ (@pt_cmpR _ _ _ _ _ _ _ _ op_eq (pv 2) pe_int (nomark _)) (@pss_one _ _ _ (@ps_expr _ _ _ _ (@pe_bm _ _ _ _ _ _ _ _ _ _ _ _ PySem.F.plainAttrs_list PySem.F.slot_list_append PySem.F.type_list_append mt_append (pv 4) (@pa_cons _ _ _ _ _ (@pe_cD _ _ _ _ _ _ _ _ _ _ DD hr1 rfl (@pa_cons _ _ _ _ _ (pv 0) (@pa_cons _ _ _ _ _ pe_int pa_nil rfl) rfl) (by decide) rfl rfl) pa_nil rfl) rfl rfl rfl rfl rfl) rfl)) (@pss_one _ _ _ (@ps_if _ _ _ _ _ _ _ _ (@pt_cmpR _ _ _ _ _ _ _ _ op_eq (pv 2) pe_int (nomark _)) (@pss_one _ _ _ (@ps_expr _ _ _ _ (@pe_bm _ _ _ _ _ _ _ _ _ _ _ _ PySem.F.plainAttrs_list PySem.F.slot_list_append PySem.F.type_list_append mt_append (pv 4) (@pa_cons _ _ _ _ _ (@pe_op _ _ _ _ _ _ _ _ op_add (@pe_op _ _ _ _ _ _ _ _ op_mul (pv 3) (pv 5)) (@pe_cD _ _ _ _ _ _ _ _ _ _ DD hr1 rfl (@pa_cons _ _ _ _ _ (pv 0) (@pa_cons _ _ _ _ _ pe_int pa_nil rfl) rfl) (by decide) rfl rfl)) pa_nil rfl) rfl rfl rfl rfl rfl) rfl)) (@pss_one _ _ _ (@ps_if _ _ _ _ _ _ _ _ (@pt_cmpR _ _ _ _ _ _ _ _ op_eq (pv 2) pe_int (nomark _)) (@pss_one _ _ _ (@ps_expr _ _ _ _ (@pe_bm _ _ _ _ _ _ _ _ _ _ _ _ PySem.F.plainAttrs_list PySem.F.slot_list_append PySem.F.type_list_append mt_append (pv 4) (@pa_cons _ _ _ _ _ (@pe_op _ _ _ _ _ _ _ _ op_fdivB (@pe_op _ _ _ _ _ _ _ _ op_mul (pv 3) (pv 5)) (@pe_op _ _ _ _ _ _ _ _ op_add pe_int (@pe_op _ _ _ _ _ _ _ _ op_fdivB (pv 1) pe_int))) pa_nil rfl) rfl rfl rfl rfl rfl) rfl)) (@pss_one _ _ _ (@ps_if _ _ _ _ _ _ _ _ (@pt_cmpR _ _ _ _ _ _ _ _ op_eq (pv 2) pe_int (nomark _)) (@pss_one _ _ _ (@ps_expr _ _ _ _ (@pe_bm _ _ _ _ _ _ _ _ _ _ _ _ PySem.F.plainAttrs_list PySem.F.slot_list_append PySem.F.type_list_append mt_append (pv 4) (@pa_cons _ _ _ _ _ (@pe_cD _ _ _ _ _ _ _ _ _ _ DG hr2 rfl (@pa_cons _ _ _ _ _ (pv 0) pa_nil rfl) (by decide) rfl rfl) pa_nil rfl) rfl rfl rfl rfl rfl) rfl)) (@pss_one _ _ _ (@ps_expr _ _ _ _ (@pe_bm _ _ _ _ _ _ _ _ _ _ _ _ PySem.F.plainAttrs_list PySem.F.slot_list_append PySem.F.type_list_append mt_append (pv 4) (@pa_cons _ _ _ _ _ (@pe_op _ _ _ _ _ _ _ _ op_mul (@pe_callTy _ _ _ _ _ _ _ _ _ call_int1 rfl B.int PyProof.Rows.boot_int (@pa_cons _ _ _ _ _ (@pe_cmpR _ _ _ _ _ _ _ _ op_eq (@pe_cD _ _ _ _ _ _ _ _ _ _ DD hr1 rfl (@pa_cons _ _ _ _ _ (pv 0) (@pa_cons _ _ _ _ _ pe_int pa_nil rfl) rfl) (by decide) rfl rfl) pe_int (nomark _)) pa_nil rfl) (by decide) (by decide) rfl rfl) (@pe_op _ _ _ _ _ _ _ _ op_add (pv 5) (@pe_cD _ _ _ _ _ _ _ _ _ _ DD hr1 rfl (@pa_cons _ _ _ _ _ (pv 0) (@pa_cons _ _ _ _ _ pe_int pa_nil rfl) rfl) (by decide) rfl rfl))) pa_nil rfl) rfl rfl rfl rfl rfl) rfl)))))))))) (by intro _; rfl)) (@pss_one _ _ _ (@ps_ret _ _ _ _ (pv 4))))))),?_⟩
  have e58 : (1000 : Int) < 10 ^ 58 := by decide
  refine ⟨_,rfl,p,5,rfl,pt,by decide,by decide,fun wy H1 w0 w1 pt1 b1 => ?_⟩
  refine ⟨_,rfl,p,7,rfl,pt1,by decide,by decide,fun y H2 y0 y1 pt2 b2 => ⟨_,_,rfl,rfl,?_⟩⟩
  refine ⟨by decide,fun l hl => ?_⟩
  have lp : l ≠ p := fun z => pt2.some (z ▸ hl)
  have b12 := b1.trans b2
  refine ⟨_,rfl,_,_,rfl,rfl,_,_,rfl,⟨by decide,by decide,by omega,by omega⟩,?_⟩
  obtain ⟨n,hn⟩ : ∃ n : Nat,(m + 1 - 1).toNat = n := ⟨_,rfl⟩
  rw [hn]
  refine for_range (lo := 1) (n := n) (WInv p l m wy (1 + y) H2) ⟨[],none,rfl,upd_same,rfl,fun x hx => by simp at hx,pt2.new hl,But.new hl⟩ ?_ ?_
  · rintro i σ H3 hi ⟨ws,v,rfl,l3,len,gw,pt3,b3⟩
    have fin : ∀ (x : Int) (H4 : Hp),0 ≤ x → x < 10 ^ 58 → PotB H4 p → But p H3 H4 → ∃ q3 : H4 l = some (.lst (ws.map V.int)),(ws.map V.int).length < sizeLine ∧ WInv p l m wy (1 + y) H2 (i + 1) [some (.ref p),some (.int m),some (.int wy),some (.int (1 + y)),some (.ref l),some (.int (1 + (i : Int)))] (upd H4 l (.lst (ws.map V.int ++ [.int x]))) := by
      intro x H4 x0 x1 pt4 b4
      have l4 := b4 l _ lp l3
      refine ⟨l4,?_,ws ++ [x],_,rfl,?_,?_,?_,?_,?_⟩
      · rw [List.length_map]
        have : (100 : Nat) < sizeLine := by decide
        omega
      · rw [upd_same,List.map_append]; rfl
      · rw [List.length_append,len]; rfl
      · intro z hz
        rcases List.mem_append.mp hz with h | h
        · exact gw z h
        · rw [List.mem_singleton.mp h]; exact ⟨x0,x1⟩
      · obtain ⟨a4,c4,h1,h2,h3,e4⟩ := pt4
        exact ⟨a4,c4,h1,h2,h3,by rw [upd_ne (Ne.symm lp)]; exact e4⟩
      · intro c o nc e
        rw [upd_ne (fun z => by rw [z,hl] at e; cases e)]
        exact b4 c o nc (b3 c o nc e)
    refine ⟨_,rfl,rfl,_,rfl,?_⟩
    refine ite2 (fun c => ?_) (fun c => ?_)
    · refine ⟨_,rfl,.inl ⟨rfl,_,SqL.of l3⟩,_,rfl,p,4,rfl,pt3,by decide,by decide,fun r H4 r0 r1 pt4 b4 => ?_⟩
      obtain ⟨l4,sz,f⟩ := fin r H4 r0 (by omega) pt4 b4
      exact ⟨l,_,_,rfl,rfl,l4,sz,f⟩
    refine ⟨_,rfl,rfl,_,rfl,?_⟩
    refine ite2 (fun c => ?_) (fun c => ?_)
    · refine ⟨_,rfl,.inl ⟨rfl,_,SqL.of l3⟩,_,rfl,_,rfl,_,_,rfl,rfl,.inl ⟨by omega,by omega⟩,_,rfl,p,3,rfl,pt3,by decide,by decide,fun r H4 r0 r1 pt4 b4 => ⟨_,_,rfl,rfl,?_⟩⟩
      have h1 : 0 ≤ (1 + y) * (1 + (i : Int)) := Int.mul_nonneg (by omega) (by omega)
      have h2 : (1 + y) * (1 + (i : Int)) ≤ 7 * 60 := Int.mul_le_mul (by omega) (by omega) (by omega) (by decide)
      obtain ⟨l4,sz,f⟩ := fin _ H4 (show 0 ≤ (1 + y) * (1 + (i : Int)) + r by omega) (by omega) pt4 b4
      exact ⟨l,_,_,rfl,rfl,l4,sz,f⟩
    refine ⟨_,rfl,rfl,_,rfl,?_⟩
    refine ite2 (fun c => ?_) (fun c => ?_)
    · have h1 : 0 ≤ (1 + y) * (1 + (i : Int)) := Int.mul_nonneg (by omega) (by omega)
      have h2 : (1 + y) * (1 + (i : Int)) ≤ 7 * 60 := Int.mul_le_mul (by omega) (by omega) (by omega) (by decide)
      have d0 : 0 < 1 + m / 3 := by omega
      have e60 : (100 : Int) ≤ 10 ^ 60 := by decide
      refine ⟨_,rfl,.inl ⟨rfl,_,SqL.of l3⟩,_,rfl,_,rfl,_,_,rfl,rfl,.inl ⟨by omega,by omega⟩,_,rfl,_,_,rfl,rfl,⟨by decide,by decide⟩,_,_,rfl,rfl,_,_,rfl,rfl,⟨d0,by omega⟩,?_⟩
      obtain ⟨l4,sz,f⟩ := fin ((1 + y) * (1 + (i : Int)) / (1 + m / 3)) H3 (Int.ediv_nonneg h1 (by omega)) (Int.lt_of_le_of_lt (Int.ediv_le_self _ h1) (by omega)) pt3 But.refl
      exact ⟨l,_,_,rfl,rfl,l4,sz,f⟩
    refine ⟨_,rfl,rfl,_,rfl,?_⟩
    refine ite2 (fun c => ?_) (fun c => ?_)
    · refine ⟨_,rfl,.inl ⟨rfl,_,SqL.of l3⟩,_,rfl,p,rfl,pt3,fun r H4 r0 r1 pt4 b4 => ?_⟩
      obtain ⟨l4,sz,f⟩ := fin r H4 r0 r1 pt4 b4
      exact ⟨l,_,_,rfl,rfl,l4,sz,f⟩
    · refine ⟨_,rfl,.inl ⟨rfl,_,SqL.of l3⟩,_,rfl,p,4,rfl,pt3,by decide,by decide,fun r H4 r0 r1 pt4 b4 => ⟨rfl,.inr ⟨_,rfl,?_⟩⟩⟩
      refine ⟨_,rfl,_,rfl,p,9,rfl,pt4,by decide,by decide,fun z H5 z0 z1 pt5 b5 => ⟨_,_,rfl,rfl,_,_,rfl,rfl,.inr ⟨by omega,by omega⟩,?_⟩⟩
      obtain ⟨k,hk,k0,k1⟩ : ∃ k : Int,(if decide (V.int r = V.int 0) = true then (1 : Int) else 0) = k ∧ 0 ≤ k ∧ k ≤ 1 := ⟨_,rfl,by split <;> decide,by split <;> decide⟩
      rw [hk]
      have h1 : 0 ≤ k * (1 + (i : Int) + z) := Int.mul_nonneg k0 (by omega)
      have h2 : k * (1 + (i : Int) + z) ≤ 1 * 70 := Int.mul_le_mul k1 (by omega) (by omega) (by decide)
      obtain ⟨l4,sz,f⟩ := fin _ H5 h1 (by omega) pt5 (b4.trans b5)
      exact ⟨l,_,_,rfl,rfl,l4,sz,f⟩
  · rintro σ H3 ⟨ws,v,rfl,l3,len,gw,pt3,b3⟩
    refine ⟨_,rfl,q l ws H3 (b12.freeB pt2 hl).2 lp l3 (by omega) gw pt3 (b12.trans b3)⟩
end
def sidesV (k : Kd) (c : Bool) : List V := if c = true then [.int k.h,.int k.w] else [.int k.w,.int k.h]
def spSides (K : PySem.W.Frag) (C NL : Addr) : Sp := fun vs H Q E => ∃ (s : Addr) (b : Int) (ks : List Kd) (x t : V) (T U : String),vs = [.ref s,x,t] ∧ ShopAt C H s b ks ∧ Ty K H x T ∧ Ty K H t U ∧
  (isLy ks x t = false → E (.ref NL) none H) ∧ ∀ (i : Int) (c : Bool) (k : Kd) (p : Addr),x = .int i → t = .bl c → ks[i.toNat]? = some k → isLy ks x t = true → H p = none → Q (.ref p) (upd H p (.tup (sidesV k c)))
theorem isLy_true {ks : List Kd} {x t : V} (h : isLy ks x t = true) : ∃ (i : Int) (c : Bool) (k : Kd),x = .int i ∧ t = .bl c ∧ 0 ≤ i ∧ ks[i.toNat]? = some k := by
  unfold isLy at h
  split at h
  · rename_i i c
    rw [Bool.and_eq_true] at h
    obtain ⟨h1,h2⟩ := h
    split at h2
    · rename_i k hk
      exact ⟨i,c,k,rfl,rfl,of_decide_eq_true h1,hk⟩
    · cases h2
  · cases h
theorem atI_of {rs : List V} {i : Int} {v : V} (i0 : 0 ≤ i) (h : rs[i.toNat]? = some v) : atI rs i = some v := by
  have en : ixN rs.length i = some i.toNat := by
    unfold ixN
    have := (List.getElem?_eq_some_iff.mp h).1
    rw [if_pos i0,if_pos (by omega)]
  unfold atI
  rw [en]
  exact h
section
variable {P : Program} {w : World} {K : PySem.W.Frag} {mg : Str → Option Value} {base : Heap}
theorem scSides : FnScope ["self","kind","turned","row"] ["self","kind","turned"] (defScope sShopSides) := ⟨rfl,rfl,rfl,by decide +kernel,rfl,by decide +kernel,by decide +kernel⟩
theorem ok_sides {f C NL : Addr} {fd : FuncData} (F : Fun K "sides" "Shop.sides" sShopSides f fd) (T : ShopTxt K C) (ML : Mn P w K mg base C "is_lying" ["self","kind","turned"] 2 (spIsLying K C)) (mn : mg "NoLying" = some (.ref NL)) (ec : ExcC K NL) :
    FnOk P w K mg base (CXx P w) 3 f fd ["self","kind","turned"] (spSides K C NL) := by
  refine F.okX scSides (fun vs H Q E h => ?_) (fun cdv A outer s H vs Q E hr h => ?_)
  · obtain ⟨s,b,ks,x,t,T0,U,rfl,_⟩ := h
    rfl
  obtain ⟨s,b,ks,x,t,T0,U,rfl,S,tx,tt,he,hq⟩ := h
  have nd := scSides.nd
  refine ⟨_,pss_cons (ps_if (pt_not (pt_val (pe_mD (pv 0) T.cl ML hr (pa_cons (pv 1) (pa_cons (pv 2) pa_nil))))) (pss_one (ps_raise (R := fun c H => E c none H) rfl rfl mn ec (pa_cons pe_str pa_nil) raise_ends)) pss_nil)
    (pss_cons (ps_set (i := 3) nd rfl (Or.inl rfl) (pe_ix ix_tup (pe_fld (pv 0) rfl) (pv 1) (fun _ _ => rfl)))
    (pss_cons (ps_if (pt_val (pv 2)) (pss_one (ps_ret (pe_tup (pa_cons (pe_ix ix_tup (pv 3) pe_int (fun _ _ => rfl)) (pa_cons (pe_ix ix_tup (pv 3) pe_int (fun _ _ => rfl)) pa_nil))))) pss_nil)
    (pss_one (ps_ret (pe_tup (pa_cons (pe_ix ix_tup (pv 3) pe_int (fun _ _ => rfl)) (pa_cons (pe_ix ix_tup (pv 3) pe_int (fun _ _ => rfl)) pa_nil))))))),?_⟩
  obtain ⟨dx,r,rs,h1,h2,h3⟩ := id S
  refine ⟨_,rfl,s,dx,_,rfl,h1,flds_no _ _ (by decide +kernel) (by decide +kernel),_,rfl,_,rfl,s,b,ks,x,t,T0,U,rfl,S,tx,tt,_,rfl,?_⟩
  cases hl : isLy ks x t with
  | false =>
    refine iteT ?_
    exact ⟨(by show 1 ≤ sizeLine; decide),he hl⟩
  | true =>
    obtain ⟨i,c,k,rfl,rfl,i0,hk⟩ := isLy_true hl
    have len3 := Paired.length h3
    have hik := (List.getElem?_eq_some_iff.mp hk).1
    obtain ⟨y,hy⟩ : ∃ y,rs[i.toNat]? = some y := ⟨rs[i.toNat]'(by omega),by simp [show i.toNat < rs.length by omega]⟩
    obtain ⟨k',hk',a,rfl,ha⟩ := Paired.getR h3 hy
    rw [hk] at hk'
    obtain rfl := Option.some.inj hk'
    refine iteF ?_
    refine ⟨_,rfl,s,C,dx,_,_,rfl,h1,T.cl,T.nK,flds_rows _ _,_,rfl,r,rs,i,_,rfl,rfl,SqT.of h2,atI_of i0 hy,?_⟩
    refine ⟨_,rfl,_,rfl,?_⟩
    cases c with
    | true =>
      refine iteT ?_
      refine ⟨_,rfl,a,_,1,_,rfl,rfl,SqT.of ha,rfl,_,rfl,a,_,0,_,rfl,rfl,SqT.of ha,rfl,(by show 2 ≤ sizeLine; decide),fun p hp => ?_⟩
      exact hq i true k p rfl rfl hk hl hp
    | false =>
      refine iteF ?_
      refine ⟨_,rfl,a,_,0,_,rfl,rfl,SqT.of ha,rfl,_,rfl,a,_,1,_,rfl,rfl,SqT.of ha,rfl,(by show 2 ≤ sizeLine; decide),fun p hp => ?_⟩
      exact hq i false k p rfl rfl hk hl hp
end
section
variable {P : Program} {w : World} {K : PySem.W.Frag} {mg : Str → Option Value} {base : Heap}
def sd1 (k : Kd) (c : Bool) : Int := if c = true then k.h else k.w
def sd2 (k : Kd) (c : Bool) : Int := if c = true then k.w else k.h
theorem sides_eq (k : Kd) (c : Bool) : sidesV k c = [.int (sd1 k c),.int (sd2 k c)] := by cases c <;> rfl
def fits (k : Kd) (c : Bool) (w h : Int) : Bool := decide (sd1 k c ≤ w) && decide (sd2 k c ≤ h)
def spCP : Sp := fun vs H Q _ => ∃ (w h : Int),vs = [.int w,.int h] ∧ 1 ≤ w ∧ 1 ≤ h ∧ Q .non H
def spCS : Sp := fun vs H Q _ => ∃ (w h m : Int),vs = [.int w,.int h,.int m] ∧ w ≤ m ∧ h ≤ m ∧ Q .non H
def spLies (C : Addr) : Sp := fun vs H Q _ => ∃ (s : Addr) (b : Int) (ks : List Kd) (w h i : Int) (c : Bool) (k : Kd),vs = [.ref s,.int w,.int h,.int i,.bl c,.int 0,.int 0] ∧ ShopAt C H s b ks ∧ isLy ks (.int i) (.bl c) = true ∧ ks[i.toNat]? = some k ∧ ∀ H',Same H H' → Q (.bl (fits k c w h)) H'
theorem sccplate : FnScope ["wide","high"] ["wide","high"] (defScope sCheckPlate) := ⟨rfl,rfl,rfl,by decide +kernel,rfl,by decide +kernel,by decide +kernel⟩
theorem ok_cplate {f : Addr} {fd : FuncData} (F : Fun K "check_plate" "check_plate" sCheckPlate f fd) (DW : Dn P w K mg base "is_whole" ["thing","least"] 1 (spWhole K)) : FnOk P w K mg base CX0 2 f fd ["wide","high"] (spCP) := by
  refine F.ok sccplate (fun vs H Q E h => ?_) (fun cdv A outer s H vs Q E hr h => ?_)
  · obtain ⟨w1,h1,rfl,_⟩ := h
    rfl
  obtain ⟨w1,h1,rfl,hw,hh,q⟩ := h
  have nd := sccplate.nd
  refine ⟨_,(@pss_one _ _ _ (@ps_if _ _ _ _ _ _ _ _ (PW.pt (pw_or (@pt_not _ _ _ _ (@pt_val _ _ _ (@pe_cD _ _ _ _ _ _ _ _ _ _ DW hr rfl (@pa_cons _ _ _ _ _ (pv 0) (@pa_cons _ _ _ _ _ pe_int pa_nil rfl) rfl) (by decide) rfl rfl) (by intro _; rfl))) (pw_or1 (@pt_not _ _ _ _ (@pt_val _ _ _ (@pe_cD _ _ _ _ _ _ _ _ _ _ DW hr rfl (@pa_cons _ _ _ _ _ (pv 1) (@pa_cons _ _ _ _ _ pe_int pa_nil rfl) rfl) (by decide) rfl rfl) (by intro _; rfl)))))) (@pss_one _ _ _ ps_never) pss_nil)),?_⟩
  refine ⟨_,rfl,.int w1,"int",1,rfl,Ty.int,_,rfl,?_⟩
  rw [show whole (.int w1) 1 = true from decide_eq_true hw]
  refine iteF ⟨_,rfl,.int h1,"int",1,rfl,Ty.int,_,rfl,?_⟩
  rw [show whole (.int h1) 1 = true from decide_eq_true hh]
  exact iteF q
theorem sccsides : FnScope ["wide","high","most"] ["wide","high","most"] (defScope sCheckSides) := ⟨rfl,rfl,rfl,by decide +kernel,rfl,by decide +kernel,by decide +kernel⟩
theorem ok_csides {f : Addr} {fd : FuncData} (F : Fun K "check_sides" "check_sides" sCheckSides f fd)  : FnOk P w K mg base CX0 1 f fd ["wide","high","most"] (spCS) := by
  refine F.ok sccsides (fun vs H Q E h => ?_) (fun cdv A outer s H vs Q E hr h => ?_)
  · obtain ⟨w1,h1,m,rfl,_⟩ := h
    rfl
  obtain ⟨w1,h1,m,rfl,hw,hh,q⟩ := h
  have nd := sccsides.nd
  refine ⟨_,(@pss_one _ _ _ (@ps_if _ _ _ _ _ _ _ _ (PW.pt (pw_or (@pt_cmpR _ _ _ _ _ _ _ _ op_gt (pv 0) (pv 2) (nomark _)) (pw_or1 (@pt_cmpR _ _ _ _ _ _ _ _ op_gt (pv 1) (pv 2) (nomark _))))) (@pss_one _ _ _ ps_never) pss_nil)),?_⟩
  refine ⟨_,rfl,_,rfl,_,_,rfl,rfl,_,rfl,?_⟩
  rw [decide_eq_false (show ¬ m < w1 by omega)]
  refine iteF ⟨_,rfl,_,rfl,_,_,rfl,rfl,_,rfl,?_⟩
  rw [decide_eq_false (show ¬ m < h1 by omega)]
  exact iteF q
theorem sclies : FnScope ["shop","wide","high","kind","turned","x","y","piece_wide","piece_high"] ["shop","wide","high","kind","turned","x","y"] (defScope sLiesIn) := ⟨rfl,rfl,rfl,by decide +kernel,rfl,by decide +kernel,by decide +kernel⟩
theorem ok_lies {f C NL : Addr} {fd : FuncData} (F : Fun K "lies_in" "lies_in" sLiesIn f fd) (T : ShopTxt K C) (DW : Dn P w K mg base "is_whole" ["thing","least"] 1 (spWhole K)) (MI : Mn P w K mg base C "is_lying" ["self","kind","turned"] 2 (spIsLying K C)) (MS : MnX P w K mg base C "sides" ["self","kind","turned"] 3 (spSides K C NL)) : FnOk P w K mg base CX0 4 f fd ["shop","wide","high","kind","turned","x","y"] (spLies C) := by
  refine F.ok sclies (fun vs H Q E h => ?_) (fun cdv A outer s H vs Q E hr h => ?_)
  · obtain ⟨s,b,ks,w,h,i,c,k,rfl,_⟩ := h
    rfl
  obtain ⟨s,b,ks,w,h,i,c,k,rfl,S,ly,hk,q⟩ := h
  have nd := sclies.nd
  have hr1 := hr.mono (show 1 ≤ 3 by decide)
  have hr2 := hr.mono (show 2 ≤ 3 by decide)
  refine ⟨_,(@pss_cons _ _ _ _ _ (@ps_if _ _ _ _ _ _ _ _ (PW.pt (pw_or (@pt_not _ _ _ _ (@pt_val _ _ _ (pe_mD (pv 0) T.cl MI hr2 (@pa_cons _ _ _ _ _ (pv 3) (@pa_cons _ _ _ _ _ (pv 4) pa_nil rfl) rfl)) (by intro _; rfl))) (pw_or (@pt_not _ _ _ _ (@pt_val _ _ _ (@pe_cD _ _ _ _ _ _ _ _ _ _ DW hr1 rfl (@pa_cons _ _ _ _ _ (pv 5) (@pa_cons _ _ _ _ _ pe_int pa_nil rfl) rfl) (by decide) rfl rfl) (by intro _; rfl))) (pw_or1 (@pt_not _ _ _ _ (@pt_val _ _ _ (@pe_cD _ _ _ _ _ _ _ _ _ _ DW hr1 rfl (@pa_cons _ _ _ _ _ (pv 6) (@pa_cons _ _ _ _ _ pe_int pa_nil rfl) rfl) (by decide) rfl rfl) (by intro _; rfl))))))) (@pss_one _ _ _ (@ps_ret _ _ _ _ pe_bl)) pss_nil) (@pss_cons _ _ _ _ _ (@ps_asg _ _ _ _ _ _ (pe_mDX (pv 0) T.cl MS hr (@pa_cons _ _ _ _ _ (pv 3) (@pa_cons _ _ _ _ _ (pv 4) pa_nil rfl) rfl)) (pg_tup rfl (pgs_cons (pg_name (i := 7) nd rfl (Or.inl rfl)) (pgs_cons (pg_name (i := 8) nd rfl (Or.inl rfl)) pgs_nil))) rfl rfl rfl) (@pss_one _ _ _ (@ps_ret _ _ _ _ (pe_and (@pe_cmpR _ _ _ _ _ _ _ _ op_le (@pe_op _ _ _ _ _ _ _ _ op_add (pv 5) (pv 7)) (pv 1) (nomark _)) (pe_one (@pe_cmpR _ _ _ _ _ _ _ _ op_le (@pe_op _ _ _ _ _ _ _ _ op_add (pv 6) (pv 8)) (pv 2) (nomark _)))))))),?_⟩
  obtain ⟨dx,r,rs,h1,h2,h3⟩ := id S
  refine ⟨_,rfl,s,dx,_,rfl,h1,flds_no _ _ (by decide +kernel) (by decide +kernel),_,rfl,_,rfl,s,b,ks,.int i,.bl c,"int","bool",rfl,S,Ty.int,Ty.bl,_,rfl,?_⟩
  rw [ly]
  refine iteF ⟨_,rfl,.int 0,"int",0,rfl,Ty.int,_,rfl,iteF ⟨_,rfl,.int 0,"int",0,rfl,Ty.int,_,rfl,iteF ?_⟩⟩
  refine ⟨_, rfl, s, dx, _, rfl, h1, flds_no _ _ (by decide +kernel) (by decide +kernel), _, rfl, _, rfl, s, b, ks, .int i, .bl c, "int", "bool", rfl, S, Ty.int, Ty.bl, fun z => absurd z (by rw [ly]; decide), fun i' c' k' p e1 e2 hk' _ hp => ?_⟩
  cases e1
  cases e2
  rw [hk] at hk'
  cases hk'
  rw [sides_eq]
  have q1 := q _ (Same.new hp (o := .tup [.int (sd1 k c),.int (sd2 k c)]))
  refine ⟨p,_,rfl,SqT.of upd_same,rfl,_,_,rfl,_,_,rfl,rfl,?_⟩
  refine ⟨_,rfl,_,rfl,_,_,rfl,rfl,_,rfl,_,_,rfl,rfl,_,rfl,?_⟩
  unfold fits at q1
  refine ite2 (fun cc => ?_) (fun cc => ?_)
  · refine ⟨_,rfl,_,rfl,_,_,rfl,rfl,_,rfl,_,_,rfl,rfl,?_⟩
    rw [Int.zero_add] at cc ⊢
    rw [cc] at q1
    exact q1
  · rw [Int.zero_add] at cc
    rw [show decide (sd1 k c ≤ w) = false by simpa using cc] at q1
    exact q1
end
section
variable {P : Program} {w : World} {K : PySem.W.Frag} {mg : Str → Option Value} {base : Heap}
theorem leS2 {a b c : St} (h1 : leS a b) (h2 : leS b c) : leS a c := ⟨h2.1.trans h1.1,fun i v e => h2.2 i v (h1.2 i v e)⟩
theorem lyT_mem {i : Nat} {k : Kd} {q : Nat × Bool} (h : q ∈ lyT i k) : q.1 = i ∧ (q.2 = false ∨ turnable k = true) := by
  unfold lyT at h
  rcases List.mem_cons.mp h with rfl | h
  · exact ⟨rfl,.inl rfl⟩
  · by_cases c : turnable k = true
    · rw [if_pos c] at h
      rw [List.mem_singleton.mp h]
      exact ⟨rfl,.inr c⟩
    · rw [if_neg c] at h
      simp at h
theorem lyK_mem : ∀ {ks : List Kd} {i : Nat} {q : Nat × Bool},q ∈ lyK ks i → i ≤ q.1 ∧ ∃ k,ks[q.1 - i]? = some k ∧ (q.2 = false ∨ turnable k = true)
  | [],_,_,h => by simp [lyK] at h
  | k :: r,i,q,h => by
    rcases List.mem_append.mp h with h | h
    · obtain ⟨h1,h2⟩ := lyT_mem h
      exact ⟨by omega,k,by rw [h1,Nat.sub_self]; rfl,h2⟩
    · obtain ⟨h1,k',h2,h3⟩ := lyK_mem h
      refine ⟨by omega,k',?_,h3⟩
      rw [show q.1 - i = (q.1 - (i + 1)) + 1 by omega]
      exact h2
theorem ly_true {ks : List Kd} {q : Nat × Bool} (h : q ∈ lyK ks 0) : isLy ks (.int q.1) (.bl q.2) = true ∧ ∃ k,ks[q.1]? = some k := by
  obtain ⟨_,k,h2,h3⟩ := lyK_mem h
  rw [Nat.sub_zero] at h2
  refine ⟨?_,k,h2⟩
  unfold isLy
  simp only [Int.toNat_natCast,h2,Bool.and_eq_true]
  refine ⟨decide_eq_true (by omega),?_⟩
  rcases h3 with e | e
  · rw [e]; rfl
  · rw [e,Bool.or_true]
def fitP (ks : List Kd) (w h : Int) (q : Nat × Bool) : Bool := match ks[q.1]? with
  | some k => fits k q.2 w h
  | none => false
def spLyIn (C : Addr) : Sp := fun vs H Q _ => ∃ (s t : Addr) (b : Int) (ks : List Kd) (w h : Int),vs = [.ref s,.ref t] ∧ ShopAt C H s b ks ∧ ks.length ≤ 8 ∧ H t = some (.tup [.int w,.int h]) ∧
  ∀ (l : Addr) (ys : List V) (H' : Hp),H l = none → H' l = some (.lst ys) → Lys H' ys ((lyK ks 0).filter (fitP ks w h)) → Same H H' → Q (.ref l) H'
theorem sclyin : FnScope ["shop","part","wide","high"] ["shop","part"] (defScope sLyingsIn) := ⟨rfl,rfl,rfl,by decide +kernel,rfl,by decide +kernel,by decide +kernel⟩
theorem ok_lyin {f C : Addr} {fd : FuncData} (F : Fun K "lyings_in" "lyings_in" sLyingsIn f fd) (T : ShopTxt K C) (ML : Mn P w K mg base C "lyings" ["self"] 2 (spLyings C)) (DLI : Dn P w K mg base "lies_in" ["shop","wide","high","kind","turned","x","y"] 4 (spLies C)) : FnOk P w K mg base CX0 5 f fd ["shop","part"] (spLyIn C) := by
  refine F.ok sclyin (fun vs H Q E h => ?_) (fun cdv A outer s H vs Q E hr h => ?_)
  · obtain ⟨s,t,b,ks,w,h,rfl,_⟩ := h
    rfl
  obtain ⟨s,t,b,ks,w,h,rfl,S,k8,ht,q⟩ := h
  have nd := sclyin.nd
  have hr2 := hr.mono (show 2 ≤ 4 by decide)
  refine ⟨_,(@pss_cons _ _ _ _ _ (@ps_asg _ _ _ _ _ _ (pv 1) (pg_tup rfl (pgs_cons (pg_name (i := 2) nd rfl (Or.inr rfl)) (pgs_cons (pg_name (i := 3) nd rfl (Or.inr rfl)) pgs_nil))) rfl rfl rfl) (@pss_one _ _ _ (@ps_ret _ _ _ _ (pe_comp (own := ["kind","turned"]) (cs := ["shop","wide","high"]) (cap := [0,2,3]) rfl (pi_list (pe_mD0 (pv 0) T.cl ML hr2)) (compOk_of (sc := defScope sLyingsIn) (N := ["shop","part","wide","high"]) rfl rfl (by decide +kernel)) (fun _ _ _ _ _ => pg_two K rfl rfl (by show List.Nodup (["kind","turned","shop","wide","high"] : List Str) ; decide +kernel) rfl rfl rfl rfl) (fun _ _ _ _ _ => (pifs_one (@pt_val _ _ _ (@pe_cD _ _ _ _ _ _ _ _ _ _ DLI hr rfl (@pa_cons _ _ _ _ _ (pv 2) (@pa_cons _ _ _ _ _ (pv 3) (@pa_cons _ _ _ _ _ (pv 4) (@pa_cons _ _ _ _ _ (pv 0) (@pa_cons _ _ _ _ _ (pv 1) (@pa_cons _ _ _ _ _ pe_int (@pa_cons _ _ _ _ _ pe_int pa_nil rfl) rfl) rfl) rfl) rfl) rfl) rfl) (by decide) rfl rfl) (by intro _; rfl)))) (fun _ _ _ _ _ => (@pe_tup _ _ _ _ _ (@pa_cons _ _ _ _ _ (pv 0) (@pa_cons _ _ _ _ _ (pv 1) pa_nil rfl) rfl))))))),?_⟩
  have sz : (100 : Nat) < sizeLine := by decide
  obtain ⟨dx,r,rs,h1,h2,h3⟩ := id S
  refine ⟨_,rfl,t,_,rfl,SqT.of ht,rfl,_,_,rfl,_,_,rfl,rfl,?_⟩
  refine ⟨_,rfl,s,dx,_,rfl,h1,flds_no _ _ (by decide +kernel) (by decide +kernel),s,b,ks,rfl,S,k8,fun l1 ys H1 hl1 l1' ly s1 => ?_⟩
  have lyl := lyK_len ks 0
  have ylen := Paired.length ly
  refine ⟨l1,rfl,⟨_,SqL.of l1'⟩,(comp_seq (K := K) (.inl l1') (fun i zs H4 => Same H1 H4 ∧ zs.length ≤ i ∧ Lys H4 zs (((lyK ks 0).take i).filter (fitP ks w h))) (fun i zs H4 _ ⟨s4,_⟩ o e => s4 _ _ e) ⟨Same.refl _,Nat.le_refl _,.nil⟩ ?_ ?_).1 l1'⟩
  · rintro i y zs H4 hi ⟨s4,zl,lz⟩
    have hin : i < ys.length := (List.getElem?_eq_some_iff.mp hi).1
    obtain ⟨qq,hq,a,rfl,ha⟩ := Paired.getR ly hi
    obtain ⟨li,k,hk⟩ := ly_true (List.mem_of_getElem? hq)
    refine ⟨by omega,a,_,rfl,SqT.of (s4 _ _ ha),rfl,_,_,rfl,_,_,rfl,rfl,?_⟩
    refine ⟨leS2 (leS.set rfl) (leS.set rfl),?_⟩
    have S4 : ShopAt C H4 s b ks := S.keep (fun c o e => s4 _ _ (s1 _ _ e)) (fun c C' d fs e => s4 _ _ (s1 _ _ e))
    refine ⟨_,rfl,_,rfl,_,rfl,_,rfl,_,rfl,s,b,ks,w,h,(qq.1 : Int),qq.2,k,rfl,S4,li,(by rw [Int.toNat_natCast]; exact hk),fun H5 s5 => ⟨_,rfl,?_⟩⟩
    have st : ((lyK ks 0).take (i + 1)).filter (fitP ks w h) = ((lyK ks 0).take i).filter (fitP ks w h) ++ (if fits k qq.2 w h = true then [qq] else []) := by
      rw [List.take_add_one,hq,List.filter_append]
      simp only [Option.toList_some,List.filter_cons,List.filter_nil]
      rw [show fitP ks w h qq = fits k qq.2 w h by unfold fitP; rw [hk]]
    dsimp only
    refine ite2 (fun cc => ?_) (fun cc => ?_)
    · rw [cc,if_pos rfl] at st
      refine ⟨_,rfl,_,rfl,(by show 2 ≤ sizeLine; decide),fun p hp => Nx.of hin ⟨(s4.trans s5).trans (Same.new hp),by rw [List.length_append]; show _ + 1 ≤ _; omega,?_⟩⟩
      rw [st]
      refine Paired.snoc (Lys.keep (fun c o e => ?_) lz) ⟨p,rfl,upd_same⟩
      have e5 := s5 _ _ e
      rw [upd_ne (ne_of_none e5 hp)]; exact e5
    · rw [if_neg cc,List.append_nil] at st
      refine Nx.of hin ⟨s4.trans s5,by omega,?_⟩
      rw [st]
      exact Lys.keep (fun c o e => s5 _ _ e) lz
  · rintro zs H4 ⟨s4,zl,lz⟩
    rw [ylen,List.take_length] at lz
    refine ⟨by omega,fun p hp => q p zs _ ((s1.trans s4).free hp) upd_same (Lys.keep (fun c o e => ?_) lz) ((s1.trans s4).trans (Same.new hp))⟩
    rw [upd_ne (ne_of_none e hp)]; exact e
end
def oV : Option Int → V
  | none => .non
  | some i => .int i
def kw1 (u v : List Int) (k : Kd) (c : Bool) : Int := gI u (sd1 k c - 1) * gI v (sd2 k c - 1)
def stp (o : Option Int) (w : Int) : Option Int := match o with
  | none => some w
  | some x => if w < x then some w else some x
def kwt (u v : List Int) (k : Kd) : Option Int := if (turnable k && fits k true u.length v.length) = true then stp (if fits k false u.length v.length = true then some (kw1 u v k false) else none) (kw1 u v k true) else if fits k false u.length v.length = true then some (kw1 u v k false) else none
def lw (ks : List Kd) (u v : List Int) (q : Nat × Bool) : Int := match ks[q.1]? with
  | some k => kw1 u v k q.2
  | none => 0
def fstp (ks : List Kd) (u v : List Int) (tel : List (Option Int)) (q : Nat × Bool) : List (Option Int) := tel.set q.1 (stp (tel.getD q.1 none) (lw ks u v q))
theorem set_mid {α : Type} (p : List α) (x y : α) (r : List α) : (p ++ x :: r).set p.length y = p ++ y :: r := by
  rw [List.set_append_right _ _ (Nat.le_refl _),Nat.sub_self]; rfl
theorem getD_mid {α : Type} (p : List α) (x d : α) (r : List α) : (p ++ x :: r).getD p.length d = x := by
  rw [List.getD_eq_getElem?_getD,List.getElem?_append_right (Nat.le_refl _),Nat.sub_self]; rfl
theorem fold_lyT {ks : List Kd} {u v : List Int} {i : Nat} {k : Kd} (hk : ks[i]? = some k) (p : List (Option Int)) (hp : p.length = i) (r : List (Option Int)) :
    ((lyT i k).filter (fitP ks u.length v.length)).foldl (fstp ks u v) (p ++ none :: r) = p ++ kwt u v k :: r := by
  subst hp
  have f : ∀ c,fitP ks u.length v.length (p.length,c) = fits k c u.length v.length := fun c => by unfold fitP; dsimp only; rw [hk]
  have s : ∀ (c : Bool) (o : Option Int),fstp ks u v (p ++ o :: r) (p.length,c) = p ++ stp o (kw1 u v k c) :: r := fun c o => by
    unfold fstp lw
    dsimp only
    rw [hk,getD_mid,set_mid]
  unfold lyT kwt
  rw [List.filter_cons,f]
  cases t : turnable k with
  | false =>
    rw [if_neg Bool.false_ne_true,List.filter_nil,Bool.false_and,if_neg Bool.false_ne_true]
    cases a : fits k false u.length v.length with
    | false => rfl
    | true =>
      rw [if_pos rfl,if_pos rfl,List.foldl_cons,List.foldl_nil,s]; rfl
  | true =>
    rw [if_pos rfl,List.filter_cons,List.filter_nil,f,Bool.true_and]
    cases a : fits k false u.length v.length with
    | false =>
      rw [if_neg Bool.false_ne_true,if_neg Bool.false_ne_true]
      cases b : fits k true u.length v.length with
      | false => rfl
      | true => rw [if_pos rfl,if_pos rfl,List.foldl_cons,List.foldl_nil,s]
    | true =>
      rw [if_pos rfl,if_pos rfl]
      cases b : fits k true u.length v.length with
      | false =>
        rw [if_neg Bool.false_ne_true,if_neg Bool.false_ne_true,List.foldl_cons,List.foldl_nil,s]; rfl
      | true =>
        rw [if_pos rfl,if_pos rfl,List.foldl_cons,List.foldl_cons,List.foldl_nil,s,s]; rfl
theorem fold_all {ks : List Kd} {u v : List Int} : ∀ (r pre : List Kd),pre ++ r = ks → ((lyK r pre.length).filter (fitP ks u.length v.length)).foldl (fstp ks u v) (pre.map (kwt u v) ++ List.replicate r.length none) = ks.map (kwt u v)
  | [],pre,e => by
    rw [List.append_nil] at e
    subst e
    simp [lyK]
  | k :: r,pre,e => by
    have hk : ks[pre.length]? = some k := by rw [← e,List.getElem?_append_right (Nat.le_refl _),Nat.sub_self]; rfl
    have ih := fold_all (ks := ks) (u := u) (v := v) r (pre ++ [k]) (by rw [List.append_assoc]; exact e)
    show (((lyT pre.length k ++ lyK r (pre.length + 1)).filter (fitP ks u.length v.length)).foldl (fstp ks u v) (pre.map (kwt u v) ++ none :: List.replicate r.length none)) = _
    rw [List.filter_append,List.foldl_append,fold_lyT hk _ (by rw [List.length_map])]
    rw [List.length_append,List.map_append,List.append_assoc] at ih
    exact ih
theorem fold_len {ks : List Kd} {u v : List Int} : ∀ (qs : List (Nat × Bool)) (t : List (Option Int)),(qs.foldl (fstp ks u v) t).length = t.length
  | [],_ => rfl
  | q :: r,t => by rw [List.foldl_cons,fold_len r]; unfold fstp; rw [List.length_set]
section
variable {P : Program} {w : World} {K : PySem.W.Frag} {mg : Str → Option Value} {base : Heap}
structure Wts (H : Hp) (a : Addr) (us : List Int) : Prop where
  row : RowI H a us
  l1 : 1 ≤ us.length
  l60 : us.length ≤ 60
  gw : GoodW us
theorem Wts.same {H H' : Hp} {a : Addr} {us : List Int} (s : Same H H') (h : Wts H a us) : Wts H' a us := ⟨h.row.same s,h.l1,h.l60,h.gw⟩
theorem row_ty {H : Hp} {a : Addr} {us : List Int} (h : RowI H a us) : ∃ T,Ty K H (.ref a) T := by
  rcases h with z | z
  · exact ⟨_,Ty.lst z⟩
  · exact ⟨_,Ty.tup z⟩
def spCW : Sp := fun vs H Q _ => ∃ (a c : Addr) (us ws : List Int) (m n : Int),vs = [.int m,.int n,.ref a,.ref c] ∧ m = us.length ∧ n = ws.length ∧ Wts H a us ∧ Wts H c ws ∧ ∀ H',Same H H' → Q .non H'
def spWanted (C : Addr) : Sp := fun vs H Q _ => ∃ (x : Addr) (b : Int) (ks : List Kd),vs = [.ref x] ∧ ShopAt C H x b ks ∧ ks.length ≤ 8 ∧ ∀ (t : Addr) (H' : Hp),H t = none → H' t = some (.tup (ks.map fun k => V.int k.wa)) → Same H H' → Q (.ref t) H'
theorem sccweights : FnScope ["wide","high","u","v","side","weights"] ["wide","high","u","v"] (defScope sCheckWeights) := ⟨rfl,rfl,rfl,by decide +kernel,rfl,by decide +kernel,by decide +kernel⟩
theorem ok_cweights {f : Addr} {fd : FuncData} (F : Fun K "check_weights" "check_weights" sCheckWeights f fd) (B : Blt mg) (ms : ∃ t,mg "MOST_SIDE" = some (.int 60 t)) (DCP : Dn P w K mg base "check_plate" ["wide","high"] 2 spCP) (DCS : Dn P w K mg base "check_sides" ["wide","high","most"] 1 spCS) (DI : Dn P w K mg base "is_weights" ["thing"] 2 (spIsW K)) : FnOk P w K mg base CX0 3 f fd ["wide","high","u","v"] (spCW) := by
  refine F.ok sccweights (fun vs H Q E h => ?_) (fun cdv A outer s H vs Q E hr h => ?_)
  · obtain ⟨a,c,us,ws,m,n,rfl,_⟩ := h
    rfl
  obtain ⟨a,c,us,ws,m,n,rfl,rfl,rfl,hu,hv,q⟩ := h
  have nd := sccweights.nd
  obtain ⟨tk,htk⟩ := ms
  have hr1 := hr.mono (show 1 ≤ 2 by decide)
  refine ⟨_,(@pss_cons _ _ _ _ _ (@ps_expr _ _ _ _ (@pe_cD _ _ _ _ _ _ _ _ _ _ DCP hr rfl (@pa_cons _ _ _ _ _ (pv 0) (@pa_cons _ _ _ _ _ (pv 1) pa_nil rfl) rfl) (by decide) rfl rfl) rfl) (@pss_cons _ _ _ _ _ (@ps_expr _ _ _ _ (@pe_cD _ _ _ _ _ _ _ _ _ _ DCS hr1 rfl (@pa_cons _ _ _ _ _ (pv 0) (@pa_cons _ _ _ _ _ (pv 1) (@pa_cons _ _ _ _ _ (pe_glob (v := .int 60) rfl htk ⟨tk,rfl⟩) pa_nil rfl) rfl) rfl) (by decide) rfl rfl) rfl) (@pss_one _ _ _ (@ps_for _ _ _ _ _ _ _ _ PassesOwn.never rfl (pi_tup (@pe_tup _ _ _ _ _ (@pa_cons _ _ _ _ _ (@pe_tup _ _ _ _ _ (@pa_cons _ _ _ _ _ (pv 0) (@pa_cons _ _ _ _ _ (pv 2) pa_nil rfl) rfl)) (@pa_cons _ _ _ _ _ (@pe_tup _ _ _ _ _ (@pa_cons _ _ _ _ _ (pv 1) (@pa_cons _ _ _ _ _ (pv 3) pa_nil rfl) rfl)) pa_nil rfl) rfl))) (pg_tup rfl (pgs_cons (pg_name (i := 4) nd rfl (Or.inl rfl)) (pgs_cons (pg_name (i := 5) nd rfl (Or.inl rfl)) pgs_nil))) (@pss_one _ _ _ (@ps_if _ _ _ _ _ _ _ _ (PW.pt (pw_or (@pt_not _ _ _ _ (@pt_val _ _ _ (@pe_cD _ _ _ _ _ _ _ _ _ _ DI hr rfl (@pa_cons _ _ _ _ _ (pv 5) pa_nil rfl) (by decide) rfl rfl) (by intro _; rfl))) (pw_or1 (@pt_cmpR _ _ _ _ _ _ _ _ op_ne (@pe_callB _ _ _ _ _ _ _ _ _ call_len_seq rfl B.len PySem.boot_len (@pa_cons _ _ _ _ _ (pv 5) pa_nil rfl) (by decide) (by decide) rfl rfl) (pv 4) (nomark _))))) (@pss_one _ _ _ ps_never) pss_nil)) (by intro _; rfl))))),?_⟩
  have := hu.l1
  have := hu.l60
  have := hv.l1
  have := hv.l60
  refine ⟨_,rfl,_,rfl,_,_,rfl,by omega,by omega,?_⟩
  refine ⟨_,rfl,_,rfl,_,_,60,rfl,by omega,by omega,?_⟩
  refine ⟨_,rfl,_,rfl,(by show 2 ≤ sizeLine; decide),fun t1 ht1 => ?_⟩
  have s1 : Same H (upd H t1 (.tup [.int us.length,.ref a])) := Same.new ht1
  have k1 : (upd H t1 (.tup [.int us.length,.ref a])) t1 = some (.tup [.int us.length,.ref a]) := upd_same
  generalize upd H t1 _ = H1 at s1 k1 ⊢
  refine ⟨_,rfl,_,rfl,(by show 2 ≤ sizeLine; decide),fun t2 ht2 => ?_⟩
  have s2 : Same H1 (upd H1 t2 (.tup [.int ws.length,.ref c])) := Same.new ht2
  have k2 : (upd H1 t2 (.tup [.int ws.length,.ref c])) t2 = some (.tup [.int ws.length,.ref c]) := upd_same
  generalize upd H1 t2 _ = H2 at s2 k2 ⊢
  refine ⟨(by show 2 ≤ sizeLine; decide),fun t3 ht3 => ?_⟩
  have s3 : Same H2 (upd H2 t3 (.tup [.ref t1,.ref t2])) := Same.new ht3
  have k3 : (upd H2 t3 (.tup [.ref t1,.ref t2])) t3 = some (.tup [.ref t1,.ref t2]) := upd_same
  generalize upd H2 t3 _ = H3 at s3 k3 ⊢
  have sA : Same H H3 := (s1.trans s2).trans s3
  refine ⟨t3,rfl,⟨_,SqT.of k3⟩,for_tup (xs := [.ref t1,.ref t2]) (fun i σ H' => (∃ v4 v5,σ = [some (.int us.length),some (.int ws.length),some (.ref a),some (.ref c),v4,v5]) ∧ Same H3 H') ⟨⟨_,_,rfl⟩,Same.refl _⟩ (fun i σ H' _ ⟨_,s4⟩ => SqT.of (s4 _ _ k3)) ?_ ?_⟩
  · rintro i x σ H4 hi ⟨⟨v4,v5,rfl⟩,s4⟩
    have one : ∀ (t y : Addr) (zs : List Int),H4 t = some (.tup [.int zs.length,.ref y]) → Wts H4 y zs → gTup K 2 (gCons (gName 4) (gCons (gName 5) gNil)) (.ref t) [some (.int us.length),some (.int ws.length),some (.ref a),some (.ref c),v4,v5] H4 fun σ2 H2 => σ2 = [some (.int us.length),some (.int ws.length),some (.ref a),some (.ref c),some (.int zs.length),some (.ref y)] ∧ H2 = H4 := fun t y zs ht hy =>
      ⟨t,_,rfl,SqT.of ht,rfl,_,_,rfl,_,_,rfl,rfl,rfl,rfl⟩
    obtain ⟨t,y,zs,rfl,ht,hy⟩ : ∃ (t y : Addr) (zs : List Int),x = .ref t ∧ H4 t = some (.tup [.int zs.length,.ref y]) ∧ Wts H4 y zs := by
      have h2 := (List.getElem?_eq_some_iff.mp hi).1
      match i,hi with
      | 0,hi => cases hi; exact ⟨t1,a,us,rfl,s4 _ _ (s3 _ _ (s2 _ _ k1)),hu.same (sA.trans s4)⟩
      | 1,hi => cases hi; exact ⟨t2,c,ws,rfl,s4 _ _ (s3 _ _ k2),hv.same (sA.trans s4)⟩
      | (i + 2),hi => exact absurd h2 (by show ¬ i + 2 < 2; omega)
    refine ⟨t,_,rfl,SqT.of ht,rfl,_,_,rfl,_,_,rfl,rfl,?_⟩
    obtain ⟨T,ty⟩ := row_ty (K := K) hy.row
    refine ⟨_,rfl,.ref y,T,rfl,ty,.inr ⟨y,_,rfl,hy.row,fun z hz => ?_,fun H5 s5 => ⟨_,rfl,?_⟩⟩⟩
    · obtain ⟨z',_,rfl⟩ := List.mem_map.mp hz
      exact ⟨_,Ty.int⟩
    rw [ws60_ints hy.l1 hy.l60 fun x hx => (hy.gw x hx).1]
    have sq : SqL K H5 y (zs.map V.int) ∨ SqT K H5 y (zs.map V.int) := (hy.row.same s5).imp (fun z => SqL.of z) fun z => SqT.of z
    refine iteF ⟨_,rfl,y,_,rfl,sq,_,rfl,rfl,_,rfl,?_⟩
    rw [List.length_map,decide_eq_true (rfl : V.int (zs.length : Int) = V.int (zs.length : Int))]
    exact iteF ⟨⟨_,_,rfl⟩,s4.trans s5⟩
  · rintro σ H4 ⟨⟨v4,v5,rfl⟩,s4⟩
    exact q _ (sA.trans s4)
end
theorem set_same {α : Type} {t : List (Option α)} {j : Nat} (h : j < t.length) : t.set j (t.getD j none) = t := by
  rw [List.getD_eq_getElem?_getD,List.getElem?_eq_getElem h]
  exact List.set_getElem_self h
theorem ixN_nat {n j : Nat} (h : j < n) : ixN n (j : Int) = some j := by
  unfold ixN
  rw [if_pos (Int.natCast_nonneg j),if_pos (by omega),Int.toNat_natCast]
theorem set_oV (t : List (Option Int)) (j : Nat) (o : Option Int) : (t.map oV).set j (oV o) = (t.set j o).map oV := by rw [List.map_set]
theorem shopS {C : Addr} {H H' : Hp} {s : Addr} {b : Int} {ks : List Kd} (k : Same H H') (S : ShopAt C H s b ks) : ShopAt C H' s b ks := S.keep (fun c o e => k _ _ e) (fun c C' d fs e => k _ _ e)
theorem good_at {ks : List Kd} (hg : ∀ k ∈ ks,Good k) {i : Nat} {k : Kd} (h : ks[i]? = some k) (c : Bool) : 1 ≤ sd1 k c ∧ 1 ≤ sd2 k c := by
  have g := hg k (List.mem_of_getElem? h)
  have := g.w
  have := g.h
  unfold sd1 sd2
  cases c <;> exact ⟨by assumption,by assumption⟩
theorem gI_in {us : List Int} (h : GoodW us) {i : Int} (h0 : 0 ≤ i) (h1 : i < us.length) : 0 ≤ gI us i ∧ gI us i < 10 ^ 58 := by
  have hi : i.toNat < us.length := by omega
  unfold gI
  rw [List.getD_eq_getElem?_getD,List.getElem?_eq_getElem hi]
  exact h _ (List.getElem_mem hi)
section
variable {P : Program} {w : World} {K : PySem.W.Frag} {mg : Str → Option Value} {base : Heap}
def spKW (C : Addr) : Sp := fun vs H Q _ => ∃ (s a c : Addr) (b : Int) (ks : List Kd) (us ws : List Int) (m n : Int),vs = [.ref s,.int m,.int n,.ref a,.ref c] ∧ m = us.length ∧ n = ws.length ∧ ShopAt C H s b ks ∧ ks.length ≤ 8 ∧ (∀ k ∈ ks,Good k) ∧ Wts H a us ∧ Wts H c ws ∧
  ∀ (l : Addr) (H' : Hp),H l = none → H' l = some (.lst ((ks.map (kwt us ws)).map oV)) → Same H H' → Q (.ref l) H'
theorem scwanted : FnScope ["self"] ["self"] (defScope sShopWanted) := ⟨rfl,rfl,rfl,by decide +kernel,rfl,by decide +kernel,by decide +kernel⟩
theorem ok_wanted {f C : Addr} {fd : FuncData} (F : Fun K "wanted" "Shop.wanted" sShopWanted f fd) (B : Blt mg) (T : ShopTxt K C) : FnOk P w K mg base CX0 1 f fd ["self"] (spWanted C) := by
  refine F.ok scwanted (fun vs H Q E h => ?_) (fun cdv A outer s H vs Q E hr h => ?_)
  · obtain ⟨x,b,ks,rfl,_⟩ := h
    rfl
  obtain ⟨x,b,ks,rfl,S,k8,q⟩ := h
  have nd := scwanted.nd
  refine ⟨_,(@pss_one _ _ _ (@ps_ret _ _ _ _ (@pe_callTy _ _ _ _ _ _ _ _ _ call_tuple_of rfl B.tuple PyProof.Rows.boot_tuple (@pa_cons _ _ _ _ _ (pe_comp (own := ["kind"]) (cs := []) (cap := []) rfl (pi_tup (pe_fld (pv 0) rfl)) (compOk_of (sc := defScope sShopWanted) (N := ["self"]) rfl rfl (by decide +kernel)) (fun _ _ _ _ _ => pg_name (i := 0) (by show List.Nodup (["kind"] : List Str) ; decide +kernel) rfl (Or.inl rfl) (Or.inr rfl)) (fun _ _ _ _ _ => pifs_nil) (fun _ _ _ _ _ => (pe_ix (r := rIxT K) ix_tup (pv 0) pe_int (fun _ _ => rfl)))) pa_nil rfl) (by decide) (by decide) rfl rfl))),?_⟩
  have sz : (100 : Nat) < sizeLine := by decide
  obtain ⟨dx,r,rs,h1,h2,h3⟩ := id S
  have len := Paired.length h3
  refine ⟨_,rfl,x,C,dx,_,_,rfl,h1,T.cl,T.nK,flds_rows _ _,r,rfl,⟨_,SqT.of h2⟩,(comp_seq (K := K) (.inr h2) (fun i ys H4 => H4 = H ∧ ys = ((ks.take i).map fun k => V.int k.wa)) (fun i ys H4 _ ⟨e4,_⟩ o e => by rw [e4]; exact e) ⟨rfl,rfl⟩ ?_ ?_).2 h2⟩
  · rintro i y ys H4 hi ⟨e4,rfl⟩
    subst e4
    have hin : i < rs.length := (List.getElem?_eq_some_iff.mp hi).1
    obtain ⟨k,hk,a,rfl,ha⟩ := Paired.getR h3 hi
    refine ⟨by rw [List.length_map,List.length_take]; omega,leS.set rfl,tYes_ite ⟨_,rfl,a,_,3,_,rfl,rfl,SqT.of ha,rfl,Nx.of hin ⟨rfl,?_⟩⟩⟩
    rw [List.take_add_one,hk]
    simp only [Option.toList_some,List.map_append,List.map_cons,List.map_nil]
  · rintro ys H4 ⟨e4,rfl⟩
    subst e4
    rw [len,List.take_length]
    refine ⟨by rw [List.length_map]; omega,fun p hp => ⟨p,_,rfl,.inl ⟨SqL.of upd_same,fun t ht => ?_⟩⟩⟩
    have s1 := (Same.new (o := .lst (ks.map fun k => V.int k.wa)) hp).trans (Same.new (o := .tup (ks.map fun k => V.int k.wa)) ht)
    exact q t _ ((Same.new hp).free ht) upd_same s1
theorem sckweights : FnScope ["shop","wide","high","u","v","told","kind","turned","piece_wide","piece_high","weight"] ["shop","wide","high","u","v"] (defScope sKindWeights) := ⟨rfl,rfl,rfl,by decide +kernel,rfl,by decide +kernel,by decide +kernel⟩
theorem ok_kweights {f C NL : Addr} {fd : FuncData} (F : Fun K "kind_weights" "kind_weights" sKindWeights f fd) (B : Blt mg) (T : ShopTxt K C) (DCW : Dn P w K mg base "check_weights" ["wide","high","u","v"] 3 spCW) (MK : Mn P w K mg base C "kinds" ["self"] 1 (spKinds C)) (MS : MnX P w K mg base C "sides" ["self","kind","turned"] 3 (spSides K C NL)) (DLY : Dn P w K mg base "lyings_in" ["shop","part"] 5 (spLyIn C)) : FnOk P w K mg base CX0 6 f fd ["shop","wide","high","u","v"] (spKW C) := by
  refine F.ok sckweights (fun vs H Q E h => ?_) (fun cdv A outer s H vs Q E hr h => ?_)
  · obtain ⟨s,a,c,b,ks,us,ws,m,n,rfl,_⟩ := h
    rfl
  obtain ⟨s,a,c,b,ks,us,ws,m,n,rfl,rfl,rfl,S,k8,hg,hu,hv,q⟩ := h
  have nd := sckweights.nd
  have hr1 := hr.mono (show 1 ≤ 5 by decide)
  have hr3 := hr.mono (show 3 ≤ 5 by decide)
  refine ⟨_,(@pss_cons _ _ _ _ _ (@ps_expr _ _ _ _ (@pe_cD _ _ _ _ _ _ _ _ _ _ DCW hr3 rfl (@pa_cons _ _ _ _ _ (pv 1) (@pa_cons _ _ _ _ _ (pv 2) (@pa_cons _ _ _ _ _ (pv 3) (@pa_cons _ _ _ _ _ (pv 4) pa_nil rfl) rfl) rfl) rfl) (by decide) rfl rfl) rfl) (@pss_cons _ _ _ _ _ (ps_comp (i := 5) (own := ["kind"]) (cs := []) (cap := []) rfl nd rfl rfl rfl (pi_list (pe_mD0 (pv 0) T.cl MK hr1)) (compOk_of (sc := defScope sKindWeights) (N := ["shop","wide","high","u","v","told","kind","turned","piece_wide","piece_high","weight"]) rfl rfl (by decide +kernel)) (fun _ _ _ _ _ => pg_name (i := 0) (by show List.Nodup (["kind"] : List Str) ; decide +kernel) rfl (Or.inl rfl) (Or.inr rfl)) (fun _ _ _ _ _ => pifs_nil) (fun _ _ _ _ _ => pe_non)) (@pss_cons _ _ _ _ _ (@ps_for _ _ _ _ _ _ _ _ PassesOwn.never rfl (pi_list (@pe_cD _ _ _ _ _ _ _ _ _ _ DLY hr rfl (@pa_cons _ _ _ _ _ (pv 0) (@pa_cons _ _ _ _ _ (@pe_tup _ _ _ _ _ (@pa_cons _ _ _ _ _ (pv 1) (@pa_cons _ _ _ _ _ (pv 2) pa_nil rfl) rfl)) pa_nil rfl) rfl) (by decide) rfl rfl)) (pg_tup rfl (pgs_cons (pg_name (i := 6) nd rfl (Or.inl rfl)) (pgs_cons (pg_name (i := 7) nd rfl (Or.inl rfl)) pgs_nil))) (@pss_cons _ _ _ _ _ (@ps_asg _ _ _ _ _ _ (pe_mDX (pv 0) T.cl MS hr3 (@pa_cons _ _ _ _ _ (pv 6) (@pa_cons _ _ _ _ _ (pv 7) pa_nil rfl) rfl)) (pg_tup rfl (pgs_cons (pg_name (i := 8) nd rfl (Or.inl rfl)) (pgs_cons (pg_name (i := 9) nd rfl (Or.inl rfl)) pgs_nil))) rfl rfl rfl) (@pss_cons _ _ _ _ _ (@ps_set _ _ 10 _ _ _ _ nd rfl (Or.inl rfl) (@pe_op _ _ _ _ _ _ _ _ op_mulB (@pe_ix _ _ _ _ _ _ _ ix_seq (pv 3) (@pe_op _ _ _ _ _ _ _ _ op_sub (pv 8) pe_int) (fun _ _ => rfl)) (@pe_ix _ _ _ _ _ _ _ ix_seq (pv 4) (@pe_op _ _ _ _ _ _ _ _ op_sub (pv 9) pe_int) (fun _ _ => rfl))) rfl (Or.inl rfl)) (@pss_one _ _ _ (@ps_if _ _ _ _ _ _ _ _ (PW.pt (pw_or (@pt_cmpR _ _ _ _ _ _ _ _ op_isN (@pe_ix _ _ _ _ _ _ _ ix_list (pv 5) (pv 6) (fun _ _ => rfl)) pe_non (nomark _)) (pw_or1 (@pt_cmpR _ _ _ _ _ _ _ _ op_lt (pv 10) (@pe_ix _ _ _ _ _ _ _ ix_list (pv 5) (pv 6) (fun _ _ => rfl)) (nomark _))))) (@pss_one _ _ _ (@ps_asg _ _ _ _ _ _ (pv 10) (pg_sub (pv 5) (pv 6) set_list) rfl rfl rfl)) pss_nil)))) (by intro _; rfl)) (@pss_one _ _ _ (@ps_ret _ _ _ _ (pv 5)))))),?_⟩
  have sz : (100 : Nat) < sizeLine := by decide
  refine ⟨_,rfl,_,rfl,_,rfl,_,rfl,a,c,us,ws,_,_,rfl,rfl,rfl,hu,hv,fun H1 s1 => ?_⟩
  have S1 := shopS s1 S
  obtain ⟨dx,r,rs,h1,h2,h3⟩ := id S1
  refine ⟨_,rfl,s,dx,_,rfl,h1,flds_no _ _ (by decide +kernel) (by decide +kernel),s,b,ks,rfl,S1,fun kl rs' hkl tp => ?_⟩
  have s2 : Same H1 (upd H1 kl (.lst rs')) := Same.new hkl
  have k2 : (upd H1 kl (.lst rs')) kl = some (.lst rs') := upd_same
  generalize upd H1 kl (.lst rs') = H2 at s2 k2 ⊢
  have len := Paired.length tp
  refine ⟨kl,rfl,⟨_,SqL.of k2⟩,(comp_seq (K := K) (.inl k2) (fun i ys H4 => H4 = H2 ∧ ys = List.replicate i V.non) (fun i ys H4 _ ⟨e4,_⟩ o e => by rw [e4]; exact e) ⟨rfl,rfl⟩ ?_ ?_).1 k2⟩
  · rintro i y ys H4 hi ⟨e4,rfl⟩
    subst e4
    have hin : i < rs'.length := (List.getElem?_eq_some_iff.mp hi).1
    refine ⟨by rw [List.length_replicate]; omega,leS.set rfl,tYes_ite ?_⟩
    show Nx rs'.length (fun i ys H' => H' = H4 ∧ ys = List.replicate i V.non) i (List.replicate i V.non ++ [V.non]) H4
    exact Nx.of hin ⟨rfl,by rw [List.replicate_succ']⟩
  rintro ys H4 ⟨e4,rfl⟩
  subst e4
  refine ⟨by rw [List.length_replicate]; omega,fun lt hlt => ?_⟩
  have s3 : Same H4 (upd H4 lt (.lst (List.replicate rs'.length V.non))) := Same.new hlt
  have k3 : (upd H4 lt (.lst (List.replicate rs'.length V.non))) lt = some (.lst ((List.replicate ks.length (none : Option Int)).map oV)) := by rw [upd_same,List.map_replicate,len]; rfl
  generalize upd H4 lt (.lst (List.replicate rs'.length V.non)) = H3 at s3 k3 ⊢
  have s13 := s2.trans s3
  have S3 := shopS s13 S1
  refine ⟨_,rfl,_,rfl,_,rfl,(by show 2 ≤ sizeLine; decide),fun tp' htp => ?_⟩
  have s4 : Same H3 (upd H3 tp' (.tup [.int us.length,.int ws.length])) := Same.new htp
  have k4 : (upd H3 tp' (.tup [.int us.length,.int ws.length])) tp' = some (.tup [.int us.length,.int ws.length]) := upd_same
  generalize upd H3 tp' _ = H5 at s4 k4 ⊢
  refine ⟨s,tp',b,ks,_,_,rfl,shopS s4 S3,k8,k4,fun ll ys H6 hll l6 ly s6 => ?_⟩
  have lt6 := s6 _ _ (s4 _ _ k3)
  have nll : ll ≠ lt := fun z => by rw [z,s4 _ _ k3] at hll; cases hll
  have hlt1 : H1 lt = none := s2.free hlt
  have S6 : ShopAt C H6 s b ks := shopS s6 (shopS s4 S3)
  have sA : Same H1 H6 := (s13.trans s4).trans s6
  have ylen := Paired.length ly
  refine ⟨ll,rfl,⟨_,SqL.of l6⟩,for_list (xs := ys) (fun i σ H' => (∃ v6 v7 v8 v9 v10,σ = [some (.ref s),some (.int us.length),some (.int ws.length),some (.ref a),some (.ref c),some (.ref lt),v6,v7,v8,v9,v10]) ∧
      H' lt = some (.lst (((((lyK ks 0).filter (fitP ks us.length ws.length)).take i).foldl (fstp ks us ws) (List.replicate ks.length none)).map oV)) ∧ But lt H6 H') ⟨⟨_,_,_,_,_,rfl⟩,lt6,But.refl⟩ (fun i σ H' _ ⟨_,_,b4⟩ => SqL.of (b4 _ _ nll l6)) ?_ ?_⟩
  · rintro i x σ H7 hi ⟨⟨v6,v7,v8,v9,v10,rfl⟩,lt7,b7⟩
    obtain ⟨qq,hq,t,rfl,ht⟩ := Paired.getR ly hi
    have hmem := List.mem_of_getElem? hq
    have hmem' := (List.mem_filter.mp hmem)
    obtain ⟨li,k,hk⟩ := ly_true hmem'.1
    have hf : fits k qq.2 us.length ws.length = true := by have := hmem'.2; unfold fitP at this; rw [hk] at this; exact this
    obtain ⟨f1,f2⟩ : sd1 k qq.2 ≤ us.length ∧ sd2 k qq.2 ≤ ws.length := by
      unfold fits at hf
      rw [Bool.and_eq_true] at hf
      exact ⟨of_decide_eq_true hf.1,of_decide_eq_true hf.2⟩
    obtain ⟨g1,g2⟩ := good_at hg hk qq.2
    have nt : t ≠ lt := fun z => by rw [z,lt6] at ht; cases ht
    have t7 := b7 _ _ nt ht
    have S7 : ShopAt C H7 s b ks := S6.keep (fun x o e => b7 _ _ (fun z => by rw [z,lt6] at e; cases e) e) (fun x C' d fs e => b7 _ _ (fun z => by rw [z,lt6] at e; cases e) e)
    have sX : Same H1 H7 := fun x o e => b7 _ _ (fun z => by rw [z,hlt1] at e; cases e) (sA _ _ e)
    obtain ⟨dx7,r7,rs7,h17,h27,h37⟩ := id S7
    refine ⟨t,_,rfl,SqT.of t7,rfl,_,_,rfl,_,_,rfl,rfl,?_⟩
    refine ⟨_, rfl, s, dx7, _, rfl, h17, flds_no _ _ (by decide +kernel) (by decide +kernel), _, rfl, _, rfl, s, b, ks, .int qq.1, .bl qq.2, "int", "bool", rfl, S7, Ty.int, Ty.bl, fun z => absurd z (by rw [li]; decide), fun i' c' k' p e1 e2 hk' _ hp => ?_⟩
    cases e1
    cases e2
    rw [Int.toNat_natCast,hk] at hk'
    cases hk'
    rw [sides_eq]
    have s8 : Same H7 (upd H7 p (.tup [.int (sd1 k qq.2),.int (sd2 k qq.2)])) := Same.new hp
    have p8 : (upd H7 p (.tup [.int (sd1 k qq.2),.int (sd2 k qq.2)])) p = some (.tup [.int (sd1 k qq.2),.int (sd2 k qq.2)]) := upd_same
    generalize upd H7 p (.tup [.int (sd1 k qq.2),.int (sd2 k qq.2)]) = H8 at s8 p8 ⊢
    have sY : Same H H8 := fun x o e => s8 _ _ (sX _ _ (s1 _ _ e))
    have lt8 := s8 _ _ lt7
    have b8 : But lt H6 H8 := fun x o n e => s8 _ _ (b7 _ _ n e)
    refine ⟨p,_,rfl,SqT.of p8,rfl,_,_,rfl,_,_,rfl,rfl,?_⟩
    have u0 := gI_in hu.gw (i := sd1 k qq.2 - 1) (by omega) (by omega)
    have v0 := gI_in hv.gw (i := sd2 k qq.2 - 1) (by omega) (by omega)
    have e58 : (10 : Nat) ^ 58 < 2 ^ 4096 := by decide +kernel
    refine ⟨_,rfl,_,rfl,_,_,rfl,rfl,rix_row (hu.row.same sY) (by omega) (by omega) ?_⟩
    refine ⟨_,rfl,_,rfl,_,_,rfl,rfl,rix_row (hv.row.same sY) (by omega) (by omega) ?_⟩
    refine ⟨_,_,rfl,rfl,⟨by omega,by omega⟩,?_⟩
    have wl : lw ks us ws qq = gI us (sd1 k qq.2 - 1) * gI ws (sd2 k qq.2 - 1) := by unfold lw; rw [hk]; rfl
    have tst : (((lyK ks 0).filter (fitP ks us.length ws.length)).take (i + 1)).foldl (fstp ks us ws) (List.replicate ks.length none) = fstp ks us ws ((((lyK ks 0).filter (fitP ks us.length ws.length)).take i).foldl (fstp ks us ws) (List.replicate ks.length none)) qq := by
      rw [List.take_add_one,hq,List.foldl_append]; rfl
    have tl : ((((lyK ks 0).filter (fitP ks us.length ws.length)).take i).foldl (fstp ks us ws) (List.replicate ks.length none)).length = ks.length := by rw [fold_len,List.length_replicate]
    rw [tst]
    generalize (((lyK ks 0).filter (fitP ks us.length ws.length)).take i).foldl (fstp ks us ws) (List.replicate ks.length none) = tel at tl lt8 ⊢
    have qi : qq.1 < tel.length := by rw [tl]; exact (List.getElem?_eq_some_iff.mp hk).1
    have at1 : atI (tel.map oV) (qq.1 : Int) = some (oV (tel.getD qq.1 none)) := by
      refine atI_nat ?_
      rw [List.getElem?_map,List.getD_eq_getElem?_getD,List.getElem?_eq_getElem qi]; rfl
    have fin : ∀ (H9 : Hp) (t2 : List (Option Int)),t2 = fstp ks us ws tel qq → H9 lt = some (.lst (t2.map oV)) → But lt H6 H9 → (∃ v6 v7 v8 v9 v10,[some (V.ref s),some (.int us.length),some (.int ws.length),some (.ref a),some (.ref c),some (.ref lt),some (.int qq.1),some (.bl qq.2),some (.int (sd1 k qq.2)),some (.int (sd2 k qq.2)),some (.int (gI us (sd1 k qq.2 - 1) * gI ws (sd2 k qq.2 - 1)))] = [some (.ref s),some (.int us.length),some (.int ws.length),some (.ref a),some (.ref c),some (.ref lt),v6,v7,v8,v9,v10]) ∧ H9 lt = some (.lst ((fstp ks us ws tel qq).map oV)) ∧ But lt H6 H9 := fun H9 t2 e h b => ⟨⟨_,_,_,_,_,rfl⟩,e ▸ h,b⟩
    have put : ∀ o,stp o (gI us (sd1 k qq.2 - 1) * gI ws (sd2 k qq.2 - 1)) = some (gI us (sd1 k qq.2 - 1) * gI ws (sd2 k qq.2 - 1)) → tel.getD qq.1 none = o → ∃ p0 xs k0 j,V.ref lt = .ref p0 ∧ V.int (qq.1 : Int) = .int k0 ∧ H8 p0 = some (.lst xs) ∧ ixN xs.length k0 = some j ∧ ((∃ v6 v7 v8 v9 v10,[some (V.ref s),some (.int us.length),some (.int ws.length),some (.ref a),some (.ref c),some (.ref lt),some (.int qq.1),some (.bl qq.2),some (.int (sd1 k qq.2)),some (.int (sd2 k qq.2)),some (.int (gI us (sd1 k qq.2 - 1) * gI ws (sd2 k qq.2 - 1)))] = [some (.ref s),some (.int us.length),some (.int ws.length),some (.ref a),some (.ref c),some (.ref lt),v6,v7,v8,v9,v10]) ∧ (upd H8 p0 (.lst (xs.set j (.int (gI us (sd1 k qq.2 - 1) * gI ws (sd2 k qq.2 - 1)))))) lt = some (.lst ((fstp ks us ws tel qq).map oV)) ∧ But lt H6 (upd H8 p0 (.lst (xs.set j (.int (gI us (sd1 k qq.2 - 1) * gI ws (sd2 k qq.2 - 1))))))) := fun o so eo => by
      refine ⟨lt,_,_,qq.1,rfl,rfl,lt8,ixN_nat (by rw [List.length_map]; exact qi),fin _ (tel.set qq.1 (some (gI us (sd1 k qq.2 - 1) * gI ws (sd2 k qq.2 - 1)))) ?_ ?_ ?_⟩
      · unfold fstp; rw [eo,wl,so]
      · rw [upd_same,← set_oV]; rfl
      · exact b8.trans But.upd
    refine ⟨_,rfl,_,rfl,lt,_,_,_,rfl,rfl,SqL.of lt8,at1,rfl,_,rfl,?_⟩
    cases eo : tel.getD qq.1 none with
    | none =>
      rw [eo] at at1
      refine iteT (iteT ?_)
      exact ⟨_,rfl,_,rfl,_,rfl,put none rfl eo⟩
    | some x =>
      rw [eo] at at1
      refine iteF ⟨_,rfl,_,rfl,_,rfl,lt,_,_,_,rfl,rfl,SqL.of lt8,at1,_,_,rfl,rfl,_,rfl,?_⟩
      refine ite2 (fun cc => ?_) (fun cc => ?_)
      · refine ⟨_,rfl,_,rfl,_,rfl,put (some x) ?_ eo⟩
        show (if (gI us (sd1 k qq.2 - 1) * gI ws (sd2 k qq.2 - 1)) < x then some (gI us (sd1 k qq.2 - 1) * gI ws (sd2 k qq.2 - 1)) else some x) = some (gI us (sd1 k qq.2 - 1) * gI ws (sd2 k qq.2 - 1))
        rw [if_pos (of_decide_eq_true cc)]
      · refine fin _ tel ?_ lt8 b8
        unfold fstp
        rw [eo,wl]
        show tel = tel.set qq.1 (if (gI us (sd1 k qq.2 - 1) * gI ws (sd2 k qq.2 - 1)) < x then some (gI us (sd1 k qq.2 - 1) * gI ws (sd2 k qq.2 - 1)) else some x)
        rw [if_neg (fun z => cc (decide_eq_true z)),← eo]
        exact (set_same qi).symm
  · rintro σ H7 ⟨⟨v6,v7,v8,v9,v10,rfl⟩,lt7,b7⟩
    rw [ylen,List.take_length] at lt7
    have fa : ((lyK ks 0).filter (fitP ks us.length ws.length)).foldl (fstp ks us ws) (List.replicate ks.length none) = ks.map (kwt us ws) := fold_all (u := us) (v := ws) ks [] rfl
    rw [fa] at lt7
    refine ⟨_,rfl,q lt H7 (s1.free hlt1) lt7 fun x o e => ?_⟩
    have e1 := s1 _ _ e
    exact b7 _ _ (fun z => by rw [z,hlt1] at e1; cases e1) (sA _ _ e1)
end
theorem gI_le {ws : List Int} (h : GoodW ws) (i : Int) : gI ws i ≤ 10 ^ 58 := by
  unfold gI
  rw [List.getD_eq_getElem?_getD]
  cases e : ws[i.toNat]? with
  | none => decide
  | some x => exact Int.le_of_lt (h x (List.mem_of_getElem? e)).2
theorem Ld_short {b : Int} {ws : List Int} (hb : 0 ≤ b) (h : GoodW ws) {n : Nat} (hn : n ≤ 60) : Short (Ld b ws n) := by
  have h1 := Ld_le hb (gI_le h) (by decide) n
  have h0 := Ld_nn (b := b) (ws := ws) n
  have h2 : (n : Int) * 10 ^ 58 ≤ 60 * 10 ^ 58 := Int.mul_le_mul_of_nonneg_right (by omega) (by decide)
  have e : (60 : Int) * 10 ^ 58 < 10 ^ 62 := by decide
  have e2 : ((10 ^ 62 : Nat) : Int) = 10 ^ 62 := by decide
  unfold Short
  omega
theorem short_mul {i : Int} (h : Short i) : i.natAbs < 2 ^ 4096 := by
  unfold Short at h
  have e : (10 : Nat) ^ 62 < 2 ^ 4096 := by decide +kernel
  omega
def bearsK (us ws : List Int) (k : Kd) : Bool := match kwt us ws k with
  | none => true
  | some x => decide (k.wo ≤ x)
section
variable {P : Program} {w : World} {K : PySem.W.Frag} {mg : Str → Option Value} {base : Heap}
def spPL (C : Addr) : Sp := fun vs H Q _ => ∃ (s a c : Addr) (b : Int) (ks : List Kd) (us ws : List Int) (m n : Int),vs = [.ref s,.int m,.int n,.ref a,.ref c] ∧ m = us.length ∧ n = ws.length ∧ ShopAt C H s b ks ∧ 0 ≤ b ∧ Wts H a us ∧ Wts H c ws ∧
  ∀ (H' : Hp),Same H H' → Q (.int (Ld b us us.length * Ld b ws ws.length)) H'
def spBW (C : Addr) : Sp := fun vs H Q _ => ∃ (s a c : Addr) (b : Int) (ks : List Kd) (us ws : List Int) (m n : Int),vs = [.ref s,.int m,.int n,.ref a,.ref c] ∧ m = us.length ∧ n = ws.length ∧ ShopAt C H s b ks ∧ ks.length ≤ 8 ∧ (∀ k ∈ ks,Good k) ∧ Wts H a us ∧ Wts H c ws ∧
  ∀ (H' : Hp),Same H H' → Q (.bl (ks.all (bearsK us ws))) H'
theorem scpload : FnScope ["shop","wide","high","u","v"] ["shop","wide","high","u","v"] (defScope sPlateLoad) := ⟨rfl,rfl,rfl,by decide +kernel,rfl,by decide +kernel,by decide +kernel⟩
theorem ok_pload {f C : Addr} {fd : FuncData} (F : Fun K "plate_load" "plate_load" sPlateLoad f fd) (T : ShopTxt K C) (DCW : Dn P w K mg base "check_weights" ["wide","high","u","v"] 3 spCW) (MB : Mn P w K mg base C "blade" ["self"] 1 (spBlade C)) (DLo : Dn P w K mg base "load_of" ["blade","weights","side"] 3 (spLoad K)) : FnOk P w K mg base CX0 4 f fd ["shop","wide","high","u","v"] (spPL C) := by
  refine F.ok scpload (fun vs H Q E h => ?_) (fun cdv A outer s H vs Q E hr h => ?_)
  · obtain ⟨s,a,c,b,ks,us,ws,m,n,rfl,_⟩ := h
    rfl
  obtain ⟨s,a,c,b,ks,us,ws,m,n,rfl,rfl,rfl,S,b0,hu,hv,q⟩ := h
  have nd := scpload.nd
  have hr1 := hr.mono (show 1 ≤ 3 by decide)
  refine ⟨_,(@pss_cons _ _ _ _ _ (@ps_expr _ _ _ _ (@pe_cD _ _ _ _ _ _ _ _ _ _ DCW hr rfl (@pa_cons _ _ _ _ _ (pv 1) (@pa_cons _ _ _ _ _ (pv 2) (@pa_cons _ _ _ _ _ (pv 3) (@pa_cons _ _ _ _ _ (pv 4) pa_nil rfl) rfl) rfl) rfl) (by decide) rfl rfl) rfl) (@pss_one _ _ _ (@ps_ret _ _ _ _ (@pe_op _ _ _ _ _ _ _ _ op_mulB (@pe_ix _ _ _ _ _ _ _ ix_tup (@pe_cD _ _ _ _ _ _ _ _ _ _ DLo hr rfl (@pa_cons _ _ _ _ _ (pe_mD0 (pv 0) T.cl MB hr1) (@pa_cons _ _ _ _ _ (pv 3) (@pa_cons _ _ _ _ _ (pv 1) pa_nil rfl) rfl) rfl) (by decide) rfl rfl) pe_int (fun _ _ => rfl)) (@pe_ix _ _ _ _ _ _ _ ix_tup (@pe_cD _ _ _ _ _ _ _ _ _ _ DLo hr rfl (@pa_cons _ _ _ _ _ (pe_mD0 (pv 0) T.cl MB hr1) (@pa_cons _ _ _ _ _ (pv 4) (@pa_cons _ _ _ _ _ (pv 2) pa_nil rfl) rfl) rfl) (by decide) rfl rfl) pe_int (fun _ _ => rfl)))))),?_⟩
  refine ⟨_,rfl,_,rfl,_,rfl,_,rfl,a,c,us,ws,_,_,rfl,rfl,rfl,hu,hv,fun H1 s1 => ?_⟩
  have S1 := shopS s1 S
  obtain ⟨dx,r,rs,h1,h2,h3⟩ := id S1
  refine ⟨_,rfl,s,dx,_,rfl,h1,flds_no _ _ (by decide +kernel) (by decide +kernel),s,b,ks,rfl,S1,_,rfl,_,rfl,b,a,us,us.length,rfl,b0,hu.row.same s1,hu.l60,fun x hx => (hu.gw x hx).1,hu.l1,Nat.le_refl _,fun t l ns H2 ht hl pm pw e1 e2 s2 => ?_⟩
  refine ⟨t,_,_,_,rfl,rfl,SqT.of e1,rfl,?_⟩
  have S2 := shopS s2 S1
  obtain ⟨dx2,r2,rs2,h12,h22,h32⟩ := id S2
  have s12 := s1.trans s2
  refine ⟨_,rfl,s,dx2,_,rfl,h12,flds_no _ _ (by decide +kernel) (by decide +kernel),s,b,ks,rfl,S2,_,rfl,_,rfl,b,c,ws,ws.length,rfl,b0,hv.row.same s12,hv.l60,fun x hx => (hv.gw x hx).1,hv.l1,Nat.le_refl _,fun t' l' ns' H3 ht' hl' pm' pw' e1' e2' s3 => ?_⟩
  refine ⟨t',_,_,_,rfl,rfl,SqT.of e1',rfl,_,_,rfl,rfl,⟨short_mul (Ld_short b0 hu.gw hu.l60),short_mul (Ld_short b0 hv.gw hv.l60)⟩,?_⟩
  exact q _ (s12.trans s3)
theorem scbears : FnScope ["shop","wide","high","u","v","weights"] ["shop","wide","high","u","v"] (defScope sBearsWorth) := ⟨rfl,rfl,rfl,by decide +kernel,rfl,by decide +kernel,by decide +kernel⟩
theorem ok_bears {f C : Addr} {fd : FuncData} (F : Fun K "bears_worth" "bears_worth" sBearsWorth f fd) (B : Blt mg) (T : ShopTxt K C) (DKW : Dn P w K mg base "kind_weights" ["shop","wide","high","u","v"] 6 (spKW C)) (MK : Mn P w K mg base C "kinds" ["self"] 1 (spKinds C)) : FnOk P w K mg base CX0 7 f fd ["shop","wide","high","u","v"] (spBW C) := by
  refine F.ok scbears (fun vs H Q E h => ?_) (fun cdv A outer s H vs Q E hr h => ?_)
  · obtain ⟨s,a,c,b,ks,us,ws,m,n,rfl,_⟩ := h
    rfl
  obtain ⟨s,a,c,b,ks,us,ws,m,n,rfl,rfl,rfl,S,k8,hg,hu,hv,q⟩ := h
  have nd := scbears.nd
  have hr1 := hr.mono (show 1 ≤ 6 by decide)
  refine ⟨_,(@pss_cons _ _ _ _ _ (@ps_set _ _ 5 _ _ _ _ nd rfl (Or.inl rfl) (@pe_cD _ _ _ _ _ _ _ _ _ _ DKW hr rfl (@pa_cons _ _ _ _ _ (pv 0) (@pa_cons _ _ _ _ _ (pv 1) (@pa_cons _ _ _ _ _ (pv 2) (@pa_cons _ _ _ _ _ (pv 3) (@pa_cons _ _ _ _ _ (pv 4) pa_nil rfl) rfl) rfl) rfl) rfl) (by decide) rfl rfl) rfl (Or.inl rfl)) (@pss_one _ _ _ (@ps_ret _ _ _ _ (@pe_callB _ _ _ _ _ _ _ _ _ (call_allB rfl) rfl B.all PyProof.Rows.boot_all (@pa_cons _ _ _ _ _ (pe_comp (own := ["kind","weight"]) (cs := []) (cap := []) rfl (pi_zip rfl B.zip (@pa_cons _ _ _ _ _ (pe_mD0 (pv 0) T.cl MK hr1) (@pa_cons _ _ _ _ _ (pv 5) pa_nil rfl) rfl)) (compOk_of (sc := defScope sBearsWorth) (N := ["shop","wide","high","u","v","weights"]) rfl rfl (by decide +kernel)) (fun _ _ _ _ _ => pg_two K rfl rfl (by show List.Nodup (["kind","weight"] : List Str) ; decide +kernel) rfl rfl rfl rfl) (fun _ _ _ _ _ => pifs_nil) (fun _ _ _ _ _ => (pe_or (@pe_cmpR _ _ _ _ _ _ _ _ op_isN (pv 1) pe_non (nomark _)) (pe_one (@pe_cmpR _ _ _ _ _ _ _ _ op_le (pe_ix (r := rIxT K) ix_tup (pv 0) pe_int (fun _ _ => rfl)) (pv 1) (nomark _)))))) pa_nil rfl) (by decide) (by decide) rfl rfl)))),?_⟩
  have sz : (100 : Nat) < sizeLine := by decide
  refine ⟨_,rfl,_,rfl,_,rfl,_,rfl,_,rfl,s,a,c,b,ks,us,ws,_,_,rfl,rfl,rfl,S,k8,hg,hu,hv,fun l H1 hl l1 s1 => ?_⟩
  have S1 := shopS s1 S
  obtain ⟨dx,r,rs,h1,h2,h3⟩ := id S1
  dsimp only [tRet,tCB,tCons,tNil]
  refine ⟨_,rfl,s,dx,_,rfl,h1,flds_no _ _ (by decide +kernel) (by decide +kernel),s,b,ks,rfl,S1,fun kl rs' hkl tp => ?_⟩
  have s2 : Same H1 (upd H1 kl (.lst rs')) := Same.new hkl
  have k2 : (upd H1 kl (.lst rs')) kl = some (.lst rs') := upd_same
  generalize upd H1 kl (.lst rs') = H2 at s2 k2 ⊢
  have len := Paired.length tp
  have l2 := s2 _ _ l1
  refine ⟨_,rfl,kl,l,_,_,rfl,k2,l2,comp_zip (xs := rs') (ys := (ks.map (kwt us ws)).map oV) (fun i zs H4 => Same H2 H4 ∧ zs = ((ks.take i).map (bearsK us ws)).map V.bl) (by rw [List.length_map,List.length_map]; exact len) (fun i zs H4 ⟨s4,_⟩ => ⟨s4 _ _ k2,s4 _ _ l2⟩) ⟨Same.refl _,rfl⟩ (fun i zs H4 hi ⟨_,e⟩ => by rw [e,List.length_map,List.length_map,List.length_take]; omega) ?_ ?_⟩
  · rintro i x y p zs H4 hx hy hp ⟨s4,rfl⟩
    obtain ⟨k,hk,ka,rfl,hka⟩ := Paired.getR tp hx
    rw [List.getElem?_map,List.getElem?_map,hk] at hy
    cases hy
    have hin : i < rs'.length := (List.getElem?_eq_some_iff.mp hx).1
    have s5 := s4.trans (Same.new hp (o := .tup [.ref ka,oV (kwt us ws k)]))
    have p5 : (upd H4 p (.tup [.ref ka,oV (kwt us ws k)])) p = some (.tup [.ref ka,oV (kwt us ws k)]) := upd_same
    generalize upd H4 p (.tup [.ref ka,oV (kwt us ws k)]) = H5 at s5 p5 ⊢
    refine ⟨p,_,rfl,SqT.of p5,rfl,_,_,rfl,_,_,rfl,rfl,leS2 (leS.set rfl) (leS.set rfl),tYes_ite ?_⟩
    have st : ((ks.take (i + 1)).map (bearsK us ws)).map V.bl = ((ks.take i).map (bearsK us ws)).map V.bl ++ [V.bl (bearsK us ws k)] := by
      rw [List.take_add_one,hk]
      simp only [Option.toList_some,List.map_append,List.map_cons,List.map_nil]
    refine ⟨_,rfl,rfl,_,rfl,?_⟩
    unfold bearsK at st
    cases e : kwt us ws k with
    | none =>
      rw [e] at st
      refine iteT (Nx.of hin ⟨s5,?_⟩)
      unfold bearsK
      exact st.symm
    | some x =>
      rw [e] at st
      refine iteF ⟨_,rfl,ka,_,2,_,rfl,rfl,SqT.of (s5 _ _ (s2 _ _ hka)),rfl,_,rfl,_,_,rfl,rfl,Nx.of hin ⟨s5,?_⟩⟩
      unfold bearsK
      exact st.symm
  · rintro zs H4 ⟨s4,rfl⟩
    rw [len,List.take_length]
    refine ⟨by rw [List.length_map,List.length_map]; omega,fun p hp => ⟨p,_,rfl,SqL.of upd_same,?_⟩⟩
    have q1 := q _ ((s1.trans (s2.trans s4)).trans (Same.new hp (o := .lst ((ks.map (bearsK us ws)).map V.bl))))
    rw [show ks.all (bearsK us ws) = (ks.map (bearsK us ws)).all id by rw [List.all_map]; rfl] at q1
    exact q1
end
section
variable {P : Program} {w : World} {K : PySem.W.Frag} {mg : Str → Option Value} {base : Heap}
def spMost : Sp := fun vs H Q _ => ∃ (p : Addr),vs = [.ref p] ∧ PotB H p ∧ ∀ (m : Int) (H' : Hp),1 ≤ m → m ≤ 60 → PotB H' p → But p H H' → Q (.int m) H'
def spSide : Sp := fun vs H Q _ => ∃ (p : Addr) (m : Int),vs = [.ref p,.int m] ∧ 1 ≤ m ∧ m ≤ 60 ∧ PotB H p ∧ ∀ (r : Int) (H' : Hp),1 ≤ r → r < 10 ^ 60 → PotB H' p → But p H H' → Q (.int r) H'
def PrAt (H : Hp) (k : Kd) (v : V) (c : Bool) : Prop := ∃ a,v = .ref a ∧ H a = some (.tup [.int (sd1 k c),.int (sd2 k c)])
def lainB (k : Kd) : List Bool := if turnable k = true then [false,true] else [false]
def spLain : Sp := fun vs H Q _ => ∃ (k : Kd),vs = [.int k.w,.int k.h,.bl k.tu] ∧ ∀ (l : Addr) (ys : List V) (H' : Hp),H l = none → H' l = some (.lst ys) → Paired (PrAt H' k) ys (lainB k) → Same H H' → Q (.ref l) H'
def nsOf (us ws : List Int) (k : Kd) (cs : List Bool) : List Int := (cs.filter fun c => fits k c us.length ws.length).map (kw1 us ws k)
theorem kwt_min {us ws : List Int} {k : Kd} {m : Int} (h : m ∈ nsOf us ws k (lainB k)) (hm : ∀ x ∈ nsOf us ws k (lainB k),m ≤ x) : kwt us ws k = some m := by
  unfold nsOf lainB at h hm
  unfold kwt
  cases t : turnable k with
  | false =>
    rw [t,if_neg Bool.false_ne_true] at h hm
    rw [Bool.false_and,if_neg Bool.false_ne_true]
    cases a : fits k false us.length ws.length with
    | false => simp [a] at h
    | true => simp [a] at h; rw [if_pos rfl,h]
  | true =>
    rw [t,if_pos rfl] at h hm
    rw [Bool.true_and]
    cases a : fits k false us.length ws.length with
    | false =>
      cases b : fits k true us.length ws.length with
      | false => simp [a,b] at h
      | true => simp [a,b] at h; rw [if_pos rfl,if_neg Bool.false_ne_true,h]; rfl
    | true =>
      cases b : fits k true us.length ws.length with
      | false => simp [a,b] at h; rw [if_neg Bool.false_ne_true,if_pos rfl,h]
      | true =>
        simp [a,b] at h hm
        rw [if_pos rfl,if_pos rfl]
        show (if kw1 us ws k true < kw1 us ws k false then some (kw1 us ws k true) else some (kw1 us ws k false)) = some m
        obtain ⟨h1,h2⟩ := hm
        rcases h with h | h
        · rw [if_neg (by omega),h]
        · by_cases c : kw1 us ws k true < kw1 us ws k false
          · rw [if_pos c,h]
          · rw [if_neg c]; congr 1; omega
theorem kwt_nil {us ws : List Int} {k : Kd} (h : nsOf us ws k (lainB k) = []) : kwt us ws k = none := by
  unfold nsOf lainB at h
  unfold kwt
  cases t : turnable k with
  | false =>
    rw [t,if_neg Bool.false_ne_true] at h
    rw [Bool.false_and,if_neg Bool.false_ne_true]
    cases a : fits k false us.length ws.length with
    | false => rfl
    | true => simp [a] at h
  | true =>
    rw [t,if_pos rfl] at h
    rw [Bool.true_and]
    cases a : fits k false us.length ws.length with
    | true => simp [a] at h
    | false =>
      cases b : fits k true us.length ws.length with
      | false => rfl
      | true => simp [a,b] at h
def spWeighed : Sp := fun vs H Q _ => ∃ (z a c : Addr) (k : Kd) (us ws : List Int),vs = [.ref z,.ref a,.ref c] ∧ H z = some (.tup [.int k.w,.int k.h,.bl k.tu]) ∧ H a = some (.lst (us.map V.int)) ∧ H c = some (.lst (ws.map V.int)) ∧ GoodW us ∧ GoodW ws ∧ Good k ∧ ∀ H',Same H H' → Q (oV (kwt us ws k)) H'
theorem scmost : FnScope ["_law_pot_here"] ["_law_pot_here"] (defScope sMost) := ⟨rfl,rfl,rfl,by decide +kernel,rfl,by decide +kernel,by decide +kernel⟩
theorem ok_most {f : Addr} {fd : FuncData} (F : Fun K "_law_most" "_law_most" sMost f fd) (DD : Dn P w K mg base "_law_draw" ["_law_pot_here","_law_many"] 1 spDrawB) : FnOk P w K mg base CX0 2 f fd ["_law_pot_here"] (spMost) := by
  refine F.ok scmost (fun vs H Q E h => ?_) (fun cdv A outer s H vs Q E hr h => ?_)
  · obtain ⟨p,rfl,_⟩ := h
    rfl
  obtain ⟨p,rfl,pt,q⟩ := h
  have nd := scmost.nd
  refine ⟨_,(@pss_cons _ _ _ _ _ (@ps_if _ _ _ _ _ _ _ _ (@pt_cmpR _ _ _ _ _ _ _ _ op_eq (@pe_cD _ _ _ _ _ _ _ _ _ _ DD hr rfl (@pa_cons _ _ _ _ _ (pv 0) (@pa_cons _ _ _ _ _ pe_int pa_nil rfl) rfl) (by decide) rfl rfl) pe_int (nomark _)) (@pss_one _ _ _ (@ps_ret _ _ _ _ (@pe_op _ _ _ _ _ _ _ _ op_add pe_int (@pe_cD _ _ _ _ _ _ _ _ _ _ DD hr rfl (@pa_cons _ _ _ _ _ (pv 0) (@pa_cons _ _ _ _ _ pe_int pa_nil rfl) rfl) (by decide) rfl rfl)))) pss_nil) (@pss_one _ _ _ (@ps_ret _ _ _ _ (@pe_op _ _ _ _ _ _ _ _ op_add pe_int (@pe_cD _ _ _ _ _ _ _ _ _ _ DD hr rfl (@pa_cons _ _ _ _ _ (pv 0) (@pa_cons _ _ _ _ _ pe_int pa_nil rfl) rfl) (by decide) rfl rfl))))),?_⟩
  refine ⟨_,rfl,p,16,rfl,pt,by decide,by decide,fun wy H1 w0 w1 pt1 b1 => ?_⟩
  refine ⟨rfl,_,rfl,?_⟩
  refine ite2 (fun c => ?_) (fun c => ?_)
  · refine ⟨_,rfl,p,60,rfl,pt1,by decide,by decide,fun r H2 r0 r1 pt2 b2 => ⟨_,_,rfl,rfl,?_⟩⟩
    exact q _ _ (by omega) (by omega) pt2 (b1.trans b2)
  · refine ⟨_,rfl,p,12,rfl,pt1,by decide,by decide,fun r H2 r0 r1 pt2 b2 => ⟨_,_,rfl,rfl,?_⟩⟩
    exact q _ _ (by omega) (by omega) pt2 (b1.trans b2)
theorem scside : FnScope ["_law_pot_here","_law_most_here"] ["_law_pot_here","_law_most_here"] (defScope sSide) := ⟨rfl,rfl,rfl,by decide +kernel,rfl,by decide +kernel,by decide +kernel⟩
theorem ok_side {f : Addr} {fd : FuncData} (F : Fun K "_law_side" "_law_side" sSide f fd) (DD : Dn P w K mg base "_law_draw" ["_law_pot_here","_law_many"] 1 spDrawB) (DG : Dn P w K mg base "_law_great" ["_law_pot_here"] 2 spGreat) : FnOk P w K mg base CX0 3 f fd ["_law_pot_here","_law_most_here"] (spSide) := by
  refine F.ok scside (fun vs H Q E h => ?_) (fun cdv A outer s H vs Q E hr h => ?_)
  · obtain ⟨p,m,rfl,_⟩ := h
    rfl
  obtain ⟨p,m,rfl,m1,m60,pt,q⟩ := h
  have nd := scside.nd
  have hr1 := hr.mono (show 1 ≤ 2 by decide)
  refine ⟨_,(@pss_cons _ _ _ _ _ (@ps_if _ _ _ _ _ _ _ _ (@pt_cmpR _ _ _ _ _ _ _ _ op_eq (@pe_cD _ _ _ _ _ _ _ _ _ _ DD hr1 rfl (@pa_cons _ _ _ _ _ (pv 0) (@pa_cons _ _ _ _ _ pe_int pa_nil rfl) rfl) (by decide) rfl rfl) pe_int (nomark _)) (@pss_one _ _ _ (@ps_ret _ _ _ _ (@pe_op _ _ _ _ _ _ _ _ op_add (@pe_op _ _ _ _ _ _ _ _ op_add (pv 1) pe_int) (@pe_op _ _ _ _ _ _ _ _ op_mul (@pe_cD _ _ _ _ _ _ _ _ _ _ DD hr1 rfl (@pa_cons _ _ _ _ _ (pv 0) (@pa_cons _ _ _ _ _ pe_int pa_nil rfl) rfl) (by decide) rfl rfl) (@pe_cD _ _ _ _ _ _ _ _ _ _ DG hr rfl (@pa_cons _ _ _ _ _ (pv 0) pa_nil rfl) (by decide) rfl rfl))))) pss_nil) (@pss_one _ _ _ (@ps_ret _ _ _ _ (@pe_op _ _ _ _ _ _ _ _ op_add pe_int (@pe_cD _ _ _ _ _ _ _ _ _ _ DD hr1 rfl (@pa_cons _ _ _ _ _ (pv 0) (@pa_cons _ _ _ _ _ (pv 1) pa_nil rfl) rfl) (by decide) rfl rfl))))),?_⟩
  have e58 : (10 : Int) ^ 58 + 1000 < 10 ^ 60 := by decide
  have e60 : (60 : Int) ≤ 10 ^ 60 := by decide
  refine ⟨_,rfl,p,9,rfl,pt,by decide,by decide,fun wy H1 w0 w1 pt1 b1 => ?_⟩
  refine ⟨rfl,_,rfl,?_⟩
  refine ite2 (fun c => ?_) (fun c => ?_)
  · refine ⟨_,rfl,_,_,rfl,rfl,_,rfl,p,2,rfl,pt1,by decide,by decide,fun r H2 r0 r1 pt2 b2 => ?_⟩
    refine ⟨_,rfl,p,rfl,pt2,fun g H3 g0 g1 pt3 b3 => ⟨_,_,rfl,rfl,.inl ⟨by omega,by omega⟩,_,_,rfl,rfl,?_⟩⟩
    have rr : r = 0 ∨ r = 1 := by omega
    have hq : 0 ≤ r * g ∧ r * g < 10 ^ 58 := by
      rcases rr with e | e
      · rw [e,Int.zero_mul]; exact ⟨by decide,by decide⟩
      · rw [e,Int.one_mul]; exact ⟨g0,g1⟩
    exact q _ _ (by omega) (by omega) pt3 ((b1.trans b2).trans b3)
  · refine ⟨_,rfl,_,rfl,p,m,rfl,pt1,by omega,by omega,fun r H2 r0 r1 pt2 b2 => ⟨_,_,rfl,rfl,?_⟩⟩
    exact q _ _ (by omega) (by omega) pt2 (b1.trans b2)
theorem sclain : FnScope ["_law_wide","_law_high","_law_turns"] ["_law_wide","_law_high","_law_turns"] (defScope sLain) := ⟨rfl,rfl,rfl,by decide +kernel,rfl,by decide +kernel,by decide +kernel⟩
theorem ok_lain {f : Addr} {fd : FuncData} (F : Fun K "_law_lain" "_law_lain" sLain f fd)  : FnOk P w K mg base CX0 1 f fd ["_law_wide","_law_high","_law_turns"] (spLain) := by
  refine F.ok sclain (fun vs H Q E h => ?_) (fun cdv A outer s H vs Q E hr h => ?_)
  · obtain ⟨k,rfl,_⟩ := h
    rfl
  obtain ⟨k,rfl,q⟩ := h
  have nd := sclain.nd
  refine ⟨_,(@pss_cons _ _ _ _ _ (@ps_if _ _ _ _ _ _ _ _ (PW.pt (pw_and (@pt_val _ _ _ (pv 2) (by intro _; rfl)) (pw_and1 (@pt_cmpR _ _ _ _ _ _ _ _ op_ne (pv 0) (pv 1) (nomark _))))) (@pss_one _ _ _ (@ps_ret _ _ _ _ (@pe_lst _ _ _ _ (@pa_cons _ _ _ _ _ (@pe_tup _ _ _ _ _ (@pa_cons _ _ _ _ _ (pv 0) (@pa_cons _ _ _ _ _ (pv 1) pa_nil rfl) rfl)) (@pa_cons _ _ _ _ _ (@pe_tup _ _ _ _ _ (@pa_cons _ _ _ _ _ (pv 1) (@pa_cons _ _ _ _ _ (pv 0) pa_nil rfl) rfl)) pa_nil rfl) rfl)))) pss_nil) (@pss_one _ _ _ (@ps_ret _ _ _ _ (@pe_lst _ _ _ _ (@pa_cons _ _ _ _ _ (@pe_tup _ _ _ _ _ (@pa_cons _ _ _ _ _ (pv 0) (@pa_cons _ _ _ _ _ (pv 1) pa_nil rfl) rfl)) pa_nil rfl))))),?_⟩
  have fin2 : turnable k = true → ∀ (t1 t2 l : Addr) (H1 H2 H3 : Hp),H t1 = none → H1 t2 = none → H2 l = none → H1 = upd H t1 (.tup [.int k.w,.int k.h]) → H2 = upd H1 t2 (.tup [.int k.h,.int k.w]) → H3 = upd H2 l (.lst [.ref t1,.ref t2]) → Q (.ref l) H3 := by
    rintro ht t1 t2 l H1 H2 H3 h1 h2 h3 rfl rfl rfl
    have a2 : t1 ≠ t2 := fun z => by rw [← z,upd_same] at h2; cases h2
    have a3 : t1 ≠ l := fun z => by rw [← z,upd_ne a2,upd_same] at h3; cases h3
    have a4 : t2 ≠ l := fun z => by rw [← z,upd_same] at h3; cases h3
    have s3 := ((Same.new (o := .tup [.int k.w,.int k.h]) h1).trans (Same.new (o := .tup [.int k.h,.int k.w]) h2)).trans (Same.new (o := .lst [.ref t1,.ref t2]) h3)
    refine q l _ _ (((Same.new h1).trans (Same.new h2)).free h3) upd_same ?_ s3
    unfold lainB
    rw [if_pos ht]
    exact .cons ⟨t1,rfl,by rw [upd_ne a3,upd_ne a2,upd_same]; rfl⟩ (.cons ⟨t2,rfl,by rw [upd_ne a4,upd_same]; rfl⟩ .nil)
  have fin1 : turnable k = false → ∀ (t1 l : Addr) (H1 H3 : Hp),H t1 = none → H1 l = none → H1 = upd H t1 (.tup [.int k.w,.int k.h]) → H3 = upd H1 l (.lst [.ref t1]) → Q (.ref l) H3 := by
    rintro ht t1 l H1 H3 h1 h3 rfl rfl
    have a3 : t1 ≠ l := fun z => by rw [← z,upd_same] at h3; cases h3
    have s3 := (Same.new (o := .tup [.int k.w,.int k.h]) h1).trans (Same.new (o := .lst [.ref t1]) h3)
    refine q l _ _ ((Same.new h1).free h3) upd_same ?_ s3
    unfold lainB
    rw [ht,if_neg Bool.false_ne_true]
    exact .cons ⟨t1,rfl,by rw [upd_ne a3,upd_same]; rfl⟩ .nil
  have one : turnable k = false → tRet (tLst (tCons (tTup (tCons (tVar 0) (tCons (tVar 1) tNil))) tNil)) { nx := fun x H' => Q V.non H',rt := Q } [some (.int k.w),some (.int k.h),some (.bl k.tu)] H := fun ht =>
    ⟨_,rfl,_,rfl,(by show 2 ≤ sizeLine; decide),fun t1 h1 => ⟨(by show 1 ≤ sizeLine; decide),fun l h3 => fin1 ht t1 l _ _ h1 h3 rfl rfl⟩⟩
  refine ⟨_,rfl,_,rfl,?_⟩
  cases tu : k.tu with
  | false =>
    refine iteF ?_
    rw [tu] at one
    exact one (by unfold turnable; rw [tu]; rfl)
  | true =>
    refine iteT ⟨_,rfl,_,rfl,rfl,_,rfl,?_⟩
    rw [tu] at one
    by_cases e : k.w = k.h
    · rw [decide_eq_true (show V.int k.w = V.int k.h by rw [e])]
      refine iteF ?_
      exact one (by unfold turnable; rw [tu,decide_eq_true e]; rfl)
    · rw [decide_eq_false (show ¬ V.int k.w = V.int k.h from fun z => e (V.int.inj z))]
      refine iteT ?_
      exact ⟨_,rfl,_,rfl,(by show 2 ≤ sizeLine; decide),fun t1 h1 => ⟨_,rfl,_,rfl,(by show 2 ≤ sizeLine; decide),fun t2 h2 => ⟨(by show 2 ≤ sizeLine; decide),fun l h3 => fin2 (by unfold turnable; rw [tu,decide_eq_false e]; rfl) t1 t2 l _ _ _ h1 h2 h3 rfl rfl rfl⟩⟩⟩
end
section
variable {P : Program} {w : World} {K : PySem.W.Frag} {mg : Str → Option Value} {base : Heap}
theorem nsOf_snoc (us ws : List Int) (k : Kd) (cs : List Bool) (c : Bool) : nsOf us ws k (cs ++ [c]) = nsOf us ws k cs ++ (if fits k c us.length ws.length = true then [kw1 us ws k c] else []) := by
  unfold nsOf
  rw [List.filter_append,List.map_append,List.filter_cons,List.filter_nil]
  cases fits k c us.length ws.length <;> rfl
theorem nsOf_len (us ws : List Int) (k : Kd) (cs : List Bool) : (nsOf us ws k cs).length ≤ cs.length := by
  unfold nsOf
  rw [List.length_map]
  exact List.length_filter_le _ _
theorem lainB_len (k : Kd) : (lainB k).length ≤ 2 := by unfold lainB; split <;> decide
def spWorth : Sp := fun vs H Q _ => ∃ (p : Addr) (o : Option Int),vs = [.ref p,oV o] ∧ (∀ x,o = some x → 0 ≤ x) ∧ PotB H p ∧ ∀ (r : Int) (H' : Hp),0 ≤ r → r < 10 ^ 60 → PotB H' p → But p H H' → Q (.int r) H'
def spKindsL : Sp := fun vs H Q _ => ∃ (p a c : Addr) (us ws : List Int),vs = [.ref p,.ref a,.ref c] ∧ a ≠ p ∧ c ≠ p ∧ H a = some (.lst (us.map V.int)) ∧ H c = some (.lst (ws.map V.int)) ∧ 1 ≤ us.length ∧ us.length ≤ 60 ∧ 1 ≤ ws.length ∧ ws.length ≤ 60 ∧ GoodW us ∧ GoodW ws ∧ PotB H p ∧
  ∀ (l : Addr) (rs : List V) (ks : List Kd) (H' : Hp),H l = none → l ≠ p → H' l = some (.lst rs) → Tups H' rs ks → (∀ k ∈ ks,Good k) → 1 ≤ rs.length → rs.length ≤ 8 → PotB H' p → But p H H' → Q (.ref l) H'
theorem scweighed : FnScope ["_law_size","_law_u","_law_v","_law_some","_law_wide","_law_high"] ["_law_size","_law_u","_law_v"] (defScope sWeighed) := ⟨rfl,rfl,rfl,by decide +kernel,rfl,by decide +kernel,by decide +kernel⟩
theorem ok_weighed {f : Addr} {fd : FuncData} (F : Fun K "_law_weighed" "_law_weighed" sWeighed f fd) (B : Blt mg) (DLn : Dn P w K mg base "_law_lain" ["_law_wide","_law_high","_law_turns"] 1 spLain) : FnOk P w K mg base CX0 2 f fd ["_law_size","_law_u","_law_v"] (spWeighed) := by
  refine F.ok scweighed (fun vs H Q E h => ?_) (fun cdv A outer s H vs Q E hr h => ?_)
  · obtain ⟨z,a,c,k,us,ws,rfl,_⟩ := h
    rfl
  obtain ⟨z,a,c,k,us,ws,rfl,hz,ha,hcc,gu,gv,gk,q⟩ := h
  have nd := scweighed.nd
  refine ⟨_,(@pss_cons _ _ _ _ _ (@ps_set _ _ 3 _ _ _ _ nd rfl (Or.inl rfl) (@pe_lst _ _ _ _ pa_nil) rfl (Or.inl rfl)) (@pss_cons _ _ _ _ _ (@ps_for _ _ _ _ _ _ _ _ PassesOwn.never rfl (pi_list (@pe_cD _ _ _ _ _ _ _ _ _ _ DLn hr rfl (@pa_cons _ _ _ _ _ (@pe_ix _ _ _ _ _ _ _ ix_tup (pv 0) pe_int (fun _ _ => rfl)) (@pa_cons _ _ _ _ _ (@pe_ix _ _ _ _ _ _ _ ix_tup (pv 0) pe_int (fun _ _ => rfl)) (@pa_cons _ _ _ _ _ (@pe_ix _ _ _ _ _ _ _ ix_tup (pv 0) pe_int (fun _ _ => rfl)) pa_nil rfl) rfl) rfl) (by decide) rfl rfl)) (pg_tup rfl (pgs_cons (pg_name (i := 4) nd rfl (Or.inl rfl)) (pgs_cons (pg_name (i := 5) nd rfl (Or.inl rfl)) pgs_nil))) (@pss_one _ _ _ (@ps_if _ _ _ _ _ _ _ _ (PW.pt (pw_and (@pt_cmpR _ _ _ _ _ _ _ _ op_le (pv 4) (@pe_callB _ _ _ _ _ _ _ _ _ call_len_seq rfl B.len PySem.boot_len (@pa_cons _ _ _ _ _ (pv 1) pa_nil rfl) (by decide) (by decide) rfl rfl) (nomark _)) (pw_and1 (@pt_cmpR _ _ _ _ _ _ _ _ op_le (pv 5) (@pe_callB _ _ _ _ _ _ _ _ _ call_len_seq rfl B.len PySem.boot_len (@pa_cons _ _ _ _ _ (pv 2) pa_nil rfl) (by decide) (by decide) rfl rfl) (nomark _))))) (@pss_one _ _ _ (@ps_expr _ _ _ _ (@pe_bm _ _ _ _ _ _ _ _ _ _ _ _ PySem.F.plainAttrs_list PySem.F.slot_list_append PySem.F.type_list_append mt_append (pv 3) (@pa_cons _ _ _ _ _ (@pe_op _ _ _ _ _ _ _ _ op_mulB (@pe_ix _ _ _ _ _ _ _ ix_list (pv 1) (@pe_op _ _ _ _ _ _ _ _ op_sub (pv 4) pe_int) (fun _ _ => rfl)) (@pe_ix _ _ _ _ _ _ _ ix_list (pv 2) (@pe_op _ _ _ _ _ _ _ _ op_sub (pv 5) pe_int) (fun _ _ => rfl))) pa_nil rfl) rfl rfl rfl rfl rfl) rfl)) pss_nil)) (by intro _; rfl)) (@pss_one _ _ _ (@ps_ret _ _ _ _ (pe_minD rfl rfl B.min (pv 3) pe_non))))),?_⟩
  have sz : (100 : Nat) < sizeLine := by decide
  refine ⟨by decide,fun l hl => ?_⟩
  have s1 : Same H (upd H l (.lst [])) := Same.new hl
  have l1 : (upd H l (.lst ([] : List V))) l = some (.lst ((nsOf us ws k []).map V.int)) := upd_same
  generalize upd H l (.lst ([] : List V)) = H1 at s1 l1 ⊢
  have z1 := s1 _ _ hz
  refine ⟨_,rfl,z,_,0,_,rfl,rfl,SqT.of z1,rfl,_,rfl,z,_,1,_,rfl,rfl,SqT.of z1,rfl,_,rfl,z,_,2,_,rfl,rfl,SqT.of z1,rfl,k,rfl,fun ll ys H2 hll ll2 pr s2 => ?_⟩
  have l2 := s2 _ _ l1
  have nl : ll ≠ l := fun e => by rw [e,l1] at hll; cases hll
  have lb := lainB_len k
  have len := Paired.length pr
  refine ⟨ll,rfl,⟨_,SqL.of ll2⟩,for_list (xs := ys) (fun i σ H' => (∃ v4 v5,σ = [some (.ref z),some (.ref a),some (.ref c),some (.ref l),v4,v5]) ∧ H' l = some (.lst ((nsOf us ws k ((lainB k).take i)).map V.int)) ∧ But l H2 H') ⟨⟨_,_,rfl⟩,l2,But.refl⟩ (fun i σ H' _ ⟨_,_,b4⟩ => SqL.of (b4 _ _ nl ll2)) ?_ ?_⟩
  · rintro i x σ H3 hi ⟨⟨v4,v5,rfl⟩,l3,b3⟩
    obtain ⟨cc,hc',t,rfl,ht⟩ := Paired.getR pr hi
    have nt : t ≠ l := fun e => by rw [e,l2] at ht; cases ht
    have na : a ≠ l := fun e => by rw [e,hl] at ha; cases ha
    have nc : c ≠ l := fun e => by rw [e,hl] at hcc; cases hcc
    have a3 := b3 _ _ na (s2 _ _ (s1 _ _ ha))
    have c3 := b3 _ _ nc (s2 _ _ (s1 _ _ hcc))
    have tk : (lainB k).take (i + 1) = (lainB k).take i ++ [cc] := by rw [List.take_add_one,hc']; rfl
    have sn := nsOf_snoc us ws k ((lainB k).take i) cc
    rw [← tk] at sn
    obtain ⟨g1,g2⟩ := good_at (ks := [k]) (fun k' hk' => by rw [List.mem_singleton.mp hk']; exact gk) (i := 0) rfl cc
    refine ⟨t,_,rfl,SqT.of (b3 _ _ nt ht),rfl,_,_,rfl,_,_,rfl,rfl,?_⟩
    refine ⟨_,rfl,_,rfl,a,_,rfl,.inl (SqL.of a3),_,_,rfl,rfl,_,rfl,?_⟩
    rw [List.length_map]
    refine ite2 (fun c1 => ?_) (fun c1 => ?_)
    · have f1 := of_decide_eq_true c1
      refine ⟨_,rfl,_,rfl,c,_,rfl,.inl (SqL.of c3),_,_,rfl,rfl,_,rfl,?_⟩
      rw [List.length_map]
      refine ite2 (fun c2 => ?_) (fun c2 => ?_)
      · have f2 := of_decide_eq_true c2
        rw [if_pos (show fits k cc us.length ws.length = true by unfold fits; rw [c1,c2]; rfl)] at sn
        obtain ⟨u0,u1⟩ := gI_in gu (i := sd1 k cc - 1) (by omega) (by omega)
        obtain ⟨v0,v1⟩ := gI_in gv (i := sd2 k cc - 1) (by omega) (by omega)
        have e58 : (10 : Nat) ^ 58 < 2 ^ 4096 := by decide +kernel
        have nlen := nsOf_len us ws k ((lainB k).take i)
        have tlen : ((lainB k).take i).length ≤ 2 := Nat.le_trans (by rw [List.length_take]; omega) lb
        refine ⟨_,rfl,.inl ⟨rfl,_,SqL.of l3⟩,_,rfl,_,rfl,_,_,rfl,rfl,a,_,_,_,rfl,rfl,SqL.of a3,at_row (by omega) (by omega),_,rfl,_,rfl,_,_,rfl,rfl,c,_,_,_,rfl,rfl,SqL.of c3,at_row (by omega) (by omega),_,_,rfl,rfl,⟨by omega,by omega⟩,l,_,_,rfl,rfl,l3,(by rw [List.length_map]; omega),⟨⟨_,_,rfl⟩,?_,b3.trans But.upd⟩⟩
        rw [upd_same,sn,List.map_append]
        rfl
      · rw [if_neg (show ¬ fits k cc us.length ws.length = true from fun z => c2 (by unfold fits at z; exact (Bool.and_eq_true_iff.mp z).2)),List.append_nil] at sn
        exact ⟨⟨_,_,rfl⟩,by rw [sn]; exact l3,b3⟩
    · rw [if_neg (show ¬ fits k cc us.length ws.length = true from fun z => c1 (by unfold fits at z; exact (Bool.and_eq_true_iff.mp z).1)),List.append_nil] at sn
      exact ⟨⟨_,_,rfl⟩,by rw [sn]; exact l3,b3⟩
  · rintro σ H3 ⟨⟨v4,v5,rfl⟩,l3,b3⟩
    rw [len,List.take_length] at l3
    have sA : Same H H3 := fun x o e => b3 _ _ (fun z => by rw [z,hl] at e; cases e) (s2 _ _ (s1 _ _ e))
    refine ⟨_,rfl,l,_,rfl,SqL.of l3,fun e => ?_,fun m hm hx => ?_⟩
    · have q1 := q H3 sA
      rw [kwt_nil e] at q1
      exact q1
    · have q1 := q H3 sA
      rw [kwt_min hm hx] at q1
      exact q1
end
def CDivC (i j : Int) : Prop := 0 < j ∧ j.natAbs < 2 ^ 4096
def ptot (us ws : List Int) : List Kd → Int → Option Int
  | [],a => some a
  | k :: r,a => if 0 < k.wa then match kwt us ws k with
    | none => none
    | some x => ptot us ws r (a + k.wa * x) else ptot us ws r a
def pans (us ws : List Int) (b : Int) (ks : List Kd) : Option Int := match ptot us ws ks 0 with
  | none => none
  | some t => some (if t = 0 then 0 else (t + Ld b us us.length * Ld b ws ws.length - 1) / (Ld b us us.length * Ld b ws ws.length))
theorem kwt_some {us ws : List Int} {k : Kd} {x : Int} (h : kwt us ws k = some x) : ∃ c,fits k c us.length ws.length = true ∧ x = kw1 us ws k c := by
  unfold kwt at h
  by_cases c1 : (turnable k && fits k true us.length ws.length) = true
  · rw [if_pos c1] at h
    have f1 := (Bool.and_eq_true_iff.mp c1).2
    by_cases c2 : fits k false us.length ws.length = true
    · rw [if_pos c2] at h
      simp only [stp] at h
      split at h
      · cases h; exact ⟨true,f1,rfl⟩
      · cases h; exact ⟨false,c2,rfl⟩
    · rw [if_neg c2] at h
      cases h
      exact ⟨true,f1,rfl⟩
  · rw [if_neg c1] at h
    by_cases c2 : fits k false us.length ws.length = true
    · rw [if_pos c2] at h
      cases h
      exact ⟨false,c2,rfl⟩
    · rw [if_neg c2] at h
      cases h
theorem fits_le {k : Kd} {c : Bool} {m n : Int} (h : fits k c m n = true) : sd1 k c ≤ m ∧ sd2 k c ≤ n := by
  unfold fits at h
  rw [Bool.and_eq_true] at h
  exact ⟨of_decide_eq_true h.1,of_decide_eq_true h.2⟩
theorem kwt_in {us ws : List Int} {k : Kd} {x : Int} (gk : Good k) (gu : GoodW us) (gv : GoodW ws) (h : kwt us ws k = some x) : 0 ≤ x ∧ x < 10 ^ 116 := by
  obtain ⟨c,hf,rfl⟩ := kwt_some h
  obtain ⟨f1,f2⟩ := fits_le hf
  obtain ⟨g1,g2⟩ := good_at (ks := [k]) (fun k' hk' => by rw [List.mem_singleton.mp hk']; exact gk) (i := 0) rfl c
  obtain ⟨a1,a2⟩ := gI_in gu (i := sd1 k c - 1) (by omega) (by omega)
  obtain ⟨b1,b2⟩ := gI_in gv (i := sd2 k c - 1) (by omega) (by omega)
  refine ⟨Int.mul_nonneg a1 b1,?_⟩
  unfold kw1
  have h1 : gI us (sd1 k c - 1) * gI ws (sd2 k c - 1) ≤ gI us (sd1 k c - 1) * 10 ^ 58 := Int.mul_le_mul_of_nonneg_left (by omega) a1
  have h2 : gI us (sd1 k c - 1) * 10 ^ 58 < 10 ^ 58 * 10 ^ 58 := Int.mul_lt_mul_of_pos_right a2 (by decide)
  have h3 : (10 : Int) ^ 58 * 10 ^ 58 = 10 ^ 116 := by decide
  omega
section
variable {P : Program} {w : World} {K : PySem.W.Frag} {mg : Str → Option Value} {base : Heap}
theorem sBut {H H' : Hp} {p : Addr} (s : Same H H') : But p H H' := fun c o _ e => s c o e
theorem put1 {p c : Addr} {H0 H : Hp} {o : HO} (b : But p H0 H) (pt : PotB H p) (h : H c = none) : ∃ H',upd H c o = H' ∧ H' c = some o ∧ c ≠ p ∧ Same H H' ∧ But p H0 H' ∧ PotB H' p :=
  ⟨_,rfl,upd_same,Ne.symm (pt.ne h),Same.new h,b.trans (But.new h),pt.new h⟩
theorem tupKeep {p : Addr} {H H' : Hp} (b : But p H H') (pt : PotB H p) : ∀ c xs,H c = some (.tup xs) → H' c = some (.tup xs) := fun c xs e => b _ _ (fun z => by obtain ⟨_,_,_,_,_,h⟩ := pt; rw [z,h] at e; cases e) e
theorem lstKeep {l : Addr} {H : Hp} {xs ys : List V} (h : H l = some (.lst xs)) : ∀ c zs,H c = some (.tup zs) → (upd H l (.lst ys)) c = some (.tup zs) := fun c zs e => by
  rw [upd_ne (fun z => by rw [z,h] at e; cases e)]; exact e
theorem scworth : FnScope ["_law_pot_here","_law_weight","_law_way"] ["_law_pot_here","_law_weight"] (defScope sWorth) := ⟨rfl,rfl,rfl,by decide +kernel,rfl,by decide +kernel,by decide +kernel⟩
theorem ok_worth {f : Addr} {fd : FuncData} (F : Fun K "_law_worth" "_law_worth" sWorth f fd) (B : Blt mg) (DD : Dn P w K mg base "_law_draw" ["_law_pot_here","_law_many"] 1 spDrawB) (DG : Dn P w K mg base "_law_great" ["_law_pot_here"] 2 spGreat) : FnOk P w K mg base CX0 3 f fd ["_law_pot_here","_law_weight"] (spWorth) := by
  refine F.ok scworth (fun vs H Q E h => ?_) (fun cdv A outer s H vs Q E hr h => ?_)
  · obtain ⟨p,o,rfl,_⟩ := h
    rfl
  obtain ⟨p,o,rfl,ho,pt,q⟩ := h
  have nd := scworth.nd
  have hr1 := hr.mono (show 1 ≤ 2 by decide)
  refine ⟨_,(@pss_cons _ _ _ _ _ (@ps_set _ _ 2 _ _ _ _ nd rfl (Or.inl rfl) (@pe_cD _ _ _ _ _ _ _ _ _ _ DD hr1 rfl (@pa_cons _ _ _ _ _ (pv 0) (@pa_cons _ _ _ _ _ pe_int pa_nil rfl) rfl) (by decide) rfl rfl) rfl (Or.inl rfl)) (@pss_cons _ _ _ _ _ (@ps_if _ _ _ _ _ _ _ _ (PW.pt (pw_or (@pt_cmpR _ _ _ _ _ _ _ _ op_isN (pv 1) pe_non (nomark _)) (pw_or1 (@pt_cmpR _ _ _ _ _ _ _ _ op_eq (pv 2) pe_int (nomark _))))) (@pss_one _ _ _ (@ps_ret _ _ _ _ (@pe_cD _ _ _ _ _ _ _ _ _ _ DG hr rfl (@pa_cons _ _ _ _ _ (pv 0) pa_nil rfl) (by decide) rfl rfl))) pss_nil) (@pss_cons _ _ _ _ _ (@ps_if _ _ _ _ _ _ _ _ (@pt_cmpR _ _ _ _ _ _ _ _ op_eq (pv 2) pe_int (nomark _)) (@pss_one _ _ _ (@ps_ret _ _ _ _ (@pe_op _ _ _ _ _ _ _ _ op_add (@pe_callB _ _ _ _ _ _ _ _ _ (call_min2 rfl) rfl B.min PyProof.Rows.boot_min (@pa_cons _ _ _ _ _ (pv 1) (@pa_cons _ _ _ _ _ (@pe_op _ _ _ _ _ _ _ _ op_pow pe_int pe_int) pa_nil rfl) rfl) (by decide) (by decide) rfl rfl) (@pe_cD _ _ _ _ _ _ _ _ _ _ DD hr1 rfl (@pa_cons _ _ _ _ _ (pv 0) (@pa_cons _ _ _ _ _ pe_int pa_nil rfl) rfl) (by decide) rfl rfl)))) pss_nil) (@pss_one _ _ _ (@ps_ret _ _ _ _ (@pe_callB _ _ _ _ _ _ _ _ _ (call_max2 rfl) rfl B.max PyProof.Rows.boot_max (@pa_cons _ _ _ _ _ pe_int (@pa_cons _ _ _ _ _ (@pe_op _ _ _ _ _ _ _ _ op_sub (@pe_callB _ _ _ _ _ _ _ _ _ (call_min2 rfl) rfl B.min PyProof.Rows.boot_min (@pa_cons _ _ _ _ _ (pv 1) (@pa_cons _ _ _ _ _ (@pe_op _ _ _ _ _ _ _ _ op_pow pe_int pe_int) pa_nil rfl) rfl) (by decide) (by decide) rfl rfl) (@pe_cD _ _ _ _ _ _ _ _ _ _ DD hr1 rfl (@pa_cons _ _ _ _ _ (pv 0) (@pa_cons _ _ _ _ _ pe_int pa_nil rfl) rfl) (by decide) rfl rfl)) pa_nil rfl) rfl) (by decide) (by decide) rfl rfl)))))),?_⟩
  have e60 : (10 : Int) ^ 58 < 10 ^ 60 := by decide
  have e59 : (10 : Int) ^ 59 + 10 < 10 ^ 60 := by decide
  have z59 : (0 : Int) < 10 ^ 59 := by decide
  refine ⟨_,rfl,p,6,rfl,pt,by decide,by decide,fun wy H1 w0 w1 pt1 b1 => ?_⟩
  refine ⟨_,rfl,rfl,_,rfl,?_⟩
  have gr : tRet (tCall spGreat [] E0 (tCons (tVar 0) tNil)) { nx := fun x H' => Q V.non H',rt := Q } [some (.ref p),some (oV o),some (.int wy)] H1 :=
    ⟨_,rfl,p,rfl,pt1,fun g H2 g0 g1 pt2 b2 => q _ _ g0 (by omega) pt2 (b1.trans b2)⟩
  cases o with
  | none => exact iteT (iteT gr)
  | some x =>
    have x0 := ho x rfl
    refine iteF ⟨_,rfl,rfl,_,rfl,?_⟩
    refine ite2 (fun c => ?_) (fun c => ?_)
    · exact gr
    refine ⟨_,rfl,rfl,_,rfl,?_⟩
    have mn : 0 ≤ (if (10 : Int) ^ (59 : Int).toNat < x then (10 : Int) ^ (59 : Int).toNat else x) ∧ (if (10 : Int) ^ (59 : Int).toNat < x then (10 : Int) ^ (59 : Int).toNat else x) ≤ 10 ^ 59 := by
      show 0 ≤ (if (10 : Int) ^ 59 < x then (10 : Int) ^ 59 else x) ∧ (if (10 : Int) ^ 59 < x then (10 : Int) ^ 59 else x) ≤ 10 ^ 59
      split <;> omega
    refine ite2 (fun c => ?_) (fun c => ?_)
    · refine ⟨_,rfl,_,_,rfl,rfl,⟨by decide,by decide,by decide⟩,_,_,rfl,_,rfl,p,2,rfl,pt1,by decide,by decide,fun r H2 r0 r1 pt2 b2 => ⟨_,_,rfl,rfl,?_⟩⟩
      exact q _ _ (by omega) (by omega) pt2 (b1.trans b2)
    · refine ⟨_,rfl,_,_,rfl,rfl,⟨by decide,by decide,by decide⟩,_,_,rfl,_,rfl,p,3,rfl,pt1,by decide,by decide,fun r H2 r0 r1 pt2 b2 => ⟨_,_,rfl,rfl,_,_,rfl,?_⟩⟩
      exact q _ _ (by split <;> omega) (by split <;> omega) pt2 (b1.trans b2)
theorem sclkinds : FnScope ["_law_pot_here","_law_u","_law_v","_law_found","_law_k","_law_size","_law_worth_here","_law_wanted"] ["_law_pot_here","_law_u","_law_v"] (defScope sKinds) := ⟨rfl,rfl,rfl,by decide +kernel,rfl,by decide +kernel,by decide +kernel⟩
theorem ok_lkinds {f : Addr} {fd : FuncData} (F : Fun K "_law_kinds" "_law_kinds" sKinds f fd) (B : Blt mg) (DD : Dn P w K mg base "_law_draw" ["_law_pot_here","_law_many"] 1 spDrawB) (DG : Dn P w K mg base "_law_great" ["_law_pot_here"] 2 spGreat) (DS : Dn P w K mg base "_law_side" ["_law_pot_here","_law_most_here"] 3 spSide) (DWd : Dn P w K mg base "_law_weighed" ["_law_size","_law_u","_law_v"] 2 spWeighed) (DWo : Dn P w K mg base "_law_worth" ["_law_pot_here","_law_weight"] 3 spWorth) : FnOk P w K mg base CX0 4 f fd ["_law_pot_here","_law_u","_law_v"] (spKindsL) := by
  refine F.ok sclkinds (fun vs H Q E h => ?_) (fun cdv A outer s H vs Q E hr h => ?_)
  · obtain ⟨p,a,c,us,ws,rfl,_⟩ := h
    rfl
  obtain ⟨p,a,c,us,ws,rfl,na,nc,ha,hcc,u1,u60,v1,v60,gu,gv,pt,q⟩ := h
  have nd := sclkinds.nd
  have hr1 := hr.mono (show 1 ≤ 3 by decide)
  have hr2 := hr.mono (show 2 ≤ 3 by decide)
  refine ⟨_,(@pss_cons _ _ _ _ _ (@ps_set _ _ 3 _ _ _ _ nd rfl (Or.inl rfl) (@pe_lst _ _ _ _ pa_nil) rfl (Or.inl rfl)) (@pss_cons _ _ _ _ _ (@ps_for _ _ _ _ _ _ _ _ PassesOwn.never rfl (pi_range1 rfl B.range (@pa_cons _ _ _ _ _ (@pe_ix _ _ _ _ _ _ _ ix_list (@pe_lst _ _ _ _ (@pa_cons _ _ _ _ _ pe_int (@pa_cons _ _ _ _ _ pe_int (@pa_cons _ _ _ _ _ pe_int (@pa_cons _ _ _ _ _ pe_int (@pa_cons _ _ _ _ _ pe_int pa_nil rfl) rfl) rfl) rfl) rfl)) (@pe_cD _ _ _ _ _ _ _ _ _ _ DD hr1 rfl (@pa_cons _ _ _ _ _ (pv 0) (@pa_cons _ _ _ _ _ pe_int pa_nil rfl) rfl) (by decide) rfl rfl) (fun _ _ => rfl)) pa_nil rfl)) (pg_name (i := 4) nd rfl (Or.inl rfl)) (@pss_cons _ _ _ _ _ (@ps_set _ _ 5 _ _ _ _ nd rfl (Or.inl rfl) (@pe_tup _ _ _ _ _ (@pa_cons _ _ _ _ _ (@pe_cD _ _ _ _ _ _ _ _ _ _ DS hr rfl (@pa_cons _ _ _ _ _ (pv 0) (@pa_cons _ _ _ _ _ (@pe_callB _ _ _ _ _ _ _ _ _ call_len_seq rfl B.len PySem.boot_len (@pa_cons _ _ _ _ _ (pv 1) pa_nil rfl) (by decide) (by decide) rfl rfl) pa_nil rfl) rfl) (by decide) rfl rfl) (@pa_cons _ _ _ _ _ (@pe_cD _ _ _ _ _ _ _ _ _ _ DS hr rfl (@pa_cons _ _ _ _ _ (pv 0) (@pa_cons _ _ _ _ _ (@pe_callB _ _ _ _ _ _ _ _ _ call_len_seq rfl B.len PySem.boot_len (@pa_cons _ _ _ _ _ (pv 2) pa_nil rfl) (by decide) (by decide) rfl rfl) pa_nil rfl) rfl) (by decide) rfl rfl) (@pa_cons _ _ _ _ _ (@pe_cmpR _ _ _ _ _ _ _ _ op_eq (@pe_cD _ _ _ _ _ _ _ _ _ _ DD hr1 rfl (@pa_cons _ _ _ _ _ (pv 0) (@pa_cons _ _ _ _ _ pe_int pa_nil rfl) rfl) (by decide) rfl rfl) pe_int (nomark _)) pa_nil rfl) rfl) rfl)) rfl (Or.inl rfl)) (@pss_cons _ _ _ _ _ (@ps_set _ _ 6 _ _ _ _ nd rfl (Or.inl rfl) (@pe_cD _ _ _ _ _ _ _ _ _ _ DWo hr rfl (@pa_cons _ _ _ _ _ (pv 0) (@pa_cons _ _ _ _ _ (@pe_cD _ _ _ _ _ _ _ _ _ _ DWd hr2 rfl (@pa_cons _ _ _ _ _ (pv 5) (@pa_cons _ _ _ _ _ (pv 1) (@pa_cons _ _ _ _ _ (pv 2) pa_nil rfl) rfl) rfl) (by decide) rfl rfl) pa_nil rfl) rfl) (by decide) rfl rfl) rfl (Or.inl rfl)) (@pss_cons _ _ _ _ _ (@ps_set _ _ 7 _ _ _ _ nd rfl (Or.inl rfl) (@pe_ix _ _ _ _ _ _ _ ix_list (@pe_lst _ _ _ _ (@pa_cons _ _ _ _ _ pe_int (@pa_cons _ _ _ _ _ pe_int (@pa_cons _ _ _ _ _ pe_int (@pa_cons _ _ _ _ _ (@pe_cD _ _ _ _ _ _ _ _ _ _ DD hr1 rfl (@pa_cons _ _ _ _ _ (pv 0) (@pa_cons _ _ _ _ _ pe_int pa_nil rfl) rfl) (by decide) rfl rfl) (@pa_cons _ _ _ _ _ (@pe_cD _ _ _ _ _ _ _ _ _ _ DG hr2 rfl (@pa_cons _ _ _ _ _ (pv 0) pa_nil rfl) (by decide) rfl rfl) pa_nil rfl) rfl) rfl) rfl) rfl)) (@pe_cD _ _ _ _ _ _ _ _ _ _ DD hr1 rfl (@pa_cons _ _ _ _ _ (pv 0) (@pa_cons _ _ _ _ _ pe_int pa_nil rfl) rfl) (by decide) rfl rfl) (fun _ _ => rfl)) rfl (Or.inl rfl)) (@pss_one _ _ _ (@ps_expr _ _ _ _ (@pe_bm _ _ _ _ _ _ _ _ _ _ _ _ PySem.F.plainAttrs_list PySem.F.slot_list_append PySem.F.type_list_append mt_append (pv 3) (@pa_cons _ _ _ _ _ (@pe_tup _ _ _ _ _ (@pa_cons _ _ _ _ _ (@pe_ix _ _ _ _ _ _ _ ix_tup (pv 5) pe_int (fun _ _ => rfl)) (@pa_cons _ _ _ _ _ (@pe_ix _ _ _ _ _ _ _ ix_tup (pv 5) pe_int (fun _ _ => rfl)) (@pa_cons _ _ _ _ _ (pv 6) (@pa_cons _ _ _ _ _ (pv 7) (@pa_cons _ _ _ _ _ (@pe_ix _ _ _ _ _ _ _ ix_tup (pv 5) pe_int (fun _ _ => rfl)) pa_nil rfl) rfl) rfl) rfl) rfl)) pa_nil rfl) rfl rfl rfl rfl rfl) rfl))))) (by intro _; rfl)) (@pss_one _ _ _ (@ps_ret _ _ _ _ (pv 3))))),?_⟩
  have sz : (100 : Nat) < sizeLine := by decide
  have e60 : (100 : Int) < 10 ^ 58 := by decide
  have e61 : (10 : Int) ^ 58 < 10 ^ 60 := by decide
  refine ⟨by decide,fun l hl => ?_⟩
  have nlp : l ≠ p := Ne.symm (pt.ne hl)
  have b0 : But p H (upd H l (.lst [])) := But.new hl
  have l0 : (upd H l (.lst ([] : List V))) l = some (.lst []) := upd_same
  have pt0 : PotB (upd H l (.lst ([] : List V))) p := pt.new hl
  generalize upd H l (.lst ([] : List V)) = H0 at b0 l0 pt0 ⊢
  refine ⟨(by show 5 ≤ sizeLine; decide),fun t5 h5 => ?_⟩
  obtain ⟨H1,e1,k1,n1,s1,b1,pt1⟩ := put1 (o := .lst [.int 1,.int 2,.int 3,.int 4,.int 8]) b0 pt0 h5
  rw [e1]; clear e1
  refine ⟨_,rfl,p,5,rfl,pt1,by decide,by decide,fun y H2 y0 y1 pt2 b2 => ?_⟩
  obtain ⟨n,hv,n1',n8⟩ : ∃ n : Nat,atI [V.int 1,V.int 2,V.int 3,V.int 4,V.int 8] y = some (.int (n : Int)) ∧ 1 ≤ n ∧ n ≤ 8 := by
    have : y = 0 ∨ y = 1 ∨ y = 2 ∨ y = 3 ∨ y = 4 := by omega
    rcases this with e | e | e | e | e <;> subst e
    · exact ⟨1,rfl,by decide,by decide⟩
    · exact ⟨2,rfl,by decide,by decide⟩
    · exact ⟨3,rfl,by decide,by decide⟩
    · exact ⟨4,rfl,by decide,by decide⟩
    · exact ⟨8,rfl,by decide,by decide⟩
  refine ⟨t5,_,_,_,rfl,rfl,SqL.of (b2 _ _ n1 k1),hv,_,rfl,by omega,by omega,?_⟩
  rw [Int.toNat_natCast]
  have l2 := b2 _ _ nlp (s1 _ _ l0)
  have b02 := b1.trans b2
  refine for_range (lo := 0) (n := n) (fun i σ H' => ∃ rs ks v4 v5 v6 v7,σ = [some (.ref p),some (.ref a),some (.ref c),some (.ref l),v4,v5,v6,v7] ∧ H' l = some (.lst rs) ∧ Tups H' rs ks ∧ (∀ k ∈ ks,Good k) ∧ rs.length = i ∧ PotB H' p ∧ But p H H') ⟨[],[],none,none,none,none,rfl,l2,.nil,fun k hk => by simp at hk,rfl,pt2,b02⟩ ?_ ?_
  · rintro i σ Ha hi ⟨rs,ks,v4,v5,v6,v7,rfl,la,ta,ga,len,pta,ba⟩
    have aA := ba _ _ na ha
    refine ⟨_,rfl,_,rfl,a,_,rfl,.inl (SqL.of aA),p,_,rfl,(by rw [List.length_map]; omega),(by rw [List.length_map]; omega),pta,fun x1 Hb x10 x11 ptb bb => ?_⟩
    have bB := ba.trans bb
    refine ⟨_,rfl,_,rfl,c,_,rfl,.inl (SqL.of (bB _ _ nc hcc)),p,_,rfl,(by rw [List.length_map]; omega),(by rw [List.length_map]; omega),ptb,fun x2 Hc x20 x21 ptc bc => ?_⟩
    have bC := bB.trans bc
    refine ⟨_,rfl,p,2,rfl,ptc,by decide,by decide,fun d Hd d0 d1 ptd bd => ⟨rfl,(by show 3 ≤ sizeLine; decide),fun z hz => ?_⟩⟩
    have bD := bC.trans bd
    have bAD : But p Ha Hd := (bb.trans bc).trans bd
    have lD := bAD _ _ nlp la
    obtain ⟨tb,htb⟩ : ∃ tb : Bool,decide (V.int d = V.int 1) = tb := ⟨_,rfl⟩
    rw [htb]
    obtain ⟨He,ee,ke,ne',se,be,pte⟩ := put1 (o := .tup [.int x1,.int x2,.bl tb]) bD ptd hz
    rw [ee]; clear ee
    have gk : Good ⟨x1,x2,0,0,tb⟩ := ⟨x10,x20,Int.le_refl _,Int.le_refl _,x11,x21,(show (0 : Int) < 10 ^ 60 by decide),(show (0 : Int) < 10 ^ 60 by decide)⟩
    refine ⟨_,rfl,_,rfl,_,rfl,_,rfl,z,a,c,⟨x1,x2,0,0,tb⟩,us,ws,rfl,ke,be _ _ na ha,be _ _ nc hcc,gu,gv,gk,fun Hf sf => ?_⟩
    have ptf := pte.same sf
    refine ⟨p,_,rfl,fun x hx => (kwt_in gk gu gv hx).1,ptf,fun wo Hg wo0 wo1 ptg bg => ?_⟩
    refine ⟨_,rfl,p,9,rfl,ptg,by decide,by decide,fun q9 Hh q90 q91 pth bh => ?_⟩
    refine ⟨_,rfl,p,rfl,pth,fun gq Hi gq0 gq1 pti bi => ⟨(by show 5 ≤ sizeLine; decide),fun tw htw => ?_⟩⟩
    have bE : But p He Hi := ((sBut sf).trans bg).trans (bh.trans bi)
    obtain ⟨Hj,ej,kj,nj,sj,bj,ptj⟩ := put1 (o := .lst [.int 0,.int 1,.int 2,.int q9,.int gq]) bE pti htw
    rw [show upd Hi tw _ = Hj from ej]; clear ej
    refine ⟨_,rfl,p,5,rfl,ptj,by decide,by decide,fun y5 Hk y50 y51 ptk bk => ?_⟩
    obtain ⟨wa,hwa,wa0,wa1⟩ : ∃ wa : Int,atI [V.int 0,V.int 1,V.int 2,V.int q9,V.int gq] y5 = some (.int wa) ∧ 0 ≤ wa ∧ wa < 10 ^ 58 := by
      have : y5 = 0 ∨ y5 = 1 ∨ y5 = 2 ∨ y5 = 3 ∨ y5 = 4 := by omega
      rcases this with e | e | e | e | e <;> subst e
      · exact ⟨0,rfl,by decide,by decide⟩
      · exact ⟨1,rfl,by decide,by decide⟩
      · exact ⟨2,rfl,by decide,by decide⟩
      · exact ⟨q9,rfl,q90,by omega⟩
      · exact ⟨gq,rfl,gq0,gq1⟩
    refine ⟨tw,_,_,_,rfl,rfl,SqL.of (bk _ _ nj kj),hwa,?_⟩
    have bF : But p He Hk := bj.trans bk
    have zk := bF _ _ ne' ke
    have lk := bF _ _ nlp (se _ _ lD)
    have tK : Tups Hk rs ks := Tups.keep (tupKeep bF pte) (Tups.keep (fun c xs e => se _ _ e) (Tups.keep (tupKeep bAD pta) ta))
    refine ⟨_,rfl,.inl ⟨rfl,_,SqL.of lk⟩,_,rfl,z,_,0,_,rfl,rfl,SqT.of zk,rfl,_,rfl,z,_,1,_,rfl,rfl,SqT.of zk,rfl,_,rfl,_,rfl,_,rfl,z,_,2,_,rfl,rfl,SqT.of zk,rfl,(by show 5 ≤ sizeLine; decide),fun tn htn => ?_⟩
    obtain ⟨Hm,em,km,nm,sm,bm,ptm⟩ := put1 (o := .tup [.int x1,.int x2,.int wo,.int wa,.bl tb]) (be.trans bF) ptk htn
    rw [show upd Hk tn _ = Hm from em]; clear em
    have lm := sm _ _ lk
    have ntl : tn ≠ l := fun e => by rw [e,lk] at htn; cases htn
    refine ⟨l,_,_,rfl,rfl,lm,by omega,rs ++ [.ref tn],ks ++ [⟨x1,x2,wo,wa,tb⟩],_,_,_,_,rfl,upd_same,?_,?_,?_,?_,?_⟩
    · exact Paired.snoc (Tups.keep (lstKeep lm) (Tups.keep (fun c xs e => sm _ _ e) tK)) ⟨tn,rfl,by rw [upd_ne ntl]; exact km⟩
    · intro k hk
      rcases List.mem_append.mp hk with hk | hk
      · exact ga k hk
      · rw [List.mem_singleton.mp hk]
        exact ⟨x10,x20,wo0,wa0,x11,x21,wo1,by show wa < 10 ^ 60; omega⟩
    · rw [List.length_append,len]; rfl
    · obtain ⟨q1,q2,h1,h2,h3,h4⟩ := ptm
      exact ⟨q1,q2,h1,h2,h3,by rw [upd_ne (Ne.symm nlp)]; exact h4⟩
    · intro x o nx e
      rw [upd_ne (fun zz => by rw [zz,hl] at e; cases e)]
      exact bm x o nx e
  · rintro σ Ha ⟨rs,ks,v4,v5,v6,v7,rfl,la,ta,ga,len,pta,ba⟩
    exact ⟨_,rfl,q l rs ks Ha hl nlp la ta ga (by omega) (by omega) pta ba⟩
end
theorem Ld_mono {b : Int} {ws : List Int} (hb : 0 ≤ b) : ∀ n m : Nat,m ≤ n → Ld b ws m ≤ Ld b ws n := by
  intro n
  induction n using Nat.strongRecOn with
  | ind n ih =>
    intro m hm
    rcases Nat.lt_or_ge m n with h | h
    · obtain ⟨N,rfl⟩ : ∃ N,n = N + 1 := ⟨n - 1,by omega⟩
      refine Int.le_trans (ih N (by omega) m (by omega)) ?_
      cases N with
      | zero => rw [Ld_zero]; exact Ld_nn _
      | succ M =>
        rcases LS_is (ws := ws) hb M with ⟨e,_⟩ | ⟨j,hj,_,e⟩
        · rw [e]; exact Ld_nn _
        · rw [e]
          have g := Ld_ge (ws := ws) hb (M + 1) j (by omega)
          have l := ih (m0 (((M + 1 : Nat) : Int) + 1 - (j + 1) - b)).toNat (by unfold m0; split <;> omega) (m0 ((M : Int) + 1 - (j + 1) - b)).toNat (by unfold m0; split <;> split <;> omega)
          omega
    · rw [show m = n by omega]; exact Int.le_refl _
theorem Ld_sup {b : Int} {ws : List Int} (hb : 0 ≤ b) (q : Nat) : ∀ p : Nat,Ld b ws p + Ld b ws q ≤ Ld b ws (p + b.toNat + q) := by
  intro p
  induction p using Nat.strongRecOn with
  | ind p ih =>
    have mo := Ld_mono (ws := ws) hb
    cases p with
    | zero =>
      rw [Ld_zero]
      have := mo (0 + b.toNat + q) q (by omega)
      omega
    | succ n =>
      rcases LS_is (ws := ws) hb n with ⟨e,_⟩ | ⟨j,hj,_,e⟩
      · rw [e]
        have := mo (n + 1 + b.toNat + q) q (by omega)
        omega
      · rw [e]
        have g := Ld_ge (ws := ws) hb (n + b.toNat + q) j (by omega)
        rw [show n + b.toNat + q + 1 = n + 1 + b.toNat + q by omega] at g
        by_cases z : (n : Int) - j - b ≤ 0
        · have e0 : (m0 ((n : Int) + 1 - (j + 1) - b)).toNat = 0 := by unfold m0; split <;> omega
          rw [e0,Ld_zero]
          have l := mo (m0 (((n + b.toNat + q : Nat) : Int) + 1 - (j + 1) - b)).toNat q (by unfold m0; split <;> omega)
          omega
        · have i := ih (m0 ((n : Int) + 1 - (j + 1) - b)).toNat (by unfold m0; split <;> omega)
          have l := mo (m0 (((n + b.toNat + q : Nat) : Int) + 1 - (j + 1) - b)).toNat ((m0 ((n : Int) + 1 - (j + 1) - b)).toNat + b.toNat + q) (by unfold m0; split <;> split <;> omega)
          omega
theorem Ld_own {b : Int} {ws : List Int} (hb : 0 ≤ b) {s : Int} (h : 1 ≤ s) {w : Int} (hw : s ≤ w) : gI ws (s - 1) ≤ Ld b ws w.toNat := by
  have g := Ld_ge (ws := ws) hb (s - 1).toNat (s - 1).toNat (Nat.le_refl _)
  have n := Ld_nn (b := b) (ws := ws) (m0 ((((s - 1).toNat : Nat) : Int) + 1 - ((s - 1).toNat + 1) - b)).toNat
  have m := Ld_mono (ws := ws) hb w.toNat ((s - 1).toNat + 1) (by omega)
  rw [show ((((s - 1).toNat : Nat) : Int)) = s - 1 by omega] at g
  rw [show ((((s - 1).toNat : Nat) : Int)) = s - 1 by omega] at n
  omega
structure BdL (b : Int) (ks : List Kd) (W T : Int) (L : Int → Int → Int) (val : Nat → Int) : Prop where
  nn : ∀ w h,1 ≤ w → w ≤ W → 1 ≤ h → h ≤ T → 0 ≤ L w h
  dn : ∀ p w h,1 ≤ p → 1 ≤ w - p - b → w ≤ W → 1 ≤ h → h ≤ T → L p h + L (w - p - b) h ≤ L w h
  ac : ∀ p w h,1 ≤ p → 1 ≤ h - p - b → h ≤ T → 1 ≤ w → w ≤ W → L w p + L w (h - p - b) ≤ L w h
  pc : ∀ (i : Nat) k c w h,ks[i]? = some k → c ∈ lainB k → fits k c w h = true → w ≤ W → h ≤ T → val i ≤ L w h
def wsum (val : Nat → Int) : Nat → List Int → Int
  | _,[] => 0
  | i,c :: r => c * val i + wsum val (i + 1) r
theorem wsum_set (val : Nat → Int) : ∀ (cs : List Int) (n i : Nat) (c : Int),cs[i]? = some c → wsum val n (cs.set i (c + 1)) = wsum val n cs + val (n + i)
  | [],n,i,c,h => by simp at h
  | d :: r,n,0,c,h => by
    cases h
    show (d + 1) * val n + wsum val (n + 1) r = d * val n + wsum val (n + 1) r + val (n + 0)
    show _ = d * val n + wsum val (n + 1) r + val n
    rw [Int.add_mul,Int.one_mul]
    omega
  | d :: r,n,i + 1,c,h => by
    show d * val n + wsum val (n + 1) (r.set i (c + 1)) = d * val n + wsum val (n + 1) r + val (n + (i + 1))
    rw [wsum_set val r (n + 1) i c h,show n + 1 + i = n + (i + 1) by omega]
    omega
theorem wsum_zero (val : Nat → Int) : ∀ (m n : Nat),wsum val n (List.replicate m 0) = 0
  | 0,n => rfl
  | m + 1,n => by
    show 0 * val n + wsum val (n + 1) (List.replicate m 0) = 0
    rw [wsum_zero val m,Int.zero_mul]; rfl
structure Cut (b : Int) (ks : List Kd) (W T : Int) (N : Int) (cs : List Int) : Prop where
  len : cs.length = ks.length
  rng : ∀ c ∈ cs,0 ≤ c ∧ c ≤ 31 * N
  fit : ∀ (i : Nat) (c : Int),cs[i]? = some c → 0 < c → ∃ k t,ks[i]? = some k ∧ t ∈ lainB k ∧ fits k t W T = true
  bd : ∀ L val,BdL b ks W T L val → (∀ i,0 ≤ val i) → wsum val 0 cs ≤ N * L W T
theorem kwt_le {us ws : List Int} {k : Kd} {c : Bool} (h : c ∈ lainB k) (hf : fits k c us.length ws.length = true) : ∃ x,kwt us ws k = some x ∧ x ≤ kw1 us ws k c := by
  cases e : kwt us ws k with
  | none =>
    exfalso
    unfold kwt at e
    unfold lainB at h
    cases t : turnable k with
    | false =>
      rw [t,if_neg Bool.false_ne_true,List.mem_singleton] at h
      subst h
      rw [t,Bool.false_and,if_neg Bool.false_ne_true,hf,if_pos rfl] at e
      cases e
    | true =>
      rw [t,if_pos rfl] at h
      rw [t,Bool.true_and] at e
      cases c with
      | false =>
        rw [hf,if_pos rfl] at e
        split at e
        · simp only [stp] at e; split at e <;> cases e
        · cases e
      | true =>
        rw [hf,if_pos rfl] at e
        split at e
        · simp only [stp] at e; split at e <;> cases e
        · cases e
  | some x =>
    refine ⟨x,rfl,?_⟩
    unfold kwt at e
    unfold lainB at h
    cases t : turnable k with
    | false =>
      rw [t,if_neg Bool.false_ne_true,List.mem_singleton] at h
      subst h
      rw [t,Bool.false_and,if_neg Bool.false_ne_true,hf,if_pos rfl] at e
      cases e
      exact Int.le_refl _
    | true =>
      rw [t,if_pos rfl] at h
      rw [t,Bool.true_and] at e
      cases c with
      | false =>
        rw [hf,if_pos rfl] at e
        split at e
        · simp only [stp] at e
          split at e
          · cases e; omega
          · cases e; exact Int.le_refl _
        · cases e; exact Int.le_refl _
      | true =>
        rw [hf,if_pos rfl] at e
        split at e
        · simp only [stp] at e
          split at e
          · cases e; exact Int.le_refl _
          · cases e; omega
        · cases e; exact Int.le_refl _
theorem gI_nn {ws : List Int} (h : GoodW ws) (i : Int) : 0 ≤ gI ws i := by
  unfold gI
  rw [List.getD_eq_getElem?_getD]
  cases e : ws[i.toNat]? with
  | none => exact Int.le_refl _
  | some x => exact (h x (List.mem_of_getElem? e)).1
theorem bd_load {b : Int} {ks : List Kd} {us ws : List Int} (hb : 0 ≤ b) (gk : ∀ k ∈ ks,Good k) (gu : GoodW us) (gw : GoodW ws) : BdL b ks us.length ws.length (fun w h => Ld b us w.toNat * Ld b ws h.toNat) (fun i => match ks[i]? with
    | some k => (kwt us ws k).getD 0
    | none => 0) := by
  have nn : ∀ (zs : List Int) (n : Nat),0 ≤ Ld b zs n := fun zs n => Ld_nn n
  refine ⟨fun w h _ _ _ _ => Int.mul_nonneg (nn _ _) (nn _ _),fun p w h hp hq _ _ _ => ?_,fun p w h hp hq _ _ _ => ?_,fun i k c w h hk hc hf hw hh => ?_⟩
  · have s := Ld_sup (ws := us) hb (w - p - b).toNat p.toNat
    rw [show p.toNat + b.toNat + (w - p - b).toNat = w.toNat by omega] at s
    show Ld b us p.toNat * Ld b ws h.toNat + Ld b us (w - p - b).toNat * Ld b ws h.toNat ≤ Ld b us w.toNat * Ld b ws h.toNat
    rw [← Int.add_mul]
    exact Int.mul_le_mul_of_nonneg_right s (nn _ _)
  · have s := Ld_sup (ws := ws) hb (h - p - b).toNat p.toNat
    rw [show p.toNat + b.toNat + (h - p - b).toNat = h.toNat by omega] at s
    show Ld b us w.toNat * Ld b ws p.toNat + Ld b us w.toNat * Ld b ws (h - p - b).toNat ≤ Ld b us w.toNat * Ld b ws h.toNat
    rw [← Int.mul_add]
    exact Int.mul_le_mul_of_nonneg_left s (nn _ _)
  · obtain ⟨f1,f2⟩ := fits_le hf
    have hp : fits k c us.length ws.length = true := by
      unfold fits
      rw [decide_eq_true (show sd1 k c ≤ us.length by omega),decide_eq_true (show sd2 k c ≤ ws.length by omega)]; rfl
    obtain ⟨x,e,hx⟩ := kwt_le hc hp
    have g := gk k (List.mem_of_getElem? hk)
    have s1 : 1 ≤ sd1 k c := by have := g.w; have := g.h; cases c <;> assumption
    have s2 : 1 ≤ sd2 k c := by have := g.w; have := g.h; cases c <;> assumption
    show (match ks[i]? with
      | some k => (kwt us ws k).getD 0
      | none => 0) ≤ _
    rw [hk]
    show (kwt us ws k).getD 0 ≤ _
    rw [e]
    refine Int.le_trans hx ?_
    exact Int.mul_le_mul (Ld_own hb s1 f1) (Ld_own hb s2 f2) (gI_nn gw _) (nn _ _)
section
variable {P : Program} {w : World} {K : PySem.W.Frag} {mg : Str → Option Value} {base : Heap}
def FitN (ks : List Kd) (w h n : Int) : Prop := ∃ (i : Nat) (k : Kd) (c : Bool),n = (i : Int) ∧ ks[i]? = some k ∧ c ∈ lainB k ∧ fits k c w h = true
def spFitting : Sp := fun vs H Q _ => ∃ (kl : Addr) (rs : List V) (ks : List Kd) (w h : Int),vs = [.ref kl,.int w,.int h] ∧ H kl = some (.lst rs) ∧ Tups H rs ks ∧ rs.length ≤ 8 ∧
  ∀ (l : Addr) (ns : List Int) (H' : Hp),H l = none → H' l = some (.lst (ns.map V.int)) → ns.length ≤ 16 → (∀ n ∈ ns,FitN ks w h n) → Same H H' → Q (.ref l) H'
def Prts (b w h : Int) (H : Hp) (l : Addr) : Prop := H l = some (.lst []) ∨ ∃ t u p,H l = some (.lst [.ref t,.ref u]) ∧ 1 ≤ p ∧
  ((1 ≤ w - p - b ∧ H t = some (.tup [.int p,.int h]) ∧ H u = some (.tup [.int (w - p - b),.int h])) ∨ (1 ≤ h - p - b ∧ H t = some (.tup [.int w,.int p]) ∧ H u = some (.tup [.int w,.int (h - p - b)])))
def spParts : Sp := fun vs H Q _ => ∃ (p : Addr) (b w h : Int),vs = [.ref p,.int b,.int w,.int h] ∧ 0 ≤ b ∧ 1 ≤ w ∧ w ≤ 60 ∧ 1 ≤ h ∧ h ≤ 60 ∧ PotB H p ∧
  ∀ (l : Addr) (H' : Hp),H l = none → l ≠ p → Prts b w h H' l → PotB H' p → But p H H' → Q (.ref l) H'
theorem scfitting : FnScope ["_law_kinds_here","_law_wide","_law_high","_law_found","_law_number","_law_kind","_law_own_wide","_law_own_high"] ["_law_kinds_here","_law_wide","_law_high"] (defScope sFitting) := ⟨rfl,rfl,rfl,by decide +kernel,rfl,by decide +kernel,by decide +kernel⟩
theorem ok_fitting {f : Addr} {fd : FuncData} (F : Fun K "_law_fitting" "_law_fitting" sFitting f fd) (B : Blt mg) (DLn : Dn P w K mg base "_law_lain" ["_law_wide","_law_high","_law_turns"] 1 spLain) : FnOk P w K mg base CX0 2 f fd ["_law_kinds_here","_law_wide","_law_high"] (spFitting) := by
  refine F.ok scfitting (fun vs H Q E h => ?_) (fun cdv A outer s H vs Q E hr h => ?_)
  · obtain ⟨kl,rs,ks,w1,h1,rfl,_⟩ := h
    rfl
  obtain ⟨kl,rs,ks,w1,h1,rfl,hk0,tp,r8,q⟩ := h
  have nd := scfitting.nd
  refine ⟨_,(@pss_cons _ _ _ _ _ (@ps_set _ _ 3 _ _ _ _ nd rfl (Or.inl rfl) (@pe_lst _ _ _ _ pa_nil) rfl (Or.inl rfl)) (@pss_cons _ _ _ _ _ (@ps_for _ _ _ _ _ _ _ _ PassesOwn.never rfl (pi_enum rfl B.enumerate (@pa_cons _ _ _ _ _ (pv 0) pa_nil rfl)) (pg_tup rfl (pgs_cons (pg_name (i := 4) nd rfl (Or.inl rfl)) (pgs_cons (pg_name (i := 5) nd rfl (Or.inl rfl)) pgs_nil))) (@pss_one _ _ _ (@ps_for _ _ _ _ _ _ _ _ PassesOwn.never rfl (pi_list (@pe_cD _ _ _ _ _ _ _ _ _ _ DLn hr rfl (@pa_cons _ _ _ _ _ (@pe_ix _ _ _ _ _ _ _ ix_tup (pv 5) pe_int (fun _ _ => rfl)) (@pa_cons _ _ _ _ _ (@pe_ix _ _ _ _ _ _ _ ix_tup (pv 5) pe_int (fun _ _ => rfl)) (@pa_cons _ _ _ _ _ (@pe_ix _ _ _ _ _ _ _ ix_tup (pv 5) pe_int (fun _ _ => rfl)) pa_nil rfl) rfl) rfl) (by decide) rfl rfl)) (pg_tup rfl (pgs_cons (pg_name (i := 6) nd rfl (Or.inl rfl)) (pgs_cons (pg_name (i := 7) nd rfl (Or.inl rfl)) pgs_nil))) (@pss_one _ _ _ (@ps_if _ _ _ _ _ _ _ _ (PW.pt (pw_and (@pt_cmpR _ _ _ _ _ _ _ _ op_le (pv 6) (pv 1) (nomark _)) (pw_and1 (@pt_cmpR _ _ _ _ _ _ _ _ op_le (pv 7) (pv 2) (nomark _))))) (@pss_one _ _ _ (@ps_expr _ _ _ _ (@pe_bm _ _ _ _ _ _ _ _ _ _ _ _ PySem.F.plainAttrs_list PySem.F.slot_list_append PySem.F.type_list_append mt_append (pv 3) (@pa_cons _ _ _ _ _ (pv 4) pa_nil rfl) rfl rfl rfl rfl rfl) rfl)) pss_nil)) (by intro _; rfl))) (by intro _; rfl)) (@pss_one _ _ _ (@ps_ret _ _ _ _ (pv 3))))),?_⟩
  have sz : (100 : Nat) < sizeLine := by decide
  refine ⟨by decide,fun l hl => ?_⟩
  have s1 : Same H (upd H l (.lst [])) := Same.new hl
  have l1 : (upd H l (.lst ([] : List V))) l = some (.lst (([] : List Int).map V.int)) := upd_same
  generalize upd H l (.lst ([] : List V)) = H1 at s1 l1 ⊢
  have kl1 := s1 _ _ hk0
  have nkl : kl ≠ l := fun e => by rw [e,hl] at hk0; cases hk0
  have len := Paired.length tp
  refine ⟨_,rfl,kl,rs,rfl,.inl ⟨kl1,for_enum (f := .lst) (fun _ _ e => by cases e; rfl) (xs := rs) (fun i σ H' => (∃ v4 v5 v6 v7,σ = [some (.ref kl),some (.int w1),some (.int h1),some (.ref l),v4,v5,v6,v7]) ∧ (∃ ns : List Int,H' l = some (.lst (ns.map V.int)) ∧ ns.length ≤ 2 * i ∧ ∀ n ∈ ns,FitN ks w1 h1 n) ∧ But l H1 H') ⟨⟨_,_,_,_,rfl⟩,⟨[],l1,by decide,fun n hn => by simp at hn⟩,But.refl⟩ (fun i σ H' ⟨_,_,b4⟩ => b4 _ _ nkl kl1) ?_ ?_⟩⟩
  · rintro i x pp σ H2 hx hp ⟨⟨v4,v5,v6,v7,rfl⟩,⟨ns,l2,nl,nf⟩,b2⟩
    obtain ⟨k,hk',ka,rfl,hka⟩ := Paired.getR tp hx
    have hin : i < rs.length := (List.getElem?_eq_some_iff.mp hx).1
    have nka : ka ≠ l := fun e => by rw [e,hl] at hka; cases hka
    have s3 : Same H2 (upd H2 pp (.tup [.int i,.ref ka])) := Same.new hp
    have p3 : (upd H2 pp (.tup [.int i,.ref ka])) pp = some (.tup [.int i,.ref ka]) := upd_same
    generalize upd H2 pp (.tup [.int i,.ref ka]) = H3 at s3 p3 ⊢
    have ka3 := s3 _ _ (b2 _ _ nka (s1 _ _ hka))
    refine ⟨pp,_,rfl,SqT.of p3,rfl,_,_,rfl,_,_,rfl,rfl,?_⟩
    refine ⟨_,rfl,ka,_,0,_,rfl,rfl,SqT.of ka3,rfl,_,rfl,ka,_,1,_,rfl,rfl,SqT.of ka3,rfl,_,rfl,ka,_,4,_,rfl,rfl,SqT.of ka3,rfl,k,rfl,fun ll ys H4 hll ll4 pr s4 => ?_⟩
    have l4 := s4 _ _ (s3 _ _ l2)
    have nll : ll ≠ l := fun e => by rw [e,s3 _ _ l2] at hll; cases hll
    have lb := lainB_len k
    have plen := Paired.length pr
    refine ⟨ll,rfl,⟨_,SqL.of ll4⟩,for_list (xs := ys) (fun j σ H' => (∃ v6 v7,σ = [some (.ref kl),some (.int w1),some (.int h1),some (.ref l),some (.int i),some (.ref ka),v6,v7]) ∧ (∃ ns : List Int,H' l = some (.lst (ns.map V.int)) ∧ ns.length ≤ 2 * i + j ∧ ∀ n ∈ ns,FitN ks w1 h1 n) ∧ But l H4 H') ⟨⟨_,_,rfl⟩,⟨ns,l4,by omega,nf⟩,But.refl⟩ (fun j σ H' _ ⟨_,_,b4⟩ => SqL.of (b4 _ _ nll ll4)) ?_ ?_⟩
    · rintro j x σ H5 hj ⟨⟨v6,v7,rfl⟩,⟨ms,l5,ml,mf⟩,b5⟩
      obtain ⟨cc,hc',t,rfl,ht⟩ := Paired.getR pr hj
      have hjn : j < ys.length := (List.getElem?_eq_some_iff.mp hj).1
      have nt : t ≠ l := fun e => by rw [e,l4] at ht; cases ht
      refine ⟨t,_,rfl,SqT.of (b5 _ _ nt ht),rfl,_,_,rfl,_,_,rfl,rfl,?_⟩
      refine ⟨_,rfl,_,rfl,_,_,rfl,rfl,_,rfl,?_⟩
      refine ite2 (fun c1 => ?_) (fun c1 => ?_)
      · refine ⟨_,rfl,_,rfl,_,_,rfl,rfl,_,rfl,?_⟩
        refine ite2 (fun c2 => ?_) (fun c2 => ?_)
        · have ff : fits k cc w1 h1 = true := by unfold fits; rw [c1,c2]; rfl
          refine ⟨_,rfl,.inl ⟨rfl,_,SqL.of l5⟩,_,rfl,l,_,_,rfl,rfl,l5,(by rw [List.length_map]; omega),⟨⟨_,_,rfl⟩,⟨ms ++ [(i : Int)],(by rw [upd_same,List.map_append]; rfl),(by rw [List.length_append]; show _ + 1 ≤ _; omega),fun n hn => ?_⟩,b5.trans But.upd⟩⟩
          rcases List.mem_append.mp hn with hn | hn
          · exact mf n hn
          · rw [List.mem_singleton.mp hn]
            exact ⟨i,k,cc,rfl,hk',List.mem_of_getElem? hc',ff⟩
        · exact ⟨⟨_,_,rfl⟩,⟨ms,l5,by omega,mf⟩,b5⟩
      · exact ⟨⟨_,_,rfl⟩,⟨ms,l5,by omega,mf⟩,b5⟩
    · rintro σ H5 ⟨⟨v6,v7,rfl⟩,⟨ms,l5,ml,mf⟩,b5⟩
      exact ⟨⟨_,_,_,_,rfl⟩,⟨ms,l5,by omega,mf⟩,b2.trans ((sBut (s3.trans s4)).trans b5)⟩
  · rintro σ H3 ⟨⟨v4,v5,v6,v7,rfl⟩,⟨ns,l3,nl,nf⟩,b3⟩
    exact ⟨_,rfl,q l ns H3 hl l3 (by omega) nf (fun x o e => b3 _ _ (fun z => by rw [z,hl] at e; cases e) (s1 _ _ e))⟩
theorem scparts : FnScope ["_law_pot_here","_law_blade_here","_law_wide","_law_high","_law_place"] ["_law_pot_here","_law_blade_here","_law_wide","_law_high"] (defScope sParts) := ⟨rfl,rfl,rfl,by decide +kernel,rfl,by decide +kernel,by decide +kernel⟩
theorem ok_parts {f : Addr} {fd : FuncData} (F : Fun K "_law_parts" "_law_parts" sParts f fd) (B : Blt mg) (DD : Dn P w K mg base "_law_draw" ["_law_pot_here","_law_many"] 1 spDrawB) : FnOk P w K mg base CX0 2 f fd ["_law_pot_here","_law_blade_here","_law_wide","_law_high"] (spParts) := by
  refine F.ok scparts (fun vs H Q E h => ?_) (fun cdv A outer s H vs Q E hr h => ?_)
  · obtain ⟨p,b,w1,h1,rfl,_⟩ := h
    rfl
  obtain ⟨p,b,w1,h1,rfl,b0,w1p,w60,h1p,h60,pt,q⟩ := h
  have nd := scparts.nd
  refine ⟨_,(@pss_cons _ _ _ _ _ (@ps_if _ _ _ _ _ _ _ _ (PW.pt (pw_and (@pt_cmpR _ _ _ _ _ _ _ _ op_gt (pv 2) (@pe_op _ _ _ _ _ _ _ _ op_add (pv 1) pe_int) (nomark _)) (pw_and1 (PW.pt (pw_or (@pt_cmpR _ _ _ _ _ _ _ _ op_le (pv 3) (@pe_op _ _ _ _ _ _ _ _ op_add (pv 1) pe_int) (nomark _)) (pw_or1 (@pt_cmpR _ _ _ _ _ _ _ _ op_eq (@pe_cD _ _ _ _ _ _ _ _ _ _ DD hr rfl (@pa_cons _ _ _ _ _ (pv 0) (@pa_cons _ _ _ _ _ pe_int pa_nil rfl) rfl) (by decide) rfl rfl) pe_int (nomark _)))))))) (@pss_cons _ _ _ _ _ (@ps_set _ _ 4 _ _ _ _ nd rfl (Or.inl rfl) (@pe_op _ _ _ _ _ _ _ _ op_add pe_int (@pe_cD _ _ _ _ _ _ _ _ _ _ DD hr rfl (@pa_cons _ _ _ _ _ (pv 0) (@pa_cons _ _ _ _ _ (@pe_op _ _ _ _ _ _ _ _ op_sub (@pe_op _ _ _ _ _ _ _ _ op_sub (pv 2) (pv 1)) pe_int) pa_nil rfl) rfl) (by decide) rfl rfl)) rfl (Or.inl rfl)) (@pss_one _ _ _ (@ps_ret _ _ _ _ (@pe_lst _ _ _ _ (@pa_cons _ _ _ _ _ (@pe_tup _ _ _ _ _ (@pa_cons _ _ _ _ _ (pv 4) (@pa_cons _ _ _ _ _ (pv 3) pa_nil rfl) rfl)) (@pa_cons _ _ _ _ _ (@pe_tup _ _ _ _ _ (@pa_cons _ _ _ _ _ (@pe_op _ _ _ _ _ _ _ _ op_sub (@pe_op _ _ _ _ _ _ _ _ op_sub (pv 2) (pv 4)) (pv 1)) (@pa_cons _ _ _ _ _ (pv 3) pa_nil rfl) rfl)) pa_nil rfl) rfl))))) pss_nil) (@pss_cons _ _ _ _ _ (@ps_if _ _ _ _ _ _ _ _ (@pt_cmpR _ _ _ _ _ _ _ _ op_gt (pv 3) (@pe_op _ _ _ _ _ _ _ _ op_add (pv 1) pe_int) (nomark _)) (@pss_cons _ _ _ _ _ (@ps_set _ _ 4 _ _ _ _ nd rfl (Or.inl rfl) (@pe_op _ _ _ _ _ _ _ _ op_add pe_int (@pe_cD _ _ _ _ _ _ _ _ _ _ DD hr rfl (@pa_cons _ _ _ _ _ (pv 0) (@pa_cons _ _ _ _ _ (@pe_op _ _ _ _ _ _ _ _ op_sub (@pe_op _ _ _ _ _ _ _ _ op_sub (pv 3) (pv 1)) pe_int) pa_nil rfl) rfl) (by decide) rfl rfl)) rfl (Or.inl rfl)) (@pss_one _ _ _ (@ps_ret _ _ _ _ (@pe_lst _ _ _ _ (@pa_cons _ _ _ _ _ (@pe_tup _ _ _ _ _ (@pa_cons _ _ _ _ _ (pv 2) (@pa_cons _ _ _ _ _ (pv 4) pa_nil rfl) rfl)) (@pa_cons _ _ _ _ _ (@pe_tup _ _ _ _ _ (@pa_cons _ _ _ _ _ (pv 2) (@pa_cons _ _ _ _ _ (@pe_op _ _ _ _ _ _ _ _ op_sub (@pe_op _ _ _ _ _ _ _ _ op_sub (pv 3) (pv 4)) (pv 1)) pa_nil rfl) rfl)) pa_nil rfl) rfl))))) pss_nil) (@pss_one _ _ _ (@ps_ret _ _ _ _ (@pe_lst _ _ _ _ pa_nil))))),?_⟩
  have sz : (100 : Nat) < sizeLine := by decide
  have e60 : (100 : Int) < 10 ^ 60 := by decide
  have br0 : But p H H := But.refl
  refine ⟨_,rfl,_,rfl,_,_,rfl,rfl,_,_,rfl,rfl,_,rfl,?_⟩
  refine ite2 (fun c1 => ?_) (fun c1 => ?_)
  · have a1 : b + 1 < w1 := of_decide_eq_true c1
    refine ⟨_,rfl,_,rfl,_,_,rfl,rfl,_,_,rfl,rfl,_,rfl,?_⟩
    refine ite2 (fun c2 => ?_) (fun c2 => ?_)
    · refine iteT ?_
      refine ⟨_,rfl,_,rfl,_,rfl,_,_,rfl,rfl,_,_,rfl,rfl,p,_,rfl,pt,(by omega),(by omega),fun r Ha r0 r1 pta ba => ⟨_,_,rfl,rfl,?_⟩⟩
      refine ⟨_,rfl,_,rfl,(by show 2 ≤ sizeLine; decide),fun t ht => ?_⟩
      obtain ⟨Hb,eb,k1',n1',s1',b1',pt1'⟩ := put1 (o := .tup [.int (1 + r),.int h1]) (br0.trans ba) pta ht
      rw [show upd Ha t _ = Hb from eb]; clear eb
      refine ⟨_,rfl,_,rfl,_,_,rfl,rfl,_,rfl,_,_,rfl,rfl,_,rfl,(by show 2 ≤ sizeLine; decide),fun u hu => ?_⟩
      obtain ⟨Hc,ec,k2',n2',s2',b2',pt2'⟩ := put1 (o := .tup [.int (w1 - (1 + r) - b),.int h1]) b1' pt1' hu
      rw [show upd Hb u _ = Hc from ec]; clear ec
      have x1 := s2' _ _ k1'
      refine ⟨(by show 2 ≤ sizeLine; decide),fun l hl => ?_⟩
      obtain ⟨Hd,ed,k3',n3',s3',b3',pt3'⟩ := put1 (o := .lst [.ref t,.ref u]) b2' pt2' hl
      rw [show upd Hc l _ = Hd from ed]; clear ed
      have x1 := s3' _ _ x1
      have k2' := s3' _ _ k2'
      exact q l Hd (by
        cases e : H l with
        | none => rfl
        | some o => rw [b2' _ _ n3' e] at hl; cases hl) n3' (.inr ⟨t,u,1 + r,k3',by omega,.inl ⟨by omega,x1,k2'⟩⟩) pt3' b3'
    · refine ⟨_,rfl,p,2,rfl,pt,by decide,by decide,fun z H1 z0 z1 pt1 b1 => ⟨rfl,_,rfl,?_⟩⟩
      refine ite2 (fun c3 => ?_) (fun c3 => ?_)
      · skip
        refine ⟨_,rfl,_,rfl,_,rfl,_,_,rfl,rfl,_,_,rfl,rfl,p,_,rfl,pt1,(by omega),(by omega),fun r Ha r0 r1 pta ba => ⟨_,_,rfl,rfl,?_⟩⟩
        refine ⟨_,rfl,_,rfl,(by show 2 ≤ sizeLine; decide),fun t ht => ?_⟩
        obtain ⟨Hb,eb,k1',n1',s1',b1',pt1'⟩ := put1 (o := .tup [.int (1 + r),.int h1]) (b1.trans ba) pta ht
        rw [show upd Ha t _ = Hb from eb]; clear eb
        refine ⟨_,rfl,_,rfl,_,_,rfl,rfl,_,rfl,_,_,rfl,rfl,_,rfl,(by show 2 ≤ sizeLine; decide),fun u hu => ?_⟩
        obtain ⟨Hc,ec,k2',n2',s2',b2',pt2'⟩ := put1 (o := .tup [.int (w1 - (1 + r) - b),.int h1]) b1' pt1' hu
        rw [show upd Hb u _ = Hc from ec]; clear ec
        have x1 := s2' _ _ k1'
        refine ⟨(by show 2 ≤ sizeLine; decide),fun l hl => ?_⟩
        obtain ⟨Hd,ed,k3',n3',s3',b3',pt3'⟩ := put1 (o := .lst [.ref t,.ref u]) b2' pt2' hl
        rw [show upd Hc l _ = Hd from ed]; clear ed
        have x1 := s3' _ _ x1
        have k2' := s3' _ _ k2'
        exact q l Hd (by
          cases e : H l with
          | none => rfl
          | some o => rw [b2' _ _ n3' e] at hl; cases hl) n3' (.inr ⟨t,u,1 + r,k3',by omega,.inl ⟨by omega,x1,k2'⟩⟩) pt3' b3'
      · skip
        refine ⟨_,rfl,_,rfl,_,_,rfl,rfl,_,_,rfl,rfl,_,rfl,?_⟩
        refine ite2 (fun d1 => ?_) (fun d1 => ?_)
        · have d2 : b + 1 < h1 := of_decide_eq_true d1
          refine ⟨_,rfl,_,rfl,_,rfl,_,_,rfl,rfl,_,_,rfl,rfl,p,_,rfl,pt1,(by omega),(by omega),fun r Ha r0 r1 pta ba => ⟨_,_,rfl,rfl,?_⟩⟩
          refine ⟨_,rfl,_,rfl,(by show 2 ≤ sizeLine; decide),fun t ht => ?_⟩
          obtain ⟨Hb,eb,k1',n1',s1',b1',pt1'⟩ := put1 (o := .tup [.int w1,.int (1 + r)]) (b1.trans ba) pta ht
          rw [show upd Ha t _ = Hb from eb]; clear eb
          refine ⟨_,rfl,_,rfl,_,rfl,_,_,rfl,rfl,_,rfl,_,_,rfl,rfl,(by show 2 ≤ sizeLine; decide),fun u hu => ?_⟩
          obtain ⟨Hc,ec,k2',n2',s2',b2',pt2'⟩ := put1 (o := .tup [.int w1,.int (h1 - (1 + r) - b)]) b1' pt1' hu
          rw [show upd Hb u _ = Hc from ec]; clear ec
          have x1 := s2' _ _ k1'
          refine ⟨(by show 2 ≤ sizeLine; decide),fun l hl => ?_⟩
          obtain ⟨Hd,ed,k3',n3',s3',b3',pt3'⟩ := put1 (o := .lst [.ref t,.ref u]) b2' pt2' hl
          rw [show upd Hc l _ = Hd from ed]; clear ed
          have x1 := s3' _ _ x1
          have k2' := s3' _ _ k2'
          exact q l Hd (by
            cases e : H l with
            | none => rfl
            | some o => rw [b2' _ _ n3' e] at hl; cases hl) n3' (.inr ⟨t,u,1 + r,k3',by omega,.inr ⟨by omega,x1,k2'⟩⟩) pt3' b3'
        · refine ⟨by decide,fun l hl => ?_⟩
          obtain ⟨Hd,ed,k3',n3',s3',b3',pt3'⟩ := put1 (o := .lst []) b1 pt1 hl
          rw [show upd _ l _ = Hd from ed]; clear ed
          exact q l Hd (by
            cases e : H l with
            | none => rfl
            | some o => rw [b1 _ _ n3' e] at hl; cases hl) n3' (.inl k3') pt3' b3'
  · refine iteF ?_
    refine ⟨_,rfl,_,rfl,_,_,rfl,rfl,_,_,rfl,rfl,_,rfl,?_⟩
    refine ite2 (fun d1 => ?_) (fun d1 => ?_)
    · have d2 : b + 1 < h1 := of_decide_eq_true d1
      refine ⟨_,rfl,_,rfl,_,rfl,_,_,rfl,rfl,_,_,rfl,rfl,p,_,rfl,pt,(by omega),(by omega),fun r Ha r0 r1 pta ba => ⟨_,_,rfl,rfl,?_⟩⟩
      refine ⟨_,rfl,_,rfl,(by show 2 ≤ sizeLine; decide),fun t ht => ?_⟩
      obtain ⟨Hb,eb,k1',n1',s1',b1',pt1'⟩ := put1 (o := .tup [.int w1,.int (1 + r)]) (br0.trans ba) pta ht
      rw [show upd Ha t _ = Hb from eb]; clear eb
      refine ⟨_,rfl,_,rfl,_,rfl,_,_,rfl,rfl,_,rfl,_,_,rfl,rfl,(by show 2 ≤ sizeLine; decide),fun u hu => ?_⟩
      obtain ⟨Hc,ec,k2',n2',s2',b2',pt2'⟩ := put1 (o := .tup [.int w1,.int (h1 - (1 + r) - b)]) b1' pt1' hu
      rw [show upd Hb u _ = Hc from ec]; clear ec
      have x1 := s2' _ _ k1'
      refine ⟨(by show 2 ≤ sizeLine; decide),fun l hl => ?_⟩
      obtain ⟨Hd,ed,k3',n3',s3',b3',pt3'⟩ := put1 (o := .lst [.ref t,.ref u]) b2' pt2' hl
      rw [show upd Hc l _ = Hd from ed]; clear ed
      have x1 := s3' _ _ x1
      have k2' := s3' _ _ k2'
      exact q l Hd (by
        cases e : H l with
        | none => rfl
        | some o => rw [b2' _ _ n3' e] at hl; cases hl) n3' (.inr ⟨t,u,1 + r,k3',by omega,.inr ⟨by omega,x1,k2'⟩⟩) pt3' b3'
    · refine ⟨by decide,fun l hl => ?_⟩
      obtain ⟨Hd,ed,k3',n3',s3',b3',pt3'⟩ := put1 (o := .lst []) br0 pt hl
      rw [show upd _ l _ = Hd from ed]; clear ed
      exact q l Hd (by
        cases e : H l with
        | none => rfl
        | some o => rw [br0 _ _ n3' e] at hl; cases hl) n3' (.inl k3') pt3' b3'
end
theorem snocP {α β : Type} {R : α → β → Prop} {x : α} : ∀ {xs : List α} {zs : List β},Paired R (xs ++ [x]) zs → ∃ ys y,zs = ys ++ [y] ∧ Paired R xs ys ∧ R x y
  | [],zs,h => by
    cases h with
    | cons a t => cases t; exact ⟨[],_,rfl,.nil,a⟩
  | z :: xs,zs,h => by
    cases h with
    | cons a t =>
      obtain ⟨ys,y,rfl,p,r⟩ := snocP t
      exact ⟨_ :: ys,y,rfl,.cons a p,r⟩
theorem appP {α β : Type} {R : α → β → Prop} : ∀ {xs : List α} {ys : List β} {xs' : List α} {ys' : List β},Paired R xs ys → Paired R xs' ys' → Paired R (xs ++ xs') (ys ++ ys')
  | _,_,_,_,.nil,h => h
  | _,_,_,_,.cons a t,h => .cons a (appP t h)
def TrAt (H : Hp) (v : V) (t : Int × Int × Int) : Prop := ∃ a,v = .ref a ∧ H a = some (.tup [.int t.1,.int t.2.1,.int t.2.2])
def tsum (L : Int → Int → Int) (ts : List (Int × Int × Int)) : Int := (ts.map fun t => L t.1 t.2.1).sum
theorem tsum_app (L : Int → Int → Int) (a b : List (Int × Int × Int)) : tsum L (a ++ b) = tsum L a + tsum L b := by
  unfold tsum
  rw [List.map_append,List.sum_append]
structure CI (p cl wl : Addr) (ks : List Kd) (b W T cuts : Int) (cs : List Int) (vs : List V) (ts hd : List (Int × Int × Int)) (H0 H : Hp) : Prop where
  pt : PotB H p
  bt : But p H0 H
  cp : cl ≠ p
  wp : wl ≠ p
  cw : cl ≠ wl
  fc : H0 cl = none
  fw : H0 wl = none
  hc : H cl = some (.lst (cs.map V.int))
  hw : H wl = some (.lst vs)
  tr : Paired (TrAt H) vs ts
  ri : ∀ t ∈ ts ++ hd,1 ≤ t.1 ∧ t.1 ≤ W ∧ 1 ≤ t.2.1 ∧ t.2.1 ≤ T
  cu : 0 ≤ cuts
  len : cs.length = ks.length
  lv : (vs.length : Int) + hd.length + cuts ≤ 31
  rng : ∀ c ∈ cs,0 ≤ c ∧ c + ((vs.length : Int) + hd.length + cuts) ≤ 31
  fit : ∀ (i : Nat) (c : Int),cs[i]? = some c → 0 < c → ∃ k t,ks[i]? = some k ∧ t ∈ lainB k ∧ fits k t W T = true
  bd : ∀ L val,BdL b ks W T L val → wsum val 0 cs + tsum L ts + tsum L hd ≤ L W T
theorem TrAt.keep {H H' : Hp} (h : ∀ a xs,H a = some (.tup xs) → H' a = some (.tup xs)) {v : V} {t : Int × Int × Int} (x : TrAt H v t) : TrAt H' v t := x.imp fun a ⟨e,r⟩ => ⟨e,h _ _ r⟩
theorem CI.but {p cl wl : Addr} {ks : List Kd} {b W T cuts : Int} {cs : List Int} {vs : List V} {ts hd : List (Int × Int × Int)} {H0 H H' : Hp} (c : CI p cl wl ks b W T cuts cs vs ts hd H0 H) (k : But p H H') (pt : PotB H' p) : CI p cl wl ks b W T cuts cs vs ts hd H0 H' := by
  obtain ⟨_,_,_,_,_,hp⟩ := c.pt
  exact ⟨pt,c.bt.trans k,c.cp,c.wp,c.cw,c.fc,c.fw,k _ _ c.cp c.hc,k _ _ c.wp c.hw,Paired.mapP c.tr fun v t h => h.keep fun a xs e => k _ _ (fun z => by rw [z,hp] at e; cases e) e,c.ri,c.cu,c.len,c.lv,c.rng,c.fit,c.bd⟩
theorem CI.put {p cl wl : Addr} {ks : List Kd} {b W T cuts cuts' : Int} {cs cs' : List Int} {vs vs' : List V} {ts ts' hd hd' : List (Int × Int × Int)} {H0 H H' : Hp} (c : CI p cl wl ks b W T cuts cs vs ts hd H0 H) (k : ∀ x o,x ≠ cl → x ≠ wl → H x = some o → H' x = some o)
    (hc : H' cl = some (.lst (cs'.map V.int))) (hw : H' wl = some (.lst vs')) (tr : Paired (TrAt H) vs' ts') (ri : ∀ t ∈ ts' ++ hd',1 ≤ t.1 ∧ t.1 ≤ W ∧ 1 ≤ t.2.1 ∧ t.2.1 ≤ T) (cu : 0 ≤ cuts') (len : cs'.length = ks.length) (lv : (vs'.length : Int) + hd'.length + cuts' ≤ 31) (rng : ∀ c ∈ cs',0 ≤ c ∧ c + ((vs'.length : Int) + hd'.length + cuts') ≤ 31)
    (fit : ∀ (i : Nat) (c : Int),cs'[i]? = some c → 0 < c → ∃ k t,ks[i]? = some k ∧ t ∈ lainB k ∧ fits k t W T = true) (bd : ∀ L val,BdL b ks W T L val → wsum val 0 cs' + tsum L ts' + tsum L hd' ≤ L W T) : CI p cl wl ks b W T cuts' cs' vs' ts' hd' H0 H' := by
  obtain ⟨a,d,h1,h2,h3,hp⟩ := c.pt
  refine ⟨⟨a,d,h1,h2,h3,k _ _ (Ne.symm c.cp) (Ne.symm c.wp) hp⟩,fun x o n e => k _ _ (fun z => by rw [z,c.fc] at e; cases e) (fun z => by rw [z,c.fw] at e; cases e) (c.bt _ _ n e),c.cp,c.wp,c.cw,c.fc,c.fw,hc,hw,Paired.mapP tr fun v t h => h.keep fun a xs e => k _ _ (fun z => by rw [z,c.hc] at e; cases e) (fun z => by rw [z,c.hw] at e; cases e) e,ri,cu,len,lv,rng,fit,bd⟩
theorem CI.pop {p cl wl : Addr} {ks : List Kd} {b W T cuts : Int} {cs : List Int} {vs : List V} {v : V} {ts : List (Int × Int × Int)} {t : Int × Int × Int} {H0 H : Hp} (c : CI p cl wl ks b W T cuts cs (vs ++ [v]) (ts ++ [t]) [] H0 H) (tr : Paired (TrAt H) vs ts) : CI p cl wl ks b W T cuts cs vs ts [t] H0 (upd H wl (.lst vs)) := by
  have l1 : ((vs ++ [v]).length : Int) = vs.length + 1 := by rw [List.length_append]; rfl
  have l2 : ((([] : List (Int × Int × Int)).length : Nat) : Int) = 0 := rfl
  have l3 : ((([t] : List (Int × Int × Int)).length : Nat) : Int) = 1 := rfl
  refine c.put (fun x o n1 n2 e => by rw [upd_ne n2]; exact e) (by rw [upd_ne c.cw]; exact c.hc) upd_same tr (fun x hx => c.ri x (by rw [List.append_nil]; exact hx)) c.cu c.len (by have := c.lv; rw [l1,l2] at this; rw [l3]; omega) (fun x hx => by have := c.rng x hx; rw [l1,l2] at this; rw [l3]; omega) c.fit fun L val h => ?_
  have := c.bd L val h
  rw [tsum_app] at this
  have z : tsum L [] = 0 := rfl
  omega
theorem CI.drop {p cl wl : Addr} {ks : List Kd} {b W T cuts : Int} {cs : List Int} {vs : List V} {ts : List (Int × Int × Int)} {t : Int × Int × Int} {H0 H : Hp} (c : CI p cl wl ks b W T cuts cs vs ts [t] H0 H) : CI p cl wl ks b W T cuts cs vs ts [] H0 H := by
  have l2 : ((([] : List (Int × Int × Int)).length : Nat) : Int) = 0 := rfl
  have l3 : ((([t] : List (Int × Int × Int)).length : Nat) : Int) = 1 := rfl
  have rt := c.ri t (List.mem_append_right _ (List.mem_singleton.mpr rfl))
  refine c.put (fun x o n1 n2 e => e) c.hc c.hw c.tr (fun x hx => c.ri x (List.mem_append_left _ (by rw [List.append_nil] at hx; exact hx))) c.cu c.len (by have := c.lv; rw [l3] at this; rw [l2]; omega) (fun x hx => by have := c.rng x hx; rw [l3] at this; rw [l2]; omega) c.fit fun L val h => ?_
  have := c.bd L val h
  have z : tsum L [] = 0 := rfl
  have z2 : tsum L [t] = L t.1 t.2.1 := by unfold tsum; simp
  have z3 := h.nn t.1 t.2.1 rt.1 rt.2.1 rt.2.2.1 rt.2.2.2
  omega
theorem CI.cut {p cl wl : Addr} {ks : List Kd} {b W T cuts : Int} {cs : List Int} {vs : List V} {ts : List (Int × Int × Int)} {t t1 t2 : Int × Int × Int} {u1 u2 : V} {H0 H : Hp} (c : CI p cl wl ks b W T cuts cs vs ts [t] H0 H) (cu : 0 < cuts) (h1 : TrAt H u1 t1) (h2 : TrAt H u2 t2)
    (r1 : 1 ≤ t1.1 ∧ t1.1 ≤ W ∧ 1 ≤ t1.2.1 ∧ t1.2.1 ≤ T) (r2 : 1 ≤ t2.1 ∧ t2.1 ≤ W ∧ 1 ≤ t2.2.1 ∧ t2.2.1 ≤ T) (hl : ∀ L val,BdL b ks W T L val → L t1.1 t1.2.1 + L t2.1 t2.2.1 ≤ L t.1 t.2.1) : CI p cl wl ks b W T (cuts - 1) cs (vs ++ [u1,u2]) (ts ++ [t1,t2]) [] H0 (upd H wl (.lst (vs ++ [u1,u2]))) := by
  have l1 : ((vs ++ [u1,u2]).length : Int) = vs.length + 2 := by rw [List.length_append]; rfl
  have l2 : ((([] : List (Int × Int × Int)).length : Nat) : Int) = 0 := rfl
  have l3 : ((([t] : List (Int × Int × Int)).length : Nat) : Int) = 1 := rfl
  refine c.put (fun x o n1 n2 e => by rw [upd_ne n2]; exact e) (by rw [upd_ne c.cw]; exact c.hc) upd_same (appP c.tr (.cons h1 (.cons h2 .nil))) (fun x hx => ?_) (by omega) c.len (by have := c.lv; rw [l3] at this; rw [l1,l2]; omega) (fun x hx => by have := c.rng x hx; rw [l3] at this; rw [l1,l2]; omega) c.fit fun L val h => ?_
  · rw [List.append_nil] at hx
    rcases List.mem_append.mp hx with hx | hx
    · exact c.ri x (List.mem_append_left _ hx)
    · simp only [List.mem_cons,List.not_mem_nil,or_false] at hx
      rcases hx with rfl | rfl
      · exact r1
      · exact r2
  · have := c.bd L val h
    have z : tsum L [] = 0 := rfl
    have z2 : tsum L [t] = L t.1 t.2.1 := by unfold tsum; simp
    have z3 : tsum L [t1,t2] = L t1.1 t1.2.1 + L t2.1 t2.2.1 := by unfold tsum; simp
    have := hl L val h
    rw [tsum_app]
    omega
theorem CI.piece {p cl wl : Addr} {ks : List Kd} {b W T cuts : Int} {cs : List Int} {vs : List V} {ts : List (Int × Int × Int)} {t : Int × Int × Int} {H0 H : Hp} {i : Nat} {k : Kd} {a : Bool} {n : Int} (c : CI p cl wl ks b W T cuts cs vs ts [t] H0 H) (hk : ks[i]? = some k) (ha : a ∈ lainB k) (hf : fits k a t.1 t.2.1 = true) (hn : cs[i]? = some n) :
    CI p cl wl ks b W T cuts (cs.set i (n + 1)) vs ts [] H0 (upd H cl (.lst ((cs.set i (n + 1)).map V.int))) := by
  have l2 : ((([] : List (Int × Int × Int)).length : Nat) : Int) = 0 := rfl
  have l3 : ((([t] : List (Int × Int × Int)).length : Nat) : Int) = 1 := rfl
  have rt := c.ri t (List.mem_append_right _ (List.mem_singleton.mpr rfl))
  have rn := c.rng n (List.mem_of_getElem? hn)
  rw [l3] at rn
  obtain ⟨f1,f2⟩ := fits_le hf
  refine c.put (fun x o n1 n2 e => by rw [upd_ne n1]; exact e) upd_same (by rw [upd_ne (Ne.symm c.cw)]; exact c.hw) c.tr (fun x hx => c.ri x (List.mem_append_left _ (by rw [List.append_nil] at hx; exact hx))) c.cu (by rw [List.length_set]; exact c.len) (by have := c.lv; rw [l3] at this; rw [l2]; omega) (fun x hx => ?_) (fun j d hd h0 => ?_) fun L val h => ?_
  · rw [l2]
    rcases List.mem_or_eq_of_mem_set hx with hx | rfl
    · have := c.rng x hx; rw [l3] at this; omega
    · omega
  · by_cases e : i = j
    · subst e
      refine ⟨k,a,hk,ha,?_⟩
      unfold fits
      rw [decide_eq_true (show sd1 k a ≤ W by omega),decide_eq_true (show sd2 k a ≤ T by omega)]; rfl
    · rw [List.getElem?_set_ne e] at hd
      exact c.fit j d hd h0
  · have := c.bd L val h
    have z : tsum L [] = 0 := rfl
    have z2 : tsum L [t] = L t.1 t.2.1 := by unfold tsum; simp
    have z3 := h.pc i k a t.1 t.2.1 hk ha hf rt.2.1 rt.2.2.2
    rw [wsum_set val cs 0 i n hn,Nat.zero_add]
    omega
section
variable {P : Program} {w : World} {K : PySem.W.Frag} {mg : Str → Option Value} {base : Heap}
def spCounts : Sp := fun vs H Q _ => ∃ (p kl : Addr) (rs : List V) (ks : List Kd) (b W T : Int),vs = [.ref p,.int b,.ref kl,.int W,.int T] ∧ kl ≠ p ∧ H kl = some (.lst rs) ∧ Tups H rs ks ∧ (∀ k ∈ ks,Good k) ∧ rs.length ≤ 8 ∧ 0 ≤ b ∧ 1 ≤ W ∧ W ≤ 60 ∧ 1 ≤ T ∧ T ≤ 60 ∧ PotB H p ∧
  ∀ (l : Addr) (cs : List Int) (H' : Hp),H l = none → l ≠ p → H' l = some (.lst (cs.map V.int)) → Cut b ks W T 1 cs → PotB H' p → But p H H' → Q (.ref l) H'
end
section
variable {P : Program} {w : World} {K : PySem.W.Frag} {mg : Str → Option Value} {base : Heap}
theorem seqCut {t u : TS} {D : Ends} {σ : St} {H : Hp} (J : St → Hp → Prop) (h1 : ∀ R : St → Hp → Prop,(∀ σ' H',J σ' H' → R σ' H') → t { D with nx := R } σ H) (h2 : ∀ σ' H',J σ' H' → u D σ' H') : tSeq t u D σ H := h1 _ h2
theorem at_mem {xs : List V} {i : Int} (h0 : 0 ≤ i) (h1 : i < xs.length) : ∃ v,atI xs i = some v ∧ v ∈ xs := by
  have hk : i.toNat < xs.length := by omega
  exact ⟨xs[i.toNat],atI_int h0 (List.getElem?_eq_getElem hk),List.getElem_mem hk⟩
theorem datTr {H : Hp} : ∀ {vs : List V} {ts : List (Int × Int × Int)},Paired (TrAt H) vs ts → DatVs K H vs (ts.map fun t => PyData.tuple [.int t.1,.int t.2.1,.int t.2.2])
  | _,_,.nil => .nil
  | _,_,.cons ⟨a,e,h⟩ r => by subst e; exact .cons (.tup (SqT.of h) (.cons (.int _) (.cons (.int _) (.cons (.int _) .nil)))) (datTr r)
theorem canTr : ∀ ts : List (Int × Int × Int),PyData.canLayAll0 (ts.map fun t => PyData.tuple [.int t.1,.int t.2.1,.int t.2.2]) = true ∧ PyData.depthAll (ts.map fun t => PyData.tuple [.int t.1,.int t.2.1,.int t.2.2]) ≤ 1
  | [] => ⟨rfl,Nat.zero_le _⟩
  | t :: r => by
    obtain ⟨h1,h2⟩ := canTr r
    refine ⟨?_,?_⟩
    · simp [PyData.canLayAll0,PyData.canLay0,h1]
    · simp only [List.map_cons,PyData.depthAll,PyData.depth]
      omega
theorem shapedTr (ts : List (Int × Int × Int)) : SeqAt.shaped (.list (ts.map fun t => PyData.tuple [.int t.1,.int t.2.1,.int t.2.2])) = true := by
  obtain ⟨h1,h2⟩ := canTr ts
  simp [SeqAt.shaped,PyData.canLay0,PyData.depth,h1]
  omega
theorem sccounts : FnScope ["_law_pot_here","_law_blade_here","_law_kinds_here","_law_wide","_law_high","_law_counts_here","_law_waiting","_law_cuts","_law_own_wide","_law_own_high","_law_deep","_law_parts_here","_law_some","_law_number"] ["_law_pot_here","_law_blade_here","_law_kinds_here","_law_wide","_law_high"] (defScope sCounts) := ⟨rfl,rfl,rfl,by decide +kernel,rfl,by decide +kernel,by decide +kernel⟩
theorem ok_counts {f : Addr} {fd : FuncData} (F : Fun K "_law_counts" "_law_counts" sCounts f fd) (B : Blt mg) (DD : Dn P w K mg base "_law_draw" ["_law_pot_here","_law_many"] 1 (spDrawB)) (DP : Dn P w K mg base "_law_parts" ["_law_pot_here","_law_blade_here","_law_wide","_law_high"] 2 (spParts)) (DF : Dn P w K mg base "_law_fitting" ["_law_kinds_here","_law_wide","_law_high"] 2 (spFitting)) : FnOk P w K mg base CX0 3 f fd ["_law_pot_here","_law_blade_here","_law_kinds_here","_law_wide","_law_high"] (spCounts) := by
  refine F.ok sccounts (fun vs H Q E h => ?_) (fun cdv A outer s H vs Q E hr h => ?_)
  · obtain ⟨p,kl,rs,ks,b,W,T,rfl,_⟩ := h
    rfl
  obtain ⟨p,kl,rs,ks,b,W,T,rfl,nkp,hk0,tp,gk,r8,b0,W1,W60,T1,T60,pt,q⟩ := h
  have nd := sccounts.nd
  have hr1 := hr.mono (show 1 ≤ 2 by decide)
  have hu := hr.units
  refine ⟨_,(@pss_cons _ _ _ _ _ (@ps_set _ _ 5 _ _ _ _ nd rfl (Or.inl rfl) (@pe_op _ _ _ _ _ _ _ _ op_rep (@pe_lst _ _ _ _ (@pa_cons _ _ _ _ _ pe_int pa_nil rfl)) (@pe_callB _ _ _ _ _ _ _ _ _ call_len_seq rfl B.len PySem.boot_len (@pa_cons _ _ _ _ _ (pv 2) pa_nil rfl) (by decide) (by decide) rfl rfl)) rfl (Or.inl rfl)) (@pss_cons _ _ _ _ _ (@ps_set _ _ 6 _ _ _ _ nd rfl (Or.inl rfl) (@pe_lst _ _ _ _ (@pa_cons _ _ _ _ _ (@pe_tup _ _ _ _ _ (@pa_cons _ _ _ _ _ (pv 3) (@pa_cons _ _ _ _ _ (pv 4) (@pa_cons _ _ _ _ _ pe_int pa_nil rfl) rfl) rfl)) pa_nil rfl)) rfl (Or.inl rfl)) (@pss_cons _ _ _ _ _ (@ps_set _ _ 7 _ _ _ _ nd rfl (Or.inl rfl) pe_int rfl (Or.inl rfl)) (@pss_cons _ _ _ _ _ (ps_while PassesOwn.never (@pt_cmpR _ _ _ _ _ _ _ _ (op_neD hu) (pv 6) (@pe_lst _ _ _ _ pa_nil) (nomark _)) (@pss_cons _ _ _ _ _ (@ps_asg _ _ _ _ _ _ (pe_bm0 PySem.F.plainAttrs_list PySem.F.slot_list_pop PySem.F.type_list_pop mt_pop (pv 6)) (pg_tup rfl (pgs_cons (pg_name (i := 8) nd rfl (Or.inl rfl)) (pgs_cons (pg_name (i := 9) nd rfl (Or.inl rfl)) (pgs_cons (pg_name (i := 10) nd rfl (Or.inr rfl)) pgs_nil)))) rfl rfl rfl) (@pss_cons _ _ _ _ _ (@ps_set _ _ 11 _ _ _ _ nd rfl (Or.inl rfl) (@pe_lst _ _ _ _ pa_nil) rfl (Or.inl rfl)) (@pss_cons _ _ _ _ _ (@ps_if _ _ _ _ _ _ _ _ (PW.pt (pw_and (@pt_cmpR _ _ _ _ _ _ _ _ op_gt (pv 10) pe_int (nomark _)) (pw_and (@pt_cmpR _ _ _ _ _ _ _ _ op_gt (pv 7) pe_int (nomark _)) (pw_and1 (@pt_cmpR _ _ _ _ _ _ _ _ op_gt (@pe_cD _ _ _ _ _ _ _ _ _ _ DD hr1 rfl (@pa_cons _ _ _ _ _ (pv 0) (@pa_cons _ _ _ _ _ pe_int pa_nil rfl) rfl) (by decide) rfl rfl) pe_int (nomark _)))))) (@pss_one _ _ _ (@ps_set _ _ 11 _ _ _ _ nd rfl (Or.inl rfl) (@pe_cD _ _ _ _ _ _ _ _ _ _ DP hr rfl (@pa_cons _ _ _ _ _ (pv 0) (@pa_cons _ _ _ _ _ (pv 1) (@pa_cons _ _ _ _ _ (pv 8) (@pa_cons _ _ _ _ _ (pv 9) pa_nil rfl) rfl) rfl) rfl) (by decide) rfl rfl) rfl (Or.inl rfl))) pss_nil) (@pss_cons _ _ _ _ _ (@ps_set _ _ 12 _ _ _ _ nd rfl (Or.inl rfl) (@pe_cD _ _ _ _ _ _ _ _ _ _ DF hr rfl (@pa_cons _ _ _ _ _ (pv 2) (@pa_cons _ _ _ _ _ (pv 8) (@pa_cons _ _ _ _ _ (pv 9) pa_nil rfl) rfl) rfl) (by decide) rfl rfl) rfl (Or.inl rfl)) (@pss_one _ _ _ (@ps_if _ _ _ _ _ _ _ _ (@pt_cmpR _ _ _ _ _ _ _ _ (op_neD hu) (pv 11) (@pe_lst _ _ _ _ pa_nil) (nomark _)) (@pss_cons _ _ _ _ _ (@ps_set _ _ 7 _ _ _ _ nd rfl (Or.inl rfl) (@pe_op _ _ _ _ _ _ _ _ op_sub (pv 7) pe_int) rfl (Or.inl rfl)) (@pss_one _ _ _ (@ps_expr _ _ _ _ (@pe_bm _ _ _ _ _ _ _ _ _ _ _ _ PySem.F.plainAttrs_list PySem.F.slot_list_extend PySem.F.type_list_extend mt_extend (pv 6) (@pa_cons _ _ _ _ _ (pe_comp (own := ["_law_part"]) (cs := ["_law_deep"]) (cap := [10]) rfl (pi_list (pv 11)) (compOk_of (sc := defScope sCounts) (N := ["_law_pot_here","_law_blade_here","_law_kinds_here","_law_wide","_law_high","_law_counts_here","_law_waiting","_law_cuts","_law_own_wide","_law_own_high","_law_deep","_law_parts_here","_law_some","_law_number"]) rfl rfl (by decide +kernel)) (fun _ _ _ _ _ => pg_name (i := 0) (by show List.Nodup (["_law_part","_law_deep"] : List Str) ; decide +kernel) rfl (Or.inl rfl) (Or.inr rfl)) (fun _ _ _ _ _ => pifs_nil) (fun _ _ _ _ _ => (@pe_tup _ _ _ _ _ (@pa_cons _ _ _ _ _ (pe_ix (r := rIxT K) ix_tup (pv 0) pe_int (fun _ _ => rfl)) (@pa_cons _ _ _ _ _ (pe_ix (r := rIxT K) ix_tup (pv 0) pe_int (fun _ _ => rfl)) (@pa_cons _ _ _ _ _ (@pe_op _ _ _ _ _ _ _ _ op_sub (pv 1) pe_int) pa_nil rfl) rfl) rfl)))) pa_nil rfl) rfl rfl rfl rfl rfl) rfl))) (@pss_one _ _ _ (@ps_if _ _ _ _ _ _ _ _ (PW.pt (pw_and (@pt_cmpR _ _ _ _ _ _ _ _ (op_neD hu) (pv 12) (@pe_lst _ _ _ _ pa_nil) (nomark _)) (pw_and1 (@pt_cmpR _ _ _ _ _ _ _ _ op_gt (@pe_cD _ _ _ _ _ _ _ _ _ _ DD hr1 rfl (@pa_cons _ _ _ _ _ (pv 0) (@pa_cons _ _ _ _ _ pe_int pa_nil rfl) rfl) (by decide) rfl rfl) pe_int (nomark _))))) (@pss_cons _ _ _ _ _ (@ps_set _ _ 13 _ _ _ _ nd rfl (Or.inl rfl) (@pe_ix _ _ _ _ _ _ _ ix_list (pv 12) (@pe_cD _ _ _ _ _ _ _ _ _ _ DD hr1 rfl (@pa_cons _ _ _ _ _ (pv 0) (@pa_cons _ _ _ _ _ (@pe_callB _ _ _ _ _ _ _ _ _ call_len_seq rfl B.len PySem.boot_len (@pa_cons _ _ _ _ _ (pv 12) pa_nil rfl) (by decide) (by decide) rfl rfl) pa_nil rfl) rfl) (by decide) rfl rfl) (fun _ _ => rfl)) rfl (Or.inl rfl)) (@pss_one _ _ _ (@ps_asg _ _ _ _ _ _ (@pe_op _ _ _ _ _ _ _ _ op_add (@pe_ix _ _ _ _ _ _ _ ix_list (pv 5) (pv 13) (fun _ _ => rfl)) pe_int) (pg_sub (pv 5) (pv 13) set_list) rfl rfl rfl))) pss_nil))))))))) (@pss_one _ _ _ (@ps_ret _ _ _ _ (pv 5))))))),?_⟩
  have sz : (100 : Nat) < sizeLine := by decide
  have e60 : (100 : Int) < 10 ^ 60 := by decide
  have len := Paired.length tp
  refine seqCut (fun σ' H' => ∃ cl,σ' = [some (.ref p),some (.int b),some (.ref kl),some (.int W),some (.int T),some (.ref cl),none,none,none,none,none,none,none,none] ∧ H cl = none ∧ H' cl = some (.lst ((List.replicate ks.length (0 : Int)).map V.int)) ∧ Same H H') (fun R hR => ?_) ?_
  · refine ⟨by decide,fun c0 hc0 => ?_⟩
    have s1 : Same H (upd H c0 (.lst [.int 0])) := Same.new hc0
    have k1 : (upd H c0 (.lst [V.int 0])) c0 = some (.lst [.int 0]) := upd_same
    generalize upd H c0 (.lst [V.int 0]) = H1 at s1 k1 ⊢
    refine ⟨_,rfl,kl,_,rfl,.inl (SqL.of (s1 _ _ hk0)),c0,_,_,rfl,rfl,k1,by omega,by omega,by show 1 * _ ≤ _; omega,fun cl hcl => ?_⟩
    refine hR _ _ ⟨cl,rfl,s1.free hcl,?_,s1.trans (Same.new hcl)⟩
    rw [upd_same,len,Int.toNat_natCast]
    congr 2
    generalize ks.length = n
    induction n with
    | zero => rfl
    | succ n ih => rw [List.replicate_succ,List.replicate_succ,List.flatten_cons,List.map_cons,ih]; rfl
  rintro _ H1 ⟨cl,rfl,fc,hc1,s1⟩
  have pt1 := pt.same s1
  have ncp : cl ≠ p := Ne.symm (pt.ne fc)
  refine seqCut (fun σ' H' => ∃ wl v,σ' = [some (.ref p),some (.int b),some (.ref kl),some (.int W),some (.int T),some (.ref cl),some (.ref wl),none,none,none,none,none,none,none] ∧ H1 wl = none ∧ H' wl = some (.lst [v]) ∧ TrAt H' v (W,T,10) ∧ Same H1 H') (fun R hR => ?_) ?_
  · refine ⟨_,rfl,_,rfl,(by show 3 ≤ sizeLine; decide),fun t ht => ?_⟩
    have s2 : Same H1 (upd H1 t (.tup [.int W,.int T,.int 10])) := Same.new ht
    have k2 : (upd H1 t (.tup [.int W,.int T,.int 10])) t = some (.tup [.int W,.int T,.int 10]) := upd_same
    generalize upd H1 t (.tup [.int W,.int T,.int 10]) = H2 at s2 k2 ⊢
    refine ⟨(by show 1 ≤ sizeLine; decide),fun wl hwl => hR _ _ ⟨wl,.ref t,rfl,s2.free hwl,upd_same,⟨t,rfl,Same.new hwl _ _ k2⟩,s2.trans (Same.new hwl)⟩⟩
  rintro _ H2 ⟨wl,v0,rfl,fw,hw2,tr2,s2⟩
  have s12 := s1.trans s2
  have ci0 : CI p cl wl ks b W T 30 (List.replicate ks.length 0) [v0] [(W,T,10)] [] H H2 := by
    refine ⟨pt.same s12,sBut s12,ncp,Ne.symm (pt1.ne fw),(fun z => by rw [← z,hc1] at fw; cases fw),fc,s1.free fw,s2 _ _ hc1,hw2,.cons tr2 .nil,fun t ht => ?_,by decide,List.length_replicate,by show (1 : Int) + 0 + 30 ≤ 31; decide,fun c hc => ?_,fun i c hc h0 => ?_,fun L val h => ?_⟩
    · rw [List.append_nil,List.mem_singleton] at ht
      subst ht
      exact ⟨W1,Int.le_refl _,T1,Int.le_refl _⟩
    · rw [(List.mem_replicate.mp hc).2]
      exact ⟨Int.le_refl _,by show (0 : Int) + (1 + 0 + 30) ≤ 31; decide⟩
    · have := (List.mem_replicate.mp (List.mem_of_getElem? hc)).2
      omega
    · rw [wsum_zero]
      have z : tsum L [] = 0 := rfl
      have z2 : tsum L [(W,T,10)] = L W T := by unfold tsum; simp
      omega
  clear s12 tr2 hw2 s2 hc1 pt1
  refine seqCut (fun σ' H' => σ' = [some (.ref p),some (.int b),some (.ref kl),some (.int W),some (.int T),some (.ref cl),some (.ref wl),some (.int 30),none,none,none,none,none,none] ∧ H2 = H') (fun R hR => hR _ _ ⟨rfl,rfl⟩) ?_
  rintro _ _ ⟨rfl,rfl⟩
  refine seqCut (fun σ' H' => ∃ (cuts : Int) (cs : List Int) (v8 v9 v10 v11 v12 v13 : Option V),σ' = [some (.ref p),some (.int b),some (.ref kl),some (.int W),some (.int T),some (.ref cl),some (.ref wl),some (.int cuts),v8,v9,v10,v11,v12,v13] ∧ CI p cl wl ks b W T cuts cs [] [] [] H H') (fun R hR => ?_) ?_
  · refine ⟨fun m σ' H' => ∃ (cuts : Int) (cs : List Int) (vs : List V) (ts : List (Int × Int × Int)) (v8 v9 v10 v11 v12 v13 : Option V),σ' = [some (.ref p),some (.int b),some (.ref kl),some (.int W),some (.int T),some (.ref cl),some (.ref wl),some (.int cuts),v8,v9,v10,v11,v12,v13] ∧ m = 2 * cuts.toNat + vs.length ∧ CI p cl wl ks b W T cuts cs vs ts [] H H',⟨_,30,_,_,_,_,_,_,_,_,_,rfl,rfl,ci0⟩,?_⟩
    clear ci0
    rintro m _ H3 ⟨cuts,cs,vs,ts,v8,v9,v10,v11,v12,v13,rfl,rfl,ci⟩
    refine ⟨_,rfl,by decide,fun e0 he0 => ?_⟩
    obtain ⟨H4,e4,k4,n4,s4,_,pt4⟩ := put1 (o := .lst []) (But.refl (p := p) (H := H3)) ci.pt he0
    rw [e4]; clear e4
    have ci4 := ci.but (sBut s4) pt4
    refine ⟨_,_,.lst (SqL.of ci4.hw) (datTr ci4.tr),.lst (SqL.of k4) .nil,shapedTr ts,shapedTr [],_,rfl,?_⟩
    rcases List.eq_nil_or_concat vs with rfl | ⟨vs',v,rfl⟩
    · have ets : ts = [] := by
        have := Paired.length ci.tr
        cases ts with
        | nil => rfl
        | cons _ _ => simp at this
      subst ets
      exact iteF (hR _ _ ⟨cuts,cs,_,_,_,_,_,_,rfl,ci4⟩)
    rw [List.concat_eq_append] at ci ci4 ⊢
    obtain ⟨ts',t,rfl,trp,⟨ta,rfl,hta⟩⟩ := snocP ci4.tr
    rw [show PyData.eqv (.list ((ts' ++ [t]).map fun t => PyData.tuple [.int t.1,.int t.2.1,.int t.2.2])) (.list []) = false by cases ts' <;> rfl]
    refine iteT ⟨fun σ' H' => ∃ (cuts' : Int) (cs' : List Int) (vs'' : List V) (ts'' : List (Int × Int × Int)) (v8 v9 v10 v11 v12 v13 : Option V),σ' = [some (.ref p),some (.int b),some (.ref kl),some (.int W),some (.int T),some (.ref cl),some (.ref wl),some (.int cuts'),v8,v9,v10,v11,v12,v13] ∧ 2 * cuts'.toNat + vs''.length < 2 * cuts.toNat + (vs' ++ [V.ref ta]).length ∧ CI p cl wl ks b W T cuts' cs' vs'' ts'' [] H H',fun σ' H' ⟨c',cs',vs'',ts'',v8,v9,v10,v11,v12,v13,e,l,c⟩ => ⟨_,l,c',cs',vs'',ts'',v8,v9,v10,v11,v12,v13,e,rfl,c⟩,?_⟩
    have ml : (vs' ++ [V.ref ta]).length = vs'.length + 1 := by rw [List.length_append]; rfl
    rw [ml]
    refine seqCut (fun σ' H' => σ' = [some (.ref p),some (.int b),some (.ref kl),some (.int W),some (.int T),some (.ref cl),some (.ref wl),some (.int cuts),some (.int t.1),some (.int t.2.1),some (.int t.2.2),v11,v12,v13] ∧ CI p cl wl ks b W T cuts cs vs' ts' [t] H H') (fun R' hR' => ?_) ?_
    · refine ⟨_,rfl,.inl ⟨rfl,_,SqL.of ci4.hw⟩,wl,_,.ref ta,rfl,rfl,ci4.hw,(by rw [ml]; simp),?_⟩
      rw [List.dropLast_concat]
      have hta' : (upd H4 wl (.lst vs')) ta = some (.tup [.int t.1,.int t.2.1,.int t.2.2]) := by
        rw [upd_ne (fun z => by rw [z,ci4.hw] at hta; cases hta)]; exact hta
      exact ⟨ta,_,rfl,SqT.of hta',rfl,_,_,rfl,_,_,rfl,_,_,rfl,rfl,hR' _ _ ⟨rfl,ci4.pop trp⟩⟩
    rintro _ H5 ⟨rfl,ci5⟩
    clear ci4 ci trp hta pt4 s4 k4
    have rt := ci5.ri t (List.mem_append_right _ (List.mem_singleton.mpr rfl))
    refine seqCut (fun σ' H' => ∃ pl,σ' = [some (.ref p),some (.int b),some (.ref kl),some (.int W),some (.int T),some (.ref cl),some (.ref wl),some (.int cuts),some (.int t.1),some (.int t.2.1),some (.int t.2.2),some (.ref pl),v12,v13] ∧ H' pl = some (.lst []) ∧ pl ≠ p ∧ CI p cl wl ks b W T cuts cs vs' ts' [t] H H') (fun R' hR' => ?_) ?_
    · refine ⟨by decide,fun pl hpl => ?_⟩
      obtain ⟨H6,e6,k6,n6,s6,_,pt6⟩ := put1 (o := .lst []) (But.refl (p := p) (H := H5)) ci5.pt hpl
      rw [e6]; clear e6
      exact hR' _ _ ⟨pl,rfl,k6,n6,ci5.but (sBut s6) pt6⟩
    rintro _ H6 ⟨pl0,rfl,k6,n6,ci6⟩
    clear ci5
    refine seqCut (fun σ' H' => ∃ pl,σ' = [some (.ref p),some (.int b),some (.ref kl),some (.int W),some (.int T),some (.ref cl),some (.ref wl),some (.int cuts),some (.int t.1),some (.int t.2.1),some (.int t.2.2),some (.ref pl),v12,v13] ∧ (H' pl = some (.lst []) ∨ (0 < cuts ∧ Prts b t.1 t.2.1 H' pl)) ∧ pl ≠ p ∧ CI p cl wl ks b W T cuts cs vs' ts' [t] H H') (fun R' hR' => ?_) ?_
    · have no : ∀ Hx,But p H6 Hx → PotB Hx p → R' [some (.ref p),some (.int b),some (.ref kl),some (.int W),some (.int T),some (.ref cl),some (.ref wl),some (.int cuts),some (.int t.1),some (.int t.2.1),some (.int t.2.2),some (.ref pl0),v12,v13] Hx := fun Hx bx ptx => hR' _ _ ⟨pl0,rfl,.inl (bx _ _ n6 k6),n6,ci6.but bx ptx⟩
      refine ⟨_,rfl,_,_,rfl,rfl,_,rfl,?_⟩
      refine ite2 (fun c1 => ?_) (fun c1 => ?_)
      · refine ⟨_,rfl,_,_,rfl,rfl,_,rfl,?_⟩
        refine ite2 (fun c2 => ?_) (fun c2 => ?_)
        · have cu : 0 < cuts := of_decide_eq_true c2
          refine ⟨_,rfl,p,5,rfl,ci6.pt,by decide,by decide,fun z H7 z0 z1 pt7 b7 => ⟨_,_,rfl,rfl,_,rfl,?_⟩⟩
          refine ite2 (fun c3 => ?_) (fun c3 => ?_)
          · refine ⟨_,rfl,_,rfl,_,rfl,_,rfl,p,b,t.1,t.2.1,rfl,b0,rt.1,(by omega),rt.2.2.1,(by omega),pt7,fun pl H8 hpl npl pr pt8 b8 => ?_⟩
            exact hR' _ _ ⟨pl,rfl,.inr ⟨cu,pr⟩,npl,ci6.but (b7.trans b8) pt8⟩
          · exact no _ b7 pt7
        · exact no _ But.refl ci6.pt
      · exact no _ But.refl ci6.pt
    rintro _ H7 ⟨pl,rfl,pr,npl,ci7⟩
    clear ci6 k6 n6
    refine seqCut (fun σ' H' => ∃ (fl : Addr) (ns : List Int),σ' = [some (.ref p),some (.int b),some (.ref kl),some (.int W),some (.int T),some (.ref cl),some (.ref wl),some (.int cuts),some (.int t.1),some (.int t.2.1),some (.int t.2.2),some (.ref pl),some (.ref fl),v13] ∧ H' fl = some (.lst (ns.map V.int)) ∧ fl ≠ p ∧ ns.length ≤ 16 ∧ (∀ n ∈ ns,FitN ks t.1 t.2.1 n) ∧ Same H7 H') (fun R' hR' => ?_) ?_
    · have tp7 : Tups H7 rs ks := by
        obtain ⟨_,_,_,_,_,hp⟩ := pt
        exact Tups.keep (fun c xs e => ci7.bt _ _ (fun z => by rw [z,hp] at e; cases e) e) tp
      refine ⟨_,rfl,_,rfl,_,rfl,kl,rs,ks,_,_,rfl,ci7.bt _ _ nkp hk0,tp7,r8,fun fl ns H8 hfl fl8 nl nf s8 => ?_⟩
      exact hR' _ _ ⟨fl,ns,rfl,fl8,Ne.symm (ci7.pt.ne hfl),nl,nf,s8⟩
    rintro _ H8 ⟨fl,ns,rfl,hf8,nfp,nl,nf,s8⟩
    have ci8 := ci7.but (sBut s8) (ci7.pt.same s8)
    have pr8 : H8 pl = some (.lst []) ∨ (0 < cuts ∧ Prts b t.1 t.2.1 H8 pl) := by
      rcases pr with z | ⟨z,y | ⟨t1,u1,pp,y1,y2,y3⟩⟩
      · exact .inl (s8 _ _ z)
      · exact .inl (s8 _ _ y)
      · refine .inr ⟨z,.inr ⟨t1,u1,pp,s8 _ _ y1,y2,?_⟩⟩
        rcases y3 with ⟨a1,a2,a3⟩ | ⟨a1,a2,a3⟩
        · exact .inl ⟨a1,s8 _ _ a2,s8 _ _ a3⟩
        · exact .inr ⟨a1,s8 _ _ a2,s8 _ _ a3⟩
    clear pr ci7
    refine ⟨_,rfl,by decide,fun e9 he9 => ?_⟩
    obtain ⟨H9,eq9,k9,n9,s9,_,pt9⟩ := put1 (o := .lst []) (But.refl (p := p) (H := H8)) ci8.pt he9
    rw [eq9]; clear eq9
    have ci9 := ci8.but (sBut s9) pt9
    have hf9 := s9 _ _ hf8
    have nxt : ∀ (cs' : List Int) (v13' : Option V) (Hx : Hp),CI p cl wl ks b W T cuts cs' vs' ts' [] H Hx → ∃ (cuts' : Int) (cs' : List Int) (vs'' : List V) (ts'' : List (Int × Int × Int)) (v8 v9 v10 v11 v12 v13 : Option V),[some (V.ref p),some (.int b),some (.ref kl),some (.int W),some (.int T),some (.ref cl),some (.ref wl),some (.int cuts),some (.int t.1),some (.int t.2.1),some (.int t.2.2),some (.ref pl),some (.ref fl),v13'] = [some (.ref p),some (.int b),some (.ref kl),some (.int W),some (.int T),some (.ref cl),some (.ref wl),some (.int cuts'),v8,v9,v10,v11,v12,v13] ∧ 2 * cuts'.toNat + vs''.length < 2 * cuts.toNat + (vs'.length + 1) ∧ CI p cl wl ks b W T cuts' cs' vs'' ts'' [] H Hx :=
      fun cs' v13' Hx c => ⟨cuts,cs',vs',ts',_,_,_,_,_,_,rfl,by omega,c⟩
    rcases pr8 with z | ⟨cu,z | ⟨t1,u1,pp,y1,y2,y3⟩⟩
    · refine ⟨_,_,.lst (SqL.of (s9 _ _ z)) .nil,.lst (SqL.of k9) .nil,shapedTr [],shapedTr [],_,rfl,?_⟩
      refine iteF ?_
      refine ⟨_,rfl,by decide,fun e10 he10 => ?_⟩
      obtain ⟨Ha,eqa,ka,na,sa,_,pta⟩ := put1 (o := .lst []) (But.refl (p := p) (H := H9)) ci9.pt he10
      rw [eqa]; clear eqa
      have cia := ci9.but (sBut sa) pta
      have hfa := sa _ _ hf9
      refine ⟨_,_,.lst (SqL.of hfa) (datI ns),.lst (SqL.of ka) .nil,shapedI ns,shapedI [],_,rfl,?_⟩
      cases ns with
      | nil => exact iteF (iteF (nxt cs v13 Ha cia.drop))
      | cons n0 nr =>
        rw [show PyData.eqv (.list (List.map PyData.int (n0 :: nr))) (.list []) = false from rfl]
        refine iteT ?_
        refine ⟨_,rfl,p,6,rfl,cia.pt,by decide,by decide,fun z Hb z0 z1 ptb bb => ⟨_,_,rfl,rfl,_,rfl,?_⟩⟩
        have cib := cia.but bb ptb
        have hfb := bb _ _ nfp hfa
        refine ite2 (fun c3 => ?_) (fun c3 => ?_)
        · have nlb : ((n0 :: nr).map V.int).length = (n0 :: nr).length := List.length_map _
          refine ⟨_,rfl,_,rfl,_,rfl,fl,_,rfl,.inl (SqL.of hfb),p,_,rfl,cib.pt,(by rw [nlb,List.length_cons]; omega),(by rw [nlb]; omega),fun r Hc r0 r1 ptc bc => ?_⟩
          rw [nlb] at r1
          have cic := cib.but bc ptc
          have hfc := bc _ _ nfp hfb
          obtain ⟨x,hx,hm⟩ := at_mem (xs := (n0 :: nr).map V.int) r0 (by rw [nlb]; exact r1)
          obtain ⟨n,hn,rfl⟩ := List.mem_map.mp hm
          obtain ⟨i,k,a,rfl,hk',ha',hf'⟩ := nf n hn
          have il : i < cs.length := by rw [cic.len]; exact (List.getElem?_eq_some_iff.mp hk').1
          have hcs : cs[i]? = some cs[i] := List.getElem?_eq_getElem il
          refine ⟨fl,_,_,_,rfl,rfl,SqL.of hfc,hx,?_⟩
          have hat : atI (cs.map V.int) (i : Int) = some (.int cs[i]) := atI_nat (by rw [List.getElem?_map,hcs]; rfl)
          refine ⟨_,rfl,_,rfl,cl,_,_,_,rfl,rfl,SqL.of cic.hc,hat,_,_,rfl,rfl,?_⟩
          have hix : ixN (cs.map V.int).length (i : Int) = some i := by
            unfold ixN
            rw [List.length_map,if_pos (by omega),if_pos (by omega),Int.toNat_natCast]
          refine ⟨_,rfl,_,rfl,cl,_,_,i,rfl,rfl,cic.hc,hix,?_⟩
          rw [show (cs.map V.int).set i (.int (cs[i] + 1)) = (cs.set i (cs[i] + 1)).map V.int by rw [List.map_set]]
          exact nxt _ _ _ (cic.piece hk' ha' hf' hcs)
        · exact nxt cs v13 _ cib.drop
    · refine ⟨_,_,.lst (SqL.of (s9 _ _ z)) .nil,.lst (SqL.of k9) .nil,shapedTr [],shapedTr [],_,rfl,?_⟩
      refine iteF ?_
      refine ⟨_,rfl,by decide,fun e10 he10 => ?_⟩
      obtain ⟨Ha,eqa,ka,na,sa,_,pta⟩ := put1 (o := .lst []) (But.refl (p := p) (H := H9)) ci9.pt he10
      rw [eqa]; clear eqa
      have cia := ci9.but (sBut sa) pta
      have hfa := sa _ _ hf9
      refine ⟨_,_,.lst (SqL.of hfa) (datI ns),.lst (SqL.of ka) .nil,shapedI ns,shapedI [],_,rfl,?_⟩
      cases ns with
      | nil => exact iteF (iteF (nxt cs v13 Ha cia.drop))
      | cons n0 nr =>
        rw [show PyData.eqv (.list (List.map PyData.int (n0 :: nr))) (.list []) = false from rfl]
        refine iteT ?_
        refine ⟨_,rfl,p,6,rfl,cia.pt,by decide,by decide,fun z Hb z0 z1 ptb bb => ⟨_,_,rfl,rfl,_,rfl,?_⟩⟩
        have cib := cia.but bb ptb
        have hfb := bb _ _ nfp hfa
        refine ite2 (fun c3 => ?_) (fun c3 => ?_)
        · have nlb : ((n0 :: nr).map V.int).length = (n0 :: nr).length := List.length_map _
          refine ⟨_,rfl,_,rfl,_,rfl,fl,_,rfl,.inl (SqL.of hfb),p,_,rfl,cib.pt,(by rw [nlb,List.length_cons]; omega),(by rw [nlb]; omega),fun r Hc r0 r1 ptc bc => ?_⟩
          rw [nlb] at r1
          have cic := cib.but bc ptc
          have hfc := bc _ _ nfp hfb
          obtain ⟨x,hx,hm⟩ := at_mem (xs := (n0 :: nr).map V.int) r0 (by rw [nlb]; exact r1)
          obtain ⟨n,hn,rfl⟩ := List.mem_map.mp hm
          obtain ⟨i,k,a,rfl,hk',ha',hf'⟩ := nf n hn
          have il : i < cs.length := by rw [cic.len]; exact (List.getElem?_eq_some_iff.mp hk').1
          have hcs : cs[i]? = some cs[i] := List.getElem?_eq_getElem il
          refine ⟨fl,_,_,_,rfl,rfl,SqL.of hfc,hx,?_⟩
          have hat : atI (cs.map V.int) (i : Int) = some (.int cs[i]) := atI_nat (by rw [List.getElem?_map,hcs]; rfl)
          refine ⟨_,rfl,_,rfl,cl,_,_,_,rfl,rfl,SqL.of cic.hc,hat,_,_,rfl,rfl,?_⟩
          have hix : ixN (cs.map V.int).length (i : Int) = some i := by
            unfold ixN
            rw [List.length_map,if_pos (by omega),if_pos (by omega),Int.toNat_natCast]
          refine ⟨_,rfl,_,rfl,cl,_,_,i,rfl,rfl,cic.hc,hix,?_⟩
          rw [show (cs.map V.int).set i (.int (cs[i] + 1)) = (cs.set i (cs[i] + 1)).map V.int by rw [List.map_set]]
          exact nxt _ _ _ (cic.piece hk' ha' hf' hcs)
        · exact nxt cs v13 _ cib.drop
    · obtain ⟨q1,q2,hq,d1,d2,hm⟩ : ∃ q1 q2 : Int × Int,True ∧ H8 t1 = some (.tup [.int q1.1,.int q1.2]) ∧ H8 u1 = some (.tup [.int q2.1,.int q2.2]) ∧ (1 ≤ q1.1 ∧ q1.1 ≤ W ∧ 1 ≤ q1.2 ∧ q1.2 ≤ T) ∧ (1 ≤ q2.1 ∧ q2.1 ≤ W ∧ 1 ≤ q2.2 ∧ q2.2 ≤ T) ∧ ∀ L val,BdL b ks W T L val → L q1.1 q1.2 + L q2.1 q2.2 ≤ L t.1 t.2.1 := by
        rcases y3 with ⟨a1,a2,a3⟩ | ⟨a1,a2,a3⟩
        · exact ⟨(pp,t.2.1),(t.1 - pp - b,t.2.1),trivial,a2,a3,⟨y2,by show pp ≤ W; omega,rt.2.2.1,rt.2.2.2⟩,⟨a1,by show t.1 - pp - b ≤ W; omega,rt.2.2.1,rt.2.2.2⟩,fun L val h => h.dn pp t.1 t.2.1 y2 a1 rt.2.1 rt.2.2.1 rt.2.2.2⟩
        · exact ⟨(t.1,pp),(t.1,t.2.1 - pp - b),trivial,a2,a3,⟨rt.1,rt.2.1,y2,by show pp ≤ T; omega⟩,⟨rt.1,rt.2.1,a1,by show t.2.1 - pp - b ≤ T; omega⟩,fun L val h => h.ac pp t.1 t.2.1 y2 a1 rt.2.2.2 rt.1 rt.2.1⟩
      clear y3 y2 hq
      obtain ⟨m1,m2,hm⟩ := hm
      have y9 := s9 _ _ y1
      have d19 := s9 _ _ d1
      have d29 := s9 _ _ d2
      have pd : DatVs K H9 [.ref t1,.ref u1] [.tuple [.int q1.1,.int q1.2],.tuple [.int q2.1,.int q2.2]] := .cons (.tup (SqT.of d19) (.cons (.int _) (.cons (.int _) .nil))) (.cons (.tup (SqT.of d29) (.cons (.int _) (.cons (.int _) .nil))) .nil)
      refine ⟨_,_,.lst (SqL.of y9) pd,.lst (SqL.of k9) .nil,rfl,shapedTr [],_,rfl,?_⟩
      refine iteT ?_
      refine ⟨_,rfl,_,_,rfl,rfl,?_⟩
      refine ⟨_,rfl,.inl ⟨rfl,_,SqL.of ci9.hw⟩,?_⟩
      refine ⟨_,rfl,pl,rfl,⟨_,SqL.of y9⟩,(comp_seq (K := K) (.inl y9) (fun i ys Hx => Same H9 Hx ∧ Paired (TrAt Hx) ys (([q1,q2].take i).map fun q => (q.1,q.2,t.2.2 - 1))) (fun i ys Hx _ ⟨sx,_⟩ o e => sx _ _ e) ⟨Same.refl _,.nil⟩ ?_ ?_).1 y9⟩
      · rintro i y ys Hx hi ⟨sx,px⟩
        have hin : i < [V.ref t1,V.ref u1].length := (List.getElem?_eq_some_iff.mp hi).1
        have hin' : i < 2 := hin
        have pl2 := Paired.length px
        rw [List.length_map,List.length_take] at pl2
        obtain ⟨ta',qq,rfl,hta',hqq⟩ : ∃ (ta' : Addr) (qq : Int × Int),y = .ref ta' ∧ Hx ta' = some (.tup [.int qq.1,.int qq.2]) ∧ [q1,q2].take (i + 1) = [q1,q2].take i ++ [qq] := by
          have : i = 0 ∨ i = 1 := by omega
          rcases this with rfl | rfl
          · cases hi; exact ⟨t1,q1,rfl,sx _ _ d19,rfl⟩
          · cases hi; exact ⟨u1,q2,rfl,sx _ _ d29,rfl⟩
        refine ⟨by have : [q1,q2].length = 2 := rfl; omega,leS.set rfl,tYes_ite ?_⟩
        refine ⟨_,rfl,ta',_,0,_,rfl,rfl,SqT.of hta',rfl,_,rfl,ta',_,1,_,rfl,rfl,SqT.of hta',rfl,_,rfl,_,_,rfl,rfl,(by show 3 ≤ sizeLine; decide),fun z hz => ?_⟩
        refine Nx.of hin ⟨sx.trans (Same.new hz),?_⟩
        rw [hqq,List.map_append]
        exact appP (Paired.mapP px fun v t h => h.keep fun a xs e => Same.new hz _ _ e) (.cons ⟨z,rfl,upd_same⟩ .nil)
      · rintro ys Hx ⟨sx,px⟩
        have pl2 := Paired.length px
        refine ⟨by have : (([q1,q2].take [V.ref t1,V.ref u1].length).map fun q : Int × Int => (q.1,q.2,t.2.2 - 1)).length = 2 := rfl; omega,fun xl hxl => ?_⟩
        obtain ⟨Hy,ey,ky,ny,sy,_,pty⟩ := put1 (o := .lst ys) (But.refl (p := p) (H := Hx)) (ci9.pt.same sx) hxl
        rw [ey]; clear ey
        have ciy := ci9.but (sBut (sx.trans sy)) pty
        have py : Paired (TrAt Hy) ys [(q1.1,q1.2,t.2.2 - 1),(q2.1,q2.2,t.2.2 - 1)] := Paired.mapP px fun v t h => h.keep fun a xs e => sy _ _ e
        cases py with
        | cons p1 py =>
          cases py with
          | cons p2 py =>
            cases py
            refine ⟨wl,xl,_,_,rfl,rfl,ciy.hw,ky,by have := ciy.lv; have := ciy.cu; show _ + 2 ≤ _; omega,?_⟩
            exact ⟨cuts - 1,cs,_,_,_,_,_,_,_,_,rfl,by rw [List.length_append]; show _ + (_ + 2) < _; omega,ciy.cut cu p1 p2 m1 m2 hm⟩
  · rintro _ H3 ⟨cuts,cs,v8,v9,v10,v11,v12,v13,rfl,ci⟩
    refine ⟨_,rfl,q cl cs H3 fc ncp ci.hc ⟨ci.len,fun c hc => ?_,ci.fit,fun L val h _ => ?_⟩ ci.pt ci.bt⟩
    · have := ci.rng c hc
      have := ci.cu
      have l2 : ((([] : List (Int × Int × Int)).length : Nat) : Int) = 0 := rfl
      have l3 : ((([] : List V).length : Nat) : Int) = 0 := rfl
      omega
    · have := ci.bd L val h
      have z : tsum L [] = 0 := rfl
      rw [Int.one_mul]
      omega
end
section
variable {P : Program} {w : World} {K : PySem.W.Frag} {mg : Str → Option Value} {base : Heap}
theorem made_same {H : Hp} {x dx C : Addr} (h1 : H x = none) (h2 : H dx = none) : Same H (upd (upd H dx (.own x)) x (.ins C dx [])) := fun c o e => by
  rw [upd_ne (ne_of_none e h1),upd_ne (ne_of_none e h2)]; exact e
def spRight : Sp := fun vs H Q _ => ∃ (p : Addr),vs = [.ref p] ∧ PotB H p ∧ ∀ H',But p H H' → Q (.bl true) H'
def spLaw (K : PySem.W.Frag) : Sp := fun vs H Q _ => ∃ (a : Addr) (ns : List Int),vs = [.ref a] ∧ SqL K H a (ns.map V.int) ∧ ns.length ≤ 63 ∧ ∀ H',Q (.bl true) H'
theorem wsum_snoc (val : Nat → Int) (c : Int) : ∀ (cs : List Int) (n : Nat),wsum val n (cs ++ [c]) = wsum val n cs + c * val (n + cs.length)
  | [],n => by
    show c * val n + 0 = 0 + c * val (n + 0)
    rw [Int.add_zero,Int.zero_add]; rfl
  | d :: r,n => by
    show d * val n + wsum val (n + 1) (r ++ [c]) = d * val n + wsum val (n + 1) r + c * val (n + (r.length + 1))
    rw [wsum_snoc val c r (n + 1),show n + 1 + r.length = n + (r.length + 1) by omega,Int.add_assoc]
theorem wsum_le2 (f g : Nat → Int) : ∀ (cs : List Int) (n : Nat),(∀ (i : Nat) (c : Int),cs[i]? = some c → 0 ≤ c ∧ (0 < c → f (n + i) ≤ g (n + i))) → wsum f n cs ≤ wsum g n cs
  | [],n,_ => Int.le_refl _
  | c :: r,n,h => by
    have ih := wsum_le2 f g r (n + 1) fun i d hd => by rw [show n + 1 + i = n + (i + 1) by omega]; exact h (i + 1) d hd
    obtain ⟨c0,hc⟩ := h 0 c rfl
    show c * f n + wsum f (n + 1) r ≤ c * g n + wsum g (n + 1) r
    have : c * f n ≤ c * g n := by
      by_cases z : 0 < c
      · exact Int.mul_le_mul_of_nonneg_left (hc z) c0
      · rw [show c = 0 by omega,Int.zero_mul,Int.zero_mul]; exact Int.le_refl _
    omega
def vK (us ws : List Int) (ks : List Kd) (i : Nat) : Int := match ks[i]? with
  | some k => (kwt us ws k).getD 0
  | none => 0
def wK (ks : List Kd) (i : Nat) : Int := match ks[i]? with
  | some k => k.wo
  | none => 0
theorem vK_at {us ws : List Int} {ks : List Kd} {i : Nat} {k : Kd} (h : ks[i]? = some k) : vK us ws ks i = (kwt us ws k).getD 0 := by unfold vK; rw [h]
theorem wK_at {ks : List Kd} {i : Nat} {k : Kd} (h : ks[i]? = some k) : wK ks i = k.wo := by unfold wK; rw [h]
theorem vK_nn {us ws : List Int} {ks : List Kd} (gk : ∀ k ∈ ks,Good k) (gu : GoodW us) (gw : GoodW ws) (i : Nat) : 0 ≤ vK us ws ks i := by
  unfold vK
  cases e : ks[i]? with
  | none => exact Int.le_refl _
  | some k =>
    show 0 ≤ (kwt us ws k).getD 0
    cases e2 : kwt us ws k with
    | none => exact Int.le_refl _
    | some x => exact (kwt_in (gk k (List.mem_of_getElem? e)) gu gw e2).1
theorem cut_load {b : Int} {ks : List Kd} {us ws : List Int} {cs : List Int} (hb : 0 ≤ b) (gk : ∀ k ∈ ks,Good k) (gu : GoodW us) (gw : GoodW ws) (h : Cut b ks us.length ws.length 1 cs) :
    wsum (vK us ws ks) 0 cs ≤ Ld b us us.length * Ld b ws ws.length ∧ (ks.all (bearsK us ws) = true → wsum (wK ks) 0 cs ≤ Ld b us us.length * Ld b ws ws.length) := by
  have B := bd_load (ks := ks) hb gk gu gw
  have h1 := h.bd _ _ B (vK_nn gk gu gw)
  have h2 : wsum (vK us ws ks) 0 cs ≤ Ld b us us.length * Ld b ws ws.length := by
    rw [Int.one_mul] at h1
    exact h1
  refine ⟨h2,fun hb' => Int.le_trans (wsum_le2 _ _ cs 0 fun i c hc => ⟨(h.rng c (List.mem_of_getElem? hc)).1,fun c0 => ?_⟩) h2⟩
  obtain ⟨k,t,hk,ht,hf⟩ := h.fit i c hc c0
  obtain ⟨x,e,_⟩ := kwt_le ht hf
  rw [Nat.zero_add,wK_at hk,vK_at hk,e]
  have := List.all_eq_true.mp hb' k (List.mem_of_getElem? hk)
  unfold bearsK at this
  rw [e] at this
  exact of_decide_eq_true this
theorem tupsBut {p : Addr} {rs : List V} {ks : List Kd} {H H' : Hp} (b : But p H H') (pt : PotB H p) (h : Tups H rs ks) : Tups H' rs ks := by
  obtain ⟨_,_,_,_,_,hp⟩ := pt
  exact Tups.keep (fun x xs e => b _ _ (fun z => by rw [z,hp] at e; cases e) e) h
theorem scright : FnScope ["_law_pot_here","_law_u","_law_v","_law_blade_here","_law_kinds_here","_law_shop","_law_weights_here","_law_load","_law_borne","_law_k","_law_counts_here","_law_weight","_law_worth_here","_law_many","_law_own","_law_kind"] ["_law_pot_here"] (defScope sRight) := ⟨rfl,rfl,rfl,by decide +kernel,rfl,by decide +kernel,by decide +kernel⟩
theorem ok_right {f C : Addr} {fd : FuncData} (F : Fun K "_law_right" "_law_right" sRight f fd) (B : Blt mg) (T : ShopTxt K C) (DD : Dn P w K mg base "_law_draw" ["_law_pot_here","_law_many"] 1 (spDrawB)) (DM : Dn P w K mg base "_law_most" ["_law_pot_here"] 2 (spMost)) (DWs : Dn P w K mg base "_law_weights" ["_law_pot_here","_law_many"] 3 (spWeights)) (DBl : Dn P w K mg base "_law_blade" ["_law_pot_here","_law_many"] 3 (spBladeB)) (DKi : Dn P w K mg base "_law_kinds" ["_law_pot_here","_law_u","_law_v"] 4 (spKindsL)) (DCo : Dn P w K mg base "_law_counts" ["_law_pot_here","_law_blade_here","_law_kinds_here","_law_wide","_law_high"] 3 (spCounts)) (DKW : Dn P w K mg base "kind_weights" ["shop","wide","high","u","v"] 6 (spKW C)) (DPL : Dn P w K mg base "plate_load" ["shop","wide","high","u","v"] 4 (spPL C)) (DBW : Dn P w K mg base "bears_worth" ["shop","wide","high","u","v"] 7 (spBW C)) (DS : Kn P w K mg base "Shop" C ["self","blade","kinds"] 3 (spInit C)) : FnOk P w K mg base CX0 8 f fd ["_law_pot_here"] (spRight) := by
  refine F.ok scright (fun vs H Q E h => ?_) (fun cdv A outer s H vs Q E hr h => ?_)
  · obtain ⟨p,rfl,_⟩ := h
    rfl
  obtain ⟨p,rfl,pt,q⟩ := h
  have nd := scright.nd
  have hr1 := hr.mono (show 1 ≤ 7 by decide)
  have hr2 := hr.mono (show 2 ≤ 7 by decide)
  have hr3 := hr.mono (show 3 ≤ 7 by decide)
  have hr4 := hr.mono (show 4 ≤ 7 by decide)
  have hr6 := hr.mono (show 6 ≤ 7 by decide)
  refine ⟨_,(@pss_cons _ _ _ _ _ (@ps_set _ _ 1 _ _ _ _ nd rfl (Or.inl rfl) (@pe_cD _ _ _ _ _ _ _ _ _ _ DWs hr3 rfl (@pa_cons _ _ _ _ _ (pv 0) (@pa_cons _ _ _ _ _ (@pe_cD _ _ _ _ _ _ _ _ _ _ DM hr2 rfl (@pa_cons _ _ _ _ _ (pv 0) pa_nil rfl) (by decide) rfl rfl) pa_nil rfl) rfl) (by decide) rfl rfl) rfl (Or.inl rfl)) (@pss_cons _ _ _ _ _ (@ps_set _ _ 2 _ _ _ _ nd rfl (Or.inl rfl) (@pe_cD _ _ _ _ _ _ _ _ _ _ DWs hr3 rfl (@pa_cons _ _ _ _ _ (pv 0) (@pa_cons _ _ _ _ _ (@pe_cD _ _ _ _ _ _ _ _ _ _ DM hr2 rfl (@pa_cons _ _ _ _ _ (pv 0) pa_nil rfl) (by decide) rfl rfl) pa_nil rfl) rfl) (by decide) rfl rfl) rfl (Or.inl rfl)) (@pss_cons _ _ _ _ _ (@ps_set _ _ 3 _ _ _ _ nd rfl (Or.inl rfl) (@pe_cD _ _ _ _ _ _ _ _ _ _ DBl hr3 rfl (@pa_cons _ _ _ _ _ (pv 0) (@pa_cons _ _ _ _ _ (@pe_callB _ _ _ _ _ _ _ _ _ call_len_seq rfl B.len PySem.boot_len (@pa_cons _ _ _ _ _ (pv 1) pa_nil rfl) (by decide) (by decide) rfl rfl) pa_nil rfl) rfl) (by decide) rfl rfl) rfl (Or.inl rfl)) (@pss_cons _ _ _ _ _ (@ps_set _ _ 4 _ _ _ _ nd rfl (Or.inl rfl) (@pe_cD _ _ _ _ _ _ _ _ _ _ DKi hr4 rfl (@pa_cons _ _ _ _ _ (pv 0) (@pa_cons _ _ _ _ _ (pv 1) (@pa_cons _ _ _ _ _ (pv 2) pa_nil rfl) rfl) rfl) (by decide) rfl rfl) rfl (Or.inl rfl)) (@pss_cons _ _ _ _ _ (@ps_set _ _ 5 _ _ _ _ nd rfl (Or.inl rfl) (pe_kD DS hr4 rfl (@pa_cons _ _ _ _ _ (pv 3) (@pa_cons _ _ _ _ _ (pv 4) pa_nil rfl) rfl)) rfl (Or.inl rfl)) (@pss_cons _ _ _ _ _ (@ps_set _ _ 6 _ _ _ _ nd rfl (Or.inl rfl) (@pe_cD _ _ _ _ _ _ _ _ _ _ DKW hr6 rfl (@pa_cons _ _ _ _ _ (pv 5) (@pa_cons _ _ _ _ _ (@pe_callB _ _ _ _ _ _ _ _ _ call_len_seq rfl B.len PySem.boot_len (@pa_cons _ _ _ _ _ (pv 1) pa_nil rfl) (by decide) (by decide) rfl rfl) (@pa_cons _ _ _ _ _ (@pe_callB _ _ _ _ _ _ _ _ _ call_len_seq rfl B.len PySem.boot_len (@pa_cons _ _ _ _ _ (pv 2) pa_nil rfl) (by decide) (by decide) rfl rfl) (@pa_cons _ _ _ _ _ (pv 1) (@pa_cons _ _ _ _ _ (pv 2) pa_nil rfl) rfl) rfl) rfl) rfl) (by decide) rfl rfl) rfl (Or.inl rfl)) (@pss_cons _ _ _ _ _ (@ps_set _ _ 7 _ _ _ _ nd rfl (Or.inl rfl) (@pe_cD _ _ _ _ _ _ _ _ _ _ DPL hr4 rfl (@pa_cons _ _ _ _ _ (pv 5) (@pa_cons _ _ _ _ _ (@pe_callB _ _ _ _ _ _ _ _ _ call_len_seq rfl B.len PySem.boot_len (@pa_cons _ _ _ _ _ (pv 1) pa_nil rfl) (by decide) (by decide) rfl rfl) (@pa_cons _ _ _ _ _ (@pe_callB _ _ _ _ _ _ _ _ _ call_len_seq rfl B.len PySem.boot_len (@pa_cons _ _ _ _ _ (pv 2) pa_nil rfl) (by decide) (by decide) rfl rfl) (@pa_cons _ _ _ _ _ (pv 1) (@pa_cons _ _ _ _ _ (pv 2) pa_nil rfl) rfl) rfl) rfl) rfl) (by decide) rfl rfl) rfl (Or.inl rfl)) (@pss_cons _ _ _ _ _ (@ps_set _ _ 8 _ _ _ _ nd rfl (Or.inl rfl) (@pe_cD _ _ _ _ _ _ _ _ _ _ DBW hr rfl (@pa_cons _ _ _ _ _ (pv 5) (@pa_cons _ _ _ _ _ (@pe_callB _ _ _ _ _ _ _ _ _ call_len_seq rfl B.len PySem.boot_len (@pa_cons _ _ _ _ _ (pv 1) pa_nil rfl) (by decide) (by decide) rfl rfl) (@pa_cons _ _ _ _ _ (@pe_callB _ _ _ _ _ _ _ _ _ call_len_seq rfl B.len PySem.boot_len (@pa_cons _ _ _ _ _ (pv 2) pa_nil rfl) (by decide) (by decide) rfl rfl) (@pa_cons _ _ _ _ _ (pv 1) (@pa_cons _ _ _ _ _ (pv 2) pa_nil rfl) rfl) rfl) rfl) rfl) (by decide) rfl rfl) rfl (Or.inl rfl)) (@pss_cons _ _ _ _ _ (@ps_for _ _ _ _ _ _ _ _ PassesOwn.never rfl (pi_range1 rfl B.range (@pa_cons _ _ _ _ _ pe_int pa_nil rfl)) (pg_name (i := 9) nd rfl (Or.inl rfl)) (@pss_cons _ _ _ _ _ (@ps_set _ _ 10 _ _ _ _ nd rfl (Or.inl rfl) (@pe_cD _ _ _ _ _ _ _ _ _ _ DCo hr3 rfl (@pa_cons _ _ _ _ _ (pv 0) (@pa_cons _ _ _ _ _ (pv 3) (@pa_cons _ _ _ _ _ (pv 4) (@pa_cons _ _ _ _ _ (@pe_callB _ _ _ _ _ _ _ _ _ call_len_seq rfl B.len PySem.boot_len (@pa_cons _ _ _ _ _ (pv 1) pa_nil rfl) (by decide) (by decide) rfl rfl) (@pa_cons _ _ _ _ _ (@pe_callB _ _ _ _ _ _ _ _ _ call_len_seq rfl B.len PySem.boot_len (@pa_cons _ _ _ _ _ (pv 2) pa_nil rfl) (by decide) (by decide) rfl rfl) pa_nil rfl) rfl) rfl) rfl) rfl) (by decide) rfl rfl) rfl (Or.inl rfl)) (@pss_cons _ _ _ _ _ (@ps_set _ _ 11 _ _ _ _ nd rfl (Or.inl rfl) pe_int rfl (Or.inl rfl)) (@pss_cons _ _ _ _ _ (@ps_set _ _ 12 _ _ _ _ nd rfl (Or.inl rfl) pe_int rfl (Or.inl rfl)) (@pss_cons _ _ _ _ _ (@ps_for _ _ _ _ _ _ _ _ PassesOwn.never rfl (pi_zip3 rfl B.zip (@pa_cons _ _ _ _ _ (pv 10) (@pa_cons _ _ _ _ _ (pv 6) (@pa_cons _ _ _ _ _ (pv 4) pa_nil rfl) rfl) rfl)) (pg_tup rfl (pgs_cons (pg_name (i := 13) nd rfl (Or.inl rfl)) (pgs_cons (pg_name (i := 14) nd rfl (Or.inl rfl)) (pgs_cons (pg_name (i := 15) nd rfl (Or.inl rfl)) pgs_nil)))) (@pss_cons _ _ _ _ _ (@ps_if _ _ _ _ _ _ _ _ (PW.pt (pw_and (@pt_cmpR _ _ _ _ _ _ _ _ op_gt (pv 13) pe_int (nomark _)) (pw_and1 (@pt_cmpR _ _ _ _ _ _ _ _ op_isN (pv 14) pe_non (nomark _))))) (@pss_one _ _ _ (@ps_ret _ _ _ _ pe_bl)) pss_nil) (@pss_one _ _ _ (@ps_if _ _ _ _ _ _ _ _ (@pt_cmpR _ _ _ _ _ _ _ _ op_gt (pv 13) pe_int (nomark _)) (@pss_cons _ _ _ _ _ (@ps_set _ _ 11 _ _ _ _ nd rfl (Or.inl rfl) (@pe_op _ _ _ _ _ _ _ _ op_add (pv 11) (@pe_op _ _ _ _ _ _ _ _ op_mulB (pv 13) (pv 14))) rfl (Or.inl rfl)) (@pss_one _ _ _ (@ps_set _ _ 12 _ _ _ _ nd rfl (Or.inl rfl) (@pe_op _ _ _ _ _ _ _ _ op_add (pv 12) (@pe_op _ _ _ _ _ _ _ _ op_mulB (pv 13) (@pe_ix _ _ _ _ _ _ _ ix_tup (pv 15) pe_int (fun _ _ => rfl)))) rfl (Or.inl rfl)))) pss_nil))) (by intro _; rfl)) (@pss_one _ _ _ (@ps_if _ _ _ _ _ _ _ _ (PW.pt (pw_or (@pt_cmpR _ _ _ _ _ _ _ _ op_gt (pv 11) (pv 7) (nomark _)) (pw_or1 (PW.pt (pw_and (@pt_cmpR _ _ _ _ _ _ _ _ op_notF (pv 8) pe_bl (nomark _)) (pw_and1 (@pt_cmpR _ _ _ _ _ _ _ _ op_gt (pv 12) (pv 7) (nomark _)))))))) (@pss_one _ _ _ (@ps_ret _ _ _ _ pe_bl)) pss_nil)))))) (by intro _; rfl)) (@pss_one _ _ _ (@ps_ret _ _ _ _ (@pe_callB _ _ _ _ _ _ _ _ _ call_isinst rfl B.isi PyProof.Rows.boot_isinstance (@pa_cons _ _ _ _ _ (pv 8) (@pa_cons _ _ _ _ _ (pe_bltn (v := .ty "bool") rfl B.bool PyProof.Rows.boot_bool rfl) pa_nil rfl) rfl) (by decide) (by decide) rfl rfl)))))))))))),?_⟩
  have sz : (100 : Nat) < sizeLine := by decide
  have e60 : (100 : Int) < 10 ^ 60 := by decide
  refine seqCut (fun σ' H' => ∃ (a : Addr) (us : List Int),σ' = [some (.ref p),some (.ref a),none,none,none,none,none,none,none,none,none,none,none,none,none,none] ∧ a ≠ p ∧ H' a = some (.lst (us.map V.int)) ∧ 1 ≤ us.length ∧ us.length ≤ 60 ∧ GoodW us ∧ PotB H' p ∧ But p H H') (fun R hR => ?_) ?_
  · refine ⟨_,rfl,_,rfl,p,rfl,pt,fun m H1 m1 m60 pt1 b1 => ⟨p,m,rfl,pt1,m1,m60,fun a us H2 ha0 nap a2 lu gu pt2 b2 => ?_⟩⟩
    exact hR _ _ ⟨a,us,rfl,nap,a2,by omega,by omega,gu,pt2,b1.trans b2⟩
  rintro _ H2 ⟨a,us,rfl,nap,a2,u1,u60,gu,pt2,b2⟩
  refine seqCut (fun σ' H' => ∃ (c : Addr) (ws : List Int),σ' = [some (.ref p),some (.ref a),some (.ref c),none,none,none,none,none,none,none,none,none,none,none,none,none] ∧ c ≠ p ∧ H' a = some (.lst (us.map V.int)) ∧ H' c = some (.lst (ws.map V.int)) ∧ 1 ≤ ws.length ∧ ws.length ≤ 60 ∧ GoodW ws ∧ PotB H' p ∧ But p H H') (fun R hR => ?_) ?_
  · refine ⟨_,rfl,_,rfl,p,rfl,pt2,fun m H1 m1 m60 pt1 b1 => ⟨p,m,rfl,pt1,m1,m60,fun c ws H4 hc0 ncp c2 lv gv pt4 b4 => ?_⟩⟩
    exact hR _ _ ⟨c,ws,rfl,ncp,(b1.trans b4) _ _ nap a2,c2,by omega,by omega,gv,pt4,b2.trans (b1.trans b4)⟩
  rintro _ H4 ⟨c,ws,rfl,ncp,a4,c4,v1,v60,gw,pt4,b4⟩
  refine seqCut (fun σ' H' => ∃ (b : Int),σ' = [some (.ref p),some (.ref a),some (.ref c),some (.int b),none,none,none,none,none,none,none,none,none,none,none,none] ∧ 0 ≤ b ∧ H' a = some (.lst (us.map V.int)) ∧ H' c = some (.lst (ws.map V.int)) ∧ PotB H' p ∧ But p H H') (fun R hR => ?_) ?_
  · refine ⟨_,rfl,_,rfl,a,_,rfl,.inl (SqL.of a4),p,_,rfl,pt4,(by rw [List.length_map]; omega),(by rw [List.length_map]; omega),fun b H5 b0 b1 pt5 b5 => ?_⟩
    exact hR _ _ ⟨b,rfl,b0,b5 _ _ nap a4,b5 _ _ ncp c4,pt5,b4.trans b5⟩
  rintro _ H5 ⟨b,rfl,b0,a5,c5,pt5,b5⟩
  refine seqCut (fun σ' H' => ∃ (kl : Addr) (rs : List V) (ks : List Kd),σ' = [some (.ref p),some (.ref a),some (.ref c),some (.int b),some (.ref kl),none,none,none,none,none,none,none,none,none,none,none] ∧ kl ≠ p ∧ H' kl = some (.lst rs) ∧ Tups H' rs ks ∧ (∀ k ∈ ks,Good k) ∧ 1 ≤ rs.length ∧ rs.length ≤ 8 ∧ H' a = some (.lst (us.map V.int)) ∧ H' c = some (.lst (ws.map V.int)) ∧ PotB H' p ∧ But p H H') (fun R hR => ?_) ?_
  · refine ⟨_,rfl,_,rfl,_,rfl,p,a,c,us,ws,rfl,nap,ncp,a5,c5,u1,u60,v1,v60,gu,gw,pt5,fun kl rs ks H6 hkl nkp kl6 tp gk r1 r8 pt6 b6 => ?_⟩
    exact hR _ _ ⟨kl,rs,ks,rfl,nkp,kl6,tp,gk,r1,r8,b6 _ _ nap a5,b6 _ _ ncp c5,pt6,b5.trans b6⟩
  rintro _ H6 ⟨kl,rs,ks,rfl,nkp,kl6,tp,gk,r1,r8,a6,c6,pt6,b6⟩
  have len := Paired.length tp
  clear pt2 b2 a2 pt4 b4 a4 c4 pt5 b5 a5 c5
  refine seqCut (fun σ' H' => ∃ s,σ' = [some (.ref p),some (.ref a),some (.ref c),some (.int b),some (.ref kl),some (.ref s),none,none,none,none,none,none,none,none,none,none] ∧ ShopAt C H' s b ks ∧ Same H6 H') (fun R hR => ?_) ?_
  · refine ⟨_,rfl,_,rfl,fun x dx hx hdx ne0 => ?_⟩
    have sm : Same H6 (upd (upd H6 dx (.own x)) x (.ins C dx [])) := made_same hx hdx
    refine ⟨x,dx,kl,b,rs,ks,rfl,upd_same,b0,.inl (sm _ _ kl6),Paired.mapP (Tups.keep (fun c xs e => sm _ _ e) tp) (fun v k h => .inl h),gk,r1,r8,fun Hb Sb kb => ⟨rfl,hR _ _ ⟨x,rfl,Sb,fun c o e => kb c o (ne_of_none e hx) (sm _ _ e)⟩⟩⟩
  rintro _ H7 ⟨s,rfl,sh7,s67⟩
  have wa7 : Wts H7 a us := ⟨.inl (s67 _ _ a6),u1,u60,gu⟩
  have wc7 : Wts H7 c ws := ⟨.inl (s67 _ _ c6),v1,v60,gw⟩
  have a7 := s67 _ _ a6
  have c7 := s67 _ _ c6
  have k8 : ks.length ≤ 8 := by omega
  refine seqCut (fun σ' H' => ∃ wl,σ' = [some (.ref p),some (.ref a),some (.ref c),some (.int b),some (.ref kl),some (.ref s),some (.ref wl),none,none,none,none,none,none,none,none,none] ∧ wl ≠ p ∧ H' wl = some (.lst ((ks.map (kwt us ws)).map oV)) ∧ Same H7 H') (fun R hR => ?_) ?_
  · refine ⟨_,rfl,_,rfl,a,_,rfl,.inl (SqL.of a7),_,rfl,c,_,rfl,.inl (SqL.of c7),_,rfl,_,rfl,s,a,c,b,ks,us,ws,_,_,rfl,(by rw [List.length_map]),(by rw [List.length_map]),sh7,k8,gk,wa7,wc7,fun l H1 hl l1 s1 => hR _ _ ⟨l,rfl,Ne.symm ((pt6.same s67).ne hl),l1,s1⟩⟩
  rintro _ H8 ⟨wl,rfl,nwp,wl8,s78⟩
  obtain ⟨L,hL⟩ : ∃ L,Ld b us us.length * Ld b ws ws.length = L := ⟨_,rfl⟩
  refine seqCut (fun σ' H' => σ' = [some (.ref p),some (.ref a),some (.ref c),some (.int b),some (.ref kl),some (.ref s),some (.ref wl),some (.int L),none,none,none,none,none,none,none,none] ∧ Same H8 H') (fun R hR => ?_) ?_
  · refine ⟨_,rfl,_,rfl,a,_,rfl,.inl (SqL.of (s78 _ _ a7)),_,rfl,c,_,rfl,.inl (SqL.of (s78 _ _ c7)),_,rfl,_,rfl,s,a,c,b,ks,us,ws,_,_,rfl,(by rw [List.length_map]),(by rw [List.length_map]),shopS s78 sh7,b0,wa7.same s78,wc7.same s78,fun H2 s2 => ?_⟩
    rw [hL]
    exact hR _ _ ⟨rfl,s2⟩
  rintro _ H9 ⟨rfl,s89⟩
  have s79 := s78.trans s89
  refine seqCut (fun σ' H' => σ' = [some (.ref p),some (.ref a),some (.ref c),some (.int b),some (.ref kl),some (.ref s),some (.ref wl),some (.int L),some (.bl (ks.all (bearsK us ws))),none,none,none,none,none,none,none] ∧ Same H9 H') (fun R hR => ?_) ?_
  · refine ⟨_,rfl,_,rfl,a,_,rfl,.inl (SqL.of (s79 _ _ a7)),_,rfl,c,_,rfl,.inl (SqL.of (s79 _ _ c7)),_,rfl,_,rfl,s,a,c,b,ks,us,ws,_,_,rfl,(by rw [List.length_map]),(by rw [List.length_map]),shopS s79 sh7,k8,gk,wa7.same s79,wc7.same s79,fun H2 s2 => hR _ _ ⟨rfl,s2⟩⟩
  rintro _ Ha ⟨rfl,s9a⟩
  have s6a := (s67.trans s79).trans s9a
  have pta := pt6.same s6a
  have bta := b6.trans (sBut s6a)
  have aa := s6a _ _ a6
  have ca := s6a _ _ c6
  have ka := s6a _ _ kl6
  have tpa : Tups Ha rs ks := Tups.keep (fun c xs e => s6a _ _ e) tp
  have wla := s9a _ _ (s89 _ _ wl8)
  clear s6a s9a s79 s89 s78 s67 wl8 wa7 wc7 a7 c7 sh7 a6 c6 kl6 tp pt6 b6
  refine seqCut (fun σ' H' => (∃ v9 v10 v11 v12 v13 v14 v15,σ' = [some (.ref p),some (.ref a),some (.ref c),some (.int b),some (.ref kl),some (.ref s),some (.ref wl),some (.int L),some (.bl (ks.all (bearsK us ws))),v9,v10,v11,v12,v13,v14,v15]) ∧ But p Ha H') (fun R hR => ?_) ?_
  · refine ⟨_,rfl,by decide,by decide,?_⟩
    refine for_range (lo := 0) (n := 3) (fun i σ' H' => (∃ v9 v10 v11 v12 v13 v14 v15,σ' = [some (.ref p),some (.ref a),some (.ref c),some (.int b),some (.ref kl),some (.ref s),some (.ref wl),some (.int L),some (.bl (ks.all (bearsK us ws))),v9,v10,v11,v12,v13,v14,v15]) ∧ PotB H' p ∧ But p Ha H') ⟨⟨_,_,_,_,_,_,_,rfl⟩,pta,But.refl⟩ ?_ (fun σ' H' ⟨e,_,bx⟩ => hR _ _ ⟨e,bx⟩)
    rintro i _ Hb hi ⟨⟨v9,v10,v11,v12,v13,v14,v15,rfl⟩,ptb,bb⟩
    refine ⟨_,rfl,_,rfl,_,rfl,_,rfl,a,_,rfl,.inl (SqL.of (bb _ _ nap aa)),_,rfl,c,_,rfl,.inl (SqL.of (bb _ _ ncp ca)),p,kl,rs,ks,b,_,_,rfl,nkp,bb _ _ nkp ka,tupsBut bb pta tpa,gk,r8,b0,(by rw [List.length_map]; omega),(by rw [List.length_map]; omega),(by rw [List.length_map]; omega),(by rw [List.length_map]; omega),ptb,fun cl cs Hc hcl ncl hc cut ptc bc => ?_⟩
    rw [List.length_map,List.length_map] at cut
    obtain ⟨cl1,cl2⟩ := cut_load b0 gk gu gw cut
    rw [hL] at cl1 cl2
    have cln := cut.len
    have bac := bb.trans bc
    have hka := bac _ _ nkp ka
    have hwa := bac _ _ nwp wla
    have tpc := tupsBut bac pta tpa
    have kmap : ((ks.map (kwt us ws)).map oV).length = ks.length := by rw [List.length_map,List.length_map]
    refine ⟨_,rfl,_,rfl,_,rfl,cl,wl,kl,_,_,_,rfl,hc,hwa,hka,for_zip3 (xs := cs.map V.int) (ys := (ks.map (kwt us ws)).map oV) (zs := rs) (fun j σ Hx => (∃ v13 v14 v15,σ = [some (.ref p),some (.ref a),some (.ref c),some (.int b),some (.ref kl),some (.ref s),some (.ref wl),some (.int L),some (.bl (ks.all (bearsK us ws))),some (.int (0 + (i : Int))),some (.ref cl),some (.int (wsum (vK us ws ks) 0 (cs.take j))),some (.int (wsum (wK ks) 0 (cs.take j))),v13,v14,v15]) ∧ Same Hc Hx) (by rw [kmap,List.length_map,cln]) (by rw [List.length_map,cln,len]) ⟨⟨_,_,_,rfl⟩,Same.refl _⟩ (fun j σ Hx ⟨_,sx⟩ => ⟨sx _ _ hc,sx _ _ hwa,sx _ _ hka⟩) ?_ ?_⟩
    · rintro j x y w1 pp σ Hx hx hy hw hp ⟨⟨v13,v14,v15,rfl⟩,sx⟩
      obtain ⟨k,hk',kad,rfl,hkad⟩ := Paired.getR tpc hw
      rw [List.getElem?_map,List.getElem?_map,hk'] at hy
      cases hy
      rw [List.getElem?_map] at hx
      cases ec : cs[j]? with
      | none => rw [ec] at hx; cases hx
      | some cc =>
        rw [ec] at hx
        cases hx
        have s5 := sx.trans (Same.new hp (o := .tup [.int cc,oV (kwt us ws k),.ref kad]))
        have p5 : (upd Hx pp (.tup [.int cc,oV (kwt us ws k),.ref kad])) pp = some (.tup [.int cc,oV (kwt us ws k),.ref kad]) := upd_same
        generalize upd Hx pp (.tup [.int cc,oV (kwt us ws k),.ref kad]) = Hy at s5 p5 ⊢
        have jl : (cs.take j).length = j := by
          rw [List.length_take]
          have := (List.getElem?_eq_some_iff.mp ec).1
          omega
        have tk : cs.take (j + 1) = cs.take j ++ [cc] := by rw [List.take_add_one,ec]; rfl
        have sv := wsum_snoc (vK us ws ks) cc (cs.take j) 0
        have sw := wsum_snoc (wK ks) cc (cs.take j) 0
        rw [← tk,jl,Nat.zero_add] at sv sw
        rw [vK_at hk'] at sv
        rw [wK_at hk'] at sw
        have cr := cut.rng cc (List.mem_of_getElem? ec)
        have g := gk k (List.mem_of_getElem? hk')
        refine ⟨pp,_,rfl,SqT.of p5,rfl,_,_,rfl,_,_,rfl,_,_,rfl,rfl,?_⟩
        refine ⟨_,rfl,_,_,rfl,rfl,_,rfl,?_⟩
        by_cases c0 : 0 < cc
        · rw [decide_eq_true c0]
          refine iteT ⟨_,rfl,rfl,_,rfl,?_⟩
          obtain ⟨k',t',hk2,ht',hf'⟩ := cut.fit j cc ec c0
          rw [hk'] at hk2
          cases hk2
          obtain ⟨x,e,_⟩ := kwt_le ht' hf'
          obtain ⟨x0,x1⟩ := kwt_in g gu gw e
          have w1' := g.wo'
          have w0' := g.wo
          have q1 : (10 : Nat) ^ 60 < 2 ^ 4096 := by decide +kernel
          have q2 : (10 : Nat) ^ 116 < 2 ^ 4096 := by decide +kernel
          rw [e] at sv ⊢
          refine iteF ⟨_,rfl,_,_,rfl,rfl,_,rfl,?_⟩
          rw [decide_eq_true c0]
          refine iteT ⟨_,rfl,_,rfl,_,rfl,_,_,rfl,rfl,⟨by omega,by omega⟩,_,_,rfl,rfl,?_⟩
          refine ⟨_,rfl,_,rfl,_,rfl,kad,_,2,_,rfl,rfl,SqT.of (s5 _ _ hkad),rfl,_,_,rfl,rfl,⟨by omega,by omega⟩,_,_,rfl,rfl,?_⟩
          refine ⟨⟨some (.int cc),some (.int x),some (.ref kad),?_⟩,s5⟩
          rw [sv,sw]
          rfl
        · have z : cc = 0 := by omega
          subst z
          rw [decide_eq_false c0]
          refine iteF ⟨_,rfl,_,_,rfl,rfl,_,rfl,?_⟩
          rw [decide_eq_false c0]
          refine iteF ⟨⟨some (.int 0),some (oV (kwt us ws k)),some (.ref kad),?_⟩,s5⟩
          rw [sv,sw,Int.zero_mul,Int.zero_mul,Int.add_zero,Int.add_zero]
          rfl
    · rintro σ Hx ⟨⟨v13,v14,v15,rfl⟩,sx⟩
      rw [List.length_map,List.take_length]
      refine ⟨_,rfl,_,rfl,_,_,rfl,rfl,_,rfl,?_⟩
      rw [decide_eq_false (show ¬ L < wsum (vK us ws ks) 0 cs by omega)]
      refine iteF ⟨_,rfl,rfl,_,rfl,_,rfl,?_⟩
      cases eb : ks.all (bearsK us ws) with
      | false => exact iteF ⟨⟨_,_,_,_,_,_,_,rfl⟩,ptc.same sx,bac.trans (sBut sx)⟩
      | true =>
        have := cl2 eb
        refine iteT ⟨_,rfl,_,rfl,_,_,rfl,rfl,_,rfl,?_⟩
        rw [decide_eq_false (show ¬ L < wsum (wK ks) 0 cs by omega)]
        exact iteF ⟨⟨_,_,_,_,_,_,_,rfl⟩,ptc.same sx,bac.trans (sBut sx)⟩
  · rintro _ Hb ⟨⟨v9,v10,v11,v12,v13,v14,v15,rfl⟩,bb⟩
    exact ⟨_,rfl,.bl _,_,_,_,_,rfl,(Ty.bl (K := K) (H := Hb)).2,rfl,kit_bool "bool" (by simp [tyNames]),q _ (bta.trans bb)⟩
theorem sclaw : FnScope ["_law_script","_law_k"] ["_law_script"] (defScope sLaw) := ⟨rfl,rfl,rfl,by decide +kernel,rfl,by decide +kernel,by decide +kernel⟩
theorem ok_law {f : Addr} {fd : FuncData} (F : Fun K "law" "law" sLaw f fd) (B : Blt mg) (DC : Dn P w K mg base "_law_cell" ["_law_script","_law_k"] 1 (spCell K)) (DPo : Dn P w K mg base "_law_pot" ["_law_cell_here"] 1 spPotB) (DRi : Dn P w K mg base "_law_right" ["_law_pot_here"] 8 spRight) : FnOk P w K mg base CX0 9 f fd ["_law_script"] (spLaw K) := by
  refine F.ok sclaw (fun vs H Q E h => ?_) (fun cdv A outer s H vs Q E hr h => ?_)
  · obtain ⟨a,ns,rfl,_⟩ := h
    rfl
  obtain ⟨a,ns,rfl,hS,h63,q⟩ := h
  have nd := sclaw.nd
  have hr1 := hr.mono (show 1 ≤ 8 by decide)
  refine ⟨_,(@pss_cons _ _ _ _ _ (@ps_for _ _ _ _ _ _ _ _ PassesOwn.never rfl (pi_range1 rfl B.range (@pa_cons _ _ _ _ _ (@pe_op _ _ _ _ _ _ _ _ op_add (@pe_callB _ _ _ _ _ _ _ _ _ (call_min2 rfl) rfl B.min PyProof.Rows.boot_min (@pa_cons _ _ _ _ _ (@pe_callB _ _ _ _ _ _ _ _ _ call_len_seq rfl B.len PySem.boot_len (@pa_cons _ _ _ _ _ (pv 0) pa_nil rfl) (by decide) (by decide) rfl rfl) (@pa_cons _ _ _ _ _ pe_int pa_nil rfl) rfl) (by decide) (by decide) rfl rfl) pe_int) pa_nil rfl)) (pg_name (i := 1) nd rfl (Or.inl rfl)) (@pss_one _ _ _ (@ps_if _ _ _ _ _ _ _ _ (@pt_not _ _ _ _ (@pt_val _ _ _ (@pe_cD _ _ _ _ _ _ _ _ _ _ DRi hr rfl (@pa_cons _ _ _ _ _ (@pe_cD _ _ _ _ _ _ _ _ _ _ DPo hr1 rfl (@pa_cons _ _ _ _ _ (@pe_cD _ _ _ _ _ _ _ _ _ _ DC hr1 rfl (@pa_cons _ _ _ _ _ (pv 0) (@pa_cons _ _ _ _ _ (pv 1) pa_nil rfl) rfl) (by decide) rfl rfl) pa_nil rfl) (by decide) rfl rfl) pa_nil rfl) (by decide) rfl rfl) (by intro _; rfl))) (@pss_one _ _ _ (@ps_ret _ _ _ _ pe_bl)) pss_nil)) (by intro _; rfl)) (@pss_one _ _ _ (@ps_ret _ _ _ _ pe_bl))),?_⟩
  have ln : (ns.map V.int).length = ns.length := List.length_map _
  refine ⟨_,rfl,a,_,rfl,.inl hS,_,_,rfl,_,_,rfl,rfl,_,rfl,?_,?_,?_⟩
  · rw [ln]; split <;> omega
  · rw [ln]; split <;> omega
  generalize hn : (Int.toNat _) = n
  refine for_range (n := n) (fun i σ H' => ∃ v1,σ = [some (.ref a),v1] ∧ Same H H') ⟨_,rfl,Same.refl _⟩ ?_ ?_
  · rintro i σ Ha hi ⟨v1,rfl,sa⟩
    refine ⟨_,rfl,_,rfl,a,ns,_,rfl,sa.seq hS,by omega,fun c => ⟨c,rfl,fun p Hb hp ptb sb => ⟨p,rfl,ptb,fun Hc bc => ⟨_,rfl,iteF ?_⟩⟩⟩⟩
    exact ⟨_,rfl,sa.trans (But.same ((Pc.Same.but sb).trans bc) hp)⟩
  · rintro σ Ha ⟨v1,rfl,sa⟩
    exact q _
end
theorem len1 {α : Type} {us : List α} (h : us.length = 1) : ∃ a,us = [a] := by
  match us,h with
  | [a],_ => exact ⟨a,rfl⟩
theorem len2 {α : Type} {us : List α} (h : us.length = 2) : ∃ a b,us = [a,b] := by
  match us,h with
  | [a,b],_ => exact ⟨a,b,rfl⟩
theorem len3 {α : Type} {us : List α} (h : us.length = 3) : ∃ a b c,us = [a,b,c] := by
  match us,h with
  | [a,b,c],_ => exact ⟨a,b,c,rfl⟩
theorem len4 {α : Type} {us : List α} (h : us.length = 4) : ∃ a b c d,us = [a,b,c,d] := by
  match us,h with
  | [a,b,c,d],_ => exact ⟨a,b,c,d,rfl⟩
theorem len5 {α : Type} {us : List α} (h : us.length = 5) : ∃ a b c d e,us = [a,b,c,d,e] := by
  match us,h with
  | [a,b,c,d,e],_ => exact ⟨a,b,c,d,e,rfl⟩
theorem len7 {α : Type} {us : List α} (h : us.length = 7) : ∃ a b c d e f g,us = [a,b,c,d,e,f,g] := by
  match us,h with
  | [a,b,c,d,e,f,g],_ => exact ⟨a,b,c,d,e,f,g,rfl⟩
open PySem.W in
theorem all_mk {l : OpenLaw} {w : World} {K : Frag} {h : Heap} {mg : Str → Option Value} {fa f0 f1 f2 f3 f4 f5 f6 f7 f8 f9 f10 f11 f12 f13 f14 f15 f16 f17 f18 f19 f20 f21 f22 f23 f24 f25 f26 f27 f28 f29 f30 f31 f32 f33 C fm0 fm1 fm2 fm3 fm4 fm5 fm6 xNoLying : Addr} (X : K.In h) (G : h.Ns mainGlobals mg) (hfa : mg "law" = some (.ref fa))
    {od0 an0 : Option Addr} {sl0 : Array (Option Value)} {oc0 kV0 dc0 pm0 cd0 ct0 : Value} {od1 an1 : Option Addr} {sl1 : Array (Option Value)} {oc1 kV1 dc1 pm1 cd1 ct1 : Value} {od2 an2 : Option Addr} {sl2 : Array (Option Value)} {oc2 kV2 dc2 pm2 cd2 ct2 : Value} {od3 an3 : Option Addr} {sl3 : Array (Option Value)} {oc3 kV3 dc3 pm3 cd3 ct3 : Value} {od4 an4 : Option Addr} {sl4 : Array (Option Value)} {oc4 kV4 dc4 pm4 cd4 ct4 : Value} {od5 an5 : Option Addr} {sl5 : Array (Option Value)} {oc5 kV5 dc5 pm5 cd5 ct5 : Value} {od6 an6 : Option Addr} {sl6 : Array (Option Value)} {oc6 kV6 dc6 pm6 cd6 ct6 : Value} {od7 an7 : Option Addr} {sl7 : Array (Option Value)} {oc7 kV7 dc7 pm7 cd7 ct7 : Value} {od8 an8 : Option Addr} {sl8 : Array (Option Value)} {oc8 kV8 dc8 pm8 cd8 ct8 : Value} {od9 an9 : Option Addr} {sl9 : Array (Option Value)} {oc9 kV9 dc9 pm9 cd9 ct9 : Value} {od10 an10 : Option Addr} {sl10 : Array (Option Value)} {oc10 kV10 dc10 pm10 cd10 ct10 : Value} {od11 an11 : Option Addr} {sl11 : Array (Option Value)} {oc11 kV11 dc11 pm11 cd11 ct11 : Value} {od12 an12 : Option Addr} {sl12 : Array (Option Value)} {oc12 kV12 dc12 pm12 cd12 ct12 : Value} {od13 an13 : Option Addr} {sl13 : Array (Option Value)} {oc13 kV13 dc13 pm13 cd13 ct13 : Value} {od14 an14 : Option Addr} {sl14 : Array (Option Value)} {oc14 kV14 dc14 pm14 cd14 ct14 : Value} {od15 an15 : Option Addr} {sl15 : Array (Option Value)} {oc15 kV15 dc15 pm15 cd15 ct15 : Value} {od16 an16 : Option Addr} {sl16 : Array (Option Value)} {oc16 kV16 dc16 pm16 cd16 ct16 : Value} {od17 an17 : Option Addr} {sl17 : Array (Option Value)} {oc17 kV17 dc17 pm17 cd17 ct17 : Value} {od18 an18 : Option Addr} {sl18 : Array (Option Value)} {oc18 kV18 dc18 pm18 cd18 ct18 : Value} {od19 an19 : Option Addr} {sl19 : Array (Option Value)} {oc19 kV19 dc19 pm19 cd19 ct19 : Value} {od20 an20 : Option Addr} {sl20 : Array (Option Value)} {oc20 kV20 dc20 pm20 cd20 ct20 : Value} {od21 an21 : Option Addr} {sl21 : Array (Option Value)} {oc21 kV21 dc21 pm21 cd21 ct21 : Value} {od22 an22 : Option Addr} {sl22 : Array (Option Value)} {oc22 kV22 dc22 pm22 cd22 ct22 : Value} {od23 an23 : Option Addr} {sl23 : Array (Option Value)} {oc23 kV23 dc23 pm23 cd23 ct23 : Value} {od24 an24 : Option Addr} {sl24 : Array (Option Value)} {oc24 kV24 dc24 pm24 cd24 ct24 : Value} {od25 an25 : Option Addr} {sl25 : Array (Option Value)} {oc25 kV25 dc25 pm25 cd25 ct25 : Value} {od26 an26 : Option Addr} {sl26 : Array (Option Value)} {oc26 kV26 dc26 pm26 cd26 ct26 : Value} {od27 an27 : Option Addr} {sl27 : Array (Option Value)} {oc27 kV27 dc27 pm27 cd27 ct27 : Value} {od28 an28 : Option Addr} {sl28 : Array (Option Value)} {oc28 kV28 dc28 pm28 cd28 ct28 : Value} {od29 an29 : Option Addr} {sl29 : Array (Option Value)} {oc29 kV29 dc29 pm29 cd29 ct29 : Value} {od30 an30 : Option Addr} {sl30 : Array (Option Value)} {oc30 kV30 dc30 pm30 cd30 ct30 : Value} {od31 an31 : Option Addr} {sl31 : Array (Option Value)} {oc31 kV31 dc31 pm31 cd31 ct31 : Value} {od32 an32 : Option Addr} {sl32 : Array (Option Value)} {oc32 kV32 dc32 pm32 cd32 ct32 : Value} {od33 an33 : Option Addr} {sl33 : Array (Option Value)} {oc33 kV33 dc33 pm33 cd33 ct33 : Value} {odm0 anm0 : Option Addr} {slm0 : Array (Option Value)} {ocm0 kVm0 dcm0 pmm0 cdm0 ctm0 : Value} {odm1 anm1 : Option Addr} {slm1 : Array (Option Value)} {ocm1 kVm1 dcm1 pmm1 cdm1 ctm1 : Value} {odm2 anm2 : Option Addr} {slm2 : Array (Option Value)} {ocm2 kVm2 dcm2 pmm2 cdm2 ctm2 : Value} {odm3 anm3 : Option Addr} {slm3 : Array (Option Value)} {ocm3 kVm3 dcm3 pmm3 cdm3 ctm3 : Value} {odm4 anm4 : Option Addr} {slm4 : Array (Option Value)} {ocm4 kVm4 dcm4 pmm4 cdm4 ctm4 : Value} {odm5 anm5 : Option Addr} {slm5 : Array (Option Value)} {ocm5 kVm5 dcm5 pmm5 cdm5 ctm5 : Value} {odm6 anm6 : Option Addr} {slm6 : Array (Option Value)} {ocm6 kVm6 dcm6 pmm6 cdm6 ctm6 : Value} {tc0 : Tok} {tc1 : Tok} {tc2 : Tok} {tc3 : Tok}
    (a0 : nsIn K mainGlobals "is_whole" = some (some (.ref f0)))
    (l0 : K.lookup f0 = some ⟨oc0,od0,.func (fnOf "is_whole" "is_whole" (defArgs sWhole) (defBody sWhole) (defScope sWhole) .none kV0 dc0 pm0 an0 cd0 ct0),sl0⟩)
    (c0 : codeIn K cd0 "is_whole" = true)
    (k0 : keepIn K (.ref f0) = true)
    (a1 : nsIn K mainGlobals "is_truth" = some (some (.ref f1)))
    (l1 : K.lookup f1 = some ⟨oc1,od1,.func (fnOf "is_truth" "is_truth" (defArgs sTruth) (defBody sTruth) (defScope sTruth) .none kV1 dc1 pm1 an1 cd1 ct1),sl1⟩)
    (c1 : codeIn K cd1 "is_truth" = true)
    (k1 : keepIn K (.ref f1) = true)
    (a2 : nsIn K mainGlobals "is_row" = some (some (.ref f2)))
    (l2 : K.lookup f2 = some ⟨oc2,od2,.func (fnOf "is_row" "is_row" (defArgs sRow) (defBody sRow) (defScope sRow) .none kV2 dc2 pm2 an2 cd2 ct2),sl2⟩)
    (c2 : codeIn K cd2 "is_row" = true)
    (k2 : keepIn K (.ref f2) = true)
    (a3 : nsIn K mainGlobals "is_kind" = some (some (.ref f3)))
    (l3 : K.lookup f3 = some ⟨oc3,od3,.func (fnOf "is_kind" "is_kind" (defArgs sIsKind) (defBody sIsKind) (defScope sIsKind) .none kV3 dc3 pm3 an3 cd3 ct3),sl3⟩)
    (c3 : codeIn K cd3 "is_kind" = true)
    (k3 : keepIn K (.ref f3) = true)
    (a4 : nsIn K mainGlobals "can_lie_turned" = some (some (.ref f4)))
    (l4 : K.lookup f4 = some ⟨oc4,od4,.func (fnOf "can_lie_turned" "can_lie_turned" (defArgs sTurned) (defBody sTurned) (defScope sTurned) .none kV4 dc4 pm4 an4 cd4 ct4),sl4⟩)
    (c4 : codeIn K cd4 "can_lie_turned" = true)
    (k4 : keepIn K (.ref f4) = true)
    (a5 : nsIn K mainGlobals "is_weights" = some (some (.ref f5)))
    (l5 : K.lookup f5 = some ⟨oc5,od5,.func (fnOf "is_weights" "is_weights" (defArgs sIsWeights) (defBody sIsWeights) (defScope sIsWeights) .none kV5 dc5 pm5 an5 cd5 ct5),sl5⟩)
    (c5 : codeIn K cd5 "is_weights" = true)
    (k5 : keepIn K (.ref f5) = true)
    (a6 : nsIn K mainGlobals "best_length" = some (some (.ref f6)))
    (l6 : K.lookup f6 = some ⟨oc6,od6,.func (fnOf "best_length" "best_length" (defArgs sBestLength) (defBody sBestLength) (defScope sBestLength) .none kV6 dc6 pm6 an6 cd6 ct6),sl6⟩)
    (c6 : codeIn K cd6 "best_length" = true)
    (k6 : keepIn K (.ref f6) = true)
    (a7 : nsIn K mainGlobals "lengths_by_steps" = some (some (.ref f7)))
    (l7 : K.lookup f7 = some ⟨oc7,od7,.func (fnOf "lengths_by_steps" "lengths_by_steps" (defArgs sLengthsBySteps) (defBody sLengthsBySteps) (defScope sLengthsBySteps) .none kV7 dc7 pm7 an7 cd7 ct7),sl7⟩)
    (c7 : codeIn K cd7 "lengths_by_steps" = true)
    (k7 : keepIn K (.ref f7) = true)
    (a8 : nsIn K mainGlobals "load_of" = some (some (.ref f8)))
    (l8 : K.lookup f8 = some ⟨oc8,od8,.func (fnOf "load_of" "load_of" (defArgs sLoadOf) (defBody sLoadOf) (defScope sLoadOf) .none kV8 dc8 pm8 an8 cd8 ct8),sl8⟩)
    (c8 : codeIn K cd8 "load_of" = true)
    (k8 : keepIn K (.ref f8) = true)
    (a9 : nsIn K mainGlobals "check_plate" = some (some (.ref f9)))
    (l9 : K.lookup f9 = some ⟨oc9,od9,.func (fnOf "check_plate" "check_plate" (defArgs sCheckPlate) (defBody sCheckPlate) (defScope sCheckPlate) .none kV9 dc9 pm9 an9 cd9 ct9),sl9⟩)
    (c9 : codeIn K cd9 "check_plate" = true)
    (k9 : keepIn K (.ref f9) = true)
    (a10 : nsIn K mainGlobals "check_sides" = some (some (.ref f10)))
    (l10 : K.lookup f10 = some ⟨oc10,od10,.func (fnOf "check_sides" "check_sides" (defArgs sCheckSides) (defBody sCheckSides) (defScope sCheckSides) .none kV10 dc10 pm10 an10 cd10 ct10),sl10⟩)
    (c10 : codeIn K cd10 "check_sides" = true)
    (k10 : keepIn K (.ref f10) = true)
    (a11 : nsIn K mainGlobals "lies_in" = some (some (.ref f11)))
    (l11 : K.lookup f11 = some ⟨oc11,od11,.func (fnOf "lies_in" "lies_in" (defArgs sLiesIn) (defBody sLiesIn) (defScope sLiesIn) .none kV11 dc11 pm11 an11 cd11 ct11),sl11⟩)
    (c11 : codeIn K cd11 "lies_in" = true)
    (k11 : keepIn K (.ref f11) = true)
    (a12 : nsIn K mainGlobals "lyings_in" = some (some (.ref f12)))
    (l12 : K.lookup f12 = some ⟨oc12,od12,.func (fnOf "lyings_in" "lyings_in" (defArgs sLyingsIn) (defBody sLyingsIn) (defScope sLyingsIn) .none kV12 dc12 pm12 an12 cd12 ct12),sl12⟩)
    (c12 : codeIn K cd12 "lyings_in" = true)
    (k12 : keepIn K (.ref f12) = true)
    (a13 : nsIn K mainGlobals "check_weights" = some (some (.ref f13)))
    (l13 : K.lookup f13 = some ⟨oc13,od13,.func (fnOf "check_weights" "check_weights" (defArgs sCheckWeights) (defBody sCheckWeights) (defScope sCheckWeights) .none kV13 dc13 pm13 an13 cd13 ct13),sl13⟩)
    (c13 : codeIn K cd13 "check_weights" = true)
    (k13 : keepIn K (.ref f13) = true)
    (a14 : nsIn K mainGlobals "kind_weights" = some (some (.ref f14)))
    (l14 : K.lookup f14 = some ⟨oc14,od14,.func (fnOf "kind_weights" "kind_weights" (defArgs sKindWeights) (defBody sKindWeights) (defScope sKindWeights) .none kV14 dc14 pm14 an14 cd14 ct14),sl14⟩)
    (c14 : codeIn K cd14 "kind_weights" = true)
    (k14 : keepIn K (.ref f14) = true)
    (a15 : nsIn K mainGlobals "plate_load" = some (some (.ref f15)))
    (l15 : K.lookup f15 = some ⟨oc15,od15,.func (fnOf "plate_load" "plate_load" (defArgs sPlateLoad) (defBody sPlateLoad) (defScope sPlateLoad) .none kV15 dc15 pm15 an15 cd15 ct15),sl15⟩)
    (c15 : codeIn K cd15 "plate_load" = true)
    (k15 : keepIn K (.ref f15) = true)
    (a16 : nsIn K mainGlobals "bears_worth" = some (some (.ref f16)))
    (l16 : K.lookup f16 = some ⟨oc16,od16,.func (fnOf "bears_worth" "bears_worth" (defArgs sBearsWorth) (defBody sBearsWorth) (defScope sBearsWorth) .none kV16 dc16 pm16 an16 cd16 ct16),sl16⟩)
    (c16 : codeIn K cd16 "bears_worth" = true)
    (k16 : keepIn K (.ref f16) = true)
    (a17 : nsIn K mainGlobals "_law_cell" = some (some (.ref f17)))
    (l17 : K.lookup f17 = some ⟨oc17,od17,.func (fnOf "_law_cell" "_law_cell" (defArgs sCell) (defBody sCell) (defScope sCell) .none kV17 dc17 pm17 an17 cd17 ct17),sl17⟩)
    (c17 : codeIn K cd17 "_law_cell" = true)
    (k17 : keepIn K (.ref f17) = true)
    (a18 : nsIn K mainGlobals "_law_pot" = some (some (.ref f18)))
    (l18 : K.lookup f18 = some ⟨oc18,od18,.func (fnOf "_law_pot" "_law_pot" (defArgs sPot) (defBody sPot) (defScope sPot) .none kV18 dc18 pm18 an18 cd18 ct18),sl18⟩)
    (c18 : codeIn K cd18 "_law_pot" = true)
    (k18 : keepIn K (.ref f18) = true)
    (a19 : nsIn K mainGlobals "_law_draw" = some (some (.ref f19)))
    (l19 : K.lookup f19 = some ⟨oc19,od19,.func (fnOf "_law_draw" "_law_draw" (defArgs sDraw) (defBody sDraw) (defScope sDraw) .none kV19 dc19 pm19 an19 cd19 ct19),sl19⟩)
    (c19 : codeIn K cd19 "_law_draw" = true)
    (k19 : keepIn K (.ref f19) = true)
    (a20 : nsIn K mainGlobals "_law_great" = some (some (.ref f20)))
    (l20 : K.lookup f20 = some ⟨oc20,od20,.func (fnOf "_law_great" "_law_great" (defArgs sGreat) (defBody sGreat) (defScope sGreat) .none kV20 dc20 pm20 an20 cd20 ct20),sl20⟩)
    (c20 : codeIn K cd20 "_law_great" = true)
    (k20 : keepIn K (.ref f20) = true)
    (a21 : nsIn K mainGlobals "_law_weights" = some (some (.ref f21)))
    (l21 : K.lookup f21 = some ⟨oc21,od21,.func (fnOf "_law_weights" "_law_weights" (defArgs sWeights) (defBody sWeights) (defScope sWeights) .none kV21 dc21 pm21 an21 cd21 ct21),sl21⟩)
    (c21 : codeIn K cd21 "_law_weights" = true)
    (k21 : keepIn K (.ref f21) = true)
    (a22 : nsIn K mainGlobals "_law_blade" = some (some (.ref f22)))
    (l22 : K.lookup f22 = some ⟨oc22,od22,.func (fnOf "_law_blade" "_law_blade" (defArgs sBlade) (defBody sBlade) (defScope sBlade) .none kV22 dc22 pm22 an22 cd22 ct22),sl22⟩)
    (c22 : codeIn K cd22 "_law_blade" = true)
    (k22 : keepIn K (.ref f22) = true)
    (a23 : nsIn K mainGlobals "_law_most" = some (some (.ref f23)))
    (l23 : K.lookup f23 = some ⟨oc23,od23,.func (fnOf "_law_most" "_law_most" (defArgs sMost) (defBody sMost) (defScope sMost) .none kV23 dc23 pm23 an23 cd23 ct23),sl23⟩)
    (c23 : codeIn K cd23 "_law_most" = true)
    (k23 : keepIn K (.ref f23) = true)
    (a24 : nsIn K mainGlobals "_law_side" = some (some (.ref f24)))
    (l24 : K.lookup f24 = some ⟨oc24,od24,.func (fnOf "_law_side" "_law_side" (defArgs sSide) (defBody sSide) (defScope sSide) .none kV24 dc24 pm24 an24 cd24 ct24),sl24⟩)
    (c24 : codeIn K cd24 "_law_side" = true)
    (k24 : keepIn K (.ref f24) = true)
    (a25 : nsIn K mainGlobals "_law_lain" = some (some (.ref f25)))
    (l25 : K.lookup f25 = some ⟨oc25,od25,.func (fnOf "_law_lain" "_law_lain" (defArgs sLain) (defBody sLain) (defScope sLain) .none kV25 dc25 pm25 an25 cd25 ct25),sl25⟩)
    (c25 : codeIn K cd25 "_law_lain" = true)
    (k25 : keepIn K (.ref f25) = true)
    (a26 : nsIn K mainGlobals "_law_weighed" = some (some (.ref f26)))
    (l26 : K.lookup f26 = some ⟨oc26,od26,.func (fnOf "_law_weighed" "_law_weighed" (defArgs sWeighed) (defBody sWeighed) (defScope sWeighed) .none kV26 dc26 pm26 an26 cd26 ct26),sl26⟩)
    (c26 : codeIn K cd26 "_law_weighed" = true)
    (k26 : keepIn K (.ref f26) = true)
    (a27 : nsIn K mainGlobals "_law_worth" = some (some (.ref f27)))
    (l27 : K.lookup f27 = some ⟨oc27,od27,.func (fnOf "_law_worth" "_law_worth" (defArgs sWorth) (defBody sWorth) (defScope sWorth) .none kV27 dc27 pm27 an27 cd27 ct27),sl27⟩)
    (c27 : codeIn K cd27 "_law_worth" = true)
    (k27 : keepIn K (.ref f27) = true)
    (a28 : nsIn K mainGlobals "_law_kinds" = some (some (.ref f28)))
    (l28 : K.lookup f28 = some ⟨oc28,od28,.func (fnOf "_law_kinds" "_law_kinds" (defArgs sKinds) (defBody sKinds) (defScope sKinds) .none kV28 dc28 pm28 an28 cd28 ct28),sl28⟩)
    (c28 : codeIn K cd28 "_law_kinds" = true)
    (k28 : keepIn K (.ref f28) = true)
    (a29 : nsIn K mainGlobals "_law_fitting" = some (some (.ref f29)))
    (l29 : K.lookup f29 = some ⟨oc29,od29,.func (fnOf "_law_fitting" "_law_fitting" (defArgs sFitting) (defBody sFitting) (defScope sFitting) .none kV29 dc29 pm29 an29 cd29 ct29),sl29⟩)
    (c29 : codeIn K cd29 "_law_fitting" = true)
    (k29 : keepIn K (.ref f29) = true)
    (a30 : nsIn K mainGlobals "_law_parts" = some (some (.ref f30)))
    (l30 : K.lookup f30 = some ⟨oc30,od30,.func (fnOf "_law_parts" "_law_parts" (defArgs sParts) (defBody sParts) (defScope sParts) .none kV30 dc30 pm30 an30 cd30 ct30),sl30⟩)
    (c30 : codeIn K cd30 "_law_parts" = true)
    (k30 : keepIn K (.ref f30) = true)
    (a31 : nsIn K mainGlobals "_law_counts" = some (some (.ref f31)))
    (l31 : K.lookup f31 = some ⟨oc31,od31,.func (fnOf "_law_counts" "_law_counts" (defArgs sCounts) (defBody sCounts) (defScope sCounts) .none kV31 dc31 pm31 an31 cd31 ct31),sl31⟩)
    (c31 : codeIn K cd31 "_law_counts" = true)
    (k31 : keepIn K (.ref f31) = true)
    (a32 : nsIn K mainGlobals "_law_right" = some (some (.ref f32)))
    (l32 : K.lookup f32 = some ⟨oc32,od32,.func (fnOf "_law_right" "_law_right" (defArgs sRight) (defBody sRight) (defScope sRight) .none kV32 dc32 pm32 an32 cd32 ct32),sl32⟩)
    (c32 : codeIn K cd32 "_law_right" = true)
    (k32 : keepIn K (.ref f32) = true)
    (a33 : nsIn K mainGlobals "law" = some (some (.ref f33)))
    (l33 : K.lookup f33 = some ⟨oc33,od33,.func (fnOf "law" "law" (defArgs sLaw) (defBody sLaw) (defScope sLaw) .none kV33 dc33 pm33 an33 cd33 ct33),sl33⟩)
    (c33 : codeIn K cd33 "law" = true)
    (k33 : keepIn K (.ref f33) = true)
    (aC : nsIn K mainGlobals "Shop" = some (some (.ref C)))
    (am0 : findIn K (.ref C) "__init__" = some (some (.ref fm0)))
    (im0 : isFn K (.ref fm0) = true)
    (lm0 : K.lookup fm0 = some ⟨ocm0,odm0,.func (fnOf "__init__" "Shop.__init__" (defArgs sShopInit) (defBody sShopInit) (defScope sShopInit) .none kVm0 dcm0 pmm0 anm0 cdm0 ctm0),slm0⟩)
    (cm0 : codeIn K cdm0 "Shop.__init__" = true)
    (km0 : keepIn K (.ref fm0) = true)
    (am1 : findIn K (.ref C) "blade" = some (some (.ref fm1)))
    (im1 : isFn K (.ref fm1) = true)
    (lm1 : K.lookup fm1 = some ⟨ocm1,odm1,.func (fnOf "blade" "Shop.blade" (defArgs sShopBlade) (defBody sShopBlade) (defScope sShopBlade) .none kVm1 dcm1 pmm1 anm1 cdm1 ctm1),slm1⟩)
    (cm1 : codeIn K cdm1 "Shop.blade" = true)
    (km1 : keepIn K (.ref fm1) = true)
    (am2 : findIn K (.ref C) "kinds" = some (some (.ref fm2)))
    (im2 : isFn K (.ref fm2) = true)
    (lm2 : K.lookup fm2 = some ⟨ocm2,odm2,.func (fnOf "kinds" "Shop.kinds" (defArgs sShopKinds) (defBody sShopKinds) (defScope sShopKinds) .none kVm2 dcm2 pmm2 anm2 cdm2 ctm2),slm2⟩)
    (cm2 : codeIn K cdm2 "Shop.kinds" = true)
    (km2 : keepIn K (.ref fm2) = true)
    (am3 : findIn K (.ref C) "wanted" = some (some (.ref fm3)))
    (im3 : isFn K (.ref fm3) = true)
    (lm3 : K.lookup fm3 = some ⟨ocm3,odm3,.func (fnOf "wanted" "Shop.wanted" (defArgs sShopWanted) (defBody sShopWanted) (defScope sShopWanted) .none kVm3 dcm3 pmm3 anm3 cdm3 ctm3),slm3⟩)
    (cm3 : codeIn K cdm3 "Shop.wanted" = true)
    (km3 : keepIn K (.ref fm3) = true)
    (am4 : findIn K (.ref C) "lyings" = some (some (.ref fm4)))
    (im4 : isFn K (.ref fm4) = true)
    (lm4 : K.lookup fm4 = some ⟨ocm4,odm4,.func (fnOf "lyings" "Shop.lyings" (defArgs sShopLyings) (defBody sShopLyings) (defScope sShopLyings) .none kVm4 dcm4 pmm4 anm4 cdm4 ctm4),slm4⟩)
    (cm4 : codeIn K cdm4 "Shop.lyings" = true)
    (km4 : keepIn K (.ref fm4) = true)
    (am5 : findIn K (.ref C) "is_lying" = some (some (.ref fm5)))
    (im5 : isFn K (.ref fm5) = true)
    (lm5 : K.lookup fm5 = some ⟨ocm5,odm5,.func (fnOf "is_lying" "Shop.is_lying" (defArgs sShopIsLying) (defBody sShopIsLying) (defScope sShopIsLying) .none kVm5 dcm5 pmm5 anm5 cdm5 ctm5),slm5⟩)
    (cm5 : codeIn K cdm5 "Shop.is_lying" = true)
    (km5 : keepIn K (.ref fm5) = true)
    (am6 : findIn K (.ref C) "sides" = some (some (.ref fm6)))
    (im6 : isFn K (.ref fm6) = true)
    (lm6 : K.lookup fm6 = some ⟨ocm6,odm6,.func (fnOf "sides" "Shop.sides" (defArgs sShopSides) (defBody sShopSides) (defScope sShopSides) .none kVm6 dcm6 pmm6 anm6 cdm6 ctm6),slm6⟩)
    (cm6 : codeIn K cdm6 "Shop.sides" = true)
    (km6 : keepIn K (.ref fm6) = true)
    (pg : plainGet K C Str.empty = true)
    (hd : hasDictIn K C = true)
    (po : plainOver K C = true)
    (sa : findIn K (.ref C) "__setattr__" = some (some (.builtin "object.__setattr__")))
    (mk : makesIn K C = true)
    (kc : keepIn K (.ref C) = true)
    (n0 : findIn K (.ref C) "blade_width" = some none)
    (n1 : findIn K (.ref C) "kind_rows" = some none)
    (eNoLying : nsIn K mainGlobals "NoLying" = some (some (.ref xNoLying)))
    (cNoLying : excIn K xNoLying L2.bmVE "ValueError.__new__" = true)
    (z0 : nsIn K mainGlobals "isinstance" = some none)
    (z1 : nsIn K mainGlobals "int" = some none)
    (z2 : nsIn K mainGlobals "bool" = some none)
    (z3 : nsIn K mainGlobals "list" = some none)
    (z4 : nsIn K mainGlobals "tuple" = some none)
    (z5 : nsIn K mainGlobals "len" = some none)
    (z6 : nsIn K mainGlobals "range" = some none)
    (z7 : nsIn K mainGlobals "max" = some none)
    (z8 : nsIn K mainGlobals "min" = some none)
    (z9 : nsIn K mainGlobals "abs" = some none)
    (z10 : nsIn K mainGlobals "divmod" = some none)
    (z11 : nsIn K mainGlobals "sum" = some none)
    (z12 : nsIn K mainGlobals "sorted" = some none)
    (z13 : nsIn K mainGlobals "all" = some none)
    (z14 : nsIn K mainGlobals "repr" = some none)
    (z15 : nsIn K mainGlobals "zip" = some none)
    (z16 : nsIn K mainGlobals "enumerate" = some none)
    (uc0 : nsIn K mainGlobals "MOST_KINDS" = some (some (.int 8 tc0)))
    (uc1 : nsIn K mainGlobals "THINGS_OF_A_KIND" = some (some (.int 5 tc1)))
    (uc2 : nsIn K mainGlobals "MOST_WEIGHTS" = some (some (.int 60 tc2)))
    (uc3 : nsIn K mainGlobals "MOST_SIDE" = some (some (.int 60 tc3))) :
    ∃ fd : FuncData,(∀ (s : Shared) (v : Value),BindsTo s fd ⟨[v],[]⟩ [("_law_script",v)]) ∧ ∀ base : Heap,K.In base → base.Ns mainGlobals mg → FnOk l.prog w K mg base CX0 9 fa fd ["_law_script"] (spLaw K) := by
  have e := hfa.symm.trans (mg_of X G a33)
  cases e
  have F0 := fun_mk (st := sWhole) l0 c0 k0
  have b0 := F0.binds (ps := ["thing","least"]) fun _ _ _ _ _ _ us hl => by obtain ⟨_,_,rfl⟩ := len2 hl; rfl
  have F1 := fun_mk (st := sTruth) l1 c1 k1
  have b1 := F1.binds (ps := ["thing"]) fun _ _ _ _ _ _ us hl => by obtain ⟨_,rfl⟩ := len1 hl; rfl
  have F2 := fun_mk (st := sRow) l2 c2 k2
  have b2 := F2.binds (ps := ["thing"]) fun _ _ _ _ _ _ us hl => by obtain ⟨_,rfl⟩ := len1 hl; rfl
  have F3 := fun_mk (st := sIsKind) l3 c3 k3
  have b3 := F3.binds (ps := ["thing"]) fun _ _ _ _ _ _ us hl => by obtain ⟨_,rfl⟩ := len1 hl; rfl
  have F4 := fun_mk (st := sTurned) l4 c4 k4
  have b4 := F4.binds (ps := ["kind"]) fun _ _ _ _ _ _ us hl => by obtain ⟨_,rfl⟩ := len1 hl; rfl
  have F5 := fun_mk (st := sIsWeights) l5 c5 k5
  have b5 := F5.binds (ps := ["thing"]) fun _ _ _ _ _ _ us hl => by obtain ⟨_,rfl⟩ := len1 hl; rfl
  have F6 := fun_mk (st := sBestLength) l6 c6 k6
  have b6 := F6.binds (ps := ["blade","weights","loads","side"]) fun _ _ _ _ _ _ us hl => by obtain ⟨_,_,_,_,rfl⟩ := len4 hl; rfl
  have F7 := fun_mk (st := sLengthsBySteps) l7 c7 k7
  have b7 := F7.binds (ps := ["blade","steps","side"]) fun _ _ _ _ _ _ us hl => by obtain ⟨_,_,_,rfl⟩ := len3 hl; rfl
  have F8 := fun_mk (st := sLoadOf) l8 c8 k8
  have b8 := F8.binds (ps := ["blade","weights","side"]) fun _ _ _ _ _ _ us hl => by obtain ⟨_,_,_,rfl⟩ := len3 hl; rfl
  have F9 := fun_mk (st := sCheckPlate) l9 c9 k9
  have b9 := F9.binds (ps := ["wide","high"]) fun _ _ _ _ _ _ us hl => by obtain ⟨_,_,rfl⟩ := len2 hl; rfl
  have F10 := fun_mk (st := sCheckSides) l10 c10 k10
  have b10 := F10.binds (ps := ["wide","high","most"]) fun _ _ _ _ _ _ us hl => by obtain ⟨_,_,_,rfl⟩ := len3 hl; rfl
  have F11 := fun_mk (st := sLiesIn) l11 c11 k11
  have b11 := F11.binds (ps := ["shop","wide","high","kind","turned","x","y"]) fun _ _ _ _ _ _ us hl => by obtain ⟨_,_,_,_,_,_,_,rfl⟩ := len7 hl; rfl
  have F12 := fun_mk (st := sLyingsIn) l12 c12 k12
  have b12 := F12.binds (ps := ["shop","part"]) fun _ _ _ _ _ _ us hl => by obtain ⟨_,_,rfl⟩ := len2 hl; rfl
  have F13 := fun_mk (st := sCheckWeights) l13 c13 k13
  have b13 := F13.binds (ps := ["wide","high","u","v"]) fun _ _ _ _ _ _ us hl => by obtain ⟨_,_,_,_,rfl⟩ := len4 hl; rfl
  have F14 := fun_mk (st := sKindWeights) l14 c14 k14
  have b14 := F14.binds (ps := ["shop","wide","high","u","v"]) fun _ _ _ _ _ _ us hl => by obtain ⟨_,_,_,_,_,rfl⟩ := len5 hl; rfl
  have F15 := fun_mk (st := sPlateLoad) l15 c15 k15
  have b15 := F15.binds (ps := ["shop","wide","high","u","v"]) fun _ _ _ _ _ _ us hl => by obtain ⟨_,_,_,_,_,rfl⟩ := len5 hl; rfl
  have F16 := fun_mk (st := sBearsWorth) l16 c16 k16
  have b16 := F16.binds (ps := ["shop","wide","high","u","v"]) fun _ _ _ _ _ _ us hl => by obtain ⟨_,_,_,_,_,rfl⟩ := len5 hl; rfl
  have F17 := fun_mk (st := sCell) l17 c17 k17
  have b17 := F17.binds (ps := ["_law_script","_law_k"]) fun _ _ _ _ _ _ us hl => by obtain ⟨_,_,rfl⟩ := len2 hl; rfl
  have F18 := fun_mk (st := sPot) l18 c18 k18
  have b18 := F18.binds (ps := ["_law_cell_here"]) fun _ _ _ _ _ _ us hl => by obtain ⟨_,rfl⟩ := len1 hl; rfl
  have F19 := fun_mk (st := sDraw) l19 c19 k19
  have b19 := F19.binds (ps := ["_law_pot_here","_law_many"]) fun _ _ _ _ _ _ us hl => by obtain ⟨_,_,rfl⟩ := len2 hl; rfl
  have F20 := fun_mk (st := sGreat) l20 c20 k20
  have b20 := F20.binds (ps := ["_law_pot_here"]) fun _ _ _ _ _ _ us hl => by obtain ⟨_,rfl⟩ := len1 hl; rfl
  have F21 := fun_mk (st := sWeights) l21 c21 k21
  have b21 := F21.binds (ps := ["_law_pot_here","_law_many"]) fun _ _ _ _ _ _ us hl => by obtain ⟨_,_,rfl⟩ := len2 hl; rfl
  have F22 := fun_mk (st := sBlade) l22 c22 k22
  have b22 := F22.binds (ps := ["_law_pot_here","_law_many"]) fun _ _ _ _ _ _ us hl => by obtain ⟨_,_,rfl⟩ := len2 hl; rfl
  have F23 := fun_mk (st := sMost) l23 c23 k23
  have b23 := F23.binds (ps := ["_law_pot_here"]) fun _ _ _ _ _ _ us hl => by obtain ⟨_,rfl⟩ := len1 hl; rfl
  have F24 := fun_mk (st := sSide) l24 c24 k24
  have b24 := F24.binds (ps := ["_law_pot_here","_law_most_here"]) fun _ _ _ _ _ _ us hl => by obtain ⟨_,_,rfl⟩ := len2 hl; rfl
  have F25 := fun_mk (st := sLain) l25 c25 k25
  have b25 := F25.binds (ps := ["_law_wide","_law_high","_law_turns"]) fun _ _ _ _ _ _ us hl => by obtain ⟨_,_,_,rfl⟩ := len3 hl; rfl
  have F26 := fun_mk (st := sWeighed) l26 c26 k26
  have b26 := F26.binds (ps := ["_law_size","_law_u","_law_v"]) fun _ _ _ _ _ _ us hl => by obtain ⟨_,_,_,rfl⟩ := len3 hl; rfl
  have F27 := fun_mk (st := sWorth) l27 c27 k27
  have b27 := F27.binds (ps := ["_law_pot_here","_law_weight"]) fun _ _ _ _ _ _ us hl => by obtain ⟨_,_,rfl⟩ := len2 hl; rfl
  have F28 := fun_mk (st := sKinds) l28 c28 k28
  have b28 := F28.binds (ps := ["_law_pot_here","_law_u","_law_v"]) fun _ _ _ _ _ _ us hl => by obtain ⟨_,_,_,rfl⟩ := len3 hl; rfl
  have F29 := fun_mk (st := sFitting) l29 c29 k29
  have b29 := F29.binds (ps := ["_law_kinds_here","_law_wide","_law_high"]) fun _ _ _ _ _ _ us hl => by obtain ⟨_,_,_,rfl⟩ := len3 hl; rfl
  have F30 := fun_mk (st := sParts) l30 c30 k30
  have b30 := F30.binds (ps := ["_law_pot_here","_law_blade_here","_law_wide","_law_high"]) fun _ _ _ _ _ _ us hl => by obtain ⟨_,_,_,_,rfl⟩ := len4 hl; rfl
  have F31 := fun_mk (st := sCounts) l31 c31 k31
  have b31 := F31.binds (ps := ["_law_pot_here","_law_blade_here","_law_kinds_here","_law_wide","_law_high"]) fun _ _ _ _ _ _ us hl => by obtain ⟨_,_,_,_,_,rfl⟩ := len5 hl; rfl
  have F32 := fun_mk (st := sRight) l32 c32 k32
  have b32 := F32.binds (ps := ["_law_pot_here"]) fun _ _ _ _ _ _ us hl => by obtain ⟨_,rfl⟩ := len1 hl; rfl
  have F33 := fun_mk (st := sLaw) l33 c33 k33
  have b33 := F33.binds (ps := ["_law_script"]) fun _ _ _ _ _ _ us hl => by obtain ⟨_,rfl⟩ := len1 hl; rfl
  have Fm0 := fun_mk (st := sShopInit) lm0 cm0 km0
  have bm0 := Fm0.binds (ps := ["self","blade","kinds"]) fun _ _ _ _ _ _ us hl => by obtain ⟨_,_,_,rfl⟩ := len3 hl; rfl
  have Fm1 := fun_mk (st := sShopBlade) lm1 cm1 km1
  have bm1 := Fm1.binds (ps := ["self"]) fun _ _ _ _ _ _ us hl => by obtain ⟨_,rfl⟩ := len1 hl; rfl
  have Fm2 := fun_mk (st := sShopKinds) lm2 cm2 km2
  have bm2 := Fm2.binds (ps := ["self"]) fun _ _ _ _ _ _ us hl => by obtain ⟨_,rfl⟩ := len1 hl; rfl
  have Fm3 := fun_mk (st := sShopWanted) lm3 cm3 km3
  have bm3 := Fm3.binds (ps := ["self"]) fun _ _ _ _ _ _ us hl => by obtain ⟨_,rfl⟩ := len1 hl; rfl
  have Fm4 := fun_mk (st := sShopLyings) lm4 cm4 km4
  have bm4 := Fm4.binds (ps := ["self"]) fun _ _ _ _ _ _ us hl => by obtain ⟨_,rfl⟩ := len1 hl; rfl
  have Fm5 := fun_mk (st := sShopIsLying) lm5 cm5 km5
  have bm5 := Fm5.binds (ps := ["self","kind","turned"]) fun _ _ _ _ _ _ us hl => by obtain ⟨_,_,_,rfl⟩ := len3 hl; rfl
  have Fm6 := fun_mk (st := sShopSides) lm6 cm6 km6
  have bm6 := Fm6.binds (ps := ["self","kind","turned"]) fun _ _ _ _ _ _ us hl => by obtain ⟨_,_,_,rfl⟩ := len3 hl; rfl
  have y0 := mg_none_of X G z0
  have y1 := mg_none_of X G z1
  have y2 := mg_none_of X G z2
  have y3 := mg_none_of X G z3
  have y4 := mg_none_of X G z4
  have y5 := mg_none_of X G z5
  have y6 := mg_none_of X G z6
  have y7 := mg_none_of X G z7
  have y8 := mg_none_of X G z8
  have y9 := mg_none_of X G z9
  have y10 := mg_none_of X G z10
  have y11 := mg_none_of X G z11
  have y12 := mg_none_of X G z12
  have y13 := mg_none_of X G z13
  have y14 := mg_none_of X G z14
  have y15 := mg_none_of X G z15
  have y16 := mg_none_of X G z16
  have gNoLying := mg_of X G eNoLying
  have u0 := mg_of X G uc0
  have u1 := mg_of X G uc1
  have u2 := mg_of X G uc2
  have u3 := mg_of X G uc3
  have q0 := mg_of X G a0
  have q1 := mg_of X G a1
  have q2 := mg_of X G a2
  have q3 := mg_of X G a3
  have q4 := mg_of X G a4
  have q5 := mg_of X G a5
  have q6 := mg_of X G a6
  have q7 := mg_of X G a7
  have q8 := mg_of X G a8
  have q9 := mg_of X G a9
  have q10 := mg_of X G a10
  have q11 := mg_of X G a11
  have q12 := mg_of X G a12
  have q13 := mg_of X G a13
  have q14 := mg_of X G a14
  have q15 := mg_of X G a15
  have q16 := mg_of X G a16
  have q17 := mg_of X G a17
  have q18 := mg_of X G a18
  have q19 := mg_of X G a19
  have q20 := mg_of X G a20
  have q21 := mg_of X G a21
  have q22 := mg_of X G a22
  have q23 := mg_of X G a23
  have q24 := mg_of X G a24
  have q25 := mg_of X G a25
  have q26 := mg_of X G a26
  have q27 := mg_of X G a27
  have q28 := mg_of X G a28
  have q29 := mg_of X G a29
  have q30 := mg_of X G a30
  have q31 := mg_of X G a31
  have q32 := mg_of X G a32
  have q33 := mg_of X G a33
  have qC := mg_of X G aC
  refine ⟨fnOf "law" "law" (defArgs sLaw) (defBody sLaw) (defScope sLaw) .none kV33 dc33 pm33 an33 cd33 ct33,fun s v => .of_eq rfl,fun base _ _ => ?_⟩
  have B : Blt mg := ⟨y0,y1,y2,y3,y4,y5,y6,y7,y8,y9,y10,y11,y12,y13,y14,y15,y16,⟨_,u0⟩,⟨_,u1⟩⟩
  have T : ShopTxt K C := ⟨⟨pg,hd,po,sa⟩,n0,n1⟩
  have D0 : Dn l.prog w K mg base "is_whole" ["thing","least"] 1 (spWhole K) := ⟨_,_,ok_whole F0 B,b0,k0,q0⟩
  have D1 : Dn l.prog w K mg base "is_truth" ["thing"] 1 (spTruth K) := ⟨_,_,ok_truth F1 B,b1,k1,q1⟩
  have D2 : Dn l.prog w K mg base "is_row" ["thing"] 1 (spRow K) := ⟨_,_,ok_row F2 B,b2,k2,q2⟩
  have D3 : Dn l.prog w K mg base "is_kind" ["thing"] 2 (spIsKind K) := ⟨_,_,ok_iskind F3 B D0 D1 D2,b3,k3,q3⟩
  have D4 : Dn l.prog w K mg base "can_lie_turned" ["kind"] 1 (spTurned K) := ⟨_,_,ok_turned F4,b4,k4,q4⟩
  have MB : Mn l.prog w K mg base C "blade" ["self"] 1 (spBlade C) := ⟨_,_,ok_blade Fm1 T,bm1,⟨am1,im1,km1⟩⟩
  have MK : Mn l.prog w K mg base C "kinds" ["self"] 1 (spKinds C) := ⟨_,_,ok_kinds Fm2 T y3,bm2,⟨am2,im2,km2⟩⟩
  have MW : Mn l.prog w K mg base C "wanted" ["self"] 1 (spWanted C) := ⟨_,_,ok_wanted Fm3 B T,bm3,⟨am3,im3,km3⟩⟩
  have ML : Mn l.prog w K mg base C "lyings" ["self"] 2 (spLyings C) := ⟨_,_,ok_lyings Fm4 T y16 D4,bm4,⟨am4,im4,km4⟩⟩
  have MI : Mn l.prog w K mg base C "is_lying" ["self","kind","turned"] 2 (spIsLying K C) := ⟨_,_,ok_islying Fm5 B T D0 D1 D4,bm5,⟨am5,im5,km5⟩⟩
  have MS : MnX l.prog w K mg base C "sides" ["self","kind","turned"] 3 (spSides K C xNoLying) := ⟨_,_,ok_sides Fm6 T MI gNoLying cNoLying,bm6,⟨am6,im6,km6⟩⟩
  have DS : Kn l.prog w K mg base "Shop" C ["self","blade","kinds"] 3 (spInit C) := ⟨_,_,⟨mk,am0,im0,kc⟩,ok_init Fm0 B T D0 D2 D3,bm0,qC⟩
  have D5 : Dn l.prog w K mg base "is_weights" ["thing"] 2 (spIsW K) := ⟨_,_,ok_isw F5 B ⟨_,u2⟩ D0 D2,b5,k5,q5⟩
  have D6 : Dn l.prog w K mg base "best_length" ["blade","weights","loads","side"] 1 (spBest K) := ⟨_,_,ok_best F6 B,b6,k6,q6⟩
  have D7 : Dn l.prog w K mg base "lengths_by_steps" ["blade","steps","side"] 1 (spLens) := ⟨_,_,ok_lens F7 B,b7,k7,q7⟩
  have D8 : Dn l.prog w K mg base "load_of" ["blade","weights","side"] 3 (spLoad K) := ⟨_,_,ok_load F8 B D0 D5 D6 D7,b8,k8,q8⟩
  have D9 : Dn l.prog w K mg base "check_plate" ["wide","high"] 2 (spCP) := ⟨_,_,ok_cplate F9 D0,b9,k9,q9⟩
  have D10 : Dn l.prog w K mg base "check_sides" ["wide","high","most"] 1 (spCS) := ⟨_,_,ok_csides F10,b10,k10,q10⟩
  have D11 : Dn l.prog w K mg base "lies_in" ["shop","wide","high","kind","turned","x","y"] 4 (spLies C) := ⟨_,_,ok_lies F11 T D0 MI MS,b11,k11,q11⟩
  have D12 : Dn l.prog w K mg base "lyings_in" ["shop","part"] 5 (spLyIn C) := ⟨_,_,ok_lyin F12 T ML D11,b12,k12,q12⟩
  have D13 : Dn l.prog w K mg base "check_weights" ["wide","high","u","v"] 3 (spCW) := ⟨_,_,ok_cweights F13 B ⟨_,u3⟩ D9 D10 D5,b13,k13,q13⟩
  have D14 : Dn l.prog w K mg base "kind_weights" ["shop","wide","high","u","v"] 6 (spKW C) := ⟨_,_,ok_kweights F14 B T D13 MK MS D12,b14,k14,q14⟩
  have D15 : Dn l.prog w K mg base "plate_load" ["shop","wide","high","u","v"] 4 (spPL C) := ⟨_,_,ok_pload F15 T D13 MB D8,b15,k15,q15⟩
  have D16 : Dn l.prog w K mg base "bears_worth" ["shop","wide","high","u","v"] 7 (spBW C) := ⟨_,_,ok_bears F16 B T D14 MK,b16,k16,q16⟩
  have D17 : Dn l.prog w K mg base "_law_cell" ["_law_script","_law_k"] 1 (spCell K) := ⟨_,_,ok_cell F17 B,b17,k17,q17⟩
  have D18 : Dn l.prog w K mg base "_law_pot" ["_law_cell_here"] 1 (spPotB) := ⟨_,_,ok_pot F18 B,b18,k18,q18⟩
  have D19 : Dn l.prog w K mg base "_law_draw" ["_law_pot_here","_law_many"] 1 (spDrawB) := ⟨_,_,ok_draw F19 B,b19,k19,q19⟩
  have D20 : Dn l.prog w K mg base "_law_great" ["_law_pot_here"] 2 (spGreat) := ⟨_,_,ok_great F20 D19,b20,k20,q20⟩
  have D21 : Dn l.prog w K mg base "_law_weights" ["_law_pot_here","_law_many"] 3 (spWeights) := ⟨_,_,ok_weights F21 B D19 D20,b21,k21,q21⟩
  have D22 : Dn l.prog w K mg base "_law_blade" ["_law_pot_here","_law_many"] 3 (spBladeB) := ⟨_,_,ok_lblade F22 D19 D20,b22,k22,q22⟩
  have D23 : Dn l.prog w K mg base "_law_most" ["_law_pot_here"] 2 (spMost) := ⟨_,_,ok_most F23 D19,b23,k23,q23⟩
  have D24 : Dn l.prog w K mg base "_law_side" ["_law_pot_here","_law_most_here"] 3 (spSide) := ⟨_,_,ok_side F24 D19 D20,b24,k24,q24⟩
  have D25 : Dn l.prog w K mg base "_law_lain" ["_law_wide","_law_high","_law_turns"] 1 (spLain) := ⟨_,_,ok_lain F25,b25,k25,q25⟩
  have D26 : Dn l.prog w K mg base "_law_weighed" ["_law_size","_law_u","_law_v"] 2 (spWeighed) := ⟨_,_,ok_weighed F26 B D25,b26,k26,q26⟩
  have D27 : Dn l.prog w K mg base "_law_worth" ["_law_pot_here","_law_weight"] 3 (spWorth) := ⟨_,_,ok_worth F27 B D19 D20,b27,k27,q27⟩
  have D28 : Dn l.prog w K mg base "_law_kinds" ["_law_pot_here","_law_u","_law_v"] 4 (spKindsL) := ⟨_,_,ok_lkinds F28 B D19 D20 D24 D26 D27,b28,k28,q28⟩
  have D29 : Dn l.prog w K mg base "_law_fitting" ["_law_kinds_here","_law_wide","_law_high"] 2 (spFitting) := ⟨_,_,ok_fitting F29 B D25,b29,k29,q29⟩
  have D30 : Dn l.prog w K mg base "_law_parts" ["_law_pot_here","_law_blade_here","_law_wide","_law_high"] 2 (spParts) := ⟨_,_,ok_parts F30 B D19,b30,k30,q30⟩
  have D31 : Dn l.prog w K mg base "_law_counts" ["_law_pot_here","_law_blade_here","_law_kinds_here","_law_wide","_law_high"] 3 (spCounts) := ⟨_,_,ok_counts F31 B D19 D30 D29,b31,k31,q31⟩
  have D32 : Dn l.prog w K mg base "_law_right" ["_law_pot_here"] 8 (spRight) := ⟨_,_,ok_right F32 B T D19 D23 D21 D22 D28 D31 D14 D15 D16 DS,b32,k32,q32⟩
  exact ok_law F33 B D17 D18 D32
theorem walk {l : PySem.W.OpenLaw} {q : Program} {loose : List Str} {XP : (Str → Option Value) → Heap → Prop} {YP : World → Heap → Prop} {d : DefRec} {K : Params → PySem.W.Frag} (hn : l.most = some 63) (hdf : d.params.defaults = [])
    (hY : ∀ (w : World) (h : Heap),YP w h → (K w.params).In h)
    (F : ∀ (w : World) (mg : Str → Option Value) (fa : Addr) (h : Heap),(K w.params).In h → h.Ns mainGlobals mg → mg d.name = some (.ref fa) →
      ∃ fd : FuncData,(∀ (s : Shared) (u : Value),BindsTo s fd ⟨[u],[]⟩ [("_law_script",u)]) ∧ ∀ base : Heap,(K w.params).In base → base.Ns mainGlobals mg → FnOk l.prog w (K w.params) mg base CX0 9 fa fd ["_law_script"] (spLaw (K w.params))) :
    PySem.W.WalkO q loose XP YP l.row.toRowW d [] (fun f vs => PySem.call f vs) :=
  L2.walk_of (n := 63) (k := 9) (x := "_law_script") (CX := fun _ => CX0) (sp := fun w => spLaw (K w.params)) hn (by decide) hdf ⟨rfl,by decide,by decide,rfl⟩ hY F (fun _ _ a ns hl _ hS => ⟨a,ns,rfl,hS,hl,fun _ => rfl⟩) fun _ _ _ _ _ z => z
end Pc
namespace Pc
open PySem L2
section
open PySem.W
noncomputable def kE (P : Params) (n : Str) (t : Nat) (v : Value) : DictEntry := ⟨PyData.keyHash P n,.str n t,v⟩
noncomputable def kO3 (P : Params) : Obj := ⟨(.type "dict"),none,(.dict #[kE P "__name__" 165 (.str "law_platecuts_k64_whole_trees_weighed" 590),kE P "__doc__" 166 .none,kE P "__package__" 167 .none,kE P "__loader__" 168 (.builtin "__main__.__loader__#opaque"),kE P "__spec__" 169 .none,kE P "__annotations__" 170 (.ref 6),kE P "__builtins__" 171 (.ref 4),kE P "__file__" 173 (.str "/claim/cut.py" 172),kE P "__cached__" 174 .none,kE P "PlateError" 206 (.ref 24),kE P "NoBlade" 222 (.ref 37),kE P "NoKinds" 238 (.ref 49),kE P "NoKind" 254 (.ref 61),kE P "NoLying" 270 (.ref 73),kE P "NoPlate" 286 (.ref 85),kE P "TooLarge" 302 (.ref 97),kE P "NoNumber" 318 (.ref 109),kE P "NoWeights" 334 (.ref 121),kE P "is_whole" 344 (.ref 130),kE P "is_truth" 351 (.ref 137),kE P "is_row" 358 (.ref 144),kE P "check_plate" 366 (.ref 151),kE P "check_sides" 375 (.ref 158),kE P "MOST_WEIGHTS" 379 (.int (60) 378),kE P "is_weights" 385 (.ref 163),kE P "best_length" 400 (.ref 170),kE P "lengths_by_steps" 411 (.ref 177),kE P "load_of" 425 (.ref 184),kE P "lies_in" 442 (.ref 191),kE P "lyings_in" 448 (.ref 196),kE P "MOST_SIDE" 452 (.int (60) 451),kE P "check_weights" 464 (.ref 203),kE P "kind_weights" 470 (.ref 208),kE P "plate_load" 481 (.ref 215),kE P "bears_worth" 487 (.ref 220),kE P "MOST_KINDS" 491 (.int (8) 490),kE P "THINGS_OF_A_KIND" 493 (.int (5) 492),kE P "is_kind" 505 (.ref 227),kE P "can_lie_turned" 512 (.ref 234),kE P "Shop" 589 (.ref 289),kE P "_law_cell" 599 (.ref 300),kE P "_law_pot" 606 (.ref 307),kE P "_law_draw" 615 (.ref 314),kE P "_law_great" 622 (.ref 321),kE P "_law_weights" 634 (.ref 328),kE P "_law_blade" 643 (.ref 335),kE P "_law_side" 651 (.ref 342),kE P "_law_lain" 660 (.ref 349),kE P "_law_weighed" 672 (.ref 356),kE P "_law_worth" 681 (.ref 363),kE P "_law_kinds" 695 (.ref 370),kE P "_law_fitting" 709 (.ref 377),kE P "_law_parts" 720 (.ref 384),kE P "_law_counts" 726 (.ref 389),kE P "_law_most" 733 (.ref 396),kE P "_law_right" 755 (.ref 403),kE P "law" 763 (.ref 410)] 57),#[]⟩
noncomputable def kO23 (P : Params) : Obj := ⟨(.type "dict"),none,(.dict #[kE P "__module__" 196 (.str "platecuts.errors" 187),kE P "__firstlineno__" 200 (.int (2) 199),kE P "__static_attributes__" 201 (.ref 22),kE P "__weakref__" 203 (.ref 25),kE P "__doc__" 204 .none] 3),#[]⟩
noncomputable def kO24 (P : Params) : Obj := ⟨(.type "type"),none,(.cls ⟨"PlateError",[(.type "ValueError")],[(.ref 24),(.type "ValueError"),(.type "Exception"),(.type "BaseException"),(.type "object")],23,"PlateError",true,[],[(.ref 37),(.ref 49),(.ref 61),(.ref 73),(.ref 85),(.ref 97),(.ref 109),(.ref 121)],false,none,false⟩),#[(some (.ref 15)),none,(some (.str "PlateError" 189)),(some (.str "PlateError" 197)),(some (.builtin "ValueError.__new__")),(some (.bool true))]⟩
noncomputable def kO36 (P : Params) : Obj := ⟨(.type "dict"),none,(.dict #[kE P "__module__" 214 (.str "platecuts.errors" 187),kE P "__firstlineno__" 218 (.int (4) 217),kE P "__static_attributes__" 219 (.ref 35),kE P "__doc__" 220 .none] 2),#[]⟩
noncomputable def kO37 (P : Params) : Obj := ⟨(.type "type"),none,(.cls ⟨"NoBlade",[(.ref 24)],[(.ref 37),(.ref 24),(.type "ValueError"),(.type "Exception"),(.type "BaseException"),(.type "object")],36,"NoBlade",true,[],[],false,none,false⟩),#[(some (.ref 28)),none,(some (.str "NoBlade" 207)),(some (.str "NoBlade" 215)),(some (.builtin "ValueError.__new__")),(some (.bool true))]⟩
noncomputable def kO48 (P : Params) : Obj := ⟨(.type "dict"),none,(.dict #[kE P "__module__" 230 (.str "platecuts.errors" 187),kE P "__firstlineno__" 234 (.int (6) 233),kE P "__static_attributes__" 235 (.ref 47),kE P "__doc__" 236 .none] 2),#[]⟩
noncomputable def kO49 (P : Params) : Obj := ⟨(.type "type"),none,(.cls ⟨"NoKinds",[(.ref 24)],[(.ref 49),(.ref 24),(.type "ValueError"),(.type "Exception"),(.type "BaseException"),(.type "object")],48,"NoKinds",true,[],[],false,none,false⟩),#[(some (.ref 40)),none,(some (.str "NoKinds" 223)),(some (.str "NoKinds" 231)),(some (.builtin "ValueError.__new__")),(some (.bool true))]⟩
noncomputable def kO60 (P : Params) : Obj := ⟨(.type "dict"),none,(.dict #[kE P "__module__" 246 (.str "platecuts.errors" 187),kE P "__firstlineno__" 250 (.int (8) 249),kE P "__static_attributes__" 251 (.ref 59),kE P "__doc__" 252 .none] 2),#[]⟩
noncomputable def kO61 (P : Params) : Obj := ⟨(.type "type"),none,(.cls ⟨"NoKind",[(.ref 24)],[(.ref 61),(.ref 24),(.type "ValueError"),(.type "Exception"),(.type "BaseException"),(.type "object")],60,"NoKind",true,[],[],false,none,false⟩),#[(some (.ref 52)),none,(some (.str "NoKind" 239)),(some (.str "NoKind" 247)),(some (.builtin "ValueError.__new__")),(some (.bool true))]⟩
noncomputable def kO72 (P : Params) : Obj := ⟨(.type "dict"),none,(.dict #[kE P "__module__" 262 (.str "platecuts.errors" 187),kE P "__firstlineno__" 266 (.int (10) 265),kE P "__static_attributes__" 267 (.ref 71),kE P "__doc__" 268 .none] 2),#[]⟩
noncomputable def kO73 (P : Params) : Obj := ⟨(.type "type"),none,(.cls ⟨"NoLying",[(.ref 24)],[(.ref 73),(.ref 24),(.type "ValueError"),(.type "Exception"),(.type "BaseException"),(.type "object")],72,"NoLying",true,[],[],false,none,false⟩),#[(some (.ref 64)),none,(some (.str "NoLying" 255)),(some (.str "NoLying" 263)),(some (.builtin "ValueError.__new__")),(some (.bool true))]⟩
noncomputable def kO84 (P : Params) : Obj := ⟨(.type "dict"),none,(.dict #[kE P "__module__" 278 (.str "platecuts.errors" 187),kE P "__firstlineno__" 282 (.int (12) 281),kE P "__static_attributes__" 283 (.ref 83),kE P "__doc__" 284 .none] 2),#[]⟩
noncomputable def kO85 (P : Params) : Obj := ⟨(.type "type"),none,(.cls ⟨"NoPlate",[(.ref 24)],[(.ref 85),(.ref 24),(.type "ValueError"),(.type "Exception"),(.type "BaseException"),(.type "object")],84,"NoPlate",true,[],[],false,none,false⟩),#[(some (.ref 76)),none,(some (.str "NoPlate" 271)),(some (.str "NoPlate" 279)),(some (.builtin "ValueError.__new__")),(some (.bool true))]⟩
noncomputable def kO96 (P : Params) : Obj := ⟨(.type "dict"),none,(.dict #[kE P "__module__" 294 (.str "platecuts.errors" 187),kE P "__firstlineno__" 298 (.int (14) 297),kE P "__static_attributes__" 299 (.ref 95),kE P "__doc__" 300 .none] 2),#[]⟩
noncomputable def kO97 (P : Params) : Obj := ⟨(.type "type"),none,(.cls ⟨"TooLarge",[(.ref 24)],[(.ref 97),(.ref 24),(.type "ValueError"),(.type "Exception"),(.type "BaseException"),(.type "object")],96,"TooLarge",true,[],[],false,none,false⟩),#[(some (.ref 88)),none,(some (.str "TooLarge" 287)),(some (.str "TooLarge" 295)),(some (.builtin "ValueError.__new__")),(some (.bool true))]⟩
noncomputable def kO108 (P : Params) : Obj := ⟨(.type "dict"),none,(.dict #[kE P "__module__" 310 (.str "platecuts.errors" 187),kE P "__firstlineno__" 314 (.int (16) 313),kE P "__static_attributes__" 315 (.ref 107),kE P "__doc__" 316 .none] 2),#[]⟩
noncomputable def kO109 (P : Params) : Obj := ⟨(.type "type"),none,(.cls ⟨"NoNumber",[(.ref 24)],[(.ref 109),(.ref 24),(.type "ValueError"),(.type "Exception"),(.type "BaseException"),(.type "object")],108,"NoNumber",true,[],[],false,none,false⟩),#[(some (.ref 100)),none,(some (.str "NoNumber" 303)),(some (.str "NoNumber" 311)),(some (.builtin "ValueError.__new__")),(some (.bool true))]⟩
noncomputable def kO120 (P : Params) : Obj := ⟨(.type "dict"),none,(.dict #[kE P "__module__" 326 (.str "platecuts.errors" 187),kE P "__firstlineno__" 330 (.int (18) 329),kE P "__static_attributes__" 331 (.ref 119),kE P "__doc__" 332 .none] 2),#[]⟩
noncomputable def kO121 (P : Params) : Obj := ⟨(.type "type"),none,(.cls ⟨"NoWeights",[(.ref 24)],[(.ref 121),(.ref 24),(.type "ValueError"),(.type "Exception"),(.type "BaseException"),(.type "object")],120,"NoWeights",true,[],[],false,none,false⟩),#[(some (.ref 112)),none,(some (.str "NoWeights" 319)),(some (.str "NoWeights" 327)),(some (.builtin "ValueError.__new__")),(some (.bool true))]⟩
noncomputable def kO129 (P : Params) : Obj := ⟨(.type "code"),none,(.fields #[(.str "is_whole" 337),(.str "is_whole" 338),(.str "/claim/cut.py" 339),(.int (21) 0),(.int (2) 0),(.int (0) 0),(.int (0) 0),(.int (3) 0),(.ref 124),(.bool true),(.int (181) 0),(.ref 125),.none,(.ref 126),(.ref 127),(.ref 128),(.int (342) 0),(.int (21) 0),(.str "/claim/cut.py" 343)]),#[]⟩
noncomputable def kO130 (P : Params) : Obj := ⟨(.type "function"),none,(.func (fnOf "is_whole" "is_whole" (defArgs sWhole) (defBody sWhole) (defScope sWhole) .none .none .none (.str "platecuts.checks" 335) none (.ref 129) .none)),#[]⟩
noncomputable def kO136 (P : Params) : Obj := ⟨(.type "code"),none,(.fields #[(.str "is_truth" 345),(.str "is_truth" 346),(.str "/claim/cut.py" 347),(.int (23) 0),(.int (1) 0),(.int (0) 0),(.int (0) 0),(.int (3) 0),(.ref 131),(.bool true),(.int (181) 0),(.ref 132),.none,(.ref 133),(.ref 134),(.ref 135),(.int (349) 0),(.int (23) 0),(.str "/claim/cut.py" 350)]),#[]⟩
noncomputable def kO137 (P : Params) : Obj := ⟨(.type "function"),none,(.func (fnOf "is_truth" "is_truth" (defArgs sTruth) (defBody sTruth) (defScope sTruth) .none .none .none (.str "platecuts.checks" 335) none (.ref 136) .none)),#[]⟩
noncomputable def kO143 (P : Params) : Obj := ⟨(.type "code"),none,(.fields #[(.str "is_row" 352),(.str "is_row" 353),(.str "/claim/cut.py" 354),(.int (25) 0),(.int (1) 0),(.int (0) 0),(.int (0) 0),(.int (3) 0),(.ref 138),(.bool true),(.int (181) 0),(.ref 139),.none,(.ref 140),(.ref 141),(.ref 142),(.int (356) 0),(.int (25) 0),(.str "/claim/cut.py" 357)]),#[]⟩
noncomputable def kO144 (P : Params) : Obj := ⟨(.type "function"),none,(.func (fnOf "is_row" "is_row" (defArgs sRow) (defBody sRow) (defScope sRow) .none .none .none (.str "platecuts.checks" 335) none (.ref 143) .none)),#[]⟩
noncomputable def kO150 (P : Params) : Obj := ⟨(.type "code"),none,(.fields #[(.str "check_plate" 359),(.str "check_plate" 360),(.str "/claim/cut.py" 361),(.int (27) 0),(.int (2) 0),(.int (0) 0),(.int (0) 0),(.int (3) 0),(.ref 145),(.bool true),(.int (181) 0),(.ref 146),.none,(.ref 147),(.ref 148),(.ref 149),(.int (364) 0),(.int (27) 0),(.str "/claim/cut.py" 365)]),#[]⟩
noncomputable def kO151 (P : Params) : Obj := ⟨(.type "function"),none,(.func (fnOf "check_plate" "check_plate" (defArgs sCheckPlate) (defBody sCheckPlate) (defScope sCheckPlate) .none .none .none (.str "platecuts.checks" 335) none (.ref 150) .none)),#[]⟩
noncomputable def kO157 (P : Params) : Obj := ⟨(.type "code"),none,(.fields #[(.str "check_sides" 367),(.str "check_sides" 368),(.str "/claim/cut.py" 369),(.int (30) 0),(.int (3) 0),(.int (0) 0),(.int (0) 0),(.int (3) 0),(.ref 152),(.bool true),(.int (181) 0),(.ref 153),.none,(.ref 154),(.ref 155),(.ref 156),(.int (373) 0),(.int (30) 0),(.str "/claim/cut.py" 374)]),#[]⟩
noncomputable def kO158 (P : Params) : Obj := ⟨(.type "function"),none,(.func (fnOf "check_sides" "check_sides" (defArgs sCheckSides) (defBody sCheckSides) (defScope sCheckSides) .none .none .none (.str "platecuts.checks" 335) none (.ref 157) .none)),#[]⟩
noncomputable def kO162 (P : Params) : Obj := ⟨(.type "code"),none,(.fields #[(.str "is_weights" 380),(.str "is_weights" 381),(.str "/claim/cut.py" 382),(.int (35) 0),(.int (1) 0),(.int (0) 0),(.int (0) 0),(.int (3) 0),(.ref 159),(.bool true),(.int (181) 0),(.ref 160),.none,.none,.none,(.ref 161),(.int (383) 0),(.int (35) 0),(.str "/claim/cut.py" 384)]),#[]⟩
noncomputable def kO163 (P : Params) : Obj := ⟨(.type "function"),none,(.func (fnOf "is_weights" "is_weights" (defArgs sIsWeights) (defBody sIsWeights) (defScope sIsWeights) .none .none .none (.str "platecuts.loads" 376) none (.ref 162) .none)),#[]⟩
noncomputable def kO169 (P : Params) : Obj := ⟨(.type "code"),none,(.fields #[(.str "best_length" 386),(.str "best_length" 387),(.str "/claim/cut.py" 388),(.int (39) 0),(.int (4) 0),(.int (0) 0),(.int (0) 0),(.int (3) 0),(.ref 164),(.bool true),(.int (181) 0),(.ref 165),.none,(.ref 166),(.ref 167),(.ref 168),(.int (398) 0),(.int (39) 0),(.str "/claim/cut.py" 399)]),#[]⟩
noncomputable def kO170 (P : Params) : Obj := ⟨(.type "function"),none,(.func (fnOf "best_length" "best_length" (defArgs sBestLength) (defBody sBestLength) (defScope sBestLength) .none .none .none (.str "platecuts.loads" 376) none (.ref 169) .none)),#[]⟩
noncomputable def kO176 (P : Params) : Obj := ⟨(.type "code"),none,(.fields #[(.str "lengths_by_steps" 401),(.str "lengths_by_steps" 402),(.str "/claim/cut.py" 403),(.int (47) 0),(.int (3) 0),(.int (0) 0),(.int (0) 0),(.int (3) 0),(.ref 171),(.bool true),(.int (181) 0),(.ref 172),.none,(.ref 173),(.ref 174),(.ref 175),(.int (409) 0),(.int (47) 0),(.str "/claim/cut.py" 410)]),#[]⟩
noncomputable def kO177 (P : Params) : Obj := ⟨(.type "function"),none,(.func (fnOf "lengths_by_steps" "lengths_by_steps" (defArgs sLengthsBySteps) (defBody sLengthsBySteps) (defScope sLengthsBySteps) .none .none .none (.str "platecuts.loads" 376) none (.ref 176) .none)),#[]⟩
noncomputable def kO183 (P : Params) : Obj := ⟨(.type "code"),none,(.fields #[(.str "load_of" 412),(.str "load_of" 413),(.str "/claim/cut.py" 414),(.int (54) 0),(.int (3) 0),(.int (0) 0),(.int (0) 0),(.int (3) 0),(.ref 178),(.bool true),(.int (181) 0),(.ref 179),.none,(.ref 180),(.ref 181),(.ref 182),(.int (423) 0),(.int (54) 0),(.str "/claim/cut.py" 424)]),#[]⟩
noncomputable def kO184 (P : Params) : Obj := ⟨(.type "function"),none,(.func (fnOf "load_of" "load_of" (defArgs sLoadOf) (defBody sLoadOf) (defScope sLoadOf) .none .none .none (.str "platecuts.loads" 376) none (.ref 183) .none)),#[]⟩
noncomputable def kO190 (P : Params) : Obj := ⟨(.type "code"),none,(.fields #[(.str "lies_in" 428),(.str "lies_in" 429),(.str "/claim/cut.py" 430),(.int (69) 0),(.int (7) 0),(.int (0) 0),(.int (0) 0),(.int (3) 0),(.ref 185),(.bool true),(.int (181) 0),(.ref 186),.none,(.ref 187),(.ref 188),(.ref 189),(.int (440) 0),(.int (69) 0),(.str "/claim/cut.py" 441)]),#[]⟩
noncomputable def kO191 (P : Params) : Obj := ⟨(.type "function"),none,(.func (fnOf "lies_in" "lies_in" (defArgs sLiesIn) (defBody sLiesIn) (defScope sLiesIn) .none .none .none (.str "platecuts.parts" 426) none (.ref 190) .none)),#[]⟩
noncomputable def kO195 (P : Params) : Obj := ⟨(.type "code"),none,(.fields #[(.str "lyings_in" 443),(.str "lyings_in" 444),(.str "/claim/cut.py" 445),(.int (74) 0),(.int (2) 0),(.int (0) 0),(.int (0) 0),(.int (3) 0),(.ref 192),(.bool true),(.int (181) 0),(.ref 193),.none,.none,.none,(.ref 194),(.int (446) 0),(.int (74) 0),(.str "/claim/cut.py" 447)]),#[]⟩
noncomputable def kO196 (P : Params) : Obj := ⟨(.type "function"),none,(.func (fnOf "lyings_in" "lyings_in" (defArgs sLyingsIn) (defBody sLyingsIn) (defScope sLyingsIn) .none .none .none (.str "platecuts.parts" 426) none (.ref 195) .none)),#[]⟩
noncomputable def kO202 (P : Params) : Obj := ⟨(.type "code"),none,(.fields #[(.str "check_weights" 453),(.str "check_weights" 454),(.str "/claim/cut.py" 455),(.int (79) 0),(.int (4) 0),(.int (0) 0),(.int (0) 0),(.int (3) 0),(.ref 197),(.bool true),(.int (181) 0),(.ref 198),.none,(.ref 199),(.ref 200),(.ref 201),(.int (462) 0),(.int (79) 0),(.str "/claim/cut.py" 463)]),#[]⟩
noncomputable def kO203 (P : Params) : Obj := ⟨(.type "function"),none,(.func (fnOf "check_weights" "check_weights" (defArgs sCheckWeights) (defBody sCheckWeights) (defScope sCheckWeights) .none .none .none (.str "platecuts.weighing" 449) none (.ref 202) .none)),#[]⟩
noncomputable def kO207 (P : Params) : Obj := ⟨(.type "code"),none,(.fields #[(.str "kind_weights" 465),(.str "kind_weights" 466),(.str "/claim/cut.py" 467),(.int (85) 0),(.int (5) 0),(.int (0) 0),(.int (0) 0),(.int (3) 0),(.ref 204),(.bool true),(.int (181) 0),(.ref 205),.none,.none,.none,(.ref 206),(.int (468) 0),(.int (85) 0),(.str "/claim/cut.py" 469)]),#[]⟩
noncomputable def kO208 (P : Params) : Obj := ⟨(.type "function"),none,(.func (fnOf "kind_weights" "kind_weights" (defArgs sKindWeights) (defBody sKindWeights) (defScope sKindWeights) .none .none .none (.str "platecuts.weighing" 449) none (.ref 207) .none)),#[]⟩
noncomputable def kO214 (P : Params) : Obj := ⟨(.type "code"),none,(.fields #[(.str "plate_load" 471),(.str "plate_load" 472),(.str "/claim/cut.py" 473),(.int (94) 0),(.int (5) 0),(.int (0) 0),(.int (0) 0),(.int (3) 0),(.ref 209),(.bool true),(.int (181) 0),(.ref 210),.none,(.ref 211),(.ref 212),(.ref 213),(.int (479) 0),(.int (94) 0),(.str "/claim/cut.py" 480)]),#[]⟩
noncomputable def kO215 (P : Params) : Obj := ⟨(.type "function"),none,(.func (fnOf "plate_load" "plate_load" (defArgs sPlateLoad) (defBody sPlateLoad) (defScope sPlateLoad) .none .none .none (.str "platecuts.weighing" 449) none (.ref 214) .none)),#[]⟩
noncomputable def kO219 (P : Params) : Obj := ⟨(.type "code"),none,(.fields #[(.str "bears_worth" 482),(.str "bears_worth" 483),(.str "/claim/cut.py" 484),(.int (97) 0),(.int (5) 0),(.int (0) 0),(.int (0) 0),(.int (3) 0),(.ref 216),(.bool true),(.int (181) 0),(.ref 217),.none,.none,.none,(.ref 218),(.int (485) 0),(.int (97) 0),(.str "/claim/cut.py" 486)]),#[]⟩
noncomputable def kO220 (P : Params) : Obj := ⟨(.type "function"),none,(.func (fnOf "bears_worth" "bears_worth" (defArgs sBearsWorth) (defBody sBearsWorth) (defScope sBearsWorth) .none .none .none (.str "platecuts.weighing" 449) none (.ref 219) .none)),#[]⟩
noncomputable def kO226 (P : Params) : Obj := ⟨(.type "code"),none,(.fields #[(.str "is_kind" 494),(.str "is_kind" 495),(.str "/claim/cut.py" 496),(.int (103) 0),(.int (1) 0),(.int (0) 0),(.int (0) 0),(.int (3) 0),(.ref 221),(.bool true),(.int (181) 0),(.ref 222),.none,(.ref 223),(.ref 224),(.ref 225),(.int (503) 0),(.int (103) 0),(.str "/claim/cut.py" 504)]),#[]⟩
noncomputable def kO227 (P : Params) : Obj := ⟨(.type "function"),none,(.func (fnOf "is_kind" "is_kind" (defArgs sIsKind) (defBody sIsKind) (defScope sIsKind) .none .none .none (.str "platecuts.shops" 488) none (.ref 226) .none)),#[]⟩
noncomputable def kO233 (P : Params) : Obj := ⟨(.type "code"),none,(.fields #[(.str "can_lie_turned" 506),(.str "can_lie_turned" 507),(.str "/claim/cut.py" 508),(.int (110) 0),(.int (1) 0),(.int (0) 0),(.int (0) 0),(.int (3) 0),(.ref 228),(.bool true),(.int (181) 0),(.ref 229),.none,(.ref 230),(.ref 231),(.ref 232),(.int (510) 0),(.int (110) 0),(.str "/claim/cut.py" 511)]),#[]⟩
noncomputable def kO234 (P : Params) : Obj := ⟨(.type "function"),none,(.func (fnOf "can_lie_turned" "can_lie_turned" (defArgs sTurned) (defBody sTurned) (defScope sTurned) .none .none .none (.str "platecuts.shops" 488) none (.ref 233) .none)),#[]⟩
noncomputable def kO245 (P : Params) : Obj := ⟨(.type "code"),none,(.fields #[(.str "__init__" 525),(.str "Shop.__init__" 526),(.str "/claim/cut.py" 527),(.int (114) 0),(.int (3) 0),(.int (0) 0),(.int (0) 0),(.int (3) 0),(.ref 242),(.bool true),(.int (181) 0),(.ref 243),.none,.none,.none,(.ref 244),(.int (528) 0),(.int (114) 0),(.str "/claim/cut.py" 529)]),#[]⟩
noncomputable def kO246 (P : Params) : Obj := ⟨(.type "function"),none,(.func (fnOf "__init__" "Shop.__init__" (defArgs sShopInit) (defBody sShopInit) (defScope sShopInit) .none .none .none (.str "platecuts.shops" 488) none (.ref 245) .none)),#[]⟩
noncomputable def kO252 (P : Params) : Obj := ⟨(.type "code"),none,(.fields #[(.str "blade" 531),(.str "Shop.blade" 532),(.str "/claim/cut.py" 533),(.int (125) 0),(.int (1) 0),(.int (0) 0),(.int (0) 0),(.int (3) 0),(.ref 247),(.bool true),(.int (181) 0),(.ref 248),.none,(.ref 249),(.ref 250),(.ref 251),(.int (535) 0),(.int (125) 0),(.str "/claim/cut.py" 536)]),#[]⟩
noncomputable def kO253 (P : Params) : Obj := ⟨(.type "function"),none,(.func (fnOf "blade" "Shop.blade" (defArgs sShopBlade) (defBody sShopBlade) (defScope sShopBlade) .none .none .none (.str "platecuts.shops" 488) none (.ref 252) .none)),#[]⟩
noncomputable def kO259 (P : Params) : Obj := ⟨(.type "code"),none,(.fields #[(.str "kinds" 538),(.str "Shop.kinds" 539),(.str "/claim/cut.py" 540),(.int (128) 0),(.int (1) 0),(.int (0) 0),(.int (0) 0),(.int (3) 0),(.ref 254),(.bool true),(.int (181) 0),(.ref 255),.none,(.ref 256),(.ref 257),(.ref 258),(.int (542) 0),(.int (128) 0),(.str "/claim/cut.py" 543)]),#[]⟩
noncomputable def kO260 (P : Params) : Obj := ⟨(.type "function"),none,(.func (fnOf "kinds" "Shop.kinds" (defArgs sShopKinds) (defBody sShopKinds) (defScope sShopKinds) .none .none .none (.str "platecuts.shops" 488) none (.ref 259) .none)),#[]⟩
noncomputable def kO264 (P : Params) : Obj := ⟨(.type "code"),none,(.fields #[(.str "wanted" 545),(.str "Shop.wanted" 546),(.str "/claim/cut.py" 547),(.int (131) 0),(.int (1) 0),(.int (0) 0),(.int (0) 0),(.int (3) 0),(.ref 261),(.bool true),(.int (181) 0),(.ref 262),.none,.none,.none,(.ref 263),(.int (548) 0),(.int (131) 0),(.str "/claim/cut.py" 549)]),#[]⟩
noncomputable def kO265 (P : Params) : Obj := ⟨(.type "function"),none,(.func (fnOf "wanted" "Shop.wanted" (defArgs sShopWanted) (defBody sShopWanted) (defScope sShopWanted) .none .none .none (.str "platecuts.shops" 488) none (.ref 264) .none)),#[]⟩
noncomputable def kO271 (P : Params) : Obj := ⟨(.type "code"),none,(.fields #[(.str "lyings" 551),(.str "Shop.lyings" 552),(.str "/claim/cut.py" 553),(.int (134) 0),(.int (1) 0),(.int (0) 0),(.int (0) 0),(.int (3) 0),(.ref 266),(.bool true),(.int (181) 0),(.ref 267),.none,(.ref 268),(.ref 269),(.ref 270),(.int (558) 0),(.int (134) 0),(.str "/claim/cut.py" 559)]),#[]⟩
noncomputable def kO272 (P : Params) : Obj := ⟨(.type "function"),none,(.func (fnOf "lyings" "Shop.lyings" (defArgs sShopLyings) (defBody sShopLyings) (defScope sShopLyings) .none .none .none (.str "platecuts.shops" 488) none (.ref 271) .none)),#[]⟩
noncomputable def kO278 (P : Params) : Obj := ⟨(.type "code"),none,(.fields #[(.str "is_lying" 561),(.str "Shop.is_lying" 562),(.str "/claim/cut.py" 563),(.int (142) 0),(.int (3) 0),(.int (0) 0),(.int (0) 0),(.int (3) 0),(.ref 273),(.bool true),(.int (181) 0),(.ref 274),.none,(.ref 275),(.ref 276),(.ref 277),(.int (567) 0),(.int (142) 0),(.str "/claim/cut.py" 568)]),#[]⟩
noncomputable def kO279 (P : Params) : Obj := ⟨(.type "function"),none,(.func (fnOf "is_lying" "Shop.is_lying" (defArgs sShopIsLying) (defBody sShopIsLying) (defScope sShopIsLying) .none .none .none (.str "platecuts.shops" 488) none (.ref 278) .none)),#[]⟩
noncomputable def kO285 (P : Params) : Obj := ⟨(.type "code"),none,(.fields #[(.str "sides" 570),(.str "Shop.sides" 571),(.str "/claim/cut.py" 572),(.int (147) 0),(.int (3) 0),(.int (0) 0),(.int (0) 0),(.int (3) 0),(.ref 280),(.bool true),(.int (181) 0),(.ref 281),.none,(.ref 282),(.ref 283),(.ref 284),(.int (577) 0),(.int (147) 0),(.str "/claim/cut.py" 578)]),#[]⟩
noncomputable def kO286 (P : Params) : Obj := ⟨(.type "function"),none,(.func (fnOf "sides" "Shop.sides" (defArgs sShopSides) (defBody sShopSides) (defScope sShopSides) .none .none .none (.str "platecuts.shops" 488) none (.ref 285) .none)),#[]⟩
noncomputable def kO288 (P : Params) : Obj := ⟨(.type "dict"),none,(.dict #[kE P "__module__" 520 (.str "platecuts.shops" 488),kE P "__firstlineno__" 524 (.int (112) 523),kE P "__init__" 530 (.ref 246),kE P "blade" 537 (.ref 253),kE P "kinds" 544 (.ref 260),kE P "wanted" 550 (.ref 265),kE P "lyings" 560 (.ref 272),kE P "is_lying" 569 (.ref 279),kE P "sides" 579 (.ref 286),kE P "__static_attributes__" 582 (.ref 287),kE P "__dict__" 584 (.ref 290),kE P "__weakref__" 586 (.ref 291),kE P "__doc__" 587 .none] 4),#[]⟩
noncomputable def kO289 (P : Params) : Obj := ⟨(.type "type"),none,(.cls ⟨"Shop",[(.type "object")],[(.ref 289),(.type "object")],288,"Shop",true,[],[],false,none,false⟩),#[none,none,(some (.str "Shop" 513)),(some (.str "Shop" 521)),(some (.builtin "object.__new__")),(some (.bool true))]⟩
noncomputable def kO299 (P : Params) : Obj := ⟨(.type "code"),none,(.fields #[(.str "_law_cell" 592),(.str "_law_cell" 593),(.str "/claim/cut.py" 594),(.int (155) 0),(.int (2) 0),(.int (0) 0),(.int (0) 0),(.int (3) 0),(.ref 294),(.bool true),(.int (181) 0),(.ref 295),.none,(.ref 296),(.ref 297),(.ref 298),(.int (597) 0),(.int (155) 0),(.str "/claim/cut.py" 598)]),#[]⟩
noncomputable def kO300 (P : Params) : Obj := ⟨(.type "function"),none,(.func (fnOf "_law_cell" "_law_cell" (defArgs sCell) (defBody sCell) (defScope sCell) .none .none .none (.str "law_platecuts_k64_whole_trees_weighed" 590) none (.ref 299) .none)),#[]⟩
noncomputable def kO306 (P : Params) : Obj := ⟨(.type "code"),none,(.fields #[(.str "_law_pot" 600),(.str "_law_pot" 601),(.str "/claim/cut.py" 602),(.int (159) 0),(.int (1) 0),(.int (0) 0),(.int (0) 0),(.int (3) 0),(.ref 301),(.bool true),(.int (181) 0),(.ref 302),.none,(.ref 303),(.ref 304),(.ref 305),(.int (604) 0),(.int (159) 0),(.str "/claim/cut.py" 605)]),#[]⟩
noncomputable def kO307 (P : Params) : Obj := ⟨(.type "function"),none,(.func (fnOf "_law_pot" "_law_pot" (defArgs sPot) (defBody sPot) (defScope sPot) .none .none .none (.str "law_platecuts_k64_whole_trees_weighed" 590) none (.ref 306) .none)),#[]⟩
noncomputable def kO313 (P : Params) : Obj := ⟨(.type "code"),none,(.fields #[(.str "_law_draw" 607),(.str "_law_draw" 608),(.str "/claim/cut.py" 609),(.int (161) 0),(.int (2) 0),(.int (0) 0),(.int (0) 0),(.int (3) 0),(.ref 308),(.bool true),(.int (181) 0),(.ref 309),.none,(.ref 310),(.ref 311),(.ref 312),(.int (613) 0),(.int (161) 0),(.str "/claim/cut.py" 614)]),#[]⟩
noncomputable def kO314 (P : Params) : Obj := ⟨(.type "function"),none,(.func (fnOf "_law_draw" "_law_draw" (defArgs sDraw) (defBody sDraw) (defScope sDraw) .none .none .none (.str "law_platecuts_k64_whole_trees_weighed" 590) none (.ref 313) .none)),#[]⟩
noncomputable def kO320 (P : Params) : Obj := ⟨(.type "code"),none,(.fields #[(.str "_law_great" 616),(.str "_law_great" 617),(.str "/claim/cut.py" 618),(.int (167) 0),(.int (1) 0),(.int (0) 0),(.int (0) 0),(.int (3) 0),(.ref 315),(.bool true),(.int (181) 0),(.ref 316),.none,(.ref 317),(.ref 318),(.ref 319),(.int (620) 0),(.int (167) 0),(.str "/claim/cut.py" 621)]),#[]⟩
noncomputable def kO321 (P : Params) : Obj := ⟨(.type "function"),none,(.func (fnOf "_law_great" "_law_great" (defArgs sGreat) (defBody sGreat) (defScope sGreat) .none .none .none (.str "law_platecuts_k64_whole_trees_weighed" 590) none (.ref 320) .none)),#[]⟩
noncomputable def kO327 (P : Params) : Obj := ⟨(.type "code"),none,(.fields #[(.str "_law_weights" 623),(.str "_law_weights" 624),(.str "/claim/cut.py" 625),(.int (169) 0),(.int (2) 0),(.int (0) 0),(.int (0) 0),(.int (3) 0),(.ref 322),(.bool true),(.int (181) 0),(.ref 323),.none,(.ref 324),(.ref 325),(.ref 326),(.int (632) 0),(.int (169) 0),(.str "/claim/cut.py" 633)]),#[]⟩
noncomputable def kO328 (P : Params) : Obj := ⟨(.type "function"),none,(.func (fnOf "_law_weights" "_law_weights" (defArgs sWeights) (defBody sWeights) (defScope sWeights) .none .none .none (.str "law_platecuts_k64_whole_trees_weighed" 590) none (.ref 327) .none)),#[]⟩
noncomputable def kO334 (P : Params) : Obj := ⟨(.type "code"),none,(.fields #[(.str "_law_blade" 635),(.str "_law_blade" 636),(.str "/claim/cut.py" 637),(.int (185) 0),(.int (2) 0),(.int (0) 0),(.int (0) 0),(.int (3) 0),(.ref 329),(.bool true),(.int (181) 0),(.ref 330),.none,(.ref 331),(.ref 332),(.ref 333),(.int (641) 0),(.int (185) 0),(.str "/claim/cut.py" 642)]),#[]⟩
noncomputable def kO335 (P : Params) : Obj := ⟨(.type "function"),none,(.func (fnOf "_law_blade" "_law_blade" (defArgs sBlade) (defBody sBlade) (defScope sBlade) .none .none .none (.str "law_platecuts_k64_whole_trees_weighed" 590) none (.ref 334) .none)),#[]⟩
noncomputable def kO341 (P : Params) : Obj := ⟨(.type "code"),none,(.fields #[(.str "_law_side" 644),(.str "_law_side" 645),(.str "/claim/cut.py" 646),(.int (192) 0),(.int (2) 0),(.int (0) 0),(.int (0) 0),(.int (3) 0),(.ref 336),(.bool true),(.int (181) 0),(.ref 337),.none,(.ref 338),(.ref 339),(.ref 340),(.int (649) 0),(.int (192) 0),(.str "/claim/cut.py" 650)]),#[]⟩
noncomputable def kO342 (P : Params) : Obj := ⟨(.type "function"),none,(.func (fnOf "_law_side" "_law_side" (defArgs sSide) (defBody sSide) (defScope sSide) .none .none .none (.str "law_platecuts_k64_whole_trees_weighed" 590) none (.ref 341) .none)),#[]⟩
noncomputable def kO348 (P : Params) : Obj := ⟨(.type "code"),none,(.fields #[(.str "_law_lain" 652),(.str "_law_lain" 653),(.str "/claim/cut.py" 654),(.int (196) 0),(.int (3) 0),(.int (0) 0),(.int (0) 0),(.int (3) 0),(.ref 343),(.bool true),(.int (181) 0),(.ref 344),.none,(.ref 345),(.ref 346),(.ref 347),(.int (658) 0),(.int (196) 0),(.str "/claim/cut.py" 659)]),#[]⟩
noncomputable def kO349 (P : Params) : Obj := ⟨(.type "function"),none,(.func (fnOf "_law_lain" "_law_lain" (defArgs sLain) (defBody sLain) (defScope sLain) .none .none .none (.str "law_platecuts_k64_whole_trees_weighed" 590) none (.ref 348) .none)),#[]⟩
noncomputable def kO355 (P : Params) : Obj := ⟨(.type "code"),none,(.fields #[(.str "_law_weighed" 661),(.str "_law_weighed" 662),(.str "/claim/cut.py" 663),(.int (200) 0),(.int (3) 0),(.int (0) 0),(.int (0) 0),(.int (3) 0),(.ref 350),(.bool true),(.int (181) 0),(.ref 351),.none,(.ref 352),(.ref 353),(.ref 354),(.int (670) 0),(.int (200) 0),(.str "/claim/cut.py" 671)]),#[]⟩
noncomputable def kO356 (P : Params) : Obj := ⟨(.type "function"),none,(.func (fnOf "_law_weighed" "_law_weighed" (defArgs sWeighed) (defBody sWeighed) (defScope sWeighed) .none .none .none (.str "law_platecuts_k64_whole_trees_weighed" 590) none (.ref 355) .none)),#[]⟩
noncomputable def kO362 (P : Params) : Obj := ⟨(.type "code"),none,(.fields #[(.str "_law_worth" 673),(.str "_law_worth" 674),(.str "/claim/cut.py" 675),(.int (206) 0),(.int (2) 0),(.int (0) 0),(.int (0) 0),(.int (3) 0),(.ref 357),(.bool true),(.int (181) 0),(.ref 358),.none,(.ref 359),(.ref 360),(.ref 361),(.int (679) 0),(.int (206) 0),(.str "/claim/cut.py" 680)]),#[]⟩
noncomputable def kO363 (P : Params) : Obj := ⟨(.type "function"),none,(.func (fnOf "_law_worth" "_law_worth" (defArgs sWorth) (defBody sWorth) (defScope sWorth) .none .none .none (.str "law_platecuts_k64_whole_trees_weighed" 590) none (.ref 362) .none)),#[]⟩
noncomputable def kO369 (P : Params) : Obj := ⟨(.type "code"),none,(.fields #[(.str "_law_kinds" 682),(.str "_law_kinds" 683),(.str "/claim/cut.py" 684),(.int (213) 0),(.int (3) 0),(.int (0) 0),(.int (0) 0),(.int (3) 0),(.ref 364),(.bool true),(.int (181) 0),(.ref 365),.none,(.ref 366),(.ref 367),(.ref 368),(.int (693) 0),(.int (213) 0),(.str "/claim/cut.py" 694)]),#[]⟩
noncomputable def kO370 (P : Params) : Obj := ⟨(.type "function"),none,(.func (fnOf "_law_kinds" "_law_kinds" (defArgs sKinds) (defBody sKinds) (defScope sKinds) .none .none .none (.str "law_platecuts_k64_whole_trees_weighed" 590) none (.ref 369) .none)),#[]⟩
noncomputable def kO376 (P : Params) : Obj := ⟨(.type "code"),none,(.fields #[(.str "_law_fitting" 696),(.str "_law_fitting" 697),(.str "/claim/cut.py" 698),(.int (221) 0),(.int (3) 0),(.int (0) 0),(.int (0) 0),(.int (3) 0),(.ref 371),(.bool true),(.int (181) 0),(.ref 372),.none,(.ref 373),(.ref 374),(.ref 375),(.int (707) 0),(.int (221) 0),(.str "/claim/cut.py" 708)]),#[]⟩
noncomputable def kO377 (P : Params) : Obj := ⟨(.type "function"),none,(.func (fnOf "_law_fitting" "_law_fitting" (defArgs sFitting) (defBody sFitting) (defScope sFitting) .none .none .none (.str "law_platecuts_k64_whole_trees_weighed" 590) none (.ref 376) .none)),#[]⟩
noncomputable def kO383 (P : Params) : Obj := ⟨(.type "code"),none,(.fields #[(.str "_law_parts" 710),(.str "_law_parts" 711),(.str "/claim/cut.py" 712),(.int (228) 0),(.int (4) 0),(.int (0) 0),(.int (0) 0),(.int (3) 0),(.ref 378),(.bool true),(.int (181) 0),(.ref 379),.none,(.ref 380),(.ref 381),(.ref 382),(.int (718) 0),(.int (228) 0),(.str "/claim/cut.py" 719)]),#[]⟩
noncomputable def kO384 (P : Params) : Obj := ⟨(.type "function"),none,(.func (fnOf "_law_parts" "_law_parts" (defArgs sParts) (defBody sParts) (defScope sParts) .none .none .none (.str "law_platecuts_k64_whole_trees_weighed" 590) none (.ref 383) .none)),#[]⟩
noncomputable def kO388 (P : Params) : Obj := ⟨(.type "code"),none,(.fields #[(.str "_law_counts" 721),(.str "_law_counts" 722),(.str "/claim/cut.py" 723),(.int (236) 0),(.int (5) 0),(.int (0) 0),(.int (0) 0),(.int (3) 0),(.ref 385),(.bool true),(.int (181) 0),(.ref 386),.none,.none,.none,(.ref 387),(.int (724) 0),(.int (236) 0),(.str "/claim/cut.py" 725)]),#[]⟩
noncomputable def kO389 (P : Params) : Obj := ⟨(.type "function"),none,(.func (fnOf "_law_counts" "_law_counts" (defArgs sCounts) (defBody sCounts) (defScope sCounts) .none .none .none (.str "law_platecuts_k64_whole_trees_weighed" 590) none (.ref 388) .none)),#[]⟩
noncomputable def kO395 (P : Params) : Obj := ⟨(.type "code"),none,(.fields #[(.str "_law_most" 727),(.str "_law_most" 728),(.str "/claim/cut.py" 729),(.int (253) 0),(.int (1) 0),(.int (0) 0),(.int (0) 0),(.int (3) 0),(.ref 390),(.bool true),(.int (181) 0),(.ref 391),.none,(.ref 392),(.ref 393),(.ref 394),(.int (731) 0),(.int (253) 0),(.str "/claim/cut.py" 732)]),#[]⟩
noncomputable def kO396 (P : Params) : Obj := ⟨(.type "function"),none,(.func (fnOf "_law_most" "_law_most" (defArgs sMost) (defBody sMost) (defScope sMost) .none .none .none (.str "law_platecuts_k64_whole_trees_weighed" 590) none (.ref 395) .none)),#[]⟩
noncomputable def kO402 (P : Params) : Obj := ⟨(.type "code"),none,(.fields #[(.str "_law_right" 734),(.str "_law_right" 735),(.str "/claim/cut.py" 736),(.int (257) 0),(.int (1) 0),(.int (0) 0),(.int (0) 0),(.int (3) 0),(.ref 397),(.bool true),(.int (181) 0),(.ref 398),.none,(.ref 399),(.ref 400),(.ref 401),(.int (753) 0),(.int (257) 0),(.str "/claim/cut.py" 754)]),#[]⟩
noncomputable def kO403 (P : Params) : Obj := ⟨(.type "function"),none,(.func (fnOf "_law_right" "_law_right" (defArgs sRight) (defBody sRight) (defScope sRight) .none .none .none (.str "law_platecuts_k64_whole_trees_weighed" 590) none (.ref 402) .none)),#[]⟩
noncomputable def kO409 (P : Params) : Obj := ⟨(.type "code"),none,(.fields #[(.str "law" 756),(.str "law" 757),(.str "/claim/cut.py" 758),(.int (279) 0),(.int (1) 0),(.int (0) 0),(.int (0) 0),(.int (3) 0),(.ref 404),(.bool true),(.int (181) 0),(.ref 405),.none,(.ref 406),(.ref 407),(.ref 408),(.int (761) 0),(.int (279) 0),(.str "/claim/cut.py" 762)]),#[]⟩
noncomputable def kO410 (P : Params) : Obj := ⟨(.type "function"),none,(.func (fnOf "law" "law" (defArgs sLaw) (defBody sLaw) (defScope sLaw) .none .none .none (.str "law_platecuts_k64_whole_trees_weighed" 590) none (.ref 409) .none)),#[]⟩
noncomputable def kK : Params → Frag := fun P => (nat_lit 3,kO3 P) :: (nat_lit 23,kO23 P) :: (nat_lit 24,kO24 P) :: (nat_lit 36,kO36 P) :: (nat_lit 37,kO37 P) :: (nat_lit 48,kO48 P) :: (nat_lit 49,kO49 P) :: (nat_lit 60,kO60 P) :: (nat_lit 61,kO61 P) :: (nat_lit 72,kO72 P) :: (nat_lit 73,kO73 P) :: (nat_lit 84,kO84 P) :: (nat_lit 85,kO85 P) :: (nat_lit 96,kO96 P) :: (nat_lit 97,kO97 P) :: (nat_lit 108,kO108 P) :: (nat_lit 109,kO109 P) :: (nat_lit 120,kO120 P) :: (nat_lit 121,kO121 P) :: (nat_lit 129,kO129 P) :: (nat_lit 130,kO130 P) :: (nat_lit 136,kO136 P) :: (nat_lit 137,kO137 P) :: (nat_lit 143,kO143 P) :: (nat_lit 144,kO144 P) :: (nat_lit 150,kO150 P) :: (nat_lit 151,kO151 P) :: (nat_lit 157,kO157 P) :: (nat_lit 158,kO158 P) :: (nat_lit 162,kO162 P) :: (nat_lit 163,kO163 P) :: (nat_lit 169,kO169 P) :: (nat_lit 170,kO170 P) :: (nat_lit 176,kO176 P) :: (nat_lit 177,kO177 P) :: (nat_lit 183,kO183 P) :: (nat_lit 184,kO184 P) :: (nat_lit 190,kO190 P) :: (nat_lit 191,kO191 P) :: (nat_lit 195,kO195 P) :: (nat_lit 196,kO196 P) :: (nat_lit 202,kO202 P) :: (nat_lit 203,kO203 P) :: (nat_lit 207,kO207 P) :: (nat_lit 208,kO208 P) :: (nat_lit 214,kO214 P) :: (nat_lit 215,kO215 P) :: (nat_lit 219,kO219 P) :: (nat_lit 220,kO220 P) :: (nat_lit 226,kO226 P) :: (nat_lit 227,kO227 P) :: (nat_lit 233,kO233 P) :: (nat_lit 234,kO234 P) :: (nat_lit 245,kO245 P) :: (nat_lit 246,kO246 P) :: (nat_lit 252,kO252 P) :: (nat_lit 253,kO253 P) :: (nat_lit 259,kO259 P) :: (nat_lit 260,kO260 P) :: (nat_lit 264,kO264 P) :: (nat_lit 265,kO265 P) :: (nat_lit 271,kO271 P) :: (nat_lit 272,kO272 P) :: (nat_lit 278,kO278 P) :: (nat_lit 279,kO279 P) :: (nat_lit 285,kO285 P) :: (nat_lit 286,kO286 P) :: (nat_lit 288,kO288 P) :: (nat_lit 289,kO289 P) :: (nat_lit 299,kO299 P) :: (nat_lit 300,kO300 P) :: (nat_lit 306,kO306 P) :: (nat_lit 307,kO307 P) :: (nat_lit 313,kO313 P) :: (nat_lit 314,kO314 P) :: (nat_lit 320,kO320 P) :: (nat_lit 321,kO321 P) :: (nat_lit 327,kO327 P) :: (nat_lit 328,kO328 P) :: (nat_lit 334,kO334 P) :: (nat_lit 335,kO335 P) :: (nat_lit 341,kO341 P) :: (nat_lit 342,kO342 P) :: (nat_lit 348,kO348 P) :: (nat_lit 349,kO349 P) :: (nat_lit 355,kO355 P) :: (nat_lit 356,kO356 P) :: (nat_lit 362,kO362 P) :: (nat_lit 363,kO363 P) :: (nat_lit 369,kO369 P) :: (nat_lit 370,kO370 P) :: (nat_lit 376,kO376 P) :: (nat_lit 377,kO377 P) :: (nat_lit 383,kO383 P) :: (nat_lit 384,kO384 P) :: (nat_lit 388,kO388 P) :: (nat_lit 389,kO389 P) :: (nat_lit 395,kO395 P) :: (nat_lit 396,kO396 P) :: (nat_lit 402,kO402 P) :: (nat_lit 403,kO403 P) :: (nat_lit 409,kO409 P) :: (nat_lit 410,kO410 P) :: []
end
end Pc
set_option maxHeartbeats 0
lay_quick PySem.Challenge.pw_platecuts_k64_whole_trees_weighed
namespace Hd
open PySem PySem.W
noncomputable def S0 : Str := ⟨⟨[95,95,110,97,109,101,95,95]⟩⟩
noncomputable def S2 : Str := ⟨⟨[95,95,100,111,99,95,95]⟩⟩
noncomputable def S3 : Str := ⟨⟨[95,95,112,97,99,107,97,103,101,95,95]⟩⟩
noncomputable def S4 : Str := ⟨⟨[95,95,108,111,97,100,101,114,95,95]⟩⟩
noncomputable def S5 : Str := ⟨⟨[95,95,115,112,101,99,95,95]⟩⟩
noncomputable def S160 : Str := ⟨⟨[95,95,109,97,105,110,95,95]⟩⟩
noncomputable def S161 : Str := ⟨⟨[95,95,97,110,110,111,116,97,116,105,111,110,115,95,95]⟩⟩
noncomputable def S162 : Str := ⟨⟨[95,95,98,117,105,108,116,105,110,115,95,95]⟩⟩
noncomputable def S163 : Str := ⟨⟨[95,95,102,105,108,101,95,95]⟩⟩
noncomputable def S164 : Str := ⟨⟨[47,99,108,97,105,109,47,99,117,116,46,112,121]⟩⟩
noncomputable def S165 : Str := ⟨⟨[95,95,99,97,99,104,101,100,95,95]⟩⟩
noncomputable def S166 : Str := ⟨⟨[60,109,111,100,117,108,101,62]⟩⟩
noncomputable def S167 : Str := ⟨⟨[112,108,97,116,101,99,117,116,115,46,99,104,101,99,107,115]⟩⟩
noncomputable def S168 : Str := ⟨⟨[80,108,97,116,101,69,114,114,111,114]⟩⟩
noncomputable def S169 : Str := ⟨⟨[78,111,66,108,97,100,101]⟩⟩
noncomputable def S170 : Str := ⟨⟨[78,111,75,105,110,100,115]⟩⟩
noncomputable def S171 : Str := ⟨⟨[78,111,75,105,110,100]⟩⟩
noncomputable def S172 : Str := ⟨⟨[78,111,76,121,105,110,103]⟩⟩
noncomputable def S173 : Str := ⟨⟨[78,111,80,108,97,116,101]⟩⟩
noncomputable def S174 : Str := ⟨⟨[84,111,111,76,97,114,103,101]⟩⟩
noncomputable def S175 : Str := ⟨⟨[78,111,78,117,109,98,101,114]⟩⟩
noncomputable def S176 : Str := ⟨⟨[78,111,87,101,105,103,104,116,115]⟩⟩
noncomputable def S177 : Str := ⟨⟨[105,115,95,119,104,111,108,101]⟩⟩
noncomputable def S178 : Str := ⟨⟨[105,115,95,116,114,117,116,104]⟩⟩
noncomputable def S179 : Str := ⟨⟨[105,115,95,114,111,119]⟩⟩
noncomputable def S180 : Str := ⟨⟨[95,95,109,111,100,117,108,101,95,95]⟩⟩
noncomputable def S181 : Str := ⟨⟨[112,108,97,116,101,99,117,116,115,46,101,114,114,111,114,115]⟩⟩
noncomputable def S182 : Str := ⟨⟨[95,95,113,117,97,108,110,97,109,101,95,95]⟩⟩
noncomputable def S183 : Str := ⟨⟨[95,95,102,105,114,115,116,108,105,110,101,110,111,95,95]⟩⟩
noncomputable def S184 : Str := ⟨⟨[95,95,115,116,97,116,105,99,95,97,116,116,114,105,98,117,116,101,115,95,95]⟩⟩
noncomputable def S185 : Str := ⟨⟨[95,95,119,101,97,107,114,101,102,95,95]⟩⟩
noncomputable def S186 : Str := ⟨⟨[116,104,105,110,103]⟩⟩
noncomputable def S187 : Str := ⟨⟨[108,101,97,115,116]⟩⟩
noncomputable def S188 : Str := ⟨⟨[108,97,119,95,112,108,97,116,101,99,117,116,115,95,107,54,52,95,119,104,111,108,101,95,116,114,101,101,115,95,119,101,105,103,104,101,100]⟩⟩
noncomputable def S189 : Str := ⟨⟨[99,104,101,99,107,95,112,108,97,116,101]⟩⟩
noncomputable def S190 : Str := ⟨⟨[99,104,101,99,107,95,115,105,100,101,115]⟩⟩
noncomputable def S191 : Str := ⟨⟨[77,79,83,84,95,87,69,73,71,72,84,83]⟩⟩
noncomputable def S192 : Str := ⟨⟨[105,115,95,119,101,105,103,104,116,115]⟩⟩
noncomputable def S193 : Str := ⟨⟨[98,101,115,116,95,108,101,110,103,116,104]⟩⟩
noncomputable def S194 : Str := ⟨⟨[108,101,110,103,116,104,115,95,98,121,95,115,116,101,112,115]⟩⟩
noncomputable def S195 : Str := ⟨⟨[108,111,97,100,95,111,102]⟩⟩
noncomputable def S196 : Str := ⟨⟨[108,105,101,115,95,105,110]⟩⟩
noncomputable def S197 : Str := ⟨⟨[108,121,105,110,103,115,95,105,110]⟩⟩
noncomputable def S198 : Str := ⟨⟨[77,79,83,84,95,83,73,68,69]⟩⟩
noncomputable def S199 : Str := ⟨⟨[99,104,101,99,107,95,119,101,105,103,104,116,115]⟩⟩
noncomputable def S200 : Str := ⟨⟨[107,105,110,100,95,119,101,105,103,104,116,115]⟩⟩
noncomputable def S201 : Str := ⟨⟨[112,108,97,116,101,95,108,111,97,100]⟩⟩
noncomputable def S202 : Str := ⟨⟨[98,101,97,114,115,95,119,111,114,116,104]⟩⟩
noncomputable def S203 : Str := ⟨⟨[77,79,83,84,95,75,73,78,68,83]⟩⟩
noncomputable def S204 : Str := ⟨⟨[84,72,73,78,71,83,95,79,70,95,65,95,75,73,78,68]⟩⟩
noncomputable def S205 : Str := ⟨⟨[105,115,95,107,105,110,100]⟩⟩
noncomputable def S206 : Str := ⟨⟨[99,97,110,95,108,105,101,95,116,117,114,110,101,100]⟩⟩
noncomputable def S207 : Str := ⟨⟨[83,104,111,112]⟩⟩
noncomputable def S208 : Str := ⟨⟨[95,108,97,119,95,99,101,108,108]⟩⟩
noncomputable def S209 : Str := ⟨⟨[95,108,97,119,95,112,111,116]⟩⟩
noncomputable def S210 : Str := ⟨⟨[95,108,97,119,95,100,114,97,119]⟩⟩
noncomputable def S211 : Str := ⟨⟨[95,108,97,119,95,103,114,101,97,116]⟩⟩
noncomputable def S212 : Str := ⟨⟨[95,108,97,119,95,119,101,105,103,104,116,115]⟩⟩
noncomputable def S213 : Str := ⟨⟨[95,108,97,119,95,98,108,97,100,101]⟩⟩
noncomputable def S214 : Str := ⟨⟨[95,108,97,119,95,115,105,100,101]⟩⟩
noncomputable def S215 : Str := ⟨⟨[95,108,97,119,95,108,97,105,110]⟩⟩
noncomputable def S216 : Str := ⟨⟨[95,108,97,119,95,119,101,105,103,104,101,100]⟩⟩
noncomputable def S217 : Str := ⟨⟨[95,108,97,119,95,119,111,114,116,104]⟩⟩
noncomputable def S218 : Str := ⟨⟨[95,108,97,119,95,107,105,110,100,115]⟩⟩
noncomputable def S219 : Str := ⟨⟨[95,108,97,119,95,102,105,116,116,105,110,103]⟩⟩
noncomputable def S220 : Str := ⟨⟨[95,108,97,119,95,112,97,114,116,115]⟩⟩
noncomputable def S221 : Str := ⟨⟨[95,108,97,119,95,99,111,117,110,116,115]⟩⟩
noncomputable def S222 : Str := ⟨⟨[95,108,97,119,95,109,111,115,116]⟩⟩
noncomputable def S223 : Str := ⟨⟨[95,108,97,119,95,114,105,103,104,116]⟩⟩
noncomputable def S224 : Str := ⟨⟨[108,97,119]⟩⟩
noncomputable def S225 : Str := ⟨⟨[119,105,100,101]⟩⟩
noncomputable def S226 : Str := ⟨⟨[104,105,103,104]⟩⟩
noncomputable def S227 : Str := ⟨⟨[109,111,115,116]⟩⟩
noncomputable def S228 : Str := ⟨⟨[112,108,97,116,101,99,117,116,115,46,108,111,97,100,115]⟩⟩
noncomputable def S229 : Str := ⟨⟨[98,108,97,100,101]⟩⟩
noncomputable def S230 : Str := ⟨⟨[119,101,105,103,104,116,115]⟩⟩
noncomputable def S231 : Str := ⟨⟨[108,111,97,100,115]⟩⟩
noncomputable def S232 : Str := ⟨⟨[115,105,100,101]⟩⟩
noncomputable def S233 : Str := ⟨⟨[108,111,97,100]⟩⟩
noncomputable def S234 : Str := ⟨⟨[108,101,110,103,116,104]⟩⟩
noncomputable def S235 : Str := ⟨⟨[102,105,114,115,116]⟩⟩
noncomputable def S236 : Str := ⟨⟨[98,101,104,105,110,100]⟩⟩
noncomputable def S237 : Str := ⟨⟨[116,111,103,101,116,104,101,114]⟩⟩
noncomputable def S238 : Str := ⟨⟨[115,116,101,112,115]⟩⟩
noncomputable def S239 : Str := ⟨⟨[108,101,110,103,116,104,115]⟩⟩
noncomputable def S240 : Str := ⟨⟨[114,101,97,99,104]⟩⟩
noncomputable def S241 : Str := ⟨⟨[115,104,111,112]⟩⟩
noncomputable def S242 : Str := ⟨⟨[107,105,110,100]⟩⟩
noncomputable def S243 : Str := ⟨⟨[116,117,114,110,101,100]⟩⟩
noncomputable def S244 : Str := ⟨⟨[120]⟩⟩
noncomputable def S245 : Str := ⟨⟨[121]⟩⟩
noncomputable def S246 : Str := ⟨⟨[112,105,101,99,101,95,119,105,100,101]⟩⟩
noncomputable def S247 : Str := ⟨⟨[112,105,101,99,101,95,104,105,103,104]⟩⟩
noncomputable def S248 : Str := ⟨⟨[112,108,97,116,101,99,117,116,115,46,112,97,114,116,115]⟩⟩
noncomputable def S249 : Str := ⟨⟨[117]⟩⟩
noncomputable def S250 : Str := ⟨⟨[118]⟩⟩
noncomputable def S251 : Str := ⟨⟨[112,108,97,116,101,99,117,116,115,46,119,101,105,103,104,105,110,103]⟩⟩
noncomputable def S252 : Str := ⟨⟨[119,111,114,116,104]⟩⟩
noncomputable def S253 : Str := ⟨⟨[119,97,110,116,101,100]⟩⟩
noncomputable def S254 : Str := ⟨⟨[116,117,114,110,115]⟩⟩
noncomputable def S255 : Str := ⟨⟨[112,108,97,116,101,99,117,116,115,46,115,104,111,112,115]⟩⟩
noncomputable def S256 : Str := ⟨⟨[95,95,105,110,105,116,95,95]⟩⟩
noncomputable def S257 : Str := ⟨⟨[107,105,110,100,115]⟩⟩
noncomputable def S258 : Str := ⟨⟨[108,121,105,110,103,115]⟩⟩
noncomputable def S259 : Str := ⟨⟨[105,115,95,108,121,105,110,103]⟩⟩
noncomputable def S260 : Str := ⟨⟨[115,105,100,101,115]⟩⟩
noncomputable def S261 : Str := ⟨⟨[83,104,111,112,46,95,95,105,110,105,116,95,95]⟩⟩
noncomputable def S262 : Str := ⟨⟨[115,101,108,102]⟩⟩
noncomputable def S263 : Str := ⟨⟨[83,104,111,112,46,98,108,97,100,101]⟩⟩
noncomputable def S264 : Str := ⟨⟨[83,104,111,112,46,107,105,110,100,115]⟩⟩
noncomputable def S265 : Str := ⟨⟨[83,104,111,112,46,119,97,110,116,101,100]⟩⟩
noncomputable def S266 : Str := ⟨⟨[116,111,108,100]⟩⟩
noncomputable def S267 : Str := ⟨⟨[110,117,109,98,101,114]⟩⟩
noncomputable def S268 : Str := ⟨⟨[83,104,111,112,46,108,121,105,110,103,115]⟩⟩
noncomputable def S269 : Str := ⟨⟨[83,104,111,112,46,105,115,95,108,121,105,110,103]⟩⟩
noncomputable def S270 : Str := ⟨⟨[114,111,119]⟩⟩
noncomputable def S271 : Str := ⟨⟨[83,104,111,112,46,115,105,100,101,115]⟩⟩
noncomputable def S272 : Str := ⟨⟨[98,108,97,100,101,95,119,105,100,116,104]⟩⟩
noncomputable def S273 : Str := ⟨⟨[107,105,110,100,95,114,111,119,115]⟩⟩
noncomputable def S274 : Str := ⟨⟨[95,95,100,105,99,116,95,95]⟩⟩
noncomputable def S275 : Str := ⟨⟨[95,108,97,119,95,115,99,114,105,112,116]⟩⟩
noncomputable def S276 : Str := ⟨⟨[95,108,97,119,95,107]⟩⟩
noncomputable def S277 : Str := ⟨⟨[95,108,97,119,95,99,101,108,108,95,104,101,114,101]⟩⟩
noncomputable def S278 : Str := ⟨⟨[95,108,97,119,95,112,111,116,95,104,101,114,101]⟩⟩
noncomputable def S279 : Str := ⟨⟨[95,108,97,119,95,109,97,110,121]⟩⟩
noncomputable def S280 : Str := ⟨⟨[95,108,97,119,95,100,105,103,105,116]⟩⟩
noncomputable def S281 : Str := ⟨⟨[95,108,97,119,95,119,97,121]⟩⟩
noncomputable def S282 : Str := ⟨⟨[95,108,97,119,95,98,97,115,101]⟩⟩
noncomputable def S283 : Str := ⟨⟨[95,108,97,119,95,102,111,117,110,100]⟩⟩
noncomputable def S284 : Str := ⟨⟨[95,108,97,119,95,108,101,110,103,116,104]⟩⟩
noncomputable def S285 : Str := ⟨⟨[95,108,97,119,95,109,111,115,116,95,104,101,114,101]⟩⟩
noncomputable def S286 : Str := ⟨⟨[95,108,97,119,95,119,105,100,101]⟩⟩
noncomputable def S287 : Str := ⟨⟨[95,108,97,119,95,104,105,103,104]⟩⟩
noncomputable def S288 : Str := ⟨⟨[95,108,97,119,95,116,117,114,110,115]⟩⟩
noncomputable def S289 : Str := ⟨⟨[95,108,97,119,95,115,105,122,101]⟩⟩
noncomputable def S290 : Str := ⟨⟨[95,108,97,119,95,117]⟩⟩
noncomputable def S291 : Str := ⟨⟨[95,108,97,119,95,118]⟩⟩
noncomputable def S292 : Str := ⟨⟨[95,108,97,119,95,115,111,109,101]⟩⟩
noncomputable def S293 : Str := ⟨⟨[95,108,97,119,95,119,101,105,103,104,116]⟩⟩
noncomputable def S294 : Str := ⟨⟨[95,108,97,119,95,119,111,114,116,104,95,104,101,114,101]⟩⟩
noncomputable def S295 : Str := ⟨⟨[95,108,97,119,95,119,97,110,116,101,100]⟩⟩
noncomputable def S296 : Str := ⟨⟨[95,108,97,119,95,107,105,110,100,115,95,104,101,114,101]⟩⟩
noncomputable def S297 : Str := ⟨⟨[95,108,97,119,95,110,117,109,98,101,114]⟩⟩
noncomputable def S298 : Str := ⟨⟨[95,108,97,119,95,107,105,110,100]⟩⟩
noncomputable def S299 : Str := ⟨⟨[95,108,97,119,95,111,119,110,95,119,105,100,101]⟩⟩
noncomputable def S300 : Str := ⟨⟨[95,108,97,119,95,111,119,110,95,104,105,103,104]⟩⟩
noncomputable def S301 : Str := ⟨⟨[95,108,97,119,95,98,108,97,100,101,95,104,101,114,101]⟩⟩
noncomputable def S302 : Str := ⟨⟨[95,108,97,119,95,112,108,97,99,101]⟩⟩
noncomputable def S303 : Str := ⟨⟨[95,108,97,119,95,115,104,111,112]⟩⟩
noncomputable def S304 : Str := ⟨⟨[95,108,97,119,95,119,101,105,103,104,116,115,95,104,101,114,101]⟩⟩
noncomputable def S305 : Str := ⟨⟨[95,108,97,119,95,108,111,97,100]⟩⟩
noncomputable def S306 : Str := ⟨⟨[95,108,97,119,95,98,111,114,110,101]⟩⟩
noncomputable def S307 : Str := ⟨⟨[95,108,97,119,95,99,111,117,110,116,115,95,104,101,114,101]⟩⟩
noncomputable def S308 : Str := ⟨⟨[95,108,97,119,95,111,119,110]⟩⟩
noncomputable abbrev HK : Hook := kHook Pc.kK [nat_lit 3,nat_lit 23,nat_lit 24,nat_lit 36,nat_lit 37,nat_lit 48,nat_lit 49,nat_lit 60,nat_lit 61,nat_lit 72,nat_lit 73,nat_lit 84,nat_lit 85,nat_lit 96,nat_lit 97,nat_lit 108,nat_lit 109,nat_lit 120,nat_lit 121,nat_lit 129,nat_lit 130,nat_lit 136,nat_lit 137,nat_lit 143,nat_lit 144,nat_lit 150,nat_lit 151,nat_lit 157,nat_lit 158,nat_lit 162,nat_lit 163,nat_lit 169,nat_lit 170,nat_lit 176,nat_lit 177,nat_lit 183,nat_lit 184,nat_lit 190,nat_lit 191,nat_lit 195,nat_lit 196,nat_lit 202,nat_lit 203,nat_lit 207,nat_lit 208,nat_lit 214,nat_lit 215,nat_lit 219,nat_lit 220,nat_lit 226,nat_lit 227,nat_lit 233,nat_lit 234,nat_lit 245,nat_lit 246,nat_lit 252,nat_lit 253,nat_lit 259,nat_lit 260,nat_lit 264,nat_lit 265,nat_lit 271,nat_lit 272,nat_lit 278,nat_lit 279,nat_lit 285,nat_lit 286,nat_lit 288,nat_lit 289,nat_lit 299,nat_lit 300,nat_lit 306,nat_lit 307,nat_lit 313,nat_lit 314,nat_lit 320,nat_lit 321,nat_lit 327,nat_lit 328,nat_lit 334,nat_lit 335,nat_lit 341,nat_lit 342,nat_lit 348,nat_lit 349,nat_lit 355,nat_lit 356,nat_lit 362,nat_lit 363,nat_lit 369,nat_lit 370,nat_lit 376,nat_lit 377,nat_lit 383,nat_lit 384,nat_lit 388,nat_lit 389,nat_lit 395,nat_lit 396,nat_lit 402,nat_lit 403,nat_lit 409,nat_lit 410] (fun _ => by kernel_rfl)
noncomputable abbrev pt : Program := PySem.W.Fast.tw15984070522212093348
theorem pt_eq : PySem.Challenge.pw_platecuts_k64_whole_trees_weighed = pt := PySem.W.Fast.te15984070522212093348
noncomputable def tp (i : Nat) : Stmt := pt.main.body.getD i (.Pass ⟨0,0,0,0⟩)
noncomputable abbrev f (o : Params → Obj) (l r : Params → BT) : Params → BT := fun P => .node (o P) (l P) (r P)
noncomputable abbrev z : Params → BT := fun _ => .nil
noncomputable abbrev e (P : Params) (n : Str) (t : Nat) (v : Value) : DictEntry := ⟨PyData.keyHash P n,.str n t,v⟩
noncomputable abbrev m0 : Nat := nat_lit 11
noncomputable abbrev an : Option Value := (some (.ref 6))
noncomputable abbrev en : Env := { scope := pt.main.scope,locals := mainNs,globals := mainNs,cells := [],code := (.ref 13),frame := some 14 }
noncomputable abbrev cE : Code := .body (behindTheImports pt) en
noncomputable abbrev qP : Pos := ⟨0,0,0,0⟩
noncomputable abbrev B : List Frame := [topFrame qP]
noncomputable abbrev L0 : String := PySem.W.SL.s14018661285674007319x4
noncomputable abbrev L1 : String := PySem.W.SL.s11665532747177232413x24
noncomputable abbrev L2 : String := PySem.W.SL.s15183661809925369436x15
noncomputable abbrev L3 : String := PySem.W.SL.s13915890719876406383x10
noncomputable abbrev L4 : String := PySem.W.SL.s13459172003223722735x3
noncomputable abbrev L5 : String := PySem.W.SL.s10557405761357834076x3
noncomputable abbrev L6 : String := PySem.W.SL.s4233737765568776869x3
noncomputable abbrev L7 : String := PySem.W.SL.s2508922471967985374x5
noncomputable abbrev L8 : String := PySem.W.SL.s15574269061696679450x3
noncomputable abbrev L9 : String := PySem.W.SL.s6016482663378992977x10
noncomputable abbrev L10 : String := PySem.W.SL.s5596568736180474577x8
noncomputable abbrev L11 : String := PySem.W.SL.s2839554839881490554x3
noncomputable abbrev L12 : String := PySem.W.SL.s725004073602090463x7
noncomputable abbrev L13 : String := PySem.W.SL.s9436932552931045734x7
noncomputable abbrev L14 : String := PySem.W.SL.s2754603736356183583x3
noncomputable abbrev L15 : String := PySem.W.SL.s15185746759980889043x6
noncomputable abbrev L16 : String := PySem.W.SL.s8192189862530294059x4
noncomputable abbrev L17 : String := PySem.W.SL.s7038307821325472102x4
noncomputable abbrev L18 : String := PySem.W.SL.s5662562618415449548x6
noncomputable abbrev L19 : String := PySem.W.SL.s15281542589158584767x7
noncomputable abbrev L20 : String := PySem.W.SL.s17651547275483570877x7
noncomputable abbrev L21 : String := PySem.W.SL.s4036449017235975746x7
noncomputable abbrev L22 : String := PySem.W.SL.s8879979712987360175x4
noncomputable abbrev L23 : String := PySem.W.SL.s1801250619170735830x3
noncomputable abbrev L24 : String := PySem.W.SL.s17659931425627118568x2
noncomputable abbrev L25 : String := PySem.W.SL.s6063217899685152688x5
noncomputable abbrev L26 : String := PySem.W.SL.s8008927332132565319x10
noncomputable abbrev L27 : String := PySem.W.SL.s3544116645089599534x10
noncomputable abbrev L28 : String := PySem.W.SL.s13761710972054866084x4
noncomputable abbrev L29 : String := PySem.W.SL.s12896375587409280029x5
noncomputable abbrev L30 : String := PySem.W.SL.s13014049009108672802x3
noncomputable abbrev L31 : String := PySem.W.SL.s13935586738268321596x6
noncomputable abbrev L32 : String := PySem.W.SL.s8200498257699607233x3
noncomputable abbrev L33 : String := PySem.W.SL.s14114244577727609259x3
noncomputable abbrev L34 : String := PySem.W.SL.s1499430450269397089x4
noncomputable abbrev L35 : String := PySem.W.SL.s8755793994789770505x5
noncomputable abbrev L36 : String := PySem.W.SL.s15725212667919936108x3
noncomputable abbrev L37 : String := PySem.W.SL.s15791221867095933363x3
noncomputable abbrev L38 : String := PySem.W.SL.s81309575031448614x3
noncomputable abbrev L39 : String := PySem.W.SL.s8069831620301644142x5
noncomputable abbrev L40 : String := PySem.W.SL.s10061844253413749634x4
noncomputable abbrev L41 : String := PySem.W.SL.s9496514870978017513x5
noncomputable abbrev L42 : String := PySem.W.SL.s8899691144933366716x7
noncomputable abbrev L43 : String := PySem.W.SL.s15201008993051130160x6
noncomputable abbrev L44 : String := PySem.W.SL.s741896355592496720x3
noncomputable abbrev L45 : String := PySem.W.SL.s17925004256654032244x4
noncomputable abbrev L46 : String := PySem.W.SL.s11695548795398191787x4
noncomputable abbrev L47 : String := PySem.W.SL.s4156966113859768872x10
noncomputable abbrev L48 : String := PySem.W.SL.s9501651726347032510x9
noncomputable abbrev L49 : String := PySem.W.SL.s15722918466584999320x5
noncomputable abbrev L50 : String := PySem.W.SL.s591115383303110208x11
noncomputable abbrev L51 : String := PySem.W.SL.s15721156781594690315x7
noncomputable abbrev L52 : String := PySem.W.SL.s14340494229221121180x9
noncomputable abbrev L53 : String := PySem.W.SL.s13429844117177748173x6
noncomputable abbrev L54 : String := PySem.W.SL.s16463266125957815391x5
noncomputable abbrev L55 : String := PySem.W.SL.s4922535414793169389x9
noncomputable abbrev L56 : String := PySem.W.SL.s8101838861749082086x8
noncomputable abbrev L57 : String := PySem.W.SL.s7066276694103001551x3
noncomputable abbrev L58 : String := PySem.W.SL.s9222952809800978799x4
noncomputable abbrev L59 : String := PySem.W.SL.s462964344163437139x3
noncomputable abbrev L60 : String := PySem.W.SL.s2742458400755230247x6
noncomputable abbrev L61 : String := PySem.W.SL.s1438033511350832697x5
noncomputable abbrev L62 : String := PySem.W.SL.s14365286008749172514x8
noncomputable abbrev L63 : String := PySem.W.SL.s3642769012341782148x3
noncomputable abbrev L64 : String := PySem.W.SL.s4674234679698826739x5
noncomputable abbrev L65 : String := PySem.W.SL.s16656946322747308186x12
noncomputable abbrev L66 : String := PySem.W.SL.s10796804682411823810x3
noncomputable abbrev L67 : String := PySem.W.SL.s4290257624100764138x5
noncomputable abbrev L68 : String := PySem.W.SL.s2766695959194262286x5
noncomputable abbrev L69 : String := PySem.W.SL.s17162191345867700912x4
noncomputable abbrev L70 : String := PySem.W.SL.s14339709457334898076x3
noncomputable abbrev L71 : String := PySem.W.SL.s4278001404047624695x13
noncomputable abbrev L72 : String := PySem.W.SL.s6585700554429387442x18
noncomputable abbrev L73 : String := PySem.W.SL.s5946037652744460706x9
noncomputable abbrev L74 : String := PySem.W.SL.s7410770068591931388x13
noncomputable abbrev L75 : String := PySem.W.SL.s11817881795495490833x17
noncomputable abbrev L76 : String := PySem.W.SL.s15679963881808890155x10
noncomputable abbrev L77 : String := PySem.W.SL.s3871700062485845797x15
noncomputable abbrev L78 : String := PySem.W.SL.s7689518266570723881x14
noncomputable abbrev L79 : String := PySem.W.SL.s9001593270443806431x14
noncomputable abbrev L80 : String := PySem.W.SL.s6882542574934516792x11
noncomputable abbrev L81 : String := PySem.W.SL.s14403400214490484960x8
noncomputable abbrev L82 : String := PySem.W.SL.s14457978657717015782x11
noncomputable abbrev L83 : String := PySem.W.SL.s1753610191782819921x11
noncomputable abbrev L84 : String := PySem.W.SL.s14119380538032626715x11
noncomputable abbrev L85 : String := PySem.W.SL.s11437920000406562045x9
noncomputable abbrev L86 : String := PySem.W.SL.s10852414792293593619x7
noncomputable abbrev L87 : String := PySem.W.SL.s14816307405966870543x14
noncomputable abbrev L88 : String := PySem.W.SL.s8682627914449686677x12
noncomputable abbrev L89 : String := PySem.W.SL.s4428170145600203450x18
noncomputable abbrev L90 : String := PySem.W.SL.s5991306692159431302x13
noncomputable abbrev L91 : String := PySem.W.SL.s16067994140765818257x11
noncomputable abbrev L92 : String := PySem.W.SL.s2327743974964600596x11
noncomputable abbrev L93 : String := PySem.W.SL.s2804747833354056582x9
noncomputable abbrev L94 : String := PySem.W.SL.s6070975301684473832x10
noncomputable abbrev L95 : String := PySem.W.SL.s14270485950484850486x7
noncomputable abbrev L96 : String := PySem.W.SL.s12041534306414923332x18
noncomputable abbrev L97 : String := PySem.W.SL.s2531307568338490285x13
noncomputable abbrev L98 : String := PySem.W.SL.s631175304937289666x17
noncomputable abbrev L99 : String := PySem.W.SL.s5144983644357021410x12
noncomputable abbrev L100 : String := PySem.W.SL.s18039099521571816885x18
noncomputable abbrev L101 : String := PySem.W.SL.s6011586214260557989x15
noncomputable abbrev L102 : String := PySem.W.SL.s5430567037509283100x13
noncomputable abbrev L103 : String := PySem.W.SL.s8117915138073963741x13
noncomputable abbrev L104 : String := PySem.W.SL.s3423317712779056401x25
noncomputable abbrev L105 : String := PySem.W.SL.s2007317383269046180x15
noncomputable abbrev L106 : String := PySem.W.SL.s17481586968713580700x14
noncomputable abbrev L107 : String := PySem.W.SL.s2450899226349176912x13
noncomputable abbrev L108 : String := PySem.W.SL.s16626165730633575011x14
noncomputable abbrev L109 : String := PySem.W.SL.s14288496050688921416x11
noncomputable abbrev L110 : String := PySem.W.SL.s5735081916595925998x15
noncomputable abbrev L111 : String := PySem.W.SL.s3865607918536308442x17
noncomputable abbrev L112 : String := PySem.W.SL.s13337502604062700212x15
noncomputable abbrev L113 : String := PySem.W.SL.s13114017843053701147x15
noncomputable abbrev L114 : String := PySem.W.SL.s17467278006356818441x17
noncomputable abbrev L115 : String := PySem.W.SL.s17722149559621369488x16
noncomputable abbrev L116 : String := PySem.W.SL.s7855274175708717672x17
noncomputable abbrev L117 : String := PySem.W.SL.s13351283678309829046x18
noncomputable abbrev L118 : String := PySem.W.SL.s6668348653404991179x15
noncomputable abbrev L119 : String := PySem.W.SL.s12913350958174193794x18
noncomputable abbrev L120 : String := PySem.W.SL.s16115879512475548326x12
noncomputable abbrev L121 : String := PySem.W.SL.s15920661018069861047x16
noncomputable abbrev L122 : String := PySem.W.SL.s10779130036587390575x21
noncomputable abbrev L123 : String := PySem.W.SL.s7801419657504700863x10
noncomputable abbrev L124 : String := PySem.W.SL.s1688129525768580628x8
noncomputable abbrev L125 : String := PySem.W.SL.s1031832959479892071x19
noncomputable abbrev L126 : String := PySem.W.SL.s8991790508128307865x19
noncomputable abbrev L127 : String := PySem.W.SL.s14539662485746970245x23
noncomputable abbrev L128 : String := PySem.W.SL.s11643622729373238714x14
noncomputable abbrev L129 : String := PySem.W.SL.s3386828779285465597x17
noncomputable abbrev L130 : String := PySem.W.SL.s13042696260734638735x12
noncomputable abbrev L131 : String := PySem.W.SL.s18239426817015966623x15
noncomputable abbrev L132 : String := PySem.W.SL.s1270395311379034370x22
noncomputable abbrev L133 : String := PySem.W.SL.s10696252587037064777x22
noncomputable abbrev L134 : String := PySem.W.SL.s7852717498200857586x20
noncomputable abbrev L135 : String := PySem.W.SL.s6377248116197321094x8
noncomputable abbrev L136 : String := PySem.W.SL.s3834378056692298002x18
noncomputable abbrev L137 : String := PySem.W.SL.s17586630440231065808x18
noncomputable abbrev L138 : String := PySem.W.SL.s15234114252648025395x21
noncomputable abbrev L139 : String := PySem.W.SL.s8496462677383758984x14
noncomputable abbrev L140 : String := PySem.W.SL.s16789243406116112673x4
noncomputable abbrev L141 : String := PySem.W.SL.s14400166428656793546x20
noncomputable abbrev L142 : String := PySem.W.SL.s5857708277339239366x20
noncomputable abbrev L143 : String := PySem.W.SL.s7804999707787243718x20
noncomputable abbrev L144 : String := PySem.W.SL.s7097527257260152453x26
noncomputable abbrev L145 : String := PySem.W.SL.s6658869562736209489x6
noncomputable abbrev L146 : String := PySem.W.SL.s5856160107412720595x4
noncomputable abbrev L147 : String := PySem.W.SL.s658472552662922059x5
noncomputable abbrev sZ (w : World) (os : OsState) : Shared := ⟨boot_heap w.params,Array.mk [],boot_drawn,boot_toks,os⟩
noncomputable def o11 (P : Params) : Obj := ⟨(.type L68),none,(.seq #[] 0),#[]⟩
noncomputable def o12 (P : Params) : Obj := ⟨.none,none,(.fields #[]),#[]⟩
noncomputable def o13 (P : Params) : Obj := ⟨(.type L146),none,(.fields #[.str S166 182,.str S166 183,.str S164 184,.int 1 0,.int 0 0,.int 0 0,.int 0 0,.int 0 0,.ref 11,.bool false,.int 181 0,.ref 12,.none,.none,.none,.none,.int 185 0,.int 1 0,.str S164 186]),#[]⟩
noncomputable def o14 (P : Params) : Obj := ⟨(.type L147),none,.plain,#[some (.ref 13),some (.ref 3),some (.ref 3),none,some (.str S160 164),none,some (.ref 0)]⟩
noncomputable def hA (P : Params) : Heap := ⟨⟨[boot_o_0 P,boot_o_1 P,boot_o_2 P,boot_o_3 P,boot_o_4 P,boot_o_5 P,boot_o_6 P,boot_o_7 P,boot_o_8 P,boot_o_9 P,boot_o_10 P,o11 P,o12 P,o13 P,o14 P]⟩,{ }⟩
noncomputable abbrev sA (w : World) (os : OsState) : Shared := ⟨hA w.params,(Array.mk []),⟨0,0,0,0⟩,187,os⟩
noncomputable abbrev pA : Pos := ⟨0,0,0,0⟩
theorem pre (w : World) : (fun os => topGo treeTable pt w m0 an 12 (sZ w os) (topStub pt)) = fun os => some (sA w os,(⟨denote treeTable cE,cE,pA,B⟩ : Thread)) := by
  rw [PySem.W.Fast.te15667345088766844465,PySem.W.Fast.te14364793385576792824,PySem.W.Fast.te11892475500146522536]; kernel_rfl
noncomputable def tB : Params → BT := (f boot_o_0 (f boot_o_1 (f boot_o_3 (f boot_o_7 z z) (f o11 z z)) (f boot_o_5 (f boot_o_9 z z) (f o13 z z))) (f boot_o_2 (f boot_o_4 (f boot_o_8 z z) (f o12 z z)) (f boot_o_6 (f boot_o_10 z z) (f o14 z z))))
noncomputable abbrev sB (w : World) (os : OsState) : SharedT := ⟨tB w.params,15,{ },(Array.mk []),⟨0,0,0,0⟩,187,os⟩
noncomputable abbrev pB : Pos := ⟨0,0,0,0⟩
theorem blk (w : World) : (fun os => segRun treeTable pt w m0 an 1 1 (sA w os) ⟨(blockStart (behindTheImports pt) en).wrap (fun _ => doneF .next) deadEnd id id,cE,pA,B⟩) = fun os => some (.next,(sB w os).abs,cE,pB) := by
  rw [PySem.W.Fast.te14374325043358763698,PySem.W.Fast.te14364793385576792824,PySem.W.Fast.te1066825118222455980]; kernel_rfl
noncomputable def o3v1 (P : Params) : Obj := ⟨(.type L0),none,(.dict #[e P S0 165 (.str S167 335),e P S2 166 .none,e P S3 167 .none,e P S4 168 (.builtin L144),e P S5 169 .none,e P S161 170 (.ref 6),e P S162 171 (.ref 4),e P S163 173 (.str S164 172),e P S165 174 .none,e P S168 206 (.ref 24),e P S169 222 (.ref 37),e P S170 238 (.ref 49),e P S171 254 (.ref 61),e P S172 270 (.ref 73),e P S173 286 (.ref 85),e P S174 302 (.ref 97),e P S175 318 (.ref 109),e P S176 334 (.ref 121),e P S177 344 (.ref 130),e P S178 351 (.ref 137),e P S179 358 (.ref 144)] 21),#[]⟩
noncomputable def o12v1 (P : Params) : Obj := ⟨.none,none,(.fields #[.int 2 0,.int 0 0,.ref 20,.int 4 0,.int 0 0,.ref 33,.int 6 0,.int 0 0,.ref 45,.int 8 0,.int 0 0,.ref 57,.int 10 0,.int 0 0,.ref 69,.int 12 0,.int 0 0,.ref 81,.int 14 0,.int 0 0,.ref 93,.int 16 0,.int 0 0,.ref 105,.int 18 0,.int 0 0,.ref 117,.int 21 0,.int 0 0,.ref 129,.int 23 0,.int 0 0,.ref 136,.int 25 0,.int 0 0,.ref 143]),#[]⟩
noncomputable def o15 (P : Params) : Obj := ⟨(.type L68),none,(.seq #[.type L94] 0),#[]⟩
noncomputable abbrev L148 : String := PySem.W.SL.s11030030927630378310x26
noncomputable abbrev L149 : String := PySem.W.SL.s10062305145149207511x16
noncomputable def o16 (P : Params) : Obj := ⟨(.type L148),none,(.fields #[.builtin L149,.type L69]),#[]⟩
noncomputable def o17 (P : Params) : Obj := ⟨(.type L0),none,(.dict #[e P S180 196 (.str S181 187),e P S182 198 (.str S168 197),e P S183 200 (.int 2 199),e P S184 201 (.ref 22)] 4),#[]⟩
noncomputable def o18 (P : Params) : Obj := ⟨(.type L68),none,(.seq #[] 0),#[]⟩
noncomputable def o19 (P : Params) : Obj := ⟨.none,none,(.fields #[]),#[]⟩
noncomputable def o20 (P : Params) : Obj := ⟨(.type L146),none,(.fields #[.str S168 191,.str S168 192,.str S164 193,.int 2 0,.int 0 0,.int 0 0,.int 0 0,.int 0 0,.ref 18,.bool false,.int 181 0,.ref 19,.none,.none,.none,.none,.int 194 0,.int 2 0,.str S164 195]),#[]⟩
noncomputable def o21 (P : Params) : Obj := ⟨(.type L147),none,.plain,#[some (.ref 20),some (.ref 3),some (.ref 17),none,some (.str S181 187),none,some (.ref 0)]⟩
noncomputable def o22 (P : Params) : Obj := ⟨(.type L68),none,(.seq #[] 0),#[]⟩
noncomputable def o23 (P : Params) : Obj := ⟨(.type L0),none,(.dict #[e P S180 196 (.str S181 187),e P S183 200 (.int 2 199),e P S184 201 (.ref 22),e P S185 203 (.ref 25),e P S2 204 .none] 3),#[]⟩
noncomputable abbrev L150 : String := PySem.W.SL.s4209523147560561109x18
noncomputable def o24 (P : Params) : Obj := ⟨(.type L69),none,(.cls ⟨S168,[.type L94],[.ref 24,.type L94,.type L73,.type L71,.type L60],23,S168,true,[],[.ref 37,.ref 49,.ref 61,.ref 73,.ref 85,.ref 97,.ref 109,.ref 121],false,none,false⟩),#[some (.ref 15),none,some (.str S168 189),some (.str S168 197),some (.builtin L150),some (.bool true)]⟩
noncomputable abbrev L151 : String := PySem.W.SL.s14755015743595814543x17
noncomputable abbrev L152 : String := PySem.W.SL.s10220274742760427390x26
noncomputable def o25 (P : Params) : Obj := ⟨(.type L151),none,(.fields #[.str S185 202,.ref 24,.builtin L152,.none]),#[]⟩
noncomputable def o26 (P : Params) : Obj := ⟨(.type L67),none,(.fields #[.ref 24,.ref 24,.ref 24]),#[]⟩
noncomputable abbrev L153 : String := PySem.W.SL.s4860613602091757760x24
noncomputable def o27 (P : Params) : Obj := ⟨(.type L148),none,(.fields #[.builtin L153,.ref 24]),#[]⟩
noncomputable def o28 (P : Params) : Obj := ⟨(.type L68),none,(.seq #[.ref 24] 0),#[]⟩
noncomputable def o29 (P : Params) : Obj := ⟨(.type L148),none,(.fields #[.builtin L149,.type L69]),#[]⟩
noncomputable def o30 (P : Params) : Obj := ⟨(.type L0),none,(.dict #[e P S180 214 (.str S181 187),e P S182 216 (.str S169 215),e P S183 218 (.int 4 217),e P S184 219 (.ref 35)] 4),#[]⟩
noncomputable def o31 (P : Params) : Obj := ⟨(.type L68),none,(.seq #[] 0),#[]⟩
noncomputable def o32 (P : Params) : Obj := ⟨.none,none,(.fields #[]),#[]⟩
noncomputable def o33 (P : Params) : Obj := ⟨(.type L146),none,(.fields #[.str S169 209,.str S169 210,.str S164 211,.int 4 0,.int 0 0,.int 0 0,.int 0 0,.int 0 0,.ref 31,.bool false,.int 181 0,.ref 32,.none,.none,.none,.none,.int 212 0,.int 4 0,.str S164 213]),#[]⟩
noncomputable def o34 (P : Params) : Obj := ⟨(.type L147),none,.plain,#[some (.ref 33),some (.ref 3),some (.ref 30),none,some (.str S181 187),none,some (.ref 0)]⟩
noncomputable def o35 (P : Params) : Obj := ⟨(.type L68),none,(.seq #[] 0),#[]⟩
noncomputable def o36 (P : Params) : Obj := ⟨(.type L0),none,(.dict #[e P S180 214 (.str S181 187),e P S183 218 (.int 4 217),e P S184 219 (.ref 35),e P S2 220 .none] 2),#[]⟩
noncomputable def o37 (P : Params) : Obj := ⟨(.type L69),none,(.cls ⟨S169,[.ref 24],[.ref 37,.ref 24,.type L94,.type L73,.type L71,.type L60],36,S169,true,[],[],false,none,false⟩),#[some (.ref 28),none,some (.str S169 207),some (.str S169 215),some (.builtin L150),some (.bool true)]⟩
noncomputable def o38 (P : Params) : Obj := ⟨(.type L67),none,(.fields #[.ref 37,.ref 37,.ref 37]),#[]⟩
noncomputable def o39 (P : Params) : Obj := ⟨(.type L148),none,(.fields #[.builtin L153,.ref 37]),#[]⟩
noncomputable def o40 (P : Params) : Obj := ⟨(.type L68),none,(.seq #[.ref 24] 0),#[]⟩
noncomputable def o41 (P : Params) : Obj := ⟨(.type L148),none,(.fields #[.builtin L149,.type L69]),#[]⟩
noncomputable def o42 (P : Params) : Obj := ⟨(.type L0),none,(.dict #[e P S180 230 (.str S181 187),e P S182 232 (.str S170 231),e P S183 234 (.int 6 233),e P S184 235 (.ref 47)] 4),#[]⟩
noncomputable def o43 (P : Params) : Obj := ⟨(.type L68),none,(.seq #[] 0),#[]⟩
noncomputable def o44 (P : Params) : Obj := ⟨.none,none,(.fields #[]),#[]⟩
noncomputable def o45 (P : Params) : Obj := ⟨(.type L146),none,(.fields #[.str S170 225,.str S170 226,.str S164 227,.int 6 0,.int 0 0,.int 0 0,.int 0 0,.int 0 0,.ref 43,.bool false,.int 181 0,.ref 44,.none,.none,.none,.none,.int 228 0,.int 6 0,.str S164 229]),#[]⟩
noncomputable def o46 (P : Params) : Obj := ⟨(.type L147),none,.plain,#[some (.ref 45),some (.ref 3),some (.ref 42),none,some (.str S181 187),none,some (.ref 0)]⟩
noncomputable def o47 (P : Params) : Obj := ⟨(.type L68),none,(.seq #[] 0),#[]⟩
noncomputable def o48 (P : Params) : Obj := ⟨(.type L0),none,(.dict #[e P S180 230 (.str S181 187),e P S183 234 (.int 6 233),e P S184 235 (.ref 47),e P S2 236 .none] 2),#[]⟩
noncomputable def o49 (P : Params) : Obj := ⟨(.type L69),none,(.cls ⟨S170,[.ref 24],[.ref 49,.ref 24,.type L94,.type L73,.type L71,.type L60],48,S170,true,[],[],false,none,false⟩),#[some (.ref 40),none,some (.str S170 223),some (.str S170 231),some (.builtin L150),some (.bool true)]⟩
noncomputable def o50 (P : Params) : Obj := ⟨(.type L67),none,(.fields #[.ref 49,.ref 49,.ref 49]),#[]⟩
noncomputable def o51 (P : Params) : Obj := ⟨(.type L148),none,(.fields #[.builtin L153,.ref 49]),#[]⟩
noncomputable def o52 (P : Params) : Obj := ⟨(.type L68),none,(.seq #[.ref 24] 0),#[]⟩
noncomputable def o53 (P : Params) : Obj := ⟨(.type L148),none,(.fields #[.builtin L149,.type L69]),#[]⟩
noncomputable def o54 (P : Params) : Obj := ⟨(.type L0),none,(.dict #[e P S180 246 (.str S181 187),e P S182 248 (.str S171 247),e P S183 250 (.int 8 249),e P S184 251 (.ref 59)] 4),#[]⟩
noncomputable def o55 (P : Params) : Obj := ⟨(.type L68),none,(.seq #[] 0),#[]⟩
noncomputable def o56 (P : Params) : Obj := ⟨.none,none,(.fields #[]),#[]⟩
noncomputable def o57 (P : Params) : Obj := ⟨(.type L146),none,(.fields #[.str S171 241,.str S171 242,.str S164 243,.int 8 0,.int 0 0,.int 0 0,.int 0 0,.int 0 0,.ref 55,.bool false,.int 181 0,.ref 56,.none,.none,.none,.none,.int 244 0,.int 8 0,.str S164 245]),#[]⟩
noncomputable def o58 (P : Params) : Obj := ⟨(.type L147),none,.plain,#[some (.ref 57),some (.ref 3),some (.ref 54),none,some (.str S181 187),none,some (.ref 0)]⟩
noncomputable def o59 (P : Params) : Obj := ⟨(.type L68),none,(.seq #[] 0),#[]⟩
noncomputable def o60 (P : Params) : Obj := ⟨(.type L0),none,(.dict #[e P S180 246 (.str S181 187),e P S183 250 (.int 8 249),e P S184 251 (.ref 59),e P S2 252 .none] 2),#[]⟩
noncomputable def o61 (P : Params) : Obj := ⟨(.type L69),none,(.cls ⟨S171,[.ref 24],[.ref 61,.ref 24,.type L94,.type L73,.type L71,.type L60],60,S171,true,[],[],false,none,false⟩),#[some (.ref 52),none,some (.str S171 239),some (.str S171 247),some (.builtin L150),some (.bool true)]⟩
noncomputable def o62 (P : Params) : Obj := ⟨(.type L67),none,(.fields #[.ref 61,.ref 61,.ref 61]),#[]⟩
noncomputable def o63 (P : Params) : Obj := ⟨(.type L148),none,(.fields #[.builtin L153,.ref 61]),#[]⟩
noncomputable def o64 (P : Params) : Obj := ⟨(.type L68),none,(.seq #[.ref 24] 0),#[]⟩
noncomputable def o65 (P : Params) : Obj := ⟨(.type L148),none,(.fields #[.builtin L149,.type L69]),#[]⟩
noncomputable def o66 (P : Params) : Obj := ⟨(.type L0),none,(.dict #[e P S180 262 (.str S181 187),e P S182 264 (.str S172 263),e P S183 266 (.int 10 265),e P S184 267 (.ref 71)] 4),#[]⟩
noncomputable def o67 (P : Params) : Obj := ⟨(.type L68),none,(.seq #[] 0),#[]⟩
noncomputable def o68 (P : Params) : Obj := ⟨.none,none,(.fields #[]),#[]⟩
noncomputable def o69 (P : Params) : Obj := ⟨(.type L146),none,(.fields #[.str S172 257,.str S172 258,.str S164 259,.int 10 0,.int 0 0,.int 0 0,.int 0 0,.int 0 0,.ref 67,.bool false,.int 181 0,.ref 68,.none,.none,.none,.none,.int 260 0,.int 10 0,.str S164 261]),#[]⟩
noncomputable def o70 (P : Params) : Obj := ⟨(.type L147),none,.plain,#[some (.ref 69),some (.ref 3),some (.ref 66),none,some (.str S181 187),none,some (.ref 0)]⟩
noncomputable def o71 (P : Params) : Obj := ⟨(.type L68),none,(.seq #[] 0),#[]⟩
noncomputable def o72 (P : Params) : Obj := ⟨(.type L0),none,(.dict #[e P S180 262 (.str S181 187),e P S183 266 (.int 10 265),e P S184 267 (.ref 71),e P S2 268 .none] 2),#[]⟩
noncomputable def o73 (P : Params) : Obj := ⟨(.type L69),none,(.cls ⟨S172,[.ref 24],[.ref 73,.ref 24,.type L94,.type L73,.type L71,.type L60],72,S172,true,[],[],false,none,false⟩),#[some (.ref 64),none,some (.str S172 255),some (.str S172 263),some (.builtin L150),some (.bool true)]⟩
noncomputable def o74 (P : Params) : Obj := ⟨(.type L67),none,(.fields #[.ref 73,.ref 73,.ref 73]),#[]⟩
noncomputable def o75 (P : Params) : Obj := ⟨(.type L148),none,(.fields #[.builtin L153,.ref 73]),#[]⟩
noncomputable def o76 (P : Params) : Obj := ⟨(.type L68),none,(.seq #[.ref 24] 0),#[]⟩
noncomputable def o77 (P : Params) : Obj := ⟨(.type L148),none,(.fields #[.builtin L149,.type L69]),#[]⟩
noncomputable def o78 (P : Params) : Obj := ⟨(.type L0),none,(.dict #[e P S180 278 (.str S181 187),e P S182 280 (.str S173 279),e P S183 282 (.int 12 281),e P S184 283 (.ref 83)] 4),#[]⟩
noncomputable def o79 (P : Params) : Obj := ⟨(.type L68),none,(.seq #[] 0),#[]⟩
noncomputable def o80 (P : Params) : Obj := ⟨.none,none,(.fields #[]),#[]⟩
noncomputable def o81 (P : Params) : Obj := ⟨(.type L146),none,(.fields #[.str S173 273,.str S173 274,.str S164 275,.int 12 0,.int 0 0,.int 0 0,.int 0 0,.int 0 0,.ref 79,.bool false,.int 181 0,.ref 80,.none,.none,.none,.none,.int 276 0,.int 12 0,.str S164 277]),#[]⟩
noncomputable def o82 (P : Params) : Obj := ⟨(.type L147),none,.plain,#[some (.ref 81),some (.ref 3),some (.ref 78),none,some (.str S181 187),none,some (.ref 0)]⟩
noncomputable def o83 (P : Params) : Obj := ⟨(.type L68),none,(.seq #[] 0),#[]⟩
noncomputable def o84 (P : Params) : Obj := ⟨(.type L0),none,(.dict #[e P S180 278 (.str S181 187),e P S183 282 (.int 12 281),e P S184 283 (.ref 83),e P S2 284 .none] 2),#[]⟩
noncomputable def o85 (P : Params) : Obj := ⟨(.type L69),none,(.cls ⟨S173,[.ref 24],[.ref 85,.ref 24,.type L94,.type L73,.type L71,.type L60],84,S173,true,[],[],false,none,false⟩),#[some (.ref 76),none,some (.str S173 271),some (.str S173 279),some (.builtin L150),some (.bool true)]⟩
noncomputable def o86 (P : Params) : Obj := ⟨(.type L67),none,(.fields #[.ref 85,.ref 85,.ref 85]),#[]⟩
noncomputable def o87 (P : Params) : Obj := ⟨(.type L148),none,(.fields #[.builtin L153,.ref 85]),#[]⟩
noncomputable def o88 (P : Params) : Obj := ⟨(.type L68),none,(.seq #[.ref 24] 0),#[]⟩
noncomputable def o89 (P : Params) : Obj := ⟨(.type L148),none,(.fields #[.builtin L149,.type L69]),#[]⟩
noncomputable def o90 (P : Params) : Obj := ⟨(.type L0),none,(.dict #[e P S180 294 (.str S181 187),e P S182 296 (.str S174 295),e P S183 298 (.int 14 297),e P S184 299 (.ref 95)] 4),#[]⟩
noncomputable def o91 (P : Params) : Obj := ⟨(.type L68),none,(.seq #[] 0),#[]⟩
noncomputable def o92 (P : Params) : Obj := ⟨.none,none,(.fields #[]),#[]⟩
noncomputable def o93 (P : Params) : Obj := ⟨(.type L146),none,(.fields #[.str S174 289,.str S174 290,.str S164 291,.int 14 0,.int 0 0,.int 0 0,.int 0 0,.int 0 0,.ref 91,.bool false,.int 181 0,.ref 92,.none,.none,.none,.none,.int 292 0,.int 14 0,.str S164 293]),#[]⟩
noncomputable def o94 (P : Params) : Obj := ⟨(.type L147),none,.plain,#[some (.ref 93),some (.ref 3),some (.ref 90),none,some (.str S181 187),none,some (.ref 0)]⟩
noncomputable def o95 (P : Params) : Obj := ⟨(.type L68),none,(.seq #[] 0),#[]⟩
noncomputable def o96 (P : Params) : Obj := ⟨(.type L0),none,(.dict #[e P S180 294 (.str S181 187),e P S183 298 (.int 14 297),e P S184 299 (.ref 95),e P S2 300 .none] 2),#[]⟩
noncomputable def o97 (P : Params) : Obj := ⟨(.type L69),none,(.cls ⟨S174,[.ref 24],[.ref 97,.ref 24,.type L94,.type L73,.type L71,.type L60],96,S174,true,[],[],false,none,false⟩),#[some (.ref 88),none,some (.str S174 287),some (.str S174 295),some (.builtin L150),some (.bool true)]⟩
noncomputable def o98 (P : Params) : Obj := ⟨(.type L67),none,(.fields #[.ref 97,.ref 97,.ref 97]),#[]⟩
noncomputable def o99 (P : Params) : Obj := ⟨(.type L148),none,(.fields #[.builtin L153,.ref 97]),#[]⟩
noncomputable def o100 (P : Params) : Obj := ⟨(.type L68),none,(.seq #[.ref 24] 0),#[]⟩
noncomputable def o101 (P : Params) : Obj := ⟨(.type L148),none,(.fields #[.builtin L149,.type L69]),#[]⟩
noncomputable def o102 (P : Params) : Obj := ⟨(.type L0),none,(.dict #[e P S180 310 (.str S181 187),e P S182 312 (.str S175 311),e P S183 314 (.int 16 313),e P S184 315 (.ref 107)] 4),#[]⟩
noncomputable def o103 (P : Params) : Obj := ⟨(.type L68),none,(.seq #[] 0),#[]⟩
noncomputable def o104 (P : Params) : Obj := ⟨.none,none,(.fields #[]),#[]⟩
noncomputable def o105 (P : Params) : Obj := ⟨(.type L146),none,(.fields #[.str S175 305,.str S175 306,.str S164 307,.int 16 0,.int 0 0,.int 0 0,.int 0 0,.int 0 0,.ref 103,.bool false,.int 181 0,.ref 104,.none,.none,.none,.none,.int 308 0,.int 16 0,.str S164 309]),#[]⟩
noncomputable def o106 (P : Params) : Obj := ⟨(.type L147),none,.plain,#[some (.ref 105),some (.ref 3),some (.ref 102),none,some (.str S181 187),none,some (.ref 0)]⟩
noncomputable def o107 (P : Params) : Obj := ⟨(.type L68),none,(.seq #[] 0),#[]⟩
noncomputable def o108 (P : Params) : Obj := ⟨(.type L0),none,(.dict #[e P S180 310 (.str S181 187),e P S183 314 (.int 16 313),e P S184 315 (.ref 107),e P S2 316 .none] 2),#[]⟩
noncomputable def o109 (P : Params) : Obj := ⟨(.type L69),none,(.cls ⟨S175,[.ref 24],[.ref 109,.ref 24,.type L94,.type L73,.type L71,.type L60],108,S175,true,[],[],false,none,false⟩),#[some (.ref 100),none,some (.str S175 303),some (.str S175 311),some (.builtin L150),some (.bool true)]⟩
noncomputable def o110 (P : Params) : Obj := ⟨(.type L67),none,(.fields #[.ref 109,.ref 109,.ref 109]),#[]⟩
noncomputable def o111 (P : Params) : Obj := ⟨(.type L148),none,(.fields #[.builtin L153,.ref 109]),#[]⟩
noncomputable def o112 (P : Params) : Obj := ⟨(.type L68),none,(.seq #[.ref 24] 0),#[]⟩
noncomputable def o113 (P : Params) : Obj := ⟨(.type L148),none,(.fields #[.builtin L149,.type L69]),#[]⟩
noncomputable def o114 (P : Params) : Obj := ⟨(.type L0),none,(.dict #[e P S180 326 (.str S181 187),e P S182 328 (.str S176 327),e P S183 330 (.int 18 329),e P S184 331 (.ref 119)] 4),#[]⟩
noncomputable def o115 (P : Params) : Obj := ⟨(.type L68),none,(.seq #[] 0),#[]⟩
noncomputable def o116 (P : Params) : Obj := ⟨.none,none,(.fields #[]),#[]⟩
noncomputable def o117 (P : Params) : Obj := ⟨(.type L146),none,(.fields #[.str S176 321,.str S176 322,.str S164 323,.int 18 0,.int 0 0,.int 0 0,.int 0 0,.int 0 0,.ref 115,.bool false,.int 181 0,.ref 116,.none,.none,.none,.none,.int 324 0,.int 18 0,.str S164 325]),#[]⟩
noncomputable def o118 (P : Params) : Obj := ⟨(.type L147),none,.plain,#[some (.ref 117),some (.ref 3),some (.ref 114),none,some (.str S181 187),none,some (.ref 0)]⟩
noncomputable def o119 (P : Params) : Obj := ⟨(.type L68),none,(.seq #[] 0),#[]⟩
noncomputable def o120 (P : Params) : Obj := ⟨(.type L0),none,(.dict #[e P S180 326 (.str S181 187),e P S183 330 (.int 18 329),e P S184 331 (.ref 119),e P S2 332 .none] 2),#[]⟩
noncomputable def o121 (P : Params) : Obj := ⟨(.type L69),none,(.cls ⟨S176,[.ref 24],[.ref 121,.ref 24,.type L94,.type L73,.type L71,.type L60],120,S176,true,[],[],false,none,false⟩),#[some (.ref 112),none,some (.str S176 319),some (.str S176 327),some (.builtin L150),some (.bool true)]⟩
noncomputable def o122 (P : Params) : Obj := ⟨(.type L67),none,(.fields #[.ref 121,.ref 121,.ref 121]),#[]⟩
noncomputable def o123 (P : Params) : Obj := ⟨(.type L148),none,(.fields #[.builtin L153,.ref 121]),#[]⟩
noncomputable def o124 (P : Params) : Obj := ⟨(.type L68),none,(.seq #[] 0),#[]⟩
noncomputable def o125 (P : Params) : Obj := ⟨.none,none,(.fields #[]),#[]⟩
noncomputable def o126 (P : Params) : Obj := ⟨(.type L68),none,(.seq #[.str S186 340,.str S187 341] 0),#[]⟩
noncomputable def o127 (P : Params) : Obj := ⟨(.type L68),none,(.seq #[] 0),#[]⟩
noncomputable def o128 (P : Params) : Obj := ⟨.none,none,(.func ⟨S177,S177,L2.defArgs (tp 11),(.stmts (L2.defBody (tp 11))),L2.defScope (tp 11),0,[],.none,.none,.none,.none,none,.none,.none,0⟩),#[]⟩
noncomputable def o129 (P : Params) : Obj := ⟨(.type L146),none,(.fields #[.str S177 337,.str S177 338,.str S164 339,.int 21 0,.int 2 0,.int 0 0,.int 0 0,.int 3 0,.ref 124,.bool true,.int 181 0,.ref 125,.none,.ref 126,.ref 127,.ref 128,.int 342 0,.int 21 0,.str S164 343]),#[]⟩
noncomputable abbrev L154 : String := PySem.W.SL.s7174869446012820540x8
noncomputable def o130 (P : Params) : Obj := ⟨(.type L154),none,(.func ⟨S177,S177,L2.defArgs (tp 11),(.stmts (L2.defBody (tp 11))),L2.defScope (tp 11),3,[],.none,.none,.none,.str S167 335,none,.ref 129,.none,0⟩),#[]⟩
noncomputable def o131 (P : Params) : Obj := ⟨(.type L68),none,(.seq #[] 0),#[]⟩
noncomputable def o132 (P : Params) : Obj := ⟨.none,none,(.fields #[]),#[]⟩
noncomputable def o133 (P : Params) : Obj := ⟨(.type L68),none,(.seq #[.str S186 348] 0),#[]⟩
noncomputable def o134 (P : Params) : Obj := ⟨(.type L68),none,(.seq #[] 0),#[]⟩
noncomputable def o135 (P : Params) : Obj := ⟨.none,none,(.func ⟨S178,S178,L2.defArgs (tp 12),(.stmts (L2.defBody (tp 12))),L2.defScope (tp 12),0,[],.none,.none,.none,.none,none,.none,.none,0⟩),#[]⟩
noncomputable def o136 (P : Params) : Obj := ⟨(.type L146),none,(.fields #[.str S178 345,.str S178 346,.str S164 347,.int 23 0,.int 1 0,.int 0 0,.int 0 0,.int 3 0,.ref 131,.bool true,.int 181 0,.ref 132,.none,.ref 133,.ref 134,.ref 135,.int 349 0,.int 23 0,.str S164 350]),#[]⟩
noncomputable def o137 (P : Params) : Obj := ⟨(.type L154),none,(.func ⟨S178,S178,L2.defArgs (tp 12),(.stmts (L2.defBody (tp 12))),L2.defScope (tp 12),3,[],.none,.none,.none,.str S167 335,none,.ref 136,.none,0⟩),#[]⟩
noncomputable def o138 (P : Params) : Obj := ⟨(.type L68),none,(.seq #[] 0),#[]⟩
noncomputable def o139 (P : Params) : Obj := ⟨.none,none,(.fields #[]),#[]⟩
noncomputable def o140 (P : Params) : Obj := ⟨(.type L68),none,(.seq #[.str S186 355] 0),#[]⟩
noncomputable def o141 (P : Params) : Obj := ⟨(.type L68),none,(.seq #[] 0),#[]⟩
noncomputable def o142 (P : Params) : Obj := ⟨.none,none,(.func ⟨S179,S179,L2.defArgs (tp 13),(.stmts (L2.defBody (tp 13))),L2.defScope (tp 13),0,[],.none,.none,.none,.none,none,.none,.none,0⟩),#[]⟩
noncomputable def o143 (P : Params) : Obj := ⟨(.type L146),none,(.fields #[.str S179 352,.str S179 353,.str S164 354,.int 25 0,.int 1 0,.int 0 0,.int 0 0,.int 3 0,.ref 138,.bool true,.int 181 0,.ref 139,.none,.ref 140,.ref 141,.ref 142,.int 356 0,.int 25 0,.str S164 357]),#[]⟩
noncomputable def o144 (P : Params) : Obj := ⟨(.type L154),none,(.func ⟨S179,S179,L2.defArgs (tp 13),(.stmts (L2.defBody (tp 13))),L2.defScope (tp 13),3,[],.none,.none,.none,.str S167 335,none,.ref 143,.none,0⟩),#[]⟩
noncomputable def t0 : Params → BT := (f boot_o_0 (f boot_o_1 (f o3v1 (f boot_o_7 (f o15 (f o31 (f o63 (f o127 z z) z) (f o95 z z)) (f o47 (f o79 (f o143 z z) z) (f o111 z z))) (f o23 (f o39 (f o71 (f o135 z z) z) (f o103 z z)) (f o55 (f o87 z z) (f o119 z z)))) (f o11 (f o19 (f o35 (f o67 (f o131 z z) z) (f o99 z z)) (f o51 (f o83 z z) (f o115 z z))) (f o27 (f o43 (f o75 (f o139 z z) z) (f o107 z z)) (f o59 (f o91 z z) (f o123 z z))))) (f boot_o_5 (f boot_o_9 (f o17 (f o33 (f o65 (f o129 z z) z) (f o97 z z)) (f o49 (f o81 z z) (f o113 z z))) (f o25 (f o41 (f o73 (f o137 z z) z) (f o105 z z)) (f o57 (f o89 z z) (f o121 z z)))) (f o13 (f o21 (f o37 (f o69 (f o133 z z) z) (f o101 z z)) (f o53 (f o85 z z) (f o117 z z))) (f o29 (f o45 (f o77 (f o141 z z) z) (f o109 z z)) (f o61 (f o93 z z) (f o125 z z)))))) (f boot_o_2 (f boot_o_4 (f boot_o_8 (f o16 (f o32 (f o64 (f o128 z z) z) (f o96 z z)) (f o48 (f o80 (f o144 z z) z) (f o112 z z))) (f o24 (f o40 (f o72 (f o136 z z) z) (f o104 z z)) (f o56 (f o88 z z) (f o120 z z)))) (f o12v1 (f o20 (f o36 (f o68 (f o132 z z) z) (f o100 z z)) (f o52 (f o84 z z) (f o116 z z))) (f o28 (f o44 (f o76 (f o140 z z) z) (f o108 z z)) (f o60 (f o92 z z) (f o124 z z))))) (f boot_o_6 (f boot_o_10 (f o18 (f o34 (f o66 (f o130 z z) z) (f o98 z z)) (f o50 (f o82 z z) (f o114 z z))) (f o26 (f o42 (f o74 (f o138 z z) z) (f o106 z z)) (f o58 (f o90 z z) (f o122 z z)))) (f o14 (f o22 (f o38 (f o70 (f o134 z z) z) (f o102 z z)) (f o54 (f o86 z z) (f o118 z z))) (f o30 (f o46 (f o78 (f o142 z z) z) (f o110 z z)) (f o62 (f o94 z z) (f o126 z z)))))))
noncomputable abbrev s0 (w : World) (os : OsState) : SharedT := ⟨t0 w.params,145,{ },(Array.mk []),⟨0,0,0,0⟩,359,os⟩
noncomputable abbrev p0 : Pos := ⟨25,0,26,43⟩
noncomputable abbrev st0 : List Stmt := (pt.main.body.drop 0).take 14
theorem q0 (w : World) : (fun os => segRunT treeTable pt w m0 an 1 1997 (sB w os) ⟨(execs st0 en).wrap doneF deadEnd id id,cE,pB,B⟩) = fun os => some (.next,s0 w os,cE,p0) := by
  rw [PySem.W.Fast.te10110043849684766642,PySem.W.Fast.te14364793385576792824,PySem.W.Fast.te12563942051412417395]; kernel_rfl
noncomputable def o3v2 (P : Params) : Obj := ⟨(.type L0),none,(.dict #[e P S0 165 (.str S188 590),e P S2 166 .none,e P S3 167 .none,e P S4 168 (.builtin L144),e P S5 169 .none,e P S161 170 (.ref 6),e P S162 171 (.ref 4),e P S163 173 (.str S164 172),e P S165 174 .none,e P S168 206 (.ref 24),e P S169 222 (.ref 37),e P S170 238 (.ref 49),e P S171 254 (.ref 61),e P S172 270 (.ref 73),e P S173 286 (.ref 85),e P S174 302 (.ref 97),e P S175 318 (.ref 109),e P S176 334 (.ref 121),e P S177 344 (.ref 130),e P S178 351 (.ref 137),e P S179 358 (.ref 144),e P S189 366 (.ref 151),e P S190 375 (.ref 158),e P S191 379 (.int 60 378),e P S192 385 (.ref 163),e P S193 400 (.ref 170),e P S194 411 (.ref 177),e P S195 425 (.ref 184),e P S196 442 (.ref 191),e P S197 448 (.ref 196),e P S198 452 (.int 60 451),e P S199 464 (.ref 203),e P S200 470 (.ref 208),e P S201 481 (.ref 215),e P S202 487 (.ref 220),e P S203 491 (.int 8 490),e P S204 493 (.int 5 492),e P S205 505 (.ref 227),e P S206 512 (.ref 234),e P S207 589 (.ref 289),e P S208 599 (.ref 300),e P S209 606 (.ref 307),e P S210 615 (.ref 314),e P S211 622 (.ref 321),e P S212 634 (.ref 328),e P S213 643 (.ref 335),e P S214 651 (.ref 342),e P S215 660 (.ref 349),e P S216 672 (.ref 356),e P S217 681 (.ref 363),e P S218 695 (.ref 370),e P S219 709 (.ref 377),e P S220 720 (.ref 384),e P S221 726 (.ref 389),e P S222 733 (.ref 396),e P S223 755 (.ref 403),e P S224 763 (.ref 410)] 57),#[]⟩
noncomputable def o12v2 (P : Params) : Obj := ⟨.none,none,(.fields #[.int 2 0,.int 0 0,.ref 20,.int 4 0,.int 0 0,.ref 33,.int 6 0,.int 0 0,.ref 45,.int 8 0,.int 0 0,.ref 57,.int 10 0,.int 0 0,.ref 69,.int 12 0,.int 0 0,.ref 81,.int 14 0,.int 0 0,.ref 93,.int 16 0,.int 0 0,.ref 105,.int 18 0,.int 0 0,.ref 117,.int 21 0,.int 0 0,.ref 129,.int 23 0,.int 0 0,.ref 136,.int 25 0,.int 0 0,.ref 143,.int 27 0,.int 0 0,.ref 150,.int 30 0,.int 0 0,.ref 157,.int 35 0,.int 0 0,.ref 162,.int 39 0,.int 0 0,.ref 169,.int 47 0,.int 0 0,.ref 176,.int 54 0,.int 0 0,.ref 183,.int 69 0,.int 0 0,.ref 190,.int 74 0,.int 0 0,.ref 195,.int 79 0,.int 0 0,.ref 202,.int 85 0,.int 0 0,.ref 207,.int 94 0,.int 0 0,.ref 214,.int 97 0,.int 0 0,.ref 219,.int 103 0,.int 0 0,.ref 226,.int 110 0,.int 0 0,.ref 233,.int 112 0,.int 0 0,.ref 240,.int 155 0,.int 0 0,.ref 299,.int 159 0,.int 0 0,.ref 306,.int 161 0,.int 0 0,.ref 313,.int 167 0,.int 0 0,.ref 320,.int 169 0,.int 0 0,.ref 327,.int 185 0,.int 0 0,.ref 334,.int 192 0,.int 0 0,.ref 341,.int 196 0,.int 0 0,.ref 348,.int 200 0,.int 0 0,.ref 355,.int 206 0,.int 0 0,.ref 362,.int 213 0,.int 0 0,.ref 369,.int 221 0,.int 0 0,.ref 376,.int 228 0,.int 0 0,.ref 383,.int 236 0,.int 0 0,.ref 388,.int 253 0,.int 0 0,.ref 395,.int 257 0,.int 0 0,.ref 402,.int 279 0,.int 0 0,.ref 409]),#[]⟩
noncomputable def o145 (P : Params) : Obj := ⟨(.type L68),none,(.seq #[] 0),#[]⟩
noncomputable def o146 (P : Params) : Obj := ⟨.none,none,(.fields #[]),#[]⟩
noncomputable def o147 (P : Params) : Obj := ⟨(.type L68),none,(.seq #[.str S225 362,.str S226 363] 0),#[]⟩
noncomputable def o148 (P : Params) : Obj := ⟨(.type L68),none,(.seq #[] 0),#[]⟩
noncomputable def o149 (P : Params) : Obj := ⟨.none,none,(.func ⟨S189,S189,L2.defArgs (tp 14),(.stmts (L2.defBody (tp 14))),L2.defScope (tp 14),0,[],.none,.none,.none,.none,none,.none,.none,0⟩),#[]⟩
noncomputable def o150 (P : Params) : Obj := ⟨(.type L146),none,(.fields #[.str S189 359,.str S189 360,.str S164 361,.int 27 0,.int 2 0,.int 0 0,.int 0 0,.int 3 0,.ref 145,.bool true,.int 181 0,.ref 146,.none,.ref 147,.ref 148,.ref 149,.int 364 0,.int 27 0,.str S164 365]),#[]⟩
noncomputable def o151 (P : Params) : Obj := ⟨(.type L154),none,(.func ⟨S189,S189,L2.defArgs (tp 14),(.stmts (L2.defBody (tp 14))),L2.defScope (tp 14),3,[],.none,.none,.none,.str S167 335,none,.ref 150,.none,0⟩),#[]⟩
noncomputable def o152 (P : Params) : Obj := ⟨(.type L68),none,(.seq #[] 0),#[]⟩
noncomputable def o153 (P : Params) : Obj := ⟨.none,none,(.fields #[]),#[]⟩
noncomputable def o154 (P : Params) : Obj := ⟨(.type L68),none,(.seq #[.str S225 370,.str S226 371,.str S227 372] 0),#[]⟩
noncomputable def o155 (P : Params) : Obj := ⟨(.type L68),none,(.seq #[] 0),#[]⟩
noncomputable def o156 (P : Params) : Obj := ⟨.none,none,(.func ⟨S190,S190,L2.defArgs (tp 15),(.stmts (L2.defBody (tp 15))),L2.defScope (tp 15),0,[],.none,.none,.none,.none,none,.none,.none,0⟩),#[]⟩
noncomputable def o157 (P : Params) : Obj := ⟨(.type L146),none,(.fields #[.str S190 367,.str S190 368,.str S164 369,.int 30 0,.int 3 0,.int 0 0,.int 0 0,.int 3 0,.ref 152,.bool true,.int 181 0,.ref 153,.none,.ref 154,.ref 155,.ref 156,.int 373 0,.int 30 0,.str S164 374]),#[]⟩
noncomputable def o158 (P : Params) : Obj := ⟨(.type L154),none,(.func ⟨S190,S190,L2.defArgs (tp 15),(.stmts (L2.defBody (tp 15))),L2.defScope (tp 15),3,[],.none,.none,.none,.str S167 335,none,.ref 157,.none,0⟩),#[]⟩
noncomputable def o159 (P : Params) : Obj := ⟨(.type L68),none,(.seq #[] 0),#[]⟩
noncomputable def o160 (P : Params) : Obj := ⟨.none,none,(.fields #[]),#[]⟩
noncomputable def o161 (P : Params) : Obj := ⟨.none,none,(.func ⟨S192,S192,L2.defArgs (tp 18),(.stmts (L2.defBody (tp 18))),L2.defScope (tp 18),0,[],.none,.none,.none,.none,none,.none,.none,0⟩),#[]⟩
noncomputable def o162 (P : Params) : Obj := ⟨(.type L146),none,(.fields #[.str S192 380,.str S192 381,.str S164 382,.int 35 0,.int 1 0,.int 0 0,.int 0 0,.int 3 0,.ref 159,.bool true,.int 181 0,.ref 160,.none,.none,.none,.ref 161,.int 383 0,.int 35 0,.str S164 384]),#[]⟩
noncomputable def o163 (P : Params) : Obj := ⟨(.type L154),none,(.func ⟨S192,S192,L2.defArgs (tp 18),(.stmts (L2.defBody (tp 18))),L2.defScope (tp 18),3,[],.none,.none,.none,.str S228 376,none,.ref 162,.none,0⟩),#[]⟩
noncomputable def o164 (P : Params) : Obj := ⟨(.type L68),none,(.seq #[] 0),#[]⟩
noncomputable def o165 (P : Params) : Obj := ⟨.none,none,(.fields #[]),#[]⟩
noncomputable def o166 (P : Params) : Obj := ⟨(.type L68),none,(.seq #[.str S229 389,.str S230 390,.str S231 391,.str S232 392,.str S233 393,.str S234 394,.str S235 395,.str S236 396,.str S237 397] 0),#[]⟩
noncomputable def o167 (P : Params) : Obj := ⟨(.type L68),none,(.seq #[] 0),#[]⟩
noncomputable def o168 (P : Params) : Obj := ⟨.none,none,(.func ⟨S193,S193,L2.defArgs (tp 19),(.stmts (L2.defBody (tp 19))),L2.defScope (tp 19),0,[],.none,.none,.none,.none,none,.none,.none,0⟩),#[]⟩
noncomputable def o169 (P : Params) : Obj := ⟨(.type L146),none,(.fields #[.str S193 386,.str S193 387,.str S164 388,.int 39 0,.int 4 0,.int 0 0,.int 0 0,.int 3 0,.ref 164,.bool true,.int 181 0,.ref 165,.none,.ref 166,.ref 167,.ref 168,.int 398 0,.int 39 0,.str S164 399]),#[]⟩
noncomputable def o170 (P : Params) : Obj := ⟨(.type L154),none,(.func ⟨S193,S193,L2.defArgs (tp 19),(.stmts (L2.defBody (tp 19))),L2.defScope (tp 19),3,[],.none,.none,.none,.str S228 376,none,.ref 169,.none,0⟩),#[]⟩
noncomputable def o171 (P : Params) : Obj := ⟨(.type L68),none,(.seq #[] 0),#[]⟩
noncomputable def o172 (P : Params) : Obj := ⟨.none,none,(.fields #[]),#[]⟩
noncomputable def o173 (P : Params) : Obj := ⟨(.type L68),none,(.seq #[.str S229 404,.str S238 405,.str S232 406,.str S239 407,.str S234 408] 0),#[]⟩
noncomputable def o174 (P : Params) : Obj := ⟨(.type L68),none,(.seq #[] 0),#[]⟩
noncomputable def o175 (P : Params) : Obj := ⟨.none,none,(.func ⟨S194,S194,L2.defArgs (tp 20),(.stmts (L2.defBody (tp 20))),L2.defScope (tp 20),0,[],.none,.none,.none,.none,none,.none,.none,0⟩),#[]⟩
noncomputable def o176 (P : Params) : Obj := ⟨(.type L146),none,(.fields #[.str S194 401,.str S194 402,.str S164 403,.int 47 0,.int 3 0,.int 0 0,.int 0 0,.int 3 0,.ref 171,.bool true,.int 181 0,.ref 172,.none,.ref 173,.ref 174,.ref 175,.int 409 0,.int 47 0,.str S164 410]),#[]⟩
noncomputable def o177 (P : Params) : Obj := ⟨(.type L154),none,(.func ⟨S194,S194,L2.defArgs (tp 20),(.stmts (L2.defBody (tp 20))),L2.defScope (tp 20),3,[],.none,.none,.none,.str S228 376,none,.ref 176,.none,0⟩),#[]⟩
noncomputable def o178 (P : Params) : Obj := ⟨(.type L68),none,(.seq #[] 0),#[]⟩
noncomputable def o179 (P : Params) : Obj := ⟨.none,none,(.fields #[]),#[]⟩
noncomputable def o180 (P : Params) : Obj := ⟨(.type L68),none,(.seq #[.str S229 415,.str S230 416,.str S232 417,.str S231 418,.str S238 419,.str S240 420,.str S233 421,.str S234 422] 0),#[]⟩
noncomputable def o181 (P : Params) : Obj := ⟨(.type L68),none,(.seq #[] 0),#[]⟩
noncomputable def o182 (P : Params) : Obj := ⟨.none,none,(.func ⟨S195,S195,L2.defArgs (tp 21),(.stmts (L2.defBody (tp 21))),L2.defScope (tp 21),0,[],.none,.none,.none,.none,none,.none,.none,0⟩),#[]⟩
noncomputable def o183 (P : Params) : Obj := ⟨(.type L146),none,(.fields #[.str S195 412,.str S195 413,.str S164 414,.int 54 0,.int 3 0,.int 0 0,.int 0 0,.int 3 0,.ref 178,.bool true,.int 181 0,.ref 179,.none,.ref 180,.ref 181,.ref 182,.int 423 0,.int 54 0,.str S164 424]),#[]⟩
noncomputable def o184 (P : Params) : Obj := ⟨(.type L154),none,(.func ⟨S195,S195,L2.defArgs (tp 21),(.stmts (L2.defBody (tp 21))),L2.defScope (tp 21),3,[],.none,.none,.none,.str S228 376,none,.ref 183,.none,0⟩),#[]⟩
noncomputable def o185 (P : Params) : Obj := ⟨(.type L68),none,(.seq #[] 0),#[]⟩
noncomputable def o186 (P : Params) : Obj := ⟨.none,none,(.fields #[]),#[]⟩
noncomputable def o187 (P : Params) : Obj := ⟨(.type L68),none,(.seq #[.str S241 431,.str S225 432,.str S226 433,.str S242 434,.str S243 435,.str S244 436,.str S245 437,.str S246 438,.str S247 439] 0),#[]⟩
noncomputable def o188 (P : Params) : Obj := ⟨(.type L68),none,(.seq #[] 0),#[]⟩
noncomputable def o189 (P : Params) : Obj := ⟨.none,none,(.func ⟨S196,S196,L2.defArgs (tp 23),(.stmts (L2.defBody (tp 23))),L2.defScope (tp 23),0,[],.none,.none,.none,.none,none,.none,.none,0⟩),#[]⟩
noncomputable def o190 (P : Params) : Obj := ⟨(.type L146),none,(.fields #[.str S196 428,.str S196 429,.str S164 430,.int 69 0,.int 7 0,.int 0 0,.int 0 0,.int 3 0,.ref 185,.bool true,.int 181 0,.ref 186,.none,.ref 187,.ref 188,.ref 189,.int 440 0,.int 69 0,.str S164 441]),#[]⟩
noncomputable def o191 (P : Params) : Obj := ⟨(.type L154),none,(.func ⟨S196,S196,L2.defArgs (tp 23),(.stmts (L2.defBody (tp 23))),L2.defScope (tp 23),3,[],.none,.none,.none,.str S248 426,none,.ref 190,.none,0⟩),#[]⟩
noncomputable def o192 (P : Params) : Obj := ⟨(.type L68),none,(.seq #[] 0),#[]⟩
noncomputable def o193 (P : Params) : Obj := ⟨.none,none,(.fields #[]),#[]⟩
noncomputable def o194 (P : Params) : Obj := ⟨.none,none,(.func ⟨S197,S197,L2.defArgs (tp 24),(.stmts (L2.defBody (tp 24))),L2.defScope (tp 24),0,[],.none,.none,.none,.none,none,.none,.none,0⟩),#[]⟩
noncomputable def o195 (P : Params) : Obj := ⟨(.type L146),none,(.fields #[.str S197 443,.str S197 444,.str S164 445,.int 74 0,.int 2 0,.int 0 0,.int 0 0,.int 3 0,.ref 192,.bool true,.int 181 0,.ref 193,.none,.none,.none,.ref 194,.int 446 0,.int 74 0,.str S164 447]),#[]⟩
noncomputable def o196 (P : Params) : Obj := ⟨(.type L154),none,(.func ⟨S197,S197,L2.defArgs (tp 24),(.stmts (L2.defBody (tp 24))),L2.defScope (tp 24),3,[],.none,.none,.none,.str S248 426,none,.ref 195,.none,0⟩),#[]⟩
noncomputable def o197 (P : Params) : Obj := ⟨(.type L68),none,(.seq #[] 0),#[]⟩
noncomputable def o198 (P : Params) : Obj := ⟨.none,none,(.fields #[]),#[]⟩
noncomputable def o199 (P : Params) : Obj := ⟨(.type L68),none,(.seq #[.str S225 456,.str S226 457,.str S249 458,.str S250 459,.str S232 460,.str S230 461] 0),#[]⟩
noncomputable def o200 (P : Params) : Obj := ⟨(.type L68),none,(.seq #[] 0),#[]⟩
noncomputable def o201 (P : Params) : Obj := ⟨.none,none,(.func ⟨S199,S199,L2.defArgs (tp 27),(.stmts (L2.defBody (tp 27))),L2.defScope (tp 27),0,[],.none,.none,.none,.none,none,.none,.none,0⟩),#[]⟩
noncomputable def o202 (P : Params) : Obj := ⟨(.type L146),none,(.fields #[.str S199 453,.str S199 454,.str S164 455,.int 79 0,.int 4 0,.int 0 0,.int 0 0,.int 3 0,.ref 197,.bool true,.int 181 0,.ref 198,.none,.ref 199,.ref 200,.ref 201,.int 462 0,.int 79 0,.str S164 463]),#[]⟩
noncomputable def o203 (P : Params) : Obj := ⟨(.type L154),none,(.func ⟨S199,S199,L2.defArgs (tp 27),(.stmts (L2.defBody (tp 27))),L2.defScope (tp 27),3,[],.none,.none,.none,.str S251 449,none,.ref 202,.none,0⟩),#[]⟩
noncomputable def o204 (P : Params) : Obj := ⟨(.type L68),none,(.seq #[] 0),#[]⟩
noncomputable def o205 (P : Params) : Obj := ⟨.none,none,(.fields #[]),#[]⟩
noncomputable def o206 (P : Params) : Obj := ⟨.none,none,(.func ⟨S200,S200,L2.defArgs (tp 28),(.stmts (L2.defBody (tp 28))),L2.defScope (tp 28),0,[],.none,.none,.none,.none,none,.none,.none,0⟩),#[]⟩
noncomputable def o207 (P : Params) : Obj := ⟨(.type L146),none,(.fields #[.str S200 465,.str S200 466,.str S164 467,.int 85 0,.int 5 0,.int 0 0,.int 0 0,.int 3 0,.ref 204,.bool true,.int 181 0,.ref 205,.none,.none,.none,.ref 206,.int 468 0,.int 85 0,.str S164 469]),#[]⟩
noncomputable def o208 (P : Params) : Obj := ⟨(.type L154),none,(.func ⟨S200,S200,L2.defArgs (tp 28),(.stmts (L2.defBody (tp 28))),L2.defScope (tp 28),3,[],.none,.none,.none,.str S251 449,none,.ref 207,.none,0⟩),#[]⟩
noncomputable def o209 (P : Params) : Obj := ⟨(.type L68),none,(.seq #[] 0),#[]⟩
noncomputable def o210 (P : Params) : Obj := ⟨.none,none,(.fields #[]),#[]⟩
noncomputable def o211 (P : Params) : Obj := ⟨(.type L68),none,(.seq #[.str S241 474,.str S225 475,.str S226 476,.str S249 477,.str S250 478] 0),#[]⟩
noncomputable def o212 (P : Params) : Obj := ⟨(.type L68),none,(.seq #[] 0),#[]⟩
noncomputable def o213 (P : Params) : Obj := ⟨.none,none,(.func ⟨S201,S201,L2.defArgs (tp 29),(.stmts (L2.defBody (tp 29))),L2.defScope (tp 29),0,[],.none,.none,.none,.none,none,.none,.none,0⟩),#[]⟩
noncomputable def o214 (P : Params) : Obj := ⟨(.type L146),none,(.fields #[.str S201 471,.str S201 472,.str S164 473,.int 94 0,.int 5 0,.int 0 0,.int 0 0,.int 3 0,.ref 209,.bool true,.int 181 0,.ref 210,.none,.ref 211,.ref 212,.ref 213,.int 479 0,.int 94 0,.str S164 480]),#[]⟩
noncomputable def o215 (P : Params) : Obj := ⟨(.type L154),none,(.func ⟨S201,S201,L2.defArgs (tp 29),(.stmts (L2.defBody (tp 29))),L2.defScope (tp 29),3,[],.none,.none,.none,.str S251 449,none,.ref 214,.none,0⟩),#[]⟩
noncomputable def o216 (P : Params) : Obj := ⟨(.type L68),none,(.seq #[] 0),#[]⟩
noncomputable def o217 (P : Params) : Obj := ⟨.none,none,(.fields #[]),#[]⟩
noncomputable def o218 (P : Params) : Obj := ⟨.none,none,(.func ⟨S202,S202,L2.defArgs (tp 30),(.stmts (L2.defBody (tp 30))),L2.defScope (tp 30),0,[],.none,.none,.none,.none,none,.none,.none,0⟩),#[]⟩
noncomputable def o219 (P : Params) : Obj := ⟨(.type L146),none,(.fields #[.str S202 482,.str S202 483,.str S164 484,.int 97 0,.int 5 0,.int 0 0,.int 0 0,.int 3 0,.ref 216,.bool true,.int 181 0,.ref 217,.none,.none,.none,.ref 218,.int 485 0,.int 97 0,.str S164 486]),#[]⟩
noncomputable def o220 (P : Params) : Obj := ⟨(.type L154),none,(.func ⟨S202,S202,L2.defArgs (tp 30),(.stmts (L2.defBody (tp 30))),L2.defScope (tp 30),3,[],.none,.none,.none,.str S251 449,none,.ref 219,.none,0⟩),#[]⟩
noncomputable def o221 (P : Params) : Obj := ⟨(.type L68),none,(.seq #[] 0),#[]⟩
noncomputable def o222 (P : Params) : Obj := ⟨.none,none,(.fields #[]),#[]⟩
noncomputable def o223 (P : Params) : Obj := ⟨(.type L68),none,(.seq #[.str S186 497,.str S225 498,.str S226 499,.str S252 500,.str S253 501,.str S254 502] 0),#[]⟩
noncomputable def o224 (P : Params) : Obj := ⟨(.type L68),none,(.seq #[] 0),#[]⟩
noncomputable def o225 (P : Params) : Obj := ⟨.none,none,(.func ⟨S205,S205,L2.defArgs (tp 34),(.stmts (L2.defBody (tp 34))),L2.defScope (tp 34),0,[],.none,.none,.none,.none,none,.none,.none,0⟩),#[]⟩
noncomputable def o226 (P : Params) : Obj := ⟨(.type L146),none,(.fields #[.str S205 494,.str S205 495,.str S164 496,.int 103 0,.int 1 0,.int 0 0,.int 0 0,.int 3 0,.ref 221,.bool true,.int 181 0,.ref 222,.none,.ref 223,.ref 224,.ref 225,.int 503 0,.int 103 0,.str S164 504]),#[]⟩
noncomputable def o227 (P : Params) : Obj := ⟨(.type L154),none,(.func ⟨S205,S205,L2.defArgs (tp 34),(.stmts (L2.defBody (tp 34))),L2.defScope (tp 34),3,[],.none,.none,.none,.str S255 488,none,.ref 226,.none,0⟩),#[]⟩
noncomputable def o228 (P : Params) : Obj := ⟨(.type L68),none,(.seq #[] 0),#[]⟩
noncomputable def o229 (P : Params) : Obj := ⟨.none,none,(.fields #[]),#[]⟩
noncomputable def o230 (P : Params) : Obj := ⟨(.type L68),none,(.seq #[.str S242 509] 0),#[]⟩
noncomputable def o231 (P : Params) : Obj := ⟨(.type L68),none,(.seq #[] 0),#[]⟩
noncomputable def o232 (P : Params) : Obj := ⟨.none,none,(.func ⟨S206,S206,L2.defArgs (tp 35),(.stmts (L2.defBody (tp 35))),L2.defScope (tp 35),0,[],.none,.none,.none,.none,none,.none,.none,0⟩),#[]⟩
noncomputable def o233 (P : Params) : Obj := ⟨(.type L146),none,(.fields #[.str S206 506,.str S206 507,.str S164 508,.int 110 0,.int 1 0,.int 0 0,.int 0 0,.int 3 0,.ref 228,.bool true,.int 181 0,.ref 229,.none,.ref 230,.ref 231,.ref 232,.int 510 0,.int 110 0,.str S164 511]),#[]⟩
noncomputable def o234 (P : Params) : Obj := ⟨(.type L154),none,(.func ⟨S206,S206,L2.defArgs (tp 35),(.stmts (L2.defBody (tp 35))),L2.defScope (tp 35),3,[],.none,.none,.none,.str S255 488,none,.ref 233,.none,0⟩),#[]⟩
noncomputable def o235 (P : Params) : Obj := ⟨(.type L68),none,(.seq #[] 0),#[]⟩
noncomputable def o236 (P : Params) : Obj := ⟨(.type L148),none,(.fields #[.builtin L149,.type L69]),#[]⟩
noncomputable def o237 (P : Params) : Obj := ⟨(.type L0),none,(.dict #[e P S180 520 (.str S255 488),e P S182 522 (.str S207 521),e P S183 524 (.int 112 523),e P S256 530 (.ref 246),e P S229 537 (.ref 253),e P S257 544 (.ref 260),e P S253 550 (.ref 265),e P S258 560 (.ref 272),e P S259 569 (.ref 279),e P S260 579 (.ref 286),e P S184 582 (.ref 287)] 11),#[]⟩
noncomputable def o238 (P : Params) : Obj := ⟨(.type L68),none,(.seq #[] 0),#[]⟩
noncomputable def o239 (P : Params) : Obj := ⟨.none,none,(.fields #[.int 114 0,.int 4 0,.ref 245,.int 125 0,.int 4 0,.ref 252,.int 128 0,.int 4 0,.ref 259,.int 131 0,.int 4 0,.ref 264,.int 134 0,.int 4 0,.ref 271,.int 142 0,.int 4 0,.ref 278,.int 147 0,.int 4 0,.ref 285]),#[]⟩
noncomputable def o240 (P : Params) : Obj := ⟨(.type L146),none,(.fields #[.str S207 515,.str S207 516,.str S164 517,.int 112 0,.int 0 0,.int 0 0,.int 0 0,.int 0 0,.ref 238,.bool false,.int 181 0,.ref 239,.none,.none,.none,.none,.int 518 0,.int 112 0,.str S164 519]),#[]⟩
noncomputable def o241 (P : Params) : Obj := ⟨(.type L147),none,.plain,#[some (.ref 240),some (.ref 3),some (.ref 237),none,some (.str S255 488),none,some (.ref 0)]⟩
noncomputable def o242 (P : Params) : Obj := ⟨(.type L68),none,(.seq #[] 0),#[]⟩
noncomputable def o243 (P : Params) : Obj := ⟨.none,none,(.fields #[]),#[]⟩
noncomputable def o244 (P : Params) : Obj := ⟨.none,none,(.func ⟨S256,S261,L2.defArgs (L2.inClass (tp 36) 0),(.stmts (L2.defBody (L2.inClass (tp 36) 0))),L2.defScope (L2.inClass (tp 36) 0),0,[],.none,.none,.none,.none,none,.none,.none,0⟩),#[]⟩
noncomputable def o245 (P : Params) : Obj := ⟨(.type L146),none,(.fields #[.str S256 525,.str S261 526,.str S164 527,.int 114 0,.int 3 0,.int 0 0,.int 0 0,.int 3 0,.ref 242,.bool true,.int 181 0,.ref 243,.none,.none,.none,.ref 244,.int 528 0,.int 114 0,.str S164 529]),#[]⟩
noncomputable def o246 (P : Params) : Obj := ⟨(.type L154),none,(.func ⟨S256,S261,L2.defArgs (L2.inClass (tp 36) 0),(.stmts (L2.defBody (L2.inClass (tp 36) 0))),L2.defScope (L2.inClass (tp 36) 0),3,[],.none,.none,.none,.str S255 488,none,.ref 245,.none,0⟩),#[]⟩
noncomputable def o247 (P : Params) : Obj := ⟨(.type L68),none,(.seq #[] 0),#[]⟩
noncomputable def o248 (P : Params) : Obj := ⟨.none,none,(.fields #[]),#[]⟩
noncomputable def o249 (P : Params) : Obj := ⟨(.type L68),none,(.seq #[.str S262 534] 0),#[]⟩
noncomputable def o250 (P : Params) : Obj := ⟨(.type L68),none,(.seq #[] 0),#[]⟩
noncomputable def o251 (P : Params) : Obj := ⟨.none,none,(.func ⟨S229,S263,L2.defArgs (L2.inClass (tp 36) 1),(.stmts (L2.defBody (L2.inClass (tp 36) 1))),L2.defScope (L2.inClass (tp 36) 1),0,[],.none,.none,.none,.none,none,.none,.none,0⟩),#[]⟩
noncomputable def o252 (P : Params) : Obj := ⟨(.type L146),none,(.fields #[.str S229 531,.str S263 532,.str S164 533,.int 125 0,.int 1 0,.int 0 0,.int 0 0,.int 3 0,.ref 247,.bool true,.int 181 0,.ref 248,.none,.ref 249,.ref 250,.ref 251,.int 535 0,.int 125 0,.str S164 536]),#[]⟩
noncomputable def o253 (P : Params) : Obj := ⟨(.type L154),none,(.func ⟨S229,S263,L2.defArgs (L2.inClass (tp 36) 1),(.stmts (L2.defBody (L2.inClass (tp 36) 1))),L2.defScope (L2.inClass (tp 36) 1),3,[],.none,.none,.none,.str S255 488,none,.ref 252,.none,0⟩),#[]⟩
noncomputable def o254 (P : Params) : Obj := ⟨(.type L68),none,(.seq #[] 0),#[]⟩
noncomputable def o255 (P : Params) : Obj := ⟨.none,none,(.fields #[]),#[]⟩
noncomputable def o256 (P : Params) : Obj := ⟨(.type L68),none,(.seq #[.str S262 541] 0),#[]⟩
noncomputable def o257 (P : Params) : Obj := ⟨(.type L68),none,(.seq #[] 0),#[]⟩
noncomputable def o258 (P : Params) : Obj := ⟨.none,none,(.func ⟨S257,S264,L2.defArgs (L2.inClass (tp 36) 2),(.stmts (L2.defBody (L2.inClass (tp 36) 2))),L2.defScope (L2.inClass (tp 36) 2),0,[],.none,.none,.none,.none,none,.none,.none,0⟩),#[]⟩
noncomputable def o259 (P : Params) : Obj := ⟨(.type L146),none,(.fields #[.str S257 538,.str S264 539,.str S164 540,.int 128 0,.int 1 0,.int 0 0,.int 0 0,.int 3 0,.ref 254,.bool true,.int 181 0,.ref 255,.none,.ref 256,.ref 257,.ref 258,.int 542 0,.int 128 0,.str S164 543]),#[]⟩
noncomputable def o260 (P : Params) : Obj := ⟨(.type L154),none,(.func ⟨S257,S264,L2.defArgs (L2.inClass (tp 36) 2),(.stmts (L2.defBody (L2.inClass (tp 36) 2))),L2.defScope (L2.inClass (tp 36) 2),3,[],.none,.none,.none,.str S255 488,none,.ref 259,.none,0⟩),#[]⟩
noncomputable def o261 (P : Params) : Obj := ⟨(.type L68),none,(.seq #[] 0),#[]⟩
noncomputable def o262 (P : Params) : Obj := ⟨.none,none,(.fields #[]),#[]⟩
noncomputable def o263 (P : Params) : Obj := ⟨.none,none,(.func ⟨S253,S265,L2.defArgs (L2.inClass (tp 36) 3),(.stmts (L2.defBody (L2.inClass (tp 36) 3))),L2.defScope (L2.inClass (tp 36) 3),0,[],.none,.none,.none,.none,none,.none,.none,0⟩),#[]⟩
noncomputable def o264 (P : Params) : Obj := ⟨(.type L146),none,(.fields #[.str S253 545,.str S265 546,.str S164 547,.int 131 0,.int 1 0,.int 0 0,.int 0 0,.int 3 0,.ref 261,.bool true,.int 181 0,.ref 262,.none,.none,.none,.ref 263,.int 548 0,.int 131 0,.str S164 549]),#[]⟩
noncomputable def o265 (P : Params) : Obj := ⟨(.type L154),none,(.func ⟨S253,S265,L2.defArgs (L2.inClass (tp 36) 3),(.stmts (L2.defBody (L2.inClass (tp 36) 3))),L2.defScope (L2.inClass (tp 36) 3),3,[],.none,.none,.none,.str S255 488,none,.ref 264,.none,0⟩),#[]⟩
noncomputable def o266 (P : Params) : Obj := ⟨(.type L68),none,(.seq #[] 0),#[]⟩
noncomputable def o267 (P : Params) : Obj := ⟨.none,none,(.fields #[]),#[]⟩
noncomputable def o268 (P : Params) : Obj := ⟨(.type L68),none,(.seq #[.str S262 554,.str S266 555,.str S267 556,.str S242 557] 0),#[]⟩
noncomputable def o269 (P : Params) : Obj := ⟨(.type L68),none,(.seq #[] 0),#[]⟩
noncomputable def o270 (P : Params) : Obj := ⟨.none,none,(.func ⟨S258,S268,L2.defArgs (L2.inClass (tp 36) 4),(.stmts (L2.defBody (L2.inClass (tp 36) 4))),L2.defScope (L2.inClass (tp 36) 4),0,[],.none,.none,.none,.none,none,.none,.none,0⟩),#[]⟩
noncomputable def o271 (P : Params) : Obj := ⟨(.type L146),none,(.fields #[.str S258 551,.str S268 552,.str S164 553,.int 134 0,.int 1 0,.int 0 0,.int 0 0,.int 3 0,.ref 266,.bool true,.int 181 0,.ref 267,.none,.ref 268,.ref 269,.ref 270,.int 558 0,.int 134 0,.str S164 559]),#[]⟩
noncomputable def o272 (P : Params) : Obj := ⟨(.type L154),none,(.func ⟨S258,S268,L2.defArgs (L2.inClass (tp 36) 4),(.stmts (L2.defBody (L2.inClass (tp 36) 4))),L2.defScope (L2.inClass (tp 36) 4),3,[],.none,.none,.none,.str S255 488,none,.ref 271,.none,0⟩),#[]⟩
noncomputable def o273 (P : Params) : Obj := ⟨(.type L68),none,(.seq #[] 0),#[]⟩
noncomputable def o274 (P : Params) : Obj := ⟨.none,none,(.fields #[]),#[]⟩
noncomputable def o275 (P : Params) : Obj := ⟨(.type L68),none,(.seq #[.str S262 564,.str S242 565,.str S243 566] 0),#[]⟩
noncomputable def o276 (P : Params) : Obj := ⟨(.type L68),none,(.seq #[] 0),#[]⟩
noncomputable def o277 (P : Params) : Obj := ⟨.none,none,(.func ⟨S259,S269,L2.defArgs (L2.inClass (tp 36) 5),(.stmts (L2.defBody (L2.inClass (tp 36) 5))),L2.defScope (L2.inClass (tp 36) 5),0,[],.none,.none,.none,.none,none,.none,.none,0⟩),#[]⟩
noncomputable def o278 (P : Params) : Obj := ⟨(.type L146),none,(.fields #[.str S259 561,.str S269 562,.str S164 563,.int 142 0,.int 3 0,.int 0 0,.int 0 0,.int 3 0,.ref 273,.bool true,.int 181 0,.ref 274,.none,.ref 275,.ref 276,.ref 277,.int 567 0,.int 142 0,.str S164 568]),#[]⟩
noncomputable def o279 (P : Params) : Obj := ⟨(.type L154),none,(.func ⟨S259,S269,L2.defArgs (L2.inClass (tp 36) 5),(.stmts (L2.defBody (L2.inClass (tp 36) 5))),L2.defScope (L2.inClass (tp 36) 5),3,[],.none,.none,.none,.str S255 488,none,.ref 278,.none,0⟩),#[]⟩
noncomputable def o280 (P : Params) : Obj := ⟨(.type L68),none,(.seq #[] 0),#[]⟩
noncomputable def o281 (P : Params) : Obj := ⟨.none,none,(.fields #[]),#[]⟩
noncomputable def o282 (P : Params) : Obj := ⟨(.type L68),none,(.seq #[.str S262 573,.str S242 574,.str S243 575,.str S270 576] 0),#[]⟩
noncomputable def o283 (P : Params) : Obj := ⟨(.type L68),none,(.seq #[] 0),#[]⟩
noncomputable def o284 (P : Params) : Obj := ⟨.none,none,(.func ⟨S260,S271,L2.defArgs (L2.inClass (tp 36) 6),(.stmts (L2.defBody (L2.inClass (tp 36) 6))),L2.defScope (L2.inClass (tp 36) 6),0,[],.none,.none,.none,.none,none,.none,.none,0⟩),#[]⟩
noncomputable def o285 (P : Params) : Obj := ⟨(.type L146),none,(.fields #[.str S260 570,.str S271 571,.str S164 572,.int 147 0,.int 3 0,.int 0 0,.int 0 0,.int 3 0,.ref 280,.bool true,.int 181 0,.ref 281,.none,.ref 282,.ref 283,.ref 284,.int 577 0,.int 147 0,.str S164 578]),#[]⟩
noncomputable def o286 (P : Params) : Obj := ⟨(.type L154),none,(.func ⟨S260,S271,L2.defArgs (L2.inClass (tp 36) 6),(.stmts (L2.defBody (L2.inClass (tp 36) 6))),L2.defScope (L2.inClass (tp 36) 6),3,[],.none,.none,.none,.str S255 488,none,.ref 285,.none,0⟩),#[]⟩
noncomputable def o287 (P : Params) : Obj := ⟨(.type L68),none,(.seq #[.str S272 580,.str S273 581] 0),#[]⟩
noncomputable def o288 (P : Params) : Obj := ⟨(.type L0),none,(.dict #[e P S180 520 (.str S255 488),e P S183 524 (.int 112 523),e P S256 530 (.ref 246),e P S229 537 (.ref 253),e P S257 544 (.ref 260),e P S253 550 (.ref 265),e P S258 560 (.ref 272),e P S259 569 (.ref 279),e P S260 579 (.ref 286),e P S184 582 (.ref 287),e P S274 584 (.ref 290),e P S185 586 (.ref 291),e P S2 587 .none] 4),#[]⟩
noncomputable abbrev L155 : String := PySem.W.SL.s11443829558043349243x14
noncomputable def o289 (P : Params) : Obj := ⟨(.type L69),none,(.cls ⟨S207,[.type L60],[.ref 289,.type L60],288,S207,true,[],[],false,none,false⟩),#[none,none,some (.str S207 513),some (.str S207 521),some (.builtin L155),some (.bool true)]⟩
noncomputable abbrev L156 : String := PySem.W.SL.s6511155373996960695x17
noncomputable abbrev L157 : String := PySem.W.SL.s12411053484034534018x21
noncomputable def o290 (P : Params) : Obj := ⟨(.type L151),none,(.fields #[.str S274 583,.ref 289,.builtin L156,.builtin L157]),#[]⟩
noncomputable def o291 (P : Params) : Obj := ⟨(.type L151),none,(.fields #[.str S185 585,.ref 289,.builtin L152,.none]),#[]⟩
noncomputable def o292 (P : Params) : Obj := ⟨(.type L67),none,(.fields #[.ref 289,.ref 289,.ref 289]),#[]⟩
noncomputable def o293 (P : Params) : Obj := ⟨(.type L148),none,(.fields #[.builtin L153,.ref 289]),#[]⟩
noncomputable def o294 (P : Params) : Obj := ⟨(.type L68),none,(.seq #[] 0),#[]⟩
noncomputable def o295 (P : Params) : Obj := ⟨.none,none,(.fields #[]),#[]⟩
noncomputable def o296 (P : Params) : Obj := ⟨(.type L68),none,(.seq #[.str S275 595,.str S276 596] 0),#[]⟩
noncomputable def o297 (P : Params) : Obj := ⟨(.type L68),none,(.seq #[] 0),#[]⟩
noncomputable def o298 (P : Params) : Obj := ⟨.none,none,(.func ⟨S208,S208,L2.defArgs (tp 38),(.stmts (L2.defBody (tp 38))),L2.defScope (tp 38),0,[],.none,.none,.none,.none,none,.none,.none,0⟩),#[]⟩
noncomputable def o299 (P : Params) : Obj := ⟨(.type L146),none,(.fields #[.str S208 592,.str S208 593,.str S164 594,.int 155 0,.int 2 0,.int 0 0,.int 0 0,.int 3 0,.ref 294,.bool true,.int 181 0,.ref 295,.none,.ref 296,.ref 297,.ref 298,.int 597 0,.int 155 0,.str S164 598]),#[]⟩
noncomputable def o300 (P : Params) : Obj := ⟨(.type L154),none,(.func ⟨S208,S208,L2.defArgs (tp 38),(.stmts (L2.defBody (tp 38))),L2.defScope (tp 38),3,[],.none,.none,.none,.str S188 590,none,.ref 299,.none,0⟩),#[]⟩
noncomputable def o301 (P : Params) : Obj := ⟨(.type L68),none,(.seq #[] 0),#[]⟩
noncomputable def o302 (P : Params) : Obj := ⟨.none,none,(.fields #[]),#[]⟩
noncomputable def o303 (P : Params) : Obj := ⟨(.type L68),none,(.seq #[.str S277 603] 0),#[]⟩
noncomputable def o304 (P : Params) : Obj := ⟨(.type L68),none,(.seq #[] 0),#[]⟩
noncomputable def o305 (P : Params) : Obj := ⟨.none,none,(.func ⟨S209,S209,L2.defArgs (tp 39),(.stmts (L2.defBody (tp 39))),L2.defScope (tp 39),0,[],.none,.none,.none,.none,none,.none,.none,0⟩),#[]⟩
noncomputable def o306 (P : Params) : Obj := ⟨(.type L146),none,(.fields #[.str S209 600,.str S209 601,.str S164 602,.int 159 0,.int 1 0,.int 0 0,.int 0 0,.int 3 0,.ref 301,.bool true,.int 181 0,.ref 302,.none,.ref 303,.ref 304,.ref 305,.int 604 0,.int 159 0,.str S164 605]),#[]⟩
noncomputable def o307 (P : Params) : Obj := ⟨(.type L154),none,(.func ⟨S209,S209,L2.defArgs (tp 39),(.stmts (L2.defBody (tp 39))),L2.defScope (tp 39),3,[],.none,.none,.none,.str S188 590,none,.ref 306,.none,0⟩),#[]⟩
noncomputable def o308 (P : Params) : Obj := ⟨(.type L68),none,(.seq #[] 0),#[]⟩
noncomputable def o309 (P : Params) : Obj := ⟨.none,none,(.fields #[]),#[]⟩
noncomputable def o310 (P : Params) : Obj := ⟨(.type L68),none,(.seq #[.str S278 610,.str S279 611,.str S280 612] 0),#[]⟩
noncomputable def o311 (P : Params) : Obj := ⟨(.type L68),none,(.seq #[] 0),#[]⟩
noncomputable def o312 (P : Params) : Obj := ⟨.none,none,(.func ⟨S210,S210,L2.defArgs (tp 40),(.stmts (L2.defBody (tp 40))),L2.defScope (tp 40),0,[],.none,.none,.none,.none,none,.none,.none,0⟩),#[]⟩
noncomputable def o313 (P : Params) : Obj := ⟨(.type L146),none,(.fields #[.str S210 607,.str S210 608,.str S164 609,.int 161 0,.int 2 0,.int 0 0,.int 0 0,.int 3 0,.ref 308,.bool true,.int 181 0,.ref 309,.none,.ref 310,.ref 311,.ref 312,.int 613 0,.int 161 0,.str S164 614]),#[]⟩
noncomputable def o314 (P : Params) : Obj := ⟨(.type L154),none,(.func ⟨S210,S210,L2.defArgs (tp 40),(.stmts (L2.defBody (tp 40))),L2.defScope (tp 40),3,[],.none,.none,.none,.str S188 590,none,.ref 313,.none,0⟩),#[]⟩
noncomputable def o315 (P : Params) : Obj := ⟨(.type L68),none,(.seq #[] 0),#[]⟩
noncomputable def o316 (P : Params) : Obj := ⟨.none,none,(.fields #[]),#[]⟩
noncomputable def o317 (P : Params) : Obj := ⟨(.type L68),none,(.seq #[.str S278 619] 0),#[]⟩
noncomputable def o318 (P : Params) : Obj := ⟨(.type L68),none,(.seq #[] 0),#[]⟩
noncomputable def o319 (P : Params) : Obj := ⟨.none,none,(.func ⟨S211,S211,L2.defArgs (tp 41),(.stmts (L2.defBody (tp 41))),L2.defScope (tp 41),0,[],.none,.none,.none,.none,none,.none,.none,0⟩),#[]⟩
noncomputable def o320 (P : Params) : Obj := ⟨(.type L146),none,(.fields #[.str S211 616,.str S211 617,.str S164 618,.int 167 0,.int 1 0,.int 0 0,.int 0 0,.int 3 0,.ref 315,.bool true,.int 181 0,.ref 316,.none,.ref 317,.ref 318,.ref 319,.int 620 0,.int 167 0,.str S164 621]),#[]⟩
noncomputable def o321 (P : Params) : Obj := ⟨(.type L154),none,(.func ⟨S211,S211,L2.defArgs (tp 41),(.stmts (L2.defBody (tp 41))),L2.defScope (tp 41),3,[],.none,.none,.none,.str S188 590,none,.ref 320,.none,0⟩),#[]⟩
noncomputable def o322 (P : Params) : Obj := ⟨(.type L68),none,(.seq #[] 0),#[]⟩
noncomputable def o323 (P : Params) : Obj := ⟨.none,none,(.fields #[]),#[]⟩
noncomputable def o324 (P : Params) : Obj := ⟨(.type L68),none,(.seq #[.str S278 626,.str S279 627,.str S281 628,.str S282 629,.str S283 630,.str S284 631] 0),#[]⟩
noncomputable def o325 (P : Params) : Obj := ⟨(.type L68),none,(.seq #[] 0),#[]⟩
noncomputable def o326 (P : Params) : Obj := ⟨.none,none,(.func ⟨S212,S212,L2.defArgs (tp 42),(.stmts (L2.defBody (tp 42))),L2.defScope (tp 42),0,[],.none,.none,.none,.none,none,.none,.none,0⟩),#[]⟩
noncomputable def o327 (P : Params) : Obj := ⟨(.type L146),none,(.fields #[.str S212 623,.str S212 624,.str S164 625,.int 169 0,.int 2 0,.int 0 0,.int 0 0,.int 3 0,.ref 322,.bool true,.int 181 0,.ref 323,.none,.ref 324,.ref 325,.ref 326,.int 632 0,.int 169 0,.str S164 633]),#[]⟩
noncomputable def o328 (P : Params) : Obj := ⟨(.type L154),none,(.func ⟨S212,S212,L2.defArgs (tp 42),(.stmts (L2.defBody (tp 42))),L2.defScope (tp 42),3,[],.none,.none,.none,.str S188 590,none,.ref 327,.none,0⟩),#[]⟩
noncomputable def o329 (P : Params) : Obj := ⟨(.type L68),none,(.seq #[] 0),#[]⟩
noncomputable def o330 (P : Params) : Obj := ⟨.none,none,(.fields #[]),#[]⟩
noncomputable def o331 (P : Params) : Obj := ⟨(.type L68),none,(.seq #[.str S278 638,.str S279 639,.str S281 640] 0),#[]⟩
noncomputable def o332 (P : Params) : Obj := ⟨(.type L68),none,(.seq #[] 0),#[]⟩
noncomputable def o333 (P : Params) : Obj := ⟨.none,none,(.func ⟨S213,S213,L2.defArgs (tp 43),(.stmts (L2.defBody (tp 43))),L2.defScope (tp 43),0,[],.none,.none,.none,.none,none,.none,.none,0⟩),#[]⟩
noncomputable def o334 (P : Params) : Obj := ⟨(.type L146),none,(.fields #[.str S213 635,.str S213 636,.str S164 637,.int 185 0,.int 2 0,.int 0 0,.int 0 0,.int 3 0,.ref 329,.bool true,.int 181 0,.ref 330,.none,.ref 331,.ref 332,.ref 333,.int 641 0,.int 185 0,.str S164 642]),#[]⟩
noncomputable def o335 (P : Params) : Obj := ⟨(.type L154),none,(.func ⟨S213,S213,L2.defArgs (tp 43),(.stmts (L2.defBody (tp 43))),L2.defScope (tp 43),3,[],.none,.none,.none,.str S188 590,none,.ref 334,.none,0⟩),#[]⟩
noncomputable def o336 (P : Params) : Obj := ⟨(.type L68),none,(.seq #[] 0),#[]⟩
noncomputable def o337 (P : Params) : Obj := ⟨.none,none,(.fields #[]),#[]⟩
noncomputable def o338 (P : Params) : Obj := ⟨(.type L68),none,(.seq #[.str S278 647,.str S285 648] 0),#[]⟩
noncomputable def o339 (P : Params) : Obj := ⟨(.type L68),none,(.seq #[] 0),#[]⟩
noncomputable def o340 (P : Params) : Obj := ⟨.none,none,(.func ⟨S214,S214,L2.defArgs (tp 44),(.stmts (L2.defBody (tp 44))),L2.defScope (tp 44),0,[],.none,.none,.none,.none,none,.none,.none,0⟩),#[]⟩
noncomputable def o341 (P : Params) : Obj := ⟨(.type L146),none,(.fields #[.str S214 644,.str S214 645,.str S164 646,.int 192 0,.int 2 0,.int 0 0,.int 0 0,.int 3 0,.ref 336,.bool true,.int 181 0,.ref 337,.none,.ref 338,.ref 339,.ref 340,.int 649 0,.int 192 0,.str S164 650]),#[]⟩
noncomputable def o342 (P : Params) : Obj := ⟨(.type L154),none,(.func ⟨S214,S214,L2.defArgs (tp 44),(.stmts (L2.defBody (tp 44))),L2.defScope (tp 44),3,[],.none,.none,.none,.str S188 590,none,.ref 341,.none,0⟩),#[]⟩
noncomputable def o343 (P : Params) : Obj := ⟨(.type L68),none,(.seq #[] 0),#[]⟩
noncomputable def o344 (P : Params) : Obj := ⟨.none,none,(.fields #[]),#[]⟩
noncomputable def o345 (P : Params) : Obj := ⟨(.type L68),none,(.seq #[.str S286 655,.str S287 656,.str S288 657] 0),#[]⟩
noncomputable def o346 (P : Params) : Obj := ⟨(.type L68),none,(.seq #[] 0),#[]⟩
noncomputable def o347 (P : Params) : Obj := ⟨.none,none,(.func ⟨S215,S215,L2.defArgs (tp 45),(.stmts (L2.defBody (tp 45))),L2.defScope (tp 45),0,[],.none,.none,.none,.none,none,.none,.none,0⟩),#[]⟩
noncomputable def o348 (P : Params) : Obj := ⟨(.type L146),none,(.fields #[.str S215 652,.str S215 653,.str S164 654,.int 196 0,.int 3 0,.int 0 0,.int 0 0,.int 3 0,.ref 343,.bool true,.int 181 0,.ref 344,.none,.ref 345,.ref 346,.ref 347,.int 658 0,.int 196 0,.str S164 659]),#[]⟩
noncomputable def o349 (P : Params) : Obj := ⟨(.type L154),none,(.func ⟨S215,S215,L2.defArgs (tp 45),(.stmts (L2.defBody (tp 45))),L2.defScope (tp 45),3,[],.none,.none,.none,.str S188 590,none,.ref 348,.none,0⟩),#[]⟩
noncomputable def o350 (P : Params) : Obj := ⟨(.type L68),none,(.seq #[] 0),#[]⟩
noncomputable def o351 (P : Params) : Obj := ⟨.none,none,(.fields #[]),#[]⟩
noncomputable def o352 (P : Params) : Obj := ⟨(.type L68),none,(.seq #[.str S289 664,.str S290 665,.str S291 666,.str S292 667,.str S286 668,.str S287 669] 0),#[]⟩
noncomputable def o353 (P : Params) : Obj := ⟨(.type L68),none,(.seq #[] 0),#[]⟩
noncomputable def o354 (P : Params) : Obj := ⟨.none,none,(.func ⟨S216,S216,L2.defArgs (tp 46),(.stmts (L2.defBody (tp 46))),L2.defScope (tp 46),0,[],.none,.none,.none,.none,none,.none,.none,0⟩),#[]⟩
noncomputable def o355 (P : Params) : Obj := ⟨(.type L146),none,(.fields #[.str S216 661,.str S216 662,.str S164 663,.int 200 0,.int 3 0,.int 0 0,.int 0 0,.int 3 0,.ref 350,.bool true,.int 181 0,.ref 351,.none,.ref 352,.ref 353,.ref 354,.int 670 0,.int 200 0,.str S164 671]),#[]⟩
noncomputable def o356 (P : Params) : Obj := ⟨(.type L154),none,(.func ⟨S216,S216,L2.defArgs (tp 46),(.stmts (L2.defBody (tp 46))),L2.defScope (tp 46),3,[],.none,.none,.none,.str S188 590,none,.ref 355,.none,0⟩),#[]⟩
noncomputable def o357 (P : Params) : Obj := ⟨(.type L68),none,(.seq #[] 0),#[]⟩
noncomputable def o358 (P : Params) : Obj := ⟨.none,none,(.fields #[]),#[]⟩
noncomputable def o359 (P : Params) : Obj := ⟨(.type L68),none,(.seq #[.str S278 676,.str S293 677,.str S281 678] 0),#[]⟩
noncomputable def o360 (P : Params) : Obj := ⟨(.type L68),none,(.seq #[] 0),#[]⟩
noncomputable def o361 (P : Params) : Obj := ⟨.none,none,(.func ⟨S217,S217,L2.defArgs (tp 47),(.stmts (L2.defBody (tp 47))),L2.defScope (tp 47),0,[],.none,.none,.none,.none,none,.none,.none,0⟩),#[]⟩
noncomputable def o362 (P : Params) : Obj := ⟨(.type L146),none,(.fields #[.str S217 673,.str S217 674,.str S164 675,.int 206 0,.int 2 0,.int 0 0,.int 0 0,.int 3 0,.ref 357,.bool true,.int 181 0,.ref 358,.none,.ref 359,.ref 360,.ref 361,.int 679 0,.int 206 0,.str S164 680]),#[]⟩
noncomputable def o363 (P : Params) : Obj := ⟨(.type L154),none,(.func ⟨S217,S217,L2.defArgs (tp 47),(.stmts (L2.defBody (tp 47))),L2.defScope (tp 47),3,[],.none,.none,.none,.str S188 590,none,.ref 362,.none,0⟩),#[]⟩
noncomputable def o364 (P : Params) : Obj := ⟨(.type L68),none,(.seq #[] 0),#[]⟩
noncomputable def o365 (P : Params) : Obj := ⟨.none,none,(.fields #[]),#[]⟩
noncomputable def o366 (P : Params) : Obj := ⟨(.type L68),none,(.seq #[.str S278 685,.str S290 686,.str S291 687,.str S283 688,.str S276 689,.str S289 690,.str S294 691,.str S295 692] 0),#[]⟩
noncomputable def o367 (P : Params) : Obj := ⟨(.type L68),none,(.seq #[] 0),#[]⟩
noncomputable def o368 (P : Params) : Obj := ⟨.none,none,(.func ⟨S218,S218,L2.defArgs (tp 48),(.stmts (L2.defBody (tp 48))),L2.defScope (tp 48),0,[],.none,.none,.none,.none,none,.none,.none,0⟩),#[]⟩
noncomputable def o369 (P : Params) : Obj := ⟨(.type L146),none,(.fields #[.str S218 682,.str S218 683,.str S164 684,.int 213 0,.int 3 0,.int 0 0,.int 0 0,.int 3 0,.ref 364,.bool true,.int 181 0,.ref 365,.none,.ref 366,.ref 367,.ref 368,.int 693 0,.int 213 0,.str S164 694]),#[]⟩
noncomputable def o370 (P : Params) : Obj := ⟨(.type L154),none,(.func ⟨S218,S218,L2.defArgs (tp 48),(.stmts (L2.defBody (tp 48))),L2.defScope (tp 48),3,[],.none,.none,.none,.str S188 590,none,.ref 369,.none,0⟩),#[]⟩
noncomputable def o371 (P : Params) : Obj := ⟨(.type L68),none,(.seq #[] 0),#[]⟩
noncomputable def o372 (P : Params) : Obj := ⟨.none,none,(.fields #[]),#[]⟩
noncomputable def o373 (P : Params) : Obj := ⟨(.type L68),none,(.seq #[.str S296 699,.str S286 700,.str S287 701,.str S283 702,.str S297 703,.str S298 704,.str S299 705,.str S300 706] 0),#[]⟩
noncomputable def o374 (P : Params) : Obj := ⟨(.type L68),none,(.seq #[] 0),#[]⟩
noncomputable def o375 (P : Params) : Obj := ⟨.none,none,(.func ⟨S219,S219,L2.defArgs (tp 49),(.stmts (L2.defBody (tp 49))),L2.defScope (tp 49),0,[],.none,.none,.none,.none,none,.none,.none,0⟩),#[]⟩
noncomputable def o376 (P : Params) : Obj := ⟨(.type L146),none,(.fields #[.str S219 696,.str S219 697,.str S164 698,.int 221 0,.int 3 0,.int 0 0,.int 0 0,.int 3 0,.ref 371,.bool true,.int 181 0,.ref 372,.none,.ref 373,.ref 374,.ref 375,.int 707 0,.int 221 0,.str S164 708]),#[]⟩
noncomputable def o377 (P : Params) : Obj := ⟨(.type L154),none,(.func ⟨S219,S219,L2.defArgs (tp 49),(.stmts (L2.defBody (tp 49))),L2.defScope (tp 49),3,[],.none,.none,.none,.str S188 590,none,.ref 376,.none,0⟩),#[]⟩
noncomputable def o378 (P : Params) : Obj := ⟨(.type L68),none,(.seq #[] 0),#[]⟩
noncomputable def o379 (P : Params) : Obj := ⟨.none,none,(.fields #[]),#[]⟩
noncomputable def o380 (P : Params) : Obj := ⟨(.type L68),none,(.seq #[.str S278 713,.str S301 714,.str S286 715,.str S287 716,.str S302 717] 0),#[]⟩
noncomputable def o381 (P : Params) : Obj := ⟨(.type L68),none,(.seq #[] 0),#[]⟩
noncomputable def o382 (P : Params) : Obj := ⟨.none,none,(.func ⟨S220,S220,L2.defArgs (tp 50),(.stmts (L2.defBody (tp 50))),L2.defScope (tp 50),0,[],.none,.none,.none,.none,none,.none,.none,0⟩),#[]⟩
noncomputable def o383 (P : Params) : Obj := ⟨(.type L146),none,(.fields #[.str S220 710,.str S220 711,.str S164 712,.int 228 0,.int 4 0,.int 0 0,.int 0 0,.int 3 0,.ref 378,.bool true,.int 181 0,.ref 379,.none,.ref 380,.ref 381,.ref 382,.int 718 0,.int 228 0,.str S164 719]),#[]⟩
noncomputable def o384 (P : Params) : Obj := ⟨(.type L154),none,(.func ⟨S220,S220,L2.defArgs (tp 50),(.stmts (L2.defBody (tp 50))),L2.defScope (tp 50),3,[],.none,.none,.none,.str S188 590,none,.ref 383,.none,0⟩),#[]⟩
noncomputable def o385 (P : Params) : Obj := ⟨(.type L68),none,(.seq #[] 0),#[]⟩
noncomputable def o386 (P : Params) : Obj := ⟨.none,none,(.fields #[]),#[]⟩
noncomputable def o387 (P : Params) : Obj := ⟨.none,none,(.func ⟨S221,S221,L2.defArgs (tp 51),(.stmts (L2.defBody (tp 51))),L2.defScope (tp 51),0,[],.none,.none,.none,.none,none,.none,.none,0⟩),#[]⟩
noncomputable def o388 (P : Params) : Obj := ⟨(.type L146),none,(.fields #[.str S221 721,.str S221 722,.str S164 723,.int 236 0,.int 5 0,.int 0 0,.int 0 0,.int 3 0,.ref 385,.bool true,.int 181 0,.ref 386,.none,.none,.none,.ref 387,.int 724 0,.int 236 0,.str S164 725]),#[]⟩
noncomputable def o389 (P : Params) : Obj := ⟨(.type L154),none,(.func ⟨S221,S221,L2.defArgs (tp 51),(.stmts (L2.defBody (tp 51))),L2.defScope (tp 51),3,[],.none,.none,.none,.str S188 590,none,.ref 388,.none,0⟩),#[]⟩
noncomputable def o390 (P : Params) : Obj := ⟨(.type L68),none,(.seq #[] 0),#[]⟩
noncomputable def o391 (P : Params) : Obj := ⟨.none,none,(.fields #[]),#[]⟩
noncomputable def o392 (P : Params) : Obj := ⟨(.type L68),none,(.seq #[.str S278 730] 0),#[]⟩
noncomputable def o393 (P : Params) : Obj := ⟨(.type L68),none,(.seq #[] 0),#[]⟩
noncomputable def o394 (P : Params) : Obj := ⟨.none,none,(.func ⟨S222,S222,L2.defArgs (tp 52),(.stmts (L2.defBody (tp 52))),L2.defScope (tp 52),0,[],.none,.none,.none,.none,none,.none,.none,0⟩),#[]⟩
noncomputable def o395 (P : Params) : Obj := ⟨(.type L146),none,(.fields #[.str S222 727,.str S222 728,.str S164 729,.int 253 0,.int 1 0,.int 0 0,.int 0 0,.int 3 0,.ref 390,.bool true,.int 181 0,.ref 391,.none,.ref 392,.ref 393,.ref 394,.int 731 0,.int 253 0,.str S164 732]),#[]⟩
noncomputable def o396 (P : Params) : Obj := ⟨(.type L154),none,(.func ⟨S222,S222,L2.defArgs (tp 52),(.stmts (L2.defBody (tp 52))),L2.defScope (tp 52),3,[],.none,.none,.none,.str S188 590,none,.ref 395,.none,0⟩),#[]⟩
noncomputable def o397 (P : Params) : Obj := ⟨(.type L68),none,(.seq #[] 0),#[]⟩
noncomputable def o398 (P : Params) : Obj := ⟨.none,none,(.fields #[]),#[]⟩
noncomputable def o399 (P : Params) : Obj := ⟨(.type L68),none,(.seq #[.str S278 737,.str S290 738,.str S291 739,.str S301 740,.str S296 741,.str S303 742,.str S304 743,.str S305 744,.str S306 745,.str S276 746,.str S307 747,.str S293 748,.str S294 749,.str S279 750,.str S308 751,.str S298 752] 0),#[]⟩
noncomputable def o400 (P : Params) : Obj := ⟨(.type L68),none,(.seq #[] 0),#[]⟩
noncomputable def o401 (P : Params) : Obj := ⟨.none,none,(.func ⟨S223,S223,L2.defArgs (tp 53),(.stmts (L2.defBody (tp 53))),L2.defScope (tp 53),0,[],.none,.none,.none,.none,none,.none,.none,0⟩),#[]⟩
noncomputable def o402 (P : Params) : Obj := ⟨(.type L146),none,(.fields #[.str S223 734,.str S223 735,.str S164 736,.int 257 0,.int 1 0,.int 0 0,.int 0 0,.int 3 0,.ref 397,.bool true,.int 181 0,.ref 398,.none,.ref 399,.ref 400,.ref 401,.int 753 0,.int 257 0,.str S164 754]),#[]⟩
noncomputable def o403 (P : Params) : Obj := ⟨(.type L154),none,(.func ⟨S223,S223,L2.defArgs (tp 53),(.stmts (L2.defBody (tp 53))),L2.defScope (tp 53),3,[],.none,.none,.none,.str S188 590,none,.ref 402,.none,0⟩),#[]⟩
noncomputable def o404 (P : Params) : Obj := ⟨(.type L68),none,(.seq #[] 0),#[]⟩
noncomputable def o405 (P : Params) : Obj := ⟨.none,none,(.fields #[]),#[]⟩
noncomputable def o406 (P : Params) : Obj := ⟨(.type L68),none,(.seq #[.str S275 759,.str S276 760] 0),#[]⟩
noncomputable def o407 (P : Params) : Obj := ⟨(.type L68),none,(.seq #[] 0),#[]⟩
noncomputable def o408 (P : Params) : Obj := ⟨.none,none,(.func ⟨S224,S224,L2.defArgs (tp 54),(.stmts (L2.defBody (tp 54))),L2.defScope (tp 54),0,[],.none,.none,.none,.none,none,.none,.none,0⟩),#[]⟩
noncomputable def o409 (P : Params) : Obj := ⟨(.type L146),none,(.fields #[.str S224 756,.str S224 757,.str S164 758,.int 279 0,.int 1 0,.int 0 0,.int 0 0,.int 3 0,.ref 404,.bool true,.int 181 0,.ref 405,.none,.ref 406,.ref 407,.ref 408,.int 761 0,.int 279 0,.str S164 762]),#[]⟩
noncomputable def o410 (P : Params) : Obj := ⟨(.type L154),none,(.func ⟨S224,S224,L2.defArgs (tp 54),(.stmts (L2.defBody (tp 54))),L2.defScope (tp 54),3,[],.none,.none,.none,.str S188 590,none,.ref 409,.none,0⟩),#[]⟩
noncomputable def t1 : Params → BT := (f boot_o_0 (f boot_o_1 (f o3v2 (f boot_o_7 (f o15 (f o31 (f o63 (f o127 (f o255 z z) (f o383 z z)) (f o191 (f o319 z z) z)) (f o95 (f o159 (f o287 z z) z) (f o223 (f o351 z z) z))) (f o47 (f o79 (f o143 (f o271 z z) (f o399 z z)) (f o207 (f o335 z z) z)) (f o111 (f o175 (f o303 z z) z) (f o239 (f o367 z z) z)))) (f o23 (f o39 (f o71 (f o135 (f o263 z z) (f o391 z z)) (f o199 (f o327 z z) z)) (f o103 (f o167 (f o295 z z) z) (f o231 (f o359 z z) z))) (f o55 (f o87 (f o151 (f o279 z z) (f o407 z z)) (f o215 (f o343 z z) z)) (f o119 (f o183 (f o311 z z) z) (f o247 (f o375 z z) z))))) (f o11 (f o19 (f o35 (f o67 (f o131 (f o259 z z) (f o387 z z)) (f o195 (f o323 z z) z)) (f o99 (f o163 (f o291 z z) z) (f o227 (f o355 z z) z))) (f o51 (f o83 (f o147 (f o275 z z) (f o403 z z)) (f o211 (f o339 z z) z)) (f o115 (f o179 (f o307 z z) z) (f o243 (f o371 z z) z)))) (f o27 (f o43 (f o75 (f o139 (f o267 z z) (f o395 z z)) (f o203 (f o331 z z) z)) (f o107 (f o171 (f o299 z z) z) (f o235 (f o363 z z) z))) (f o59 (f o91 (f o155 (f o283 z z) z) (f o219 (f o347 z z) z)) (f o123 (f o187 (f o315 z z) z) (f o251 (f o379 z z) z)))))) (f boot_o_5 (f boot_o_9 (f o17 (f o33 (f o65 (f o129 (f o257 z z) (f o385 z z)) (f o193 (f o321 z z) z)) (f o97 (f o161 (f o289 z z) z) (f o225 (f o353 z z) z))) (f o49 (f o81 (f o145 (f o273 z z) (f o401 z z)) (f o209 (f o337 z z) z)) (f o113 (f o177 (f o305 z z) z) (f o241 (f o369 z z) z)))) (f o25 (f o41 (f o73 (f o137 (f o265 z z) (f o393 z z)) (f o201 (f o329 z z) z)) (f o105 (f o169 (f o297 z z) z) (f o233 (f o361 z z) z))) (f o57 (f o89 (f o153 (f o281 z z) (f o409 z z)) (f o217 (f o345 z z) z)) (f o121 (f o185 (f o313 z z) z) (f o249 (f o377 z z) z))))) (f o13 (f o21 (f o37 (f o69 (f o133 (f o261 z z) (f o389 z z)) (f o197 (f o325 z z) z)) (f o101 (f o165 (f o293 z z) z) (f o229 (f o357 z z) z))) (f o53 (f o85 (f o149 (f o277 z z) (f o405 z z)) (f o213 (f o341 z z) z)) (f o117 (f o181 (f o309 z z) z) (f o245 (f o373 z z) z)))) (f o29 (f o45 (f o77 (f o141 (f o269 z z) (f o397 z z)) (f o205 (f o333 z z) z)) (f o109 (f o173 (f o301 z z) z) (f o237 (f o365 z z) z))) (f o61 (f o93 (f o157 (f o285 z z) z) (f o221 (f o349 z z) z)) (f o125 (f o189 (f o317 z z) z) (f o253 (f o381 z z) z))))))) (f boot_o_2 (f boot_o_4 (f boot_o_8 (f o16 (f o32 (f o64 (f o128 (f o256 z z) (f o384 z z)) (f o192 (f o320 z z) z)) (f o96 (f o160 (f o288 z z) z) (f o224 (f o352 z z) z))) (f o48 (f o80 (f o144 (f o272 z z) (f o400 z z)) (f o208 (f o336 z z) z)) (f o112 (f o176 (f o304 z z) z) (f o240 (f o368 z z) z)))) (f o24 (f o40 (f o72 (f o136 (f o264 z z) (f o392 z z)) (f o200 (f o328 z z) z)) (f o104 (f o168 (f o296 z z) z) (f o232 (f o360 z z) z))) (f o56 (f o88 (f o152 (f o280 z z) (f o408 z z)) (f o216 (f o344 z z) z)) (f o120 (f o184 (f o312 z z) z) (f o248 (f o376 z z) z))))) (f o12v2 (f o20 (f o36 (f o68 (f o132 (f o260 z z) (f o388 z z)) (f o196 (f o324 z z) z)) (f o100 (f o164 (f o292 z z) z) (f o228 (f o356 z z) z))) (f o52 (f o84 (f o148 (f o276 z z) (f o404 z z)) (f o212 (f o340 z z) z)) (f o116 (f o180 (f o308 z z) z) (f o244 (f o372 z z) z)))) (f o28 (f o44 (f o76 (f o140 (f o268 z z) (f o396 z z)) (f o204 (f o332 z z) z)) (f o108 (f o172 (f o300 z z) z) (f o236 (f o364 z z) z))) (f o60 (f o92 (f o156 (f o284 z z) z) (f o220 (f o348 z z) z)) (f o124 (f o188 (f o316 z z) z) (f o252 (f o380 z z) z)))))) (f boot_o_6 (f boot_o_10 (f o18 (f o34 (f o66 (f o130 (f o258 z z) (f o386 z z)) (f o194 (f o322 z z) z)) (f o98 (f o162 (f o290 z z) z) (f o226 (f o354 z z) z))) (f o50 (f o82 (f o146 (f o274 z z) (f o402 z z)) (f o210 (f o338 z z) z)) (f o114 (f o178 (f o306 z z) z) (f o242 (f o370 z z) z)))) (f o26 (f o42 (f o74 (f o138 (f o266 z z) (f o394 z z)) (f o202 (f o330 z z) z)) (f o106 (f o170 (f o298 z z) z) (f o234 (f o362 z z) z))) (f o58 (f o90 (f o154 (f o282 z z) (f o410 z z)) (f o218 (f o346 z z) z)) (f o122 (f o186 (f o314 z z) z) (f o250 (f o378 z z) z))))) (f o14 (f o22 (f o38 (f o70 (f o134 (f o262 z z) (f o390 z z)) (f o198 (f o326 z z) z)) (f o102 (f o166 (f o294 z z) z) (f o230 (f o358 z z) z))) (f o54 (f o86 (f o150 (f o278 z z) (f o406 z z)) (f o214 (f o342 z z) z)) (f o118 (f o182 (f o310 z z) z) (f o246 (f o374 z z) z)))) (f o30 (f o46 (f o78 (f o142 (f o270 z z) (f o398 z z)) (f o206 (f o334 z z) z)) (f o110 (f o174 (f o302 z z) z) (f o238 (f o366 z z) z))) (f o62 (f o94 (f o158 (f o286 z z) z) (f o222 (f o350 z z) z)) (f o126 (f o190 (f o318 z z) z) (f o254 (f o382 z z) z))))))))
noncomputable abbrev s1 (w : World) (os : OsState) : SharedT := ⟨t1 w.params,411,{ },(Array.mk []),⟨0,0,0,0⟩,764,os⟩
noncomputable abbrev p1 : Pos := ⟨279,0,283,15⟩
noncomputable abbrev st1 : List Stmt := (pt.main.body.drop 14).take 41
theorem q1 (w : World) : (fun os => segRunT treeTable pt w m0 an 1 1474 (s0 w os) ⟨(execs st1 en).wrap doneF deadEnd id id,cE,p0,B⟩) = fun os => some (.next,s1 w os,cE,p1) := by
  rw [PySem.W.Fast.te10110043849684766642,PySem.W.Fast.te14364793385576792824,PySem.W.Fast.te12563942051412417395]; kernel_rfl
noncomputable def hF (P : Params) : Heap := ⟨⟨[boot_o_0 P,boot_o_1 P,boot_o_2 P,o3v2 P,boot_o_4 P,boot_o_5 P,boot_o_6 P,boot_o_7 P,boot_o_8 P,boot_o_9 P,boot_o_10 P,o11 P,o12v2 P,o13 P,o14 P,o15 P,o16 P,o17 P,o18 P,o19 P,o20 P,o21 P,o22 P,o23 P,o24 P,o25 P,o26 P,o27 P,o28 P,o29 P,o30 P,o31 P,o32 P,o33 P,o34 P,o35 P,o36 P,o37 P,o38 P,o39 P,o40 P,o41 P,o42 P,o43 P,o44 P,o45 P,o46 P,o47 P,o48 P,o49 P,o50 P,o51 P,o52 P,o53 P,o54 P,o55 P,o56 P,o57 P,o58 P,o59 P,o60 P,o61 P,o62 P,o63 P,o64 P,o65 P,o66 P,o67 P,o68 P,o69 P,o70 P,o71 P,o72 P,o73 P,o74 P,o75 P,o76 P,o77 P,o78 P,o79 P,o80 P,o81 P,o82 P,o83 P,o84 P,o85 P,o86 P,o87 P,o88 P,o89 P,o90 P,o91 P,o92 P,o93 P,o94 P,o95 P,o96 P,o97 P,o98 P,o99 P,o100 P,o101 P,o102 P,o103 P,o104 P,o105 P,o106 P,o107 P,o108 P,o109 P,o110 P,o111 P,o112 P,o113 P,o114 P,o115 P,o116 P,o117 P,o118 P,o119 P,o120 P,o121 P,o122 P,o123 P,o124 P,o125 P,o126 P,o127 P,o128 P,o129 P,o130 P,o131 P,o132 P,o133 P,o134 P,o135 P,o136 P,o137 P,o138 P,o139 P,o140 P,o141 P,o142 P,o143 P,o144 P,o145 P,o146 P,o147 P,o148 P,o149 P,o150 P,o151 P,o152 P,o153 P,o154 P,o155 P,o156 P,o157 P,o158 P,o159 P,o160 P,o161 P,o162 P,o163 P,o164 P,o165 P,o166 P,o167 P,o168 P,o169 P,o170 P,o171 P,o172 P,o173 P,o174 P,o175 P,o176 P,o177 P,o178 P,o179 P,o180 P,o181 P,o182 P,o183 P,o184 P,o185 P,o186 P,o187 P,o188 P,o189 P,o190 P,o191 P,o192 P,o193 P,o194 P,o195 P,o196 P,o197 P,o198 P,o199 P,o200 P,o201 P,o202 P,o203 P,o204 P,o205 P,o206 P,o207 P,o208 P,o209 P,o210 P,o211 P,o212 P,o213 P,o214 P,o215 P,o216 P,o217 P,o218 P,o219 P,o220 P,o221 P,o222 P,o223 P,o224 P,o225 P,o226 P,o227 P,o228 P,o229 P,o230 P,o231 P,o232 P,o233 P,o234 P,o235 P,o236 P,o237 P,o238 P,o239 P,o240 P,o241 P,o242 P,o243 P,o244 P,o245 P,o246 P,o247 P,o248 P,o249 P,o250 P,o251 P,o252 P,o253 P,o254 P,o255 P,o256 P,o257 P,o258 P,o259 P,o260 P,o261 P,o262 P,o263 P,o264 P,o265 P,o266 P,o267 P,o268 P,o269 P,o270 P,o271 P,o272 P,o273 P,o274 P,o275 P,o276 P,o277 P,o278 P,o279 P,o280 P,o281 P,o282 P,o283 P,o284 P,o285 P,o286 P,o287 P,o288 P,o289 P,o290 P,o291 P,o292 P,o293 P,o294 P,o295 P,o296 P,o297 P,o298 P,o299 P,o300 P,o301 P,o302 P,o303 P,o304 P,o305 P,o306 P,o307 P,o308 P,o309 P,o310 P,o311 P,o312 P,o313 P,o314 P,o315 P,o316 P,o317 P,o318 P,o319 P,o320 P,o321 P,o322 P,o323 P,o324 P,o325 P,o326 P,o327 P,o328 P,o329 P,o330 P,o331 P,o332 P,o333 P,o334 P,o335 P,o336 P,o337 P,o338 P,o339 P,o340 P,o341 P,o342 P,o343 P,o344 P,o345 P,o346 P,o347 P,o348 P,o349 P,o350 P,o351 P,o352 P,o353 P,o354 P,o355 P,o356 P,o357 P,o358 P,o359 P,o360 P,o361 P,o362 P,o363 P,o364 P,o365 P,o366 P,o367 P,o368 P,o369 P,o370 P,o371 P,o372 P,o373 P,o374 P,o375 P,o376 P,o377 P,o378 P,o379 P,o380 P,o381 P,o382 P,o383 P,o384 P,o385 P,o386 P,o387 P,o388 P,o389 P,o390 P,o391 P,o392 P,o393 P,o394 P,o395 P,o396 P,o397 P,o398 P,o399 P,o400 P,o401 P,o402 P,o403 P,o404 P,o405 P,o406 P,o407 P,o408 P,o409 P,o410 P]⟩,{ }⟩
noncomputable abbrev sF (w : World) (os : OsState) : Shared := ⟨hF w.params,(Array.mk []),⟨0,0,0,0⟩,764,os⟩
theorem fin (w : World) : (fun os => topRun treeTable pt w m0 an 2 (s1 w os).abs ⟨doneF .next,cE,p1,B⟩) = fun os => some (sF w os) := by
  rw [PySem.W.Fast.te14082659384304107361,PySem.W.Fast.te14364793385576792824]; kernel_rfl
theorem body_eq : behindTheImports pt = st0 ++ (st1 ++ ([])) := by kernel_rfl
noncomputable abbrev MM : Nat := 12 + (1 + (1997 + (1474 + 2)))
theorem run_eq (w : World) (os : OsState) : topRun treeTable pt w m0 an MM (sZ w os) (topStub pt) = some (sF w os) :=
  go_top (congrFun (pre w) os) (piece_block (congrFun (blk w) os) (body_eq ▸ (piece_app (l := st0) (segRun_of (congrFun (q0 w) os)) (piece_app (l := st1) (segRun_of (congrFun (q1 w) os)) (piece_nil (congrFun (fin w) os))))))
noncomputable def loose : List Str := [S168,S169,S170,S171,S172,S173,S174,S175,S176,S177,S178,S179,S189,S190,S191,S192,S193,S194,S195,S196,S197,S198,S199,S200,S201,S202,S203,S204,S205,S206,S207,S208,S209,S210,S211,S212,S213,S214,S215,S216,S217,S218,S219,S220,S221,S222,S223]
noncomputable abbrev NN : Nat := 7064
noncomputable abbrev q : Program := view pt [54]
noncomputable abbrev Xt : Shared → Bool := fun s => xlAt q [] s && recOk [] s
theorem size (w : World) : ((boot_heap w.params).isNs mainGlobals && (Array.mk [] : Array GenState).size == 0,(boot_heap w.params).objs.size,(boot_heap w.params).nsMap mainGlobals "__annotations__") = (true,m0,an) := by
  rw [PySem.W.Fast.te8920871248978507458]; kernel_rfl
theorem looks (w : World) : (fun os => ((staticsOk (importedModules pt.main.body) (boot_heap w.params) (hF w.params) && namesBound pt (hF w.params) && gensDone (sF w os) && laidKept (boot_heap w.params) (hF w.params)),openSeen q loose (importedModules pt.main.body) Xt true (sF w os),HK.obs (sF w os))) = fun _ => (true,openGood q loose,HK.val w) := by
  rw [PySem.W.Fast.te4187177175401517315,PySem.W.Fast.te5923862056798008813]; kernel_rfl
theorem left : LeftO pt q loose Xt HK.obs HK.val NN true := LeftO.of_pieces (boot_open (by kernel_rfl) (by decide) (fun s => rfl)) size run_eq (by decide) looks
end Hd
open PySem PySem.W PyProof.Rows
set_option maxRecDepth 100000 in
set_option maxHeartbeats 0 in
theorem PySem.Challenge.cw_platecuts_k64_whole_trees_weighed_holds : PySem.Challenge.rw_platecuts_k64_whole_trees_weighed.Holds := by
  w_on; o_law
  refine holds_open (q := view PySem.Challenge.pw_platecuts_k64_whole_trees_weighed [54]) (loose := Hd.loose) (Xt := fun s => xlAt (view PySem.Challenge.pw_platecuts_k64_whole_trees_weighed [54]) [] s && recOk [] s) (XP := XL (view PySem.Challenge.pw_platecuts_k64_whole_trees_weighed [54]) []) (Yf := Hook.obs Hd.HK) (Ya := Hook.val Hd.HK) (YP := InK Pc.kK) (N := Hd.NN) ?hl (Hook.of Hd.HK) (Hook.keeps Hd.HK) (fun s e => xl_of s (Bool.and_eq_true_iff.mp e).1) XL.keeps (by rfl) (by rfl) (by rfl) (fun s e => recFacts_of (Bool.and_eq_true_iff.mp e).2) (by rfl) (by first | assumption | decide +kernel) (by decide +kernel) ⟨rfl,rfl,rfl,rfl,rfl,by decide +kernel⟩ ?hw ?hc
  case hl => exact Hd.pt_eq ▸ Hd.left
  case hw => w_witness2
  k_fill
  refine Pc.walk (l := PySem.Challenge.rw_platecuts_k64_whole_trees_weighed) rfl rfl (fun w h Y => Y) ?F
  case F =>
    intro w mg fa h KX G hmg
    refine' Pc.all_mk KX G hmg ?a0 ?l0 ?c0 ?k0 ?a1 ?l1 ?c1 ?k1 ?a2 ?l2 ?c2 ?k2 ?a3 ?l3 ?c3 ?k3 ?a4 ?l4 ?c4 ?k4 ?a5 ?l5 ?c5 ?k5 ?a6 ?l6 ?c6 ?k6 ?a7 ?l7 ?c7 ?k7 ?a8 ?l8 ?c8 ?k8 ?a9 ?l9 ?c9 ?k9 ?a10 ?l10 ?c10 ?k10 ?a11 ?l11 ?c11 ?k11 ?a12 ?l12 ?c12 ?k12 ?a13 ?l13 ?c13 ?k13 ?a14 ?l14 ?c14 ?k14 ?a15 ?l15 ?c15 ?k15 ?a16 ?l16 ?c16 ?k16 ?a17 ?l17 ?c17 ?k17 ?a18 ?l18 ?c18 ?k18 ?a19 ?l19 ?c19 ?k19 ?a20 ?l20 ?c20 ?k20 ?a21 ?l21 ?c21 ?k21 ?a22 ?l22 ?c22 ?k22 ?a23 ?l23 ?c23 ?k23 ?a24 ?l24 ?c24 ?k24 ?a25 ?l25 ?c25 ?k25 ?a26 ?l26 ?c26 ?k26 ?a27 ?l27 ?c27 ?k27 ?a28 ?l28 ?c28 ?k28 ?a29 ?l29 ?c29 ?k29 ?a30 ?l30 ?c30 ?k30 ?a31 ?l31 ?c31 ?k31 ?a32 ?l32 ?c32 ?k32 ?a33 ?l33 ?c33 ?k33 ?aC ?am0 ?im0 ?lm0 ?cm0 ?km0 ?am1 ?im1 ?lm1 ?cm1 ?km1 ?am2 ?im2 ?lm2 ?cm2 ?km2 ?am3 ?im3 ?lm3 ?cm3 ?km3 ?am4 ?im4 ?lm4 ?cm4 ?km4 ?am5 ?im5 ?lm5 ?cm5 ?km5 ?am6 ?im6 ?lm6 ?cm6 ?km6 ?pg ?hd ?po ?sa ?mk ?kc ?n0 ?n1 ?eNoLying ?cNoLying ?z0 ?z1 ?z2 ?z3 ?z4 ?z5 ?z6 ?z7 ?z8 ?z9 ?z10 ?z11 ?z12 ?z13 ?z14 ?z15 ?z16 ?uc0 ?uc1 ?uc2 ?uc3
    (case a0 => k_is)
    (case l0 => k_is)
    (case c0 => k_is)
    (case k0 => k_is)
    (case a1 => k_is)
    (case l1 => k_is)
    (case c1 => k_is)
    (case k1 => k_is)
    (case a2 => k_is)
    (case l2 => k_is)
    (case c2 => k_is)
    (case k2 => k_is)
    (case a3 => k_is)
    (case l3 => k_is)
    (case c3 => k_is)
    (case k3 => k_is)
    (case a4 => k_is)
    (case l4 => k_is)
    (case c4 => k_is)
    (case k4 => k_is)
    (case a5 => k_is)
    (case l5 => k_is)
    (case c5 => k_is)
    (case k5 => k_is)
    (case a6 => k_is)
    (case l6 => k_is)
    (case c6 => k_is)
    (case k6 => k_is)
    (case a7 => k_is)
    (case l7 => k_is)
    (case c7 => k_is)
    (case k7 => k_is)
    (case a8 => k_is)
    (case l8 => k_is)
    (case c8 => k_is)
    (case k8 => k_is)
    (case a9 => k_is)
    (case l9 => k_is)
    (case c9 => k_is)
    (case k9 => k_is)
    (case a10 => k_is)
    (case l10 => k_is)
    (case c10 => k_is)
    (case k10 => k_is)
    (case a11 => k_is)
    (case l11 => k_is)
    (case c11 => k_is)
    (case k11 => k_is)
    (case a12 => k_is)
    (case l12 => k_is)
    (case c12 => k_is)
    (case k12 => k_is)
    (case a13 => k_is)
    (case l13 => k_is)
    (case c13 => k_is)
    (case k13 => k_is)
    (case a14 => k_is)
    (case l14 => k_is)
    (case c14 => k_is)
    (case k14 => k_is)
    (case a15 => k_is)
    (case l15 => k_is)
    (case c15 => k_is)
    (case k15 => k_is)
    (case a16 => k_is)
    (case l16 => k_is)
    (case c16 => k_is)
    (case k16 => k_is)
    (case a17 => k_is)
    (case l17 => k_is)
    (case c17 => k_is)
    (case k17 => k_is)
    (case a18 => k_is)
    (case l18 => k_is)
    (case c18 => k_is)
    (case k18 => k_is)
    (case a19 => k_is)
    (case l19 => k_is)
    (case c19 => k_is)
    (case k19 => k_is)
    (case a20 => k_is)
    (case l20 => k_is)
    (case c20 => k_is)
    (case k20 => k_is)
    (case a21 => k_is)
    (case l21 => k_is)
    (case c21 => k_is)
    (case k21 => k_is)
    (case a22 => k_is)
    (case l22 => k_is)
    (case c22 => k_is)
    (case k22 => k_is)
    (case a23 => k_is)
    (case l23 => k_is)
    (case c23 => k_is)
    (case k23 => k_is)
    (case a24 => k_is)
    (case l24 => k_is)
    (case c24 => k_is)
    (case k24 => k_is)
    (case a25 => k_is)
    (case l25 => k_is)
    (case c25 => k_is)
    (case k25 => k_is)
    (case a26 => k_is)
    (case l26 => k_is)
    (case c26 => k_is)
    (case k26 => k_is)
    (case a27 => k_is)
    (case l27 => k_is)
    (case c27 => k_is)
    (case k27 => k_is)
    (case a28 => k_is)
    (case l28 => k_is)
    (case c28 => k_is)
    (case k28 => k_is)
    (case a29 => k_is)
    (case l29 => k_is)
    (case c29 => k_is)
    (case k29 => k_is)
    (case a30 => k_is)
    (case l30 => k_is)
    (case c30 => k_is)
    (case k30 => k_is)
    (case a31 => k_is)
    (case l31 => k_is)
    (case c31 => k_is)
    (case k31 => k_is)
    (case a32 => k_is)
    (case l32 => k_is)
    (case c32 => k_is)
    (case k32 => k_is)
    (case a33 => k_is)
    (case l33 => k_is)
    (case c33 => k_is)
    (case k33 => k_is)
    (case aC => k_is)
    (case am0 => k_is)
    (case im0 => k_is)
    (case lm0 => k_is)
    (case cm0 => k_is)
    (case km0 => k_is)
    (case am1 => k_is)
    (case im1 => k_is)
    (case lm1 => k_is)
    (case cm1 => k_is)
    (case km1 => k_is)
    (case am2 => k_is)
    (case im2 => k_is)
    (case lm2 => k_is)
    (case cm2 => k_is)
    (case km2 => k_is)
    (case am3 => k_is)
    (case im3 => k_is)
    (case lm3 => k_is)
    (case cm3 => k_is)
    (case km3 => k_is)
    (case am4 => k_is)
    (case im4 => k_is)
    (case lm4 => k_is)
    (case cm4 => k_is)
    (case km4 => k_is)
    (case am5 => k_is)
    (case im5 => k_is)
    (case lm5 => k_is)
    (case cm5 => k_is)
    (case km5 => k_is)
    (case am6 => k_is)
    (case im6 => k_is)
    (case lm6 => k_is)
    (case cm6 => k_is)
    (case km6 => k_is)
    (case pg => k_is)
    (case hd => k_is)
    (case po => k_is)
    (case sa => k_is)
    (case mk => k_is)
    (case kc => k_is)
    (case n0 => k_is)
    (case n1 => k_is)
    (case eNoLying => k_is)
    (case cNoLying => k_exc)
    (case z0 => k_is)
    (case z1 => k_is)
    (case z2 => k_is)
    (case z3 => k_is)
    (case z4 => k_is)
    (case z5 => k_is)
    (case z6 => k_is)
    (case z7 => k_is)
    (case z8 => k_is)
    (case z9 => k_is)
    (case z10 => k_is)
    (case z11 => k_is)
    (case z12 => k_is)
    (case z13 => k_is)
    (case z14 => k_is)
    (case z15 => k_is)
    (case z16 => k_is)
    (case uc0 => k_is)
    (case uc1 => k_is)
    (case uc2 => k_is)
    (case uc3 => k_is)