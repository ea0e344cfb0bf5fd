import PyProof.Rows.All
import Wide.All
import OpenK.AllK
import Wide.FinOn
import Lean
import PyProof.EqAt
import PyProof.EqKinds
import PyProof.TupleCall
import PyProof.Draws
import PyProof.WalksMore
import PyProof.EnumMake
import PyProof.FitsBits
import KE.KRevIter
import PySem.Challenge.RW_platecuts_k91_whole_pictures
set_option Elab.async false
set_option linter.all false
set_option maxRecDepth 100000
namespace L2
open PySem PySem.Spec PyProof.Rows
abbrev Key := Sum Int Str
def keyIs : Key → Value → Bool
  | .inl k,v => Value.isInt k v
  | .inr x,v => Value.isStrOf x v
def keyH (w : World) : Key → Int
  | .inl k => hashInt k
  | .inr x => hashStr w x
theorem keyIs_shape : ∀ {k : Key} {v : Value},keyIs k v = true → (∃ i t,k = Sum.inl i ∧ v = Value.int i t) ∨ (∃ x t,k = Sum.inr x ∧ v = Value.str x t)
  | .inl i,v,h => by
    obtain ⟨t,e⟩ := Value.isInt_shape (k := i) (v := v) h
    exact .inl ⟨i,t,rfl,e⟩
  | .inr x,v,h => by
    obtain ⟨t,e⟩ := Value.isStrOf_shape (x := x) (v := v) h
    exact .inr ⟨x,t,rfl,e⟩
theorem keyIs_int (i : Int) (t : Tok) : keyIs (.inl i) (.int i t) = true := by simp [keyIs,Value.isInt]
theorem keyIs_str (x : Str) (t : Tok) : keyIs (.inr x) (.str x t) = true := by simp [keyIs,Value.isStrOf]
theorem key_ll (a b : Int) : decide ((Sum.inl a : Key) = Sum.inl b) = (a == b) := by
  by_cases e : a = b
  · subst e; simp
  · have h : ¬ (Sum.inl a : Key) = Sum.inl b := fun q => e (Sum.inl.inj q)
    rw [decide_eq_false h]
    exact (beq_eq_false_iff_ne.mpr e).symm
theorem key_rr (a b : Str) : decide ((Sum.inr a : Key) = Sum.inr b) = decide (a = b) := by
  by_cases e : a = b
  · subst e; simp
  · have h : ¬ (Sum.inr a : Key) = Sum.inr b := fun q => e (Sum.inr.inj q)
    rw [decide_eq_false h,decide_eq_false e]
theorem key_lr (a : Int) (b : Str) : decide ((Sum.inl a : Key) = Sum.inr b) = false := decide_eq_false (fun q => nomatch q)
theorem key_rl (a : Str) (b : Int) : decide ((Sum.inr a : Key) = Sum.inl b) = false := decide_eq_false (fun q => nomatch q)
def mixKind (prog : Program) (w : World) : PySem.KeyKind prog w Key where
  is := keyIs
  hash := keyH w
  inj := fun v a b ha hb => by
    rcases keyIs_shape ha with ⟨i,t,rfl,rfl⟩ | ⟨x,t,rfl,rfl⟩
    · rcases keyIs_shape hb with ⟨j,u,rfl,e⟩ | ⟨y,u,rfl,e⟩
      · injection e with e1 _; rw [e1]
      · exact nomatch e
    · rcases keyIs_shape hb with ⟨j,u,rfl,e⟩ | ⟨y,u,rfl,e⟩
      · exact nomatch e
      · injection e with e1 _; rw [e1]
  byValue := fun k v h => by
    rcases keyIs_shape h with ⟨i,t,rfl,rfl⟩ | ⟨x,t,rfl,rfl⟩ <;> rfl
  pyHash := fun hv h => by
    rcases keyIs_shape hv with ⟨i,t,rfl,rfl⟩ | ⟨x,t,rfl,rfl⟩
    · exact wpAny_pyHash_int h
    · exact wpAny_pyHash_str h
  eqBool := fun hu hv h => by
    rcases keyIs_shape hu with ⟨i,t,rfl,rfl⟩ | ⟨x,t,rfl,rfl⟩
    · rcases keyIs_shape hv with ⟨j,u,rfl,rfl⟩ | ⟨y,u,rfl,rfl⟩
      · rw [key_ll] at h; exact wpAny_eqBool_int h
      · rw [key_lr] at h; exact SeqAt.EqAt.int_str i t y u _ _ _ _ h
    · rcases keyIs_shape hv with ⟨j,u,rfl,rfl⟩ | ⟨y,u,rfl,rfl⟩
      · rw [key_rl] at h; exact SeqAt.EqAt.str_int x t j u _ _ _ _ h
      · rw [key_rr] at h; exact wpAny_eqBool_str h
  «strs» := fun k x t v h => by
    rcases keyIs_shape h with ⟨i,u,rfl,e⟩ | ⟨y,u,rfl,e⟩
    · exact nomatch e
    · injection e with e1 _
      subst e1
      cases v <;> rfl
theorem mixKind_int (prog : Program) (w : World) (i : Int) (t : Tok) : (mixKind prog w).is (.inl i) (.int i t) = true := keyIs_int i t
theorem mixKind_str (prog : Program) (w : World) (x : Str) (t : Tok) : (mixKind prog w).is (.inr x) (.str x t) = true := keyIs_str x t
end L2
namespace L2
open PySem PySem.Spec PyProof.Rows
inductive V where
  | non | bl (b : Bool) | int (i : Int) | str (x : Str) | byt (b : Array UInt8) | flt (b : UInt64) | ref (a : Addr) | ty (n : String)
  deriving DecidableEq
def RelV : V → Value → Prop
  | .non,u => u = Value.none
  | .bl b,u => u = Value.bool b
  | .int i,u => ∃ t,u = Value.int i t
  | .str x,u => ∃ t,u = Value.str x t
  | .byt b,u => ∃ t,u = Value.bytes b t
  | .flt b,u => ∃ t,u = Value.float b t
  | .ref a,u => u = Value.ref a
  | .ty n,u => u = Value.type n
abbrev Vals : List V → List Value → Prop := Paired RelV
theorem Vals.length {xs : List V} {us : List Value} (r : Vals xs us) : xs.length = us.length := Paired.length r
theorem Vals.get : ∀ {xs : List V} {us : List Value} {i : Nat} {x : V},Vals xs us → xs[i]? = some x → ∃ u,us[i]? = some u ∧ RelV x u
  | _,_,_,_,.nil,e => by simp at e
  | _,_,0,_,.cons r _,e => by simp at e; subst e; exact ⟨_,rfl,r⟩
  | _,_,i + 1,x,.cons _ t,e => by
    obtain ⟨u,h1,h2⟩ := Vals.get (i := i) (x := x) t (by simpa using e)
    exact ⟨u,by simpa using h1,h2⟩
theorem Vals.set {x : V} {u : Value} (r : RelV x u) : ∀ {xs : List V} {us : List Value} (i : Nat),Vals xs us → Vals (xs.set i x) (us.set i u)
  | _,_,_,.nil => .nil
  | _,_,0,.cons _ t => .cons r t
  | _,_,i + 1,.cons q t => .cons q (Vals.set r i t)
theorem Vals.append : ∀ {xs ys : List V} {us ws : List Value},Vals xs us → Vals ys ws → Vals (xs ++ ys) (us ++ ws)
  | _,_,_,_,.nil,s => s
  | _,_,_,_,.cons r t,s => .cons r (Vals.append t s)
theorem Vals.take : ∀ {xs : List V} {us : List Value} (n : Nat),Vals xs us → Vals (xs.take n) (us.take n)
  | _,_,0,_ => .nil
  | _,_,_ + 1,.nil => .nil
  | _,_,n + 1,.cons r t => .cons r (Vals.take n t)
theorem Vals.drop : ∀ {xs : List V} {us : List Value} (n : Nat),Vals xs us → Vals (xs.drop n) (us.drop n)
  | _,_,0,r => r
  | _,_,_ + 1,.nil => .nil
  | _,_,n + 1,.cons _ t => Vals.drop n t
def RelO : Option V → Option Value → Prop
  | some v,some u => RelV v u
  | none,none => True
  | _,_ => False
def KV {κ : Type} : List (κ × V) → List (κ × Value) → Prop := Paired fun (p : κ × V) (q : κ × Value) => p.1 = q.1 ∧ RelV p.2 q.2
def kV : Key → V
  | .inl i => .int i
  | .inr x => .str x
inductive HO where
  | lst (xs : List V)
  | tup (xs : List V)
  | dK (kvs : List (Key × V)) | dT (kvs : List (List Key × V))
  | set (S : Int → Bool) (n : Nat)
  | ins (C dx : Addr) (fs : List (Str × V))
  | own (x : Addr)
  | xd (fs : List (Str × V))
  | met (f x : Addr)
  | rng (lo hi : Int)
  | frz (o : Obj) (u : HO)
  | tbl (ps : Array Value)
  | ext (φ : Heap → Prop)
abbrev Hp := Addr → Option HO
def upd (H : Hp) (a : Addr) (o : HO) : Hp := fun b => if b = a then some o else H b
theorem upd_same {H : Hp} {a : Addr} {o : HO} : upd H a o a = some o := by unfold upd; rw [if_pos rfl]
theorem upd_ne {H : Hp} {a b : Addr} {o : HO} (h : b ≠ a) : upd H a o b = H b := by unfold upd; rw [if_neg h]
theorem ne_of {H : Hp} {a b : Addr} {o u : HO} (h : H a = some o) (h' : H b = some u) (d : o ≠ u) : a ≠ b := by
  intro e; subst e; rw [h] at h'; exact d (Option.some.inj h')
theorem ne_of_none {H : Hp} {a b : Addr} {o : HO} (h : H a = some o) (h' : H b = none) : a ≠ b := by
  intro e; subst e; rw [h] at h'; cases h'
section
variable (P : Program) (w : World)
def ObjOk (H : Hp) (h : Heap) (a : Addr) : HO → Prop
  | .lst xs => xs.length ≤ sizeLine ∧ ∃ (its : List Value) (n : Nat),Vals xs its ∧ h.get? a = some { cls := .type "list",data := .seq its.toArray n }
  | .tup xs => xs.length ≤ sizeLine ∧ ∃ its : List Value,Vals xs its ∧ IsTup h a its.toArray
  | .dK kvs => kvs.length ≤ sizeLine ∧ (a == sysModules) = false ∧ ∃ vs,KV kvs vs ∧ h.DictOf (mixKind P w) a vs
  | .dT kvs => kvs.length ≤ sizeLine ∧ (a == sysModules) = false ∧ ∃ xs : List (List Key × Addr × Value),
      Paired (fun (p : List Key × V) (q : List Key × Addr × Value) => p.1 = q.1 ∧ H q.2.1 = some (.tup (p.1.map kV)) ∧ RelV p.2 q.2.2) kvs xs ∧
      ∃ o es ep,h.get? a = some o ∧ o.ExactDict ∧ o.data = .dict es ep ∧ es.toList = xs.map (entryOfKey (tupleKind (mixKind P w))) ∧ (xs.map (·.1)).Nodup
  | .set S n => h.SetOf (intKind P w) a S n
  | .ins C dx fs => H dx = some (.own a) ∧ fs.length ≤ 1000 ∧ dx ≠ a ∧ h.get? a = some (PySem.W.instObj C dx) ∧
      ∃ mA,h.Ns1 dx mA ∧ (∀ f,RelO (fs.lookup f) (mA f)) ∧ PySem.Within mA (fs.map (·.1))
  | .own _ => ∃ o,h.get? a = some o
  | .xd fs => ∃ mA,h.Ns1 a mA ∧ ∀ f,RelO (fs.lookup f) (mA f)
  | .rng lo hi => ∃ t u v,h.get? a = some { cls := .type "range",data := .fields #[.int lo t,.int hi u,.int 1 v] }
  | .frz o u => h.get? a = some o ∧ ObjOk H h a u
  | .tbl ps => h.get? a = some { cls := .none,data := .fields ps }
  | .met f x => h.get? a = some (PySem.W.methodObj (.ref f) (.ref x))
  | .ext φ => φ h ∧ (∃ o,h.get? a = some o) ∧ ∀ h1 h2 : Heap,φ h1 → (∀ o,h1.get? a = some o → h2.get? a = some o) → φ h2
def HOk (H : Hp) (h : Heap) : Prop := ∀ a o,H a = some o → ObjOk P w H h a o
end
section
variable {P : Program} {w : World} {H H' : Hp} {h h' : Heap} {a : Addr} {o : HO}
theorem ObjOk.lt (x : ObjOk P w H h a o) : a < h.objs.size := by
  cases o with
  | lst xs => obtain ⟨_,_,_,_,e⟩ := x; exact Heap.lt_size e
  | tup xs => obtain ⟨_,_,_,p⟩ := x; exact p.lt
  | dK kvs => obtain ⟨_,_,_,_,o,_,_,e,_⟩ := x; exact Heap.lt_size e
  | dT kvs => obtain ⟨_,_,_,_,o,_,_,e,_⟩ := x; exact Heap.lt_size e
  | set S n => obtain ⟨o,_,_,_,e,_⟩ := x; exact Heap.lt_size e
  | ins C dx fs => obtain ⟨_,_,_,e,_⟩ := x; exact Heap.lt_size e
  | own y => obtain ⟨_,e⟩ := x; exact Heap.lt_size e
  | xd fs => obtain ⟨_,⟨_,_,_,e,_⟩,_⟩ := x; exact Heap.lt_size e
  | rng lo hi => obtain ⟨_,_,_,e⟩ := x; exact Heap.lt_size e
  | frz ob u => obtain ⟨e,_⟩ := x; exact Heap.lt_size e
  | tbl ps => exact Heap.lt_size (show h.get? a = some _ from x)
  | met f y => exact Heap.lt_size (show h.get? a = some _ from x)
  | ext φ => obtain ⟨_,⟨_,e⟩,_⟩ := x; exact Heap.lt_size e
theorem Paired.mapP {α β : Type} {F G : α → β → Prop} : ∀ {l₁ : List α} {l₂ : List β},Paired F l₁ l₂ → (∀ a b,F a b → G a b) → Paired G l₁ l₂
  | _,_,.nil,_ => .nil
  | _,_,.cons r t,f => .cons (f _ _ r) (Paired.mapP t f)
theorem ObjOk.stay (x : ObjOk P w H h a o) (k : ∀ b u,(b = a ∨ H b = some (.own a)) → h.get? b = some u → h'.get? b = some u)
    (ho : ∀ b,H b = some (.own a) → H' b = some (.own a)) (ht : ∀ b xs,H b = some (.tup xs) → H' b = some (.tup xs)) : ObjOk P w H' h' a o := by
  induction o with
  | lst xs => obtain ⟨z,its,n,r,e⟩ := x; exact ⟨z,its,n,r,k _ _ (.inl rfl) e⟩
  | tup xs => obtain ⟨z,its,r,ob,e,c⟩ := x; exact ⟨z,its,r,ob,k _ _ (.inl rfl) e,c⟩
  | dK kvs => obtain ⟨z,y,vs,r,ob,es,ep,e,c⟩ := x; exact ⟨z,y,vs,r,ob,es,ep,k _ _ (.inl rfl) e,c⟩
  | dT kvs =>
    obtain ⟨z,y,xs,r,ob,es,ep,e,c⟩ := x
    exact ⟨z,y,xs,Paired.mapP r fun p q z => ⟨z.1,ht _ _ z.2.1,z.2.2⟩,ob,es,ep,k _ _ (.inl rfl) e,c⟩
  | set S n => obtain ⟨ob,es,ep,t,e,c⟩ := x; exact ⟨ob,es,ep,t,k _ _ (.inl rfl) e,c⟩
  | ins C dx fs =>
    obtain ⟨d,z,ne,e,mA,⟨od,es,ep,e2,c⟩,r⟩ := x
    exact ⟨ho _ d,z,ne,k _ _ (.inl rfl) e,mA,⟨od,es,ep,k _ _ (.inr d) e2,c⟩,r⟩
  | own y => obtain ⟨ob,e⟩ := x; exact ⟨ob,k _ _ (.inl rfl) e⟩
  | xd fs => obtain ⟨mA,⟨od,es,ep,e,c⟩,r⟩ := x; exact ⟨mA,⟨od,es,ep,k _ _ (.inl rfl) e,c⟩,r⟩
  | rng lo hi => obtain ⟨t,u,v,e⟩ := x; exact ⟨t,u,v,k _ _ (.inl rfl) e⟩
  | frz ob u ih => obtain ⟨e,q⟩ := x; exact ⟨k _ _ (.inl rfl) e,ih q⟩
  | tbl ps =>
    have e : h.get? a = some { cls := .none,data := .fields ps } := x
    show h'.get? a = some { cls := .none,data := .fields ps }
    exact k a _ (.inl rfl) e
  | met f y =>
    have e : h.get? a = some (PySem.W.methodObj (.ref f) (.ref y)) := x
    show h'.get? a = some (PySem.W.methodObj (.ref f) (.ref y))
    exact k a _ (.inl rfl) e
  | ext φ => obtain ⟨p,⟨o,e⟩,st⟩ := x; exact ⟨st _ _ p fun o q => k _ _ (.inl rfl) q,⟨o,k _ _ (.inl rfl) e⟩,st⟩
theorem HOk.lt (x : HOk P w H h) (e : H a = some o) : a < h.objs.size := (x a o e).lt
theorem HOk.fresh (x : HOk P w H h) (e : h.objs.size ≤ a) : H a = none := by
  cases q : H a with
  | none => rfl
  | some u => exact absurd (Nat.lt_of_lt_of_le (x.lt q) e) (Nat.lt_irrefl _)
theorem HOk.kept (x : HOk P w H h) (k : ∀ b u,h.get? b = some u → h'.get? b = some u) : HOk P w H h' := fun a o e =>
  (x a o e).stay (fun b u _ q => k b u q) (fun _ q => q) fun _ _ q => q
theorem HOk.laid (x : HOk P w H h) (k : ∀ b u,h.get? b = some u → h'.get? b = some u) (hp : h.objs.size ≤ a) (new : ObjOk P w (upd H a o) h' a o) : HOk P w (upd H a o) h' := fun b u e => by
  have hn := x.fresh hp
  by_cases hb : b = a
  · subst hb; rw [upd_same] at e; cases e; exact new
  · rw [upd_ne hb] at e
    exact (x b u e).stay (fun c v _ q => k c v q) (fun c q => by rw [upd_ne (ne_of_none q hn)]; exact q) fun c xs q => by rw [upd_ne (ne_of_none q hn)]; exact q
end
def Rd (H : Hp) (a : Addr) (u : HO) : Prop := H a = some u ∨ ∃ o,H a = some (.frz o u)
theorem Rd.ok {P : Program} {w : World} {H : Hp} {h : Heap} {a : Addr} {u : HO} (r : Rd H a u) (x : HOk P w H h) : ObjOk P w H h a u := by
  rcases r with r | ⟨o,r⟩
  · exact x a u r
  · obtain ⟨_,q⟩ := x a _ r
    exact q
def Mut : Option HO → Prop
  | some (.lst _) => True
  | some (.dK _) => True
  | some (.dT _) => True
  | some (.set _ _) => True
  | some (.ins _ _ _) => True
  | some (.ext _) => True
  | _ => False
section
variable {P : Program} {w : World} {H : Hp} {h h' : Heap} {x e : Addr} {o' : HO}
theorem HOk.write (ok : HOk P w H h) (mu : Mut (H x)) (he : e = x ∨ H e = some (.own x)) (k : ∀ b u,b ≠ e → h.get? b = some u → h'.get? b = some u) (heo : ∃ u,h'.get? e = some u)
    (new : ObjOk P w (upd H x o') h' x o') : HOk P w (upd H x o') h' := fun b u q => by
  have nown : ∀ c y,H c = some (.own y) → c ≠ x := fun c y r z => by subst z; rw [r] at mu; exact mu
  have ntup : ∀ c xs,H c = some (.tup xs) → c ≠ x := fun c xs r z => by subst z; rw [r] at mu; exact mu
  by_cases hb : b = x
  · subst hb; rw [upd_same] at q; cases q; exact new
  · rw [upd_ne hb] at q
    by_cases hbe : b = e
    · have q' : H b = some (.own x) := by
        rcases he with z | z
        · exact absurd (hbe.trans z) hb
        · rw [hbe]; exact z
      rw [q] at q'; cases q'
      obtain ⟨v,hv⟩ := heo
      exact ⟨v,by rw [hbe]; exact hv⟩
    · refine (ok b u q).stay (fun c v hc r => k c v ?_ r) (fun c r => by rw [upd_ne (nown c b r)]; exact r) fun c xs r => by rw [upd_ne (ntup c xs r)]; exact r
      rcases hc with rfl | hc
      · exact hbe
      · rintro rfl
        rcases he with z | z
        · exact nown c b hc z
        · rw [hc] at z; cases z; exact hb rfl
end
structure Un (fs ex : List Addr) (H H' : Hp) (h h' : Heap) : Prop where
  keep : ∀ b o,h.get? b = some o → H b = none → b ∉ fs → b ∉ ex → h'.get? b = some o
  slot : ∀ b o,h.get? b = some o → H b = none → b ∈ fs → b ∉ ex → ∃ sl,h'.get? b = some { o with slots := sl }
  free : ∀ b o,h.get? b = some o → H b = none → b ∉ ex → H' b = none
  there : ∀ b o,h.get? b = some o → b ∉ ex → ∃ o',h'.get? b = some o'
  tups : ∀ b xs,H b = some (.tup xs) → H' b = some (.tup xs)
  frzs : ∀ b o u,H b = some (.frz o u) → H' b = some (.frz o u)
  tbls : ∀ b ps,H b = some (.tbl ps) → ∃ more,H' b = some (.tbl (ps ++ more))
section
variable {fs fs' ex ex' : List Addr} {H H1 H2 : Hp} {h h1 h2 h' : Heap} {a x e : Addr} {o : HO}
theorem Un.any (u : Un fs ex H H1 h h1) {b : Addr} {ob : Obj} (q : h.get? b = some ob) (n : H b = none) (hx : b ∉ ex) : ∃ sl,h1.get? b = some { ob with slots := sl } := by
  by_cases hb : b ∈ fs
  · exact u.slot b ob q n hb hx
  · exact ⟨ob.slots,u.keep b ob q n hb hx⟩
theorem Un.kept (k : ∀ b u,h.get? b = some u → h'.get? b = some u) : Un fs ex H H h h' :=
  ⟨fun b ob q _ _ _ => k b ob q,fun b ob q _ _ _ => ⟨ob.slots,k b ob q⟩,fun _ _ _ n _ => n,fun b ob q _ => ⟨ob,k b ob q⟩,fun _ _ q => q,fun _ _ _ q => q,fun _ ps q => ⟨#[],by rw [q]; simp⟩⟩
theorem Un.refl : Un fs ex H H h h := Un.kept fun _ _ q => q
theorem Un.laid (k : ∀ b u,h.get? b = some u → h'.get? b = some u) (hp : h.objs.size ≤ a) (hn : H a = none) : Un fs ex H (upd H a o) h h' where
  keep := fun b u q _ _ _ => k b u q
  slot := fun b u q _ _ _ => ⟨u.slots,k b u q⟩
  free := fun b u q n _ => by rw [upd_ne (Nat.ne_of_lt (Nat.lt_of_lt_of_le (Heap.lt_size q) hp))]; exact n
  there := fun b u q _ => ⟨u,k b u q⟩
  tups := fun b xs q => by rw [upd_ne (ne_of_none q hn)]; exact q
  frzs := fun b u xs q => by rw [upd_ne (ne_of_none q hn)]; exact q
  tbls := fun b ps q => ⟨#[],by rw [upd_ne (ne_of_none q hn),q]; simp⟩
theorem Un.write (mu : Mut (H x)) (he : e = x ∨ H e = some (.own x)) (k : ∀ b u,b ≠ e → h.get? b = some u → h'.get? b = some u) (heo : ∃ u,h'.get? e = some u) : Un fs ex H (upd H x o) h h' := by
  have hx : ∀ b,H b = none → b ≠ x := fun b n z => by subst z; rw [n] at mu; exact mu
  have hb : ∀ b,H b = none → b ≠ e := fun b n z => by
    subst z
    rcases he with r | r
    · exact hx b n r
    · rw [n] at r; cases r
  have hm : ∀ b u,H b = some u → ¬ Mut (some u) → b ≠ x := fun b u q nm z => by subst z; rw [q] at mu; exact nm mu
  refine ⟨fun b u q n _ _ => k b u (hb b n) q,fun b u q n _ _ => ⟨u.slots,k b u (hb b n) q⟩,fun b u q n _ => by rw [upd_ne (hx b n)]; exact n,fun b u q _ => ?_,
    fun b xs q => by rw [upd_ne (hm b _ q fun z => z)]; exact q,fun b u xs q => by rw [upd_ne (hm b _ q fun z => z)]; exact q,fun b ps q => ⟨#[],by rw [upd_ne (hm b _ q fun z => z),q]; simp⟩⟩
  by_cases hbe : b = e
  · subst hbe; exact heo
  · exact ⟨u,k b u hbe q⟩
end
def trk (h : Heap) (H : Hp) : List Addr := (List.range h.objs.size).filter fun a => (H a).isSome
def hidT (h : Heap) (H : Hp) : Heap := PySem.W.hideAll h (trk h H)
theorem hidT_size (h : Heap) (H : Hp) : (hidT h H).objs.size = h.objs.size := PySem.W.hideAll_size _ _
theorem hidT_get {h : Heap} {H : Hp} {b : Addr} {o : Obj} (e : h.get? b = some o) (n : H b = none) : (hidT h H).get? b = some o :=
  PySem.W.hideAll_get _ e fun hm => by
    have q : (H b).isSome = true := (List.mem_filter.mp hm).2
    rw [n] at q; simp at q
theorem of_hidT {h : Heap} {H : Hp} {b : Addr} {o : Obj} (e : (hidT h H).get? b = some o) : h.get? b = some o ∧ H b = none := by
  have e' : h.get? b = some o := PySem.W.of_hideAll (trk h H) e
  refine ⟨e',?_⟩
  cases q : H b with
  | none => rfl
  | some x =>
    have hm : b ∈ trk h H := List.mem_filter.mpr ⟨List.mem_range.mpr (Heap.lt_size e'),by simp [q]⟩
    have z : (hidT h H).get? b = none := PySem.W.hideAll_none (trk h H) hm
    rw [z] at e; cases e
def allNews (g h : Heap) (L : Addr) : List (Addr × Obj) := (List.range h.objs.size).filterMap fun a => if a = L ∨ (g.get? a).isSome = true then none else (h.get? a).map fun o => (a,o)
def rest (g h : Heap) (L d : Addr) : List (Addr × Obj) := (allNews g h L).filter fun p => decide (p.1 ≠ d)
end L2
namespace L2
open PySem PySem.Spec PyProof.Rows
structure Mod (K : PySem.W.Frag) (mg : Str → Option Value) (base : Heap) : Prop where
  kin : K.In base
  glob : base.Ns mainGlobals mg
  blt : ∃ mb,base.Ns builtinsNs mb ∧ ∀ x : Str,x ≠ "__name__" → mb x = bootBuiltins x
  nolimit : base.NoLimit
/-- the context: a def's body (or a comprehension's block) running. base: fixed through the whole law; s₀,H₀: the entry; outer: the frames whose slots others may change (a def's callers); stack: all frames that run;
   ex: iterators that were made ahead of the entry and are walked here (a comprehension's); fn: the names whose cells were made at the entry (a def: all; a comprehension's block: its own); calm: not within an except suite; pn: pins that every state bears; xe: what is wanted of an exception that leaves the code -/
structure Cx where
  prog : Program
  w : World
  K : PySem.W.Frag
  mg : Str → Option Value
  base : Heap
  A : Around
  N : List Str
  s₀ : Shared
  H₀ : Hp
  env : Env
  outer : List Env
  stack : List Env
  ex : List Addr
  fn : Str → Bool
  calm : Bool
  pn : List (Addr × Obj)
  xe : Value → Shared → Prop
def frs (l : List Env) : List Addr := l.filterMap (·.frame)
abbrev Cx.fs (X : Cx) : List Addr := frs X.outer
def Vis (sc : Scope) (x : Str) : Prop := sc.names.lookup x = some .local ∨ sc.names.lookup x = some .cell ∨ sc.names.lookup x = some .free
def Loc (sc : Scope) (x : Str) : Prop := sc.names.lookup x = some .local ∨ sc.names.lookup x = some .cell
def Look (env : Env) (h : Heap) (m : Str → Option Value) (x : Str) (u : Value) : Prop :=
  (env.kindOf x = some .local ∧ m x = some u) ∨ ((env.kindOf x = some .cell ∨ env.kindOf x = some .free) ∧ ∃ c,env.cells.lookup x = some c ∧ h.IsCell c (some u))
structure Cx.Ok (X : Cx) : Prop where
  mod : Mod X.K X.mg X.base
  kind : X.env.scope.kind = .function
  glob : X.env.globals = mainGlobals
  blt : X.env.builtins = builtinsNs
  above : X.s₀.heap.objs.size ≤ X.env.locals
  inj : ∀ x y c,X.env.cells.lookup x = some c → X.env.cells.lookup y = some c → x = y
  has : ∀ x,(X.env.kindOf x = some .cell ∨ X.env.kindOf x = some .free) → ∃ c,X.env.cells.lookup x = some c
  cab : ∀ x c,X.fn x = true → X.env.cells.lookup x = some c → X.s₀.heap.objs.size ≤ c
  hd : X.calm = true → X.A.handled = none
  frames : X.A.frames = some X.stack
  stk : X.stack = X.outer ∨ (X.stack = X.env :: X.outer ∧ X.env.frame = some X.env.locals)
  exf : ∀ b ∈ X.ex,b ≠ X.env.locals ∧ ∀ x c,X.env.cells.lookup x = some c → c ≠ b
  bs : ∀ b o,X.base.get? b = some o → X.s₀.heap.get? b = some o ∧ X.H₀ b = none
  bsz : X.base.objs.size ≤ X.s₀.heap.objs.size
  noex : ∀ b o,X.base.get? b = some o → b ∉ X.ex
  exfs : ∀ b ∈ X.ex,b ∉ X.fs
  funs : X.s₀.heap.FunFrames X.base X.outer
  frf : ∀ b ∈ X.fs,X.H₀ b = none
structure Inv (X : Cx) (pins : List (Addr × Obj)) (σ : List (Option V)) (H : Hp) (s : Shared) : Prop where
  ok : X.Ok
  os : s.os = X.s₀.os
  bare : AllBare s.gens
  base : Un X.fs X.ex X.H₀ H X.s₀.heap s.heap
  loc : ∃ m,s.heap.Ns X.env.locals m ∧ ∀ (i : Nat) (x : Str) (v : V),X.N[i]? = some x → σ[i]? = some (some v) → Vis X.env.scope x → ∃ u,RelV v u ∧ Look X.env s.heap m x u
  cell : ∀ x c,X.env.cells.lookup x = some c → ∃ v,s.heap.IsCell c v
  free : H X.env.locals = none
  freeC : ∀ x c,X.env.cells.lookup x = some c → H c = none
  pin : ∀ p ∈ X.pn ++ pins,s.heap.get? p.1 = some p.2 ∧ H p.1 = none ∧ p.1 ≠ X.env.locals ∧ p.1 ∉ X.fs ∧ ∀ v,p.2.data ≠ .cell v
  hok : HOk X.prog X.w H s.heap
  len : σ.length = X.N.length
section
variable {X : Cx} {pins : List (Addr × Obj)} {σ : List (Option V)} {H H' : Hp} {s : Shared} {h' : Heap}
theorem Cx.Ok.nofr (ok : X.Ok) {b : Addr} {o : Obj} (e : X.base.get? b = some o) : b ∉ X.fs := fun hb => by
  have := (ok.funs.mem hb).1
  rw [e] at this; cases this
theorem Inv.bs (I : Inv X pins σ H s) : ∀ b o,X.base.get? b = some o → s.heap.get? b = some o ∧ H b = none := fun b o e =>
  ⟨I.base.keep b o (I.ok.bs b o e).1 (I.ok.bs b o e).2 (I.ok.nofr e) (I.ok.noex b o e),I.base.free b o (I.ok.bs b o e).1 (I.ok.bs b o e).2 (I.ok.noex b o e)⟩
theorem Inv.bk (I : Inv X pins σ H s) : ∀ b o,X.base.get? b = some o → s.heap.get? b = some o := fun b o e => (I.bs b o e).1
theorem Inv.mod (I : Inv X pins σ H s) : Mod X.K X.mg X.base := I.ok.mod
theorem Inv.kIn (I : Inv X pins σ H s) : X.K.In s.heap := I.ok.mod.kin.keeps I.bk
theorem Inv.fr (I : Inv X pins σ H s) : ∃ m,Fr X.base X.env.locals s.heap m :=
  let ⟨m,hn,_⟩ := I.loc
  ⟨m,hn,I.bk,Nat.le_trans I.ok.bsz I.ok.above⟩
theorem Inv.lt (I : Inv X pins σ H s) : X.env.locals < s.heap.objs.size := let ⟨_,hn,_⟩ := I.loc; hn.lt
theorem Inv.sz (I : Inv X pins σ H s) : X.s₀.heap.objs.size ≤ s.heap.objs.size := Nat.le_trans I.ok.above (Nat.le_of_lt I.lt)
theorem Inv.nofs (I : Inv X pins σ H s) {a : Addr} (h : s.heap.objs.size ≤ a) : a ∉ X.fs := fun hb => by
  obtain ⟨_,o,ho,_⟩ := I.ok.funs.mem hb
  exact absurd (Nat.lt_of_lt_of_le (Heap.lt_size ho) (Nat.le_trans I.sz h)) (Nat.lt_irrefl _)
theorem Inv.cne (I : Inv X pins σ H s) : ∀ x c,X.env.cells.lookup x = some c → c ≠ X.env.locals := fun x c e z => by
  obtain ⟨v,o,ho,hd⟩ := I.cell x c e
  obtain ⟨m,⟨o',es,ep,ho',hd',_⟩,_⟩ := I.loc
  rw [z,ho'] at ho; cases ho; rw [hd'] at hd; cases hd
theorem Inv.funs (I : Inv X pins σ H s) : s.heap.FunFrames X.base X.outer := by
  have all : ∀ (l : List Env),(∀ b ∈ frs l,b ∈ X.fs) → X.s₀.heap.FunFrames X.base l → s.heap.FunFrames X.base l := by
    intro l
    induction l with
    | nil => intro _ _; trivial
    | cons env r ih =>
      intro hs hl
      obtain ⟨hk,⟨L,o,hf,hn,ho,hd⟩,hr⟩ := hl
      have hL : L ∈ X.fs := hs L (by unfold frs; rw [List.filterMap_cons,hf]; exact List.mem_cons_self)
      obtain ⟨sl,e⟩ := I.base.slot L o ho (I.ok.frf L hL) hL fun z => I.ok.exfs L z hL
      exact ⟨hk,⟨L,_,hf,hn,e,hd⟩,ih (fun b hb => hs b (by unfold frs; rw [List.filterMap_cons,hf]; exact List.mem_cons_of_mem _ hb)) hr⟩
  exact all X.outer (fun _ hb => hb) I.ok.funs
theorem Inv.stack (I : Inv X pins σ H s) : s.heap.FunFrames X.base X.stack := by
  rcases I.ok.stk with e | ⟨e,hf⟩
  · rw [e]; exact I.funs
  · rw [e]
    obtain ⟨m,hn,_⟩ := I.loc
    refine .cons (by rw [I.ok.kind]; decide) hf hn ?_ I.funs
    exact Heap.get?_none_of_le (Nat.le_trans I.ok.bsz I.ok.above)
theorem Inv.stkSub (I : Inv X pins σ H s) : ∀ b ∈ frs X.stack,b ∈ X.env.locals :: X.fs := fun b hb => by
  rcases I.ok.stk with e | ⟨e,hf⟩
  · rw [e] at hb; exact List.mem_cons_of_mem _ hb
  · rw [e] at hb
    unfold frs at hb
    rw [List.filterMap_cons,hf] at hb
    exact hb
theorem Inv.stkFree (I : Inv X pins σ H s) : ∀ b ∈ frs X.stack,H b = none := fun b hb => by
  rcases List.mem_cons.mp (I.stkSub b hb) with e | hb
  · rw [e]; exact I.free
  · obtain ⟨_,o,ho,_⟩ := I.ok.funs.mem hb
    exact I.base.free b o ho (I.ok.frf b hb) fun z => I.ok.exfs b z hb
theorem Inv.step {g' : Array GenState} {t' : Nat} {d' : Drawn} {ch : List Addr} (I : Inv X pins σ H s)
    (hch : ∀ b ∈ ch,(b ∈ X.ex ∨ X.s₀.heap.objs.size ≤ b) ∧ b ≠ X.env.locals ∧ (∀ x c,X.env.cells.lookup x = some c → c ≠ b) ∧ ∀ p ∈ X.pn ++ pins,p.1 ≠ b)
    (keep : ∀ b o,b ≠ X.env.locals → b ∉ X.fs → b ∉ ch → s.heap.get? b = some o → H b = none → h'.get? b = some o)
    (slot : ∀ b o,b ≠ X.env.locals → b ∈ X.fs → b ∉ ch → s.heap.get? b = some o → H b = none → ∃ sl,h'.get? b = some { o with slots := sl }) (free : ∀ b o,b ∉ ch → s.heap.get? b = some o → H b = none → H' b = none)
    (there : ∀ b o,b ∉ ch → s.heap.get? b = some o → ∃ o',h'.get? b = some o')
    (tups : ∀ b xs,H b = some (.tup xs) → H' b = some (.tup xs)) (frzs : ∀ b o u,H b = some (.frz o u) → H' b = some (.frz o u)) (tbls : ∀ b ps,H b = some (.tbl ps) → ∃ more,H' b = some (.tbl (ps ++ more)))
    (ns : ∀ m,s.heap.Ns X.env.locals m → h'.Ns X.env.locals m) (hok : HOk X.prog X.w H' h') (hg : AllBare g') :
    Inv X pins σ H' { s with heap := h',gens := g',drawn := d',toks := t' } := by
  have neL : ∀ b o,X.s₀.heap.get? b = some o → b ≠ X.env.locals := fun b o e => Nat.ne_of_lt (Nat.lt_of_lt_of_le (Heap.lt_size e) I.ok.above)
  have neC : ∀ b o,X.s₀.heap.get? b = some o → b ∉ X.ex → b ∉ ch := fun b o e hx hb => by
    rcases (hch b hb).1 with z | z
    · exact hx z
    · exact absurd (Nat.lt_of_lt_of_le (Heap.lt_size e) z) (Nat.lt_irrefl _)
  have cellK : ∀ x c,X.env.cells.lookup x = some c → ∀ v,s.heap.IsCell c v → h'.IsCell c v := fun x c e v ⟨o,ho,hd⟩ => by
    have nch : c ∉ ch := fun z => (hch c z).2.2.1 x c e rfl
    by_cases hc : c ∈ X.fs
    · obtain ⟨sl,q⟩ := slot c o (I.cne x c e) hc nch ho (I.freeC x c e)
      exact ⟨_,q,hd⟩
    · exact ⟨o,keep c o (I.cne x c e) hc nch ho (I.freeC x c e),hd⟩
  refine ⟨I.ok,I.os,hg,⟨fun b o e n hb hx => ?_,fun b o e n hb hx => ?_,fun b o e n hx => ?_,fun b o e hx => ?_,fun b xs e => tups b xs (I.base.tups b xs e),fun b o xs e => frzs b o xs (I.base.frzs b o xs e),fun b ps e => ?_⟩,?_,fun x c e => ?_,?_,fun x c e => ?_,fun p hp => ?_,hok,I.len⟩
  · exact keep b o (neL b o e) hb (neC b o e hx) (I.base.keep b o e n hb hx) (I.base.free b o e n hx)
  · obtain ⟨sl,e1⟩ := I.base.slot b o e n hb hx
    obtain ⟨sl',e2⟩ := slot b _ (neL b o e) hb (neC b o e hx) e1 (I.base.free b o e n hx)
    exact ⟨sl',e2⟩
  · obtain ⟨o',e1⟩ := I.base.there b o e hx
    exact free b o' (neC b o e hx) e1 (I.base.free b o e n hx)
  · obtain ⟨o',e1⟩ := I.base.there b o e hx
    exact there b o' (neC b o e hx) e1
  · obtain ⟨m1,e1⟩ := I.base.tbls b ps e
    obtain ⟨m2,e2⟩ := tbls b _ e1
    exact ⟨m1 ++ m2,by rw [e2,Array.append_assoc]⟩
  · obtain ⟨m,hn,hl⟩ := I.loc
    refine ⟨m,ns m hn,fun i x v e1 e2 e3 => ?_⟩
    obtain ⟨u,r,l⟩ := hl i x v e1 e2 e3
    refine ⟨u,r,?_⟩
    rcases l with l | ⟨k,c,e,z⟩
    · exact .inl l
    · exact .inr ⟨k,c,e,cellK x c e _ z⟩
  · obtain ⟨v,z⟩ := I.cell x c e
    exact ⟨v,cellK x c e v z⟩
  · obtain ⟨m,⟨o,_,_,ho,_⟩,_⟩ := I.loc
    exact free _ o (fun z => (hch _ z).2.1 rfl) ho I.free
  · obtain ⟨v,o,ho,hd⟩ := I.cell x c e
    exact free c o (fun z => (hch c z).2.2.1 x c e rfl) ho (I.freeC x c e)
  · obtain ⟨e,n,ne,nf,d⟩ := I.pin p hp
    have nch : p.1 ∉ ch := fun z => (hch p.1 z).2.2.2 p hp rfl
    exact ⟨keep p.1 p.2 ne nf nch e n,free p.1 p.2 nch e n,ne,nf,d⟩
theorem Inv.un {t' : Nat} (I : Inv X pins σ H s) (u : Un X.fs [] H H' s.heap h') (hok : HOk X.prog X.w H' h') : Inv X pins σ H' { s with heap := h',toks := t' } := by
  obtain ⟨m,⟨o,es,ep,ho,r⟩,_⟩ := id I.loc
  obtain ⟨sl,hL⟩ := u.any ho I.free (by simp)
  exact I.step (g' := s.gens) (d' := s.drawn) (ch := []) (fun _ z => nomatch z) (fun b o _ hb _ e n => u.keep b o e n hb (by simp)) (fun b o _ hb _ e n => u.slot b o e n hb (by simp)) (fun b o _ e n => u.free b o e n (by simp)) (fun b o _ e => u.there b o e (by simp)) u.tups u.frzs u.tbls (fun m' hm => by
    obtain ⟨o',es',ep',ho',r'⟩ := hm
    rw [ho] at ho'; cases ho'
    exact ⟨_,es',ep',hL,r'⟩) hok I.bare
theorem Inv.call {g' : Array GenState} {t' : Nat} {d' : Drawn} {ch : List Addr} (I : Inv X pins σ H s) (u : Un (frs X.stack) ch H H' s.heap h') (hok : HOk X.prog X.w H' h') (hg : AllBare g')
    (hch : ∀ b ∈ ch,(b ∈ X.ex ∨ X.s₀.heap.objs.size ≤ b) ∧ b ≠ X.env.locals ∧ (∀ x c,X.env.cells.lookup x = some c → c ≠ b) ∧ ∀ p ∈ X.pn ++ pins,p.1 ≠ b) :
    Inv X pins σ H' { s with heap := h',gens := g',drawn := d',toks := t' } := by
  obtain ⟨m,⟨o,es,ep,ho,r⟩,_⟩ := id I.loc
  obtain ⟨sl,hL⟩ := u.any ho I.free fun z => (hch _ z).2.1 rfl
  exact I.step (ch := ch) hch (fun b o hL hb hc e n => u.keep b o e n (fun z => (List.mem_cons.mp (I.stkSub b z)).elim hL hb) hc) (fun b o _ _ hc e n => u.any e n hc) (fun b o hc e n => u.free b o e n hc) (fun b o hc e => u.there b o e hc) u.tups u.frzs u.tbls (fun m' hm => by
    obtain ⟨o',es',ep',ho',r'⟩ := hm
    rw [ho] at ho'; cases ho'
    exact ⟨_,es',ep',hL,r'⟩) hok hg
theorem Inv.turned {t' : Nat} {it : Addr} (I : Inv X pins σ H s) (k : ∀ b o,b ≠ it → s.heap.get? b = some o → h'.get? b = some o) (hn : H it = none) (hL : it ≠ X.env.locals)
    (h1 : it ∈ X.ex ∨ X.s₀.heap.objs.size ≤ it) (h2 : ∀ x c,X.env.cells.lookup x = some c → c ≠ it) (h3 : ∀ p ∈ X.pn ++ pins,p.1 ≠ it) : Inv X pins σ H { s with heap := h',toks := t' } := by
  have nit : ∀ b u,H b = some u → b ≠ it := fun b u e z => by rw [z,hn] at e; cases e
  refine I.step (g' := s.gens) (d' := s.drawn) (ch := [it]) (fun b hb => ?_) (fun b o _ _ hc e _ => k b o (fun z => hc (by simp [z])) e) (fun b o _ _ hc e _ => ⟨o.slots,k b o (fun z => hc (by simp [z])) e⟩) (fun _ _ _ _ n => n)
    (fun b o hc e => ⟨o,k b o (fun z => hc (by simp [z])) e⟩) (fun _ _ e => e) (fun _ _ _ e => e) (fun b ps e => ⟨#[],by rw [e]; simp⟩) (fun m hm => ?_) (fun b u e => ?_) I.bare
  · have e : b = it := by simpa using hb
    subst e
    exact ⟨h1,hL,h2,h3⟩
  · obtain ⟨o,es,ep,ho,r⟩ := hm
    exact ⟨o,es,ep,k _ o (Ne.symm hL) ho,r⟩
  · refine (I.hok b u e).stay (fun c v hc q => k c v ?_ q) (fun _ q => q) fun _ _ q => q
    rcases hc with z | z
    · rw [z]; exact nit b u e
    · exact nit c _ z
theorem Inv.tok (I : Inv X pins σ H s) (t : Nat) : Inv X pins σ H { s with toks := t } := I.un (h' := s.heap) (t' := t) Un.refl I.hok
theorem Inv.kept {t' : Nat} (I : Inv X pins σ H s) (k : ∀ b u,s.heap.get? b = some u → h'.get? b = some u) : Inv X pins σ H { s with heap := h',toks := t' } := I.un (Un.kept k) (I.hok.kept k)
theorem Inv.laid {a : Addr} {o : HO} {t' : Nat} (I : Inv X pins σ H s) (k : ∀ b u,s.heap.get? b = some u → h'.get? b = some u) (hp : s.heap.objs.size ≤ a) (new : ObjOk X.prog X.w (upd H a o) h' a o) :
    Inv X pins σ (upd H a o) { s with heap := h',toks := t' } := I.un (Un.laid k hp (I.hok.fresh hp)) (I.hok.laid k hp new)
theorem Inv.write {x e : Addr} {o : HO} {t' : Nat} (I : Inv X pins σ H s) (mu : Mut (H x)) (he : e = x ∨ H e = some (.own x)) (k : ∀ b u,b ≠ e → s.heap.get? b = some u → h'.get? b = some u) (heo : ∃ u,h'.get? e = some u)
    (new : ObjOk X.prog X.w (upd H x o) h' x o) : Inv X pins σ (upd H x o) { s with heap := h',toks := t' } := I.un (Un.write mu he k heo) (I.hok.write mu he k heo new)
theorem Inv.weak {σ' : List (Option V)} (I : Inv X pins σ H s) (hl : σ'.length = σ.length) (w : ∀ (i : Nat) v,σ'[i]? = some (some v) → σ[i]? = some (some v)) : Inv X pins σ' H s :=
  ⟨I.ok,I.os,I.bare,I.base,let ⟨m,hn,hl'⟩ := I.loc; ⟨m,hn,fun i x v e1 e2 e3 => hl' i x v e1 (w i v e2) e3⟩,I.cell,I.free,I.freeC,I.pin,I.hok,hl.trans I.len⟩
theorem Inv.pins_of {pins' : List (Addr × Obj)} (I : Inv X pins σ H s) (h : ∀ p ∈ pins',s.heap.get? p.1 = some p.2 ∧ H p.1 = none ∧ p.1 ≠ X.env.locals ∧ p.1 ∉ X.fs ∧ ∀ v,p.2.data ≠ .cell v) : Inv X pins' σ H s :=
  ⟨I.ok,I.os,I.bare,I.base,I.loc,I.cell,I.free,I.freeC,fun p hp => (List.mem_append.mp hp).elim (fun z => I.pin p (List.mem_append_left _ z)) (h p),I.hok,I.len⟩
theorem nodup_ix {N : List Str} (hN : N.Nodup) {i j : Nat} {x : Str} (a : N[i]? = some x) (b : N[j]? = some x) : i = j := by
  obtain ⟨h1,e1⟩ := List.getElem?_eq_some_iff.mp a
  obtain ⟨h2,e2⟩ := List.getElem?_eq_some_iff.mp b
  exact (List.getElem_inj hN).mp (e1.trans e2.symm)
theorem store_ok2 {M : Model} {A : Around} {E : Value → Shared → Prop} {i : Nat} {x : Str} {v : V} {u : Value} {Q : Unit → Shared → Prop} (I : Inv X pins σ H s) (hN : X.N.Nodup) (hi : X.N[i]? = some x) (hx : Loc X.env.scope x) (r : RelV v u)
    (h : ∀ s',Inv X pins (σ.set i (some v)) H s' → (∃ a,Heap.SameBut a s.heap s'.heap ∧ (a = X.env.locals ∨ X.env.cells.lookup x = some a)) → Q () s') (hf : X.fn x = true ∨ X.env.scope.names.lookup x = some .local := by first | exact .inl rfl | exact .inr rfl | assumption) : wpAny M A (storeName X.env x u) Q E s := by
  obtain ⟨m,hn,hl⟩ := id I.loc
  have hcls : (X.env.scope.kind == .class || (X.env.scope.kind == .module && X.env.locals != X.env.globals)) = false := by rw [I.ok.kind]; rfl
  have hiσ : i < σ.length := by rw [I.len]; exact (List.getElem?_eq_some_iff.mp hi).1
  have cne := I.cne
  have tracked : ∀ {a : Addr} {h' : Heap},(∃ o,s.heap.get? a = some o ∧ H a = none) → Heap.SameBut a s.heap h' → HOk X.prog X.w H h' := fun {a h'} ha hs b ob e => by
    obtain ⟨_,_,hfree⟩ := ha
    refine (I.hok b ob e).stay (fun c w' hc q => (hs.2 c ?_).trans q) (fun _ q => q) fun _ _ q => q
    rintro rfl
    rcases hc with rfl | hc
    · rw [hfree] at e; cases e
    · rw [hfree] at hc; cases hc
  rcases hx with hk | hk
  · refine wpAny_storeName_local hk hn (fun h' hn' hs => ?_) hcls
    obtain ⟨oL,_,_,hoL,_⟩ := id hn
    refine h _ ⟨I.ok,I.os,I.bare,⟨fun b o e n hb hx => ?_,fun b o e n hb hx => ?_,I.base.free,fun b o e hx => ?_,I.base.tups,I.base.frzs,I.base.tbls⟩,⟨_,hn',fun j y v' e1 e2 e3 => ?_⟩,fun y c e => ?_,I.free,I.freeC,fun p hp => ?_,tracked ⟨oL,hoL,I.free⟩ hs,by simpa using I.len⟩ ⟨_,hs,.inl rfl⟩
    · exact (hs.2 b (Nat.ne_of_lt (Nat.lt_of_lt_of_le (Heap.lt_size e) I.ok.above))).trans (I.base.keep b o e n hb hx)
    · obtain ⟨sl,e1⟩ := I.base.slot b o e n hb hx
      exact ⟨sl,(hs.2 b (Nat.ne_of_lt (Nat.lt_of_lt_of_le (Heap.lt_size e) I.ok.above))).trans e1⟩
    · obtain ⟨o',e1⟩ := I.base.there b o e hx
      exact ⟨o',(hs.2 b (Nat.ne_of_lt (Nat.lt_of_lt_of_le (Heap.lt_size e) I.ok.above))).trans e1⟩
    · by_cases hj : j = i
      · subst hj
        rw [hi] at e1; cases e1
        rw [List.getElem?_set_self hiσ] at e2
        cases e2
        exact ⟨u,r,.inl ⟨hk,by simp⟩⟩
      · rw [List.getElem?_set_ne (Ne.symm hj)] at e2
        obtain ⟨u',r',q⟩ := hl j y v' e1 e2 e3
        refine ⟨u',r',?_⟩
        rcases q with ⟨k,e⟩ | ⟨k,c,e,z⟩
        · refine .inl ⟨k,?_⟩
          have : y ≠ x := fun e => hj (nodup_ix hN e1 (e ▸ hi))
          simp [this,e]
        · exact .inr ⟨k,c,e,z.sameBut hs (cne y c e)⟩
    · obtain ⟨w',z⟩ := I.cell y c e
      exact ⟨w',z.sameBut hs (cne y c e)⟩
    · obtain ⟨e,n,ne,nf,d⟩ := I.pin p hp
      exact ⟨(hs.2 p.1 ne).trans e,n,ne,nf,d⟩
  · have hfn : X.fn x = true := by
      rcases hf with z | z
      · exact z
      · rw [z] at hk; cases hk
    obtain ⟨c,hc⟩ := I.ok.has x (.inl hk)
    obtain ⟨w',z⟩ := I.cell x c hc
    refine wpAny_storeName_cell I.ok.kind hk hc z (fun h' hc' hs => ?_)
    obtain ⟨oc,hoc,hocd⟩ := id z
    refine h { s with heap := h' } ⟨I.ok,I.os,I.bare,⟨fun b o e n hb hx => ?_,fun b o e n hb hx => ?_,I.base.free,fun b o e hx => ?_,I.base.tups,I.base.frzs,I.base.tbls⟩,⟨m,hn.sameBut hs (Ne.symm (cne x c hc)),fun j y v' e1 e2 e3 => ?_⟩,fun y c' e => ?_,I.free,I.freeC,fun p hp => ?_,tracked ⟨oc,hoc,I.freeC x c hc⟩ hs,by simpa using I.len⟩ ⟨c,hs,.inr hc⟩
    · exact (hs.2 b (Nat.ne_of_lt (Nat.lt_of_lt_of_le (Heap.lt_size e) (I.ok.cab x c hfn hc)))).trans (I.base.keep b o e n hb hx)
    · obtain ⟨sl,e1⟩ := I.base.slot b o e n hb hx
      exact ⟨sl,(hs.2 b (Nat.ne_of_lt (Nat.lt_of_lt_of_le (Heap.lt_size e) (I.ok.cab x c hfn hc)))).trans e1⟩
    · obtain ⟨o',e1⟩ := I.base.there b o e hx
      exact ⟨o',(hs.2 b (Nat.ne_of_lt (Nat.lt_of_lt_of_le (Heap.lt_size e) (I.ok.cab x c hfn hc)))).trans e1⟩
    · by_cases hj : j = i
      · subst hj
        rw [hi] at e1; cases e1
        rw [List.getElem?_set_self hiσ] at e2
        cases e2
        exact ⟨u,r,.inr ⟨.inl hk,c,hc,hc'⟩⟩
      · rw [List.getElem?_set_ne (Ne.symm hj)] at e2
        obtain ⟨u',r',q⟩ := hl j y v' e1 e2 e3
        refine ⟨u',r',?_⟩
        rcases q with q | ⟨k,c',e,z'⟩
        · exact .inl q
        · refine .inr ⟨k,c',e,z'.sameBut hs ?_⟩
          rintro rfl
          exact hj (nodup_ix hN e1 (I.ok.inj _ _ _ e hc ▸ hi))
    · by_cases hcc : c' = c
      · subst hcc; exact ⟨_,hc'⟩
      · obtain ⟨w2,z2⟩ := I.cell y c' e
        exact ⟨w2,z2.sameBut hs hcc⟩
    · obtain ⟨e,n,ne,nf,d⟩ := I.pin p hp
      refine ⟨(hs.2 p.1 ?_).trans e,n,ne,nf,d⟩
      intro q
      rw [q,hoc] at e
      have q' : oc = p.2 := Option.some.inj e
      exact d w' (by rw [← q']; exact hocd)
theorem store_ok {M : Model} {A : Around} {E : Value → Shared → Prop} {i : Nat} {x : Str} {v : V} {u : Value} {Q : Unit → Shared → Prop} (I : Inv X pins σ H s) (hN : X.N.Nodup) (hi : X.N[i]? = some x) (hx : Loc X.env.scope x) (r : RelV v u)
    (h : ∀ s',Inv X pins (σ.set i (some v)) H s' → Q () s') (hf : X.fn x = true ∨ X.env.scope.names.lookup x = some .local := by first | exact .inl rfl | exact .inr rfl | assumption) : wpAny M A (storeName X.env x u) Q E s :=
  store_ok2 I hN hi hx r (fun s' I' _ => h s' I') hf
theorem Inv.call' {s' : Shared} {ch : List Addr} (I : Inv X pins σ H s) (ho : s'.os = s.os) (u : Un (frs X.stack) ch H H' s.heap s'.heap) (hok : HOk X.prog X.w H' s'.heap) (hg : AllBare s'.gens)
    (hch : ∀ b ∈ ch,(b ∈ X.ex ∨ X.s₀.heap.objs.size ≤ b) ∧ b ≠ X.env.locals ∧ (∀ x c,X.env.cells.lookup x = some c → c ≠ b) ∧ ∀ p ∈ X.pn ++ pins,p.1 ≠ b) : Inv X pins σ H' s' := by
  obtain ⟨h',g',d',t',o'⟩ := s'
  have e : o' = s.os := ho
  subst e
  exact I.call (g' := g') (t' := t') (d' := d') u hok hg hch
end
abbrev XK := Value → Option Addr → Hp → Prop
abbrev St := List (Option V)
abbrev VK := V → Hp → Prop
abbrev TE := St → Hp → VK → Prop
abbrev TT := St → Hp → (Bool → Hp → Prop) → Prop
abbrev TA := St → Hp → (List V → Hp → Prop) → Prop
structure Ends where
  nx : St → Hp → Prop
  rt : VK
  bk : St → Hp → Prop := fun _ _ => False
  ct : St → Hp → Prop := fun _ _ => False
abbrev TS := Ends → St → Hp → Prop
def EP (X : Cx) (pins : List (Addr × Obj)) (σ : St) (Q : VK) (u : Value) (s' : Shared) : Prop := ∃ v H',Inv X pins σ H' s' ∧ RelV v u ∧ Q v H'
def TP (X : Cx) (pins : List (Addr × Obj)) (σ : St) (Q : Bool → Hp → Prop) (b : Bool) (s' : Shared) : Prop := ∃ H',Inv X pins σ H' s' ∧ Q b H'
def AP (X : Cx) (pins : List (Addr × Obj)) (σ : St) (Q : List V → Hp → Prop) (us : List Value) (s' : Shared) : Prop := ∃ vs H',Inv X pins σ H' s' ∧ Vals vs us ∧ Q vs H'
def SP (X : Cx) (pins : List (Addr × Obj)) (D : Ends) (f : Flow) (s' : Shared) : Prop :=
  match f with
  | .next => ∃ σ' H',Inv X pins σ' H' s' ∧ D.nx σ' H'
  | .brk => ∃ σ' H',Inv X pins σ' H' s' ∧ D.bk σ' H'
  | .cont => ∃ σ' H',Inv X pins σ' H' s' ∧ D.ct σ' H'
  | .ret u => ∃ v σ' H',Inv X pins σ' H' s' ∧ RelV v u ∧ D.rt v H'
def PE (X : Cx) (e : Expr) (t : TE) : Prop :=
  ∀ (pins : List (Addr × Obj)) (s : Shared) (σ : St) (H : Hp) (Q : VK),Inv X pins σ H s → t σ H Q → wpAny (model X.prog X.w) X.A (eval e X.env) (EP X pins σ Q) X.xe s
def PT (X : Cx) (e : Expr) (t : TT) : Prop :=
  ∀ (pins : List (Addr × Obj)) (s : Shared) (σ : St) (H : Hp) (Q : Bool → Hp → Prop),Inv X pins σ H s → t σ H Q → wpAny (model X.prog X.w) X.A (isTrue e X.env (eval e X.env)) (TP X pins σ Q) X.xe s
def PW (X : Cx) (e : Expr) (t : TT) : Prop :=
  ∀ (whole : Sem Value) (pins : List (Addr × Obj)) (s : Shared) (σ : St) (H : Hp) (Q : Bool → Hp → Prop),Inv X pins σ H s → t σ H Q → wpAny (model X.prog X.w) X.A (isTrue e X.env whole) (TP X pins σ Q) X.xe s
theorem PW.pt {X : Cx} {e : Expr} {t : TT} (h : PW X e t) : PT X e t := h _
def PA (X : Cx) (es : List Expr) (t : TA) : Prop :=
  ∀ (pos : Pos) (pins : List (Addr × Obj)) (s : Shared) (σ : St) (H : Hp) (Q : List V → Hp → Prop),Inv X pins σ H s → t σ H Q → wpAny (model X.prog X.w) X.A (spliced (backTo pos (starEach es X.env))) (AP X pins σ Q) X.xe s
def PS (X : Cx) (st : Stmt) (t : TS) : Prop :=
  ∀ (pins : List (Addr × Obj)) (s : Shared) (σ : St) (H : Hp) (D : Ends),Inv X pins σ H s → t D σ H → wpAny (model X.prog X.w) X.A (exec st X.env) (SP X pins D) X.xe s
def PSs (X : Cx) (st : List Stmt) (t : TS) : Prop :=
  ∀ (pins : List (Addr × Obj)) (s : Shared) (σ : St) (H : Hp) (D : Ends),Inv X pins σ H s → t D σ H → wpAny (model X.prog X.w) X.A (execs st X.env) (SP X pins D) X.xe s
theorem thn {α : Type} {t : Sem α} {Q Q' : α → Shared → Prop} {M : Model} {A : Around} {E : Value → Shared → Prop} {s : Shared} (h : wpAny M A t Q E s) (hQ : ∀ a s,Q a s → Q' a s) : wpAny M A t Q' E s := wpAny_mono h hQ fun _ _ x => x
end L2
namespace L2
open PySem PySem.Spec PyProof.Rows
section
variable {X : Cx}
theorem bin {a b : Expr} {ta tb : TE} (ha : PE X a ta) (hb : PE X b tb) {pins : List (Addr × Obj)} {s : Shared} {σ : St} {H : Hp} {R : V → V → Hp → Prop} (I : Inv X pins σ H s) (h : ta σ H fun x H1 => tb σ H1 fun y H2 => R x y H2)
    {α : Type} {Q : α → Shared → Prop} {f : Value → Value → Sem α}
    (hf : ∀ v u s2 x y H2,Inv X pins σ H2 s2 → RelV x v → RelV y u → R x y H2 → wpAny (model X.prog X.w) X.A (f v u) Q X.xe s2) :
    wpAny (model X.prog X.w) X.A (eval a X.env) (fun v s₁ => wpAny (model X.prog X.w) X.A (eval b X.env) (fun u s₂ => wpAny (model X.prog X.w) X.A (f v u) Q X.xe s₂) X.xe s₁) X.xe s := by
  refine thn (ha pins s σ H _ I h) fun v s1 ⟨x,H1,I1,r1,q1⟩ => ?_
  refine thn (hb pins s1 σ H1 _ I1 q1) fun u s2 ⟨y,H2,I2,r2,q2⟩ => ?_
  exact hf v u s2 x y H2 I2 r1 r2 q2
def tVar (i : Nat) : TE := fun σ H Q => ∃ v,σ[i]? = some (some v) ∧ Q v H
def tC (v : V) : TE := fun _ H Q => Q v H
theorem pe_var {i : Nat} {x : Str} {pos : Pos} (hN : X.N[i]? = some x) (hv : Vis X.env.scope x) (hd : (x == ("__debug__" : Str)) = false := by decide) (hcd : (x == ("__classdict__" : Str)) = false := by decide) : PE X (.Name x pos) (tVar i) := by
  intro pins s σ H Q I h
  obtain ⟨v,e,h⟩ := h
  obtain ⟨m,hn,hl⟩ := I.loc
  obtain ⟨u,r,l⟩ := hl i x v hN e hv
  have fin : EP X pins σ Q u s := ⟨v,H,I,r,h⟩
  rcases l with ⟨hk,hm⟩ | ⟨hk,c,hc,hcell⟩
  · exact wpAny_Name (wpAny_loadName_local I.ok.kind hk hn hm fin) hd
  · rcases hk with hk | hk
    · exact wpAny_Name (wpAny_loadName_cell I.ok.kind hk hc hcell fin) hd
    · exact wpAny_Name (wpAny_loadName_free I.ok.kind hk hc hcell fin hcd) hd
theorem pe_int {i j pos} : PE X (.Constant (.int i) j pos) (tC (.int i)) := fun _ _ _ H _ I h => wpAny_Constant_int ⟨.int i,H,I.tok _,⟨_,rfl⟩,h⟩
theorem pe_bl {b j pos} : PE X (.Constant (.bool b) j pos) (tC (.bl b)) := fun _ _ _ H _ I h => Constant_bool ⟨.bl b,H,I,rfl,h⟩
theorem pe_str {x j pos} : PE X (.Constant (.str x) j pos) (tC (.str x)) := fun _ _ _ H _ I h => Calls.Constant_str ⟨.str x,H,I.tok _,⟨_,rfl⟩,h⟩
def Gl (X : Cx) (x : Str) : Prop := X.env.kindOf x = some .globalImplicit
theorem ld_glob {E : Value → Shared → Prop} {pins : List (Addr × Obj)} {s : Shared} {σ : St} {H : Hp} {x : Str} {u : Value} {pos : Pos} {Q : Value → Shared → Prop} (I : Inv X pins σ H s) (hg : Gl X x) (hm : X.mg x = some u) (h : Q u s)
    (hd : (x == ("__debug__" : Str)) = false := by decide) : wpAny (model X.prog X.w) X.A (eval (.Name x pos) X.env) Q E s :=
  Calls.Name_function_global I.ok.kind hg (Calls.loadGlobal_global (by rw [I.ok.glob]; exact I.mod.glob.keeps I.bk) hm h) hd
theorem ld_blt {E : Value → Shared → Prop} {pins : List (Addr × Obj)} {s : Shared} {σ : St} {H : Hp} {x : Str} {u : Value} {pos : Pos} {Q : Value → Shared → Prop} (I : Inv X pins σ H s) (hg : Gl X x) (hm : X.mg x = none) (hv : bootBuiltins x = some u) (h : Q u s)
    (hn : x ≠ "__name__" := by decide) (hd : (x == ("__debug__" : Str)) = false := by decide) : wpAny (model X.prog X.w) X.A (eval (.Name x pos) X.env) Q E s := by
  obtain ⟨mb,h1,h2⟩ := I.mod.blt
  exact Calls.Name_function_global I.ok.kind hg (Calls.loadGlobal_builtin (by rw [I.ok.glob]; exact I.mod.glob.keeps I.bk) hm (by rw [I.ok.blt]; exact h1.keeps I.bk) ((h2 x hn).trans hv) h) hd
theorem pe_glob {x : Str} {v : V} {u : Value} {pos : Pos} (hg : Gl X x) (hm : X.mg x = some u) (r : RelV v u) (hd : (x == ("__debug__" : Str)) = false := by decide) : PE X (.Name x pos) (tC v) :=
  fun _ _ _ H _ I h => ld_glob I hg hm ⟨v,H,I,r,h⟩ hd
theorem pe_bltn {x : Str} {v : V} {u : Value} {pos : Pos} (hg : Gl X x) (hm : X.mg x = none) (hv : bootBuiltins x = some u) (r : RelV v u) (hn : x ≠ "__name__" := by decide) (hd : (x == ("__debug__" : Str)) = false := by decide) : PE X (.Name x pos) (tC v) :=
  fun _ _ _ H _ I h => ld_blt I hg hm hv ⟨v,H,I,r,h⟩ hn hd
variable {a b : Expr} {ta tb : TE} {pos : Pos}
def PC (X : Cx) (op : CmpOp) (a b : Expr) (t : TE) : Prop :=
  ∀ (pins : List (Addr × Obj)) (s : Shared) (σ : St) (H : Hp) (Q : VK),Inv X pins σ H s → t σ H Q →
    wpAny (model X.prog X.w) X.A (eval a X.env) (fun v s₁ => wpAny (model X.prog X.w) X.A (eval b X.env) (fun u s₂ => wpAny (model X.prog X.w) X.A (compareOp op v u) (EP X pins σ Q) X.xe s₂) X.xe s₁) X.xe s
def tB (t : TE) : TT := fun σ H Q => t σ H fun x H1 => ∃ c,x = .bl c ∧ Q c H1
theorem pt_cmp {op : CmpOp} {t : TE} (h : PC X op a b t) (h1 : behindInMarks op b = false := by first | exact nobehind _ (by decide) (by decide) | rfl) : PT X (.Compare a [op] [b] pos) (tB t) := by
  intro pins s σ H Q I hw
  refine wpAny_isTrue_Compare1 (thn (h pins s σ H _ I hw) fun v s1 h1 => thn h1 fun u s2 h2 => thn h2 fun c s3 ⟨x,H1,I1,r1,q1⟩ => ?_) h1
  obtain ⟨d,rfl,q⟩ := q1
  cases r1
  exact wpAny_truthy_bool ⟨H1,I1,q⟩
theorem pt_val {e : Expr} {t : TE} (h : PE X e t) (he : ∀ whole,isTrue e X.env whole = (do let v ← whole; standAt e.pos; holding [v] (truthy v)) := by intro _; rfl) : PT X e (tB t) := by
  intro pins s σ H Q I hw
  refine isTrue_plain (thn (h pins s σ H _ I hw) fun v s1 ⟨x,H1,I1,r1,q1⟩ => ?_) (he _)
  obtain ⟨d,rfl,q⟩ := q1
  cases r1
  exact wpAny_truthy_bool ⟨H1,I1,q⟩
variable {tA tB' : TT} {rest : List Expr}
def tAnd (t u : TT) : TT := fun σ H Q => t σ H fun c H1 => if c = true then u σ H1 Q else Q false H1
def tOr (t u : TT) : TT := fun σ H Q => t σ H fun c H1 => if c = true then Q true H1 else u σ H1 Q
def tNot (t : TT) : TT := fun σ H Q => t σ H fun c H1 => Q (!c) H1
theorem pw_and1 (ha : PT X a tA) : PW X (.BoolOp .And [a] pos) tA := by
  intro wh pins s σ H Q I h
  refine isTrue_and (thn (ha pins s σ H Q I h) fun c s1 e => ?_)
  cases c with
  | true => exact isTrue_and_nil e
  | false => exact e
theorem pw_or1 (ha : PT X a tA) : PW X (.BoolOp .Or [a] pos) tA := by
  intro wh pins s σ H Q I h
  refine isTrue_or (thn (ha pins s σ H Q I h) fun c s1 e => ?_)
  cases c with
  | false => exact isTrue_or_nil e
  | true => exact e
theorem pw_and (ha : PT X a tA) (hb : PW X (.BoolOp .And (b :: rest) pos) tB') : PW X (.BoolOp .And (a :: b :: rest) pos) (tAnd tA tB') := by
  intro wh pins s σ H Q I h
  refine isTrue_and (thn (ha pins s σ H _ I h) fun c s1 ⟨H1,I1,q1⟩ => ?_)
  cases c with
  | true => exact hb wh pins s1 σ H1 Q I1 q1
  | false => exact ⟨H1,I1,q1⟩
theorem pw_or (ha : PT X a tA) (hb : PW X (.BoolOp .Or (b :: rest) pos) tB') : PW X (.BoolOp .Or (a :: b :: rest) pos) (tOr tA tB') := by
  intro wh pins s σ H Q I h
  refine isTrue_or (thn (ha pins s σ H _ I h) fun c s1 ⟨H1,I1,q1⟩ => ?_)
  cases c with
  | true => exact ⟨H1,I1,q1⟩
  | false => exact hb wh pins s1 σ H1 Q I1 q1
theorem pt_not (ha : PT X a tA) : PT X (.UnaryOp .Not a pos) (tNot tA) := by
  intro pins s σ H Q I h
  exact isTrue_not (ha pins s σ H (fun c H1 => Q (!c) H1) I h)
def tAndV (ta tb : TE) : TE := fun σ H Q => ta σ H fun x H1 => ∃ c,x = .bl c ∧ if c = true then tb σ H1 Q else Q (.bl false) H1
def tOrV (ta tb : TE) : TE := fun σ H Q => ta σ H fun x H1 => ∃ c,x = .bl c ∧ if c = true then Q (.bl true) H1 else tb σ H1 Q
def tNotV (ta : TE) : TE := fun σ H Q => ta σ H fun x H1 => ∃ c,x = .bl c ∧ Q (.bl (!c)) H1
theorem pe_one {op} {t : TE} (h : PE X a t) : PE X (.BoolOp op [a] pos) t := fun pins s σ H Q I hw => BoolOp_one (h pins s σ H Q I hw)
theorem pe_and (ha : PE X a ta) (hb : PE X (.BoolOp .And (b :: rest) pos) tb) : PE X (.BoolOp .And (a :: b :: rest) pos) (tAndV ta tb) := by
  intro pins s σ H Q I h
  refine BoolOp_and (thn (ha pins s σ H _ I h) fun v s1 ⟨x,H1,I1,r1,q1⟩ => ?_)
  obtain ⟨c,rfl,q1⟩ := q1
  cases r1
  refine wpAny_truthy_bool ?_
  cases c with
  | true => exact hb pins s1 σ H1 Q I1 q1
  | false => exact ⟨.bl false,H1,I1,rfl,q1⟩
theorem pe_or (ha : PE X a ta) (hb : PE X (.BoolOp .Or (b :: rest) pos) tb) : PE X (.BoolOp .Or (a :: b :: rest) pos) (tOrV ta tb) := by
  intro pins s σ H Q I h
  refine BoolOp_or (thn (ha pins s σ H _ I h) fun v s1 ⟨x,H1,I1,r1,q1⟩ => ?_)
  obtain ⟨c,rfl,q1⟩ := q1
  cases r1
  refine wpAny_truthy_bool ?_
  cases c with
  | false => exact hb pins s1 σ H1 Q I1 q1
  | true => exact ⟨.bl true,H1,I1,rfl,q1⟩
theorem pe_not (ha : PE X a ta) : PE X (.UnaryOp .Not a pos) (tNotV ta) := by
  intro pins s σ H Q I h
  refine UnaryOp_ (thn (ha pins s σ H _ I h) fun v s1 ⟨x,H1,I1,r1,q1⟩ => ?_)
  obtain ⟨c,rfl,q1⟩ := q1
  cases r1
  exact not_of (wpAny_truthy_bool ⟨.bl (!c),H1,I1,rfl,q1⟩)
def tIf (t : TT) (ta tb : TE) : TE := fun σ H Q => t σ H fun c H1 => if c = true then ta σ H1 Q else tb σ H1 Q
theorem pe_ifExp {c : Expr} (hc : PT X c tA) (ha : PE X a ta) (hb : PE X b tb) : PE X (.IfExp c a b pos) (tIf tA ta tb) := by
  intro pins s σ H Q I h
  refine wpAny_IfExp (thn (hc pins s σ H _ I h) fun d s1 ⟨H1,I1,q1⟩ => ?_)
  cases d with
  | true => exact ha pins s1 σ H1 Q I1 q1
  | false => exact hb pins s1 σ H1 Q I1 q1
end
end L2
namespace L2
open PySem PySem.Spec PyProof.Rows
def SqL (K : PySem.W.Frag) (H : Hp) (a : Addr) (xs : List V) : Prop :=
  Rd H a (.lst xs) ∨
    ∃ (o : Obj) (its : Array Value) (n : Nat),K.lookup a = some o ∧ o.cls = .type "list" ∧ o.dict = none ∧ o.data = .seq its n ∧ its.size ≤ sizeLine ∧ Vals xs its.toList
def SqT (K : PySem.W.Frag) (H : Hp) (a : Addr) (xs : List V) : Prop :=
  Rd H a (.tup xs) ∨
    ∃ (o : Obj) (its : Array Value) (n : Nat),K.lookup a = some o ∧ o.cls = .type "tuple" ∧ o.data = .seq its n ∧ its.size ≤ sizeLine ∧ Vals xs its.toList
def absV : Value → Option V
  | .none => some .non
  | .bool b => some (.bl b)
  | .int i _ => some (.int i)
  | .str x _ => some (.str x)
  | .bytes b _ => some (.byt b)
  | .float b _ => some (.flt b)
  | .ref a => some (.ref a)
  | .type n => some (.ty n)
  | _ => none
theorem RelV.abs {x : V} {u : Value} (r : RelV x u) : absV u = some x := by
  cases x with
  | non => cases r; rfl
  | bl _ => cases r; rfl
  | int _ => obtain ⟨t,rfl⟩ := r; rfl
  | str _ => obtain ⟨t,rfl⟩ := r; rfl
  | byt _ => obtain ⟨t,rfl⟩ := r; rfl
  | flt _ => obtain ⟨t,rfl⟩ := r; rfl
  | ref _ => cases r; rfl
  | ty _ => cases r; rfl
theorem RelV.inj {x y : V} {u : Value} (r : RelV x u) (q : RelV y u) : x = y := Option.some.inj (r.abs.symm.trans q.abs)
theorem Vals.inj : ∀ {xs ys : List V} {us : List Value},Vals xs us → Vals ys us → xs = ys
  | _,_,_,.nil,.nil => rfl
  | _,_,_,.cons r t,.cons r' t' => by rw [r.inj r',Vals.inj t t']
section
variable {X : Cx} {pins : List (Addr × Obj)} {σ : St} {H : Hp} {s : Shared} {a : Addr} {xs ys : List V}
theorem SqL.of {K : PySem.W.Frag} (h : H a = some (.lst xs)) : SqL K H a xs := .inl (.inl h)
theorem SqT.of {K : PySem.W.Frag} (h : H a = some (.tup xs)) : SqT K H a xs := .inl (.inl h)
theorem Inv.list (I : Inv X pins σ H s) (h : SqL X.K H a xs) : ∃ its : List Value,Vals xs its ∧ PlainL s.heap a its.toArray ∧ xs.length ≤ sizeLine := by
  rcases h with h | ⟨o,its,n,hk,hc,hd,hs,hz,r⟩
  · obtain ⟨z,its,n,r,e⟩ := h.ok I.hok
    exact ⟨its,r,⟨_,n,e,rfl,rfl,rfl⟩,z⟩
  · refine ⟨its.toList,r,⟨o,n,I.kIn a o hk,hc,hd,by simpa using hs⟩,?_⟩
    have e := r.length
    simp only [Array.length_toList] at e
    omega
theorem Inv.tuple (I : Inv X pins σ H s) (h : SqT X.K H a xs) : ∃ its : List Value,Vals xs its ∧ IsTup s.heap a its.toArray ∧ xs.length ≤ sizeLine := by
  rcases h with h | ⟨o,its,n,hk,hc,hs,hz,r⟩
  · obtain ⟨z,its,r,p⟩ := h.ok I.hok
    exact ⟨its,r,p,z⟩
  · refine ⟨its.toList,r,⟨o,I.kIn a o hk,hc,n,by simpa using hs⟩,?_⟩
    have e := r.length
    simp only [Array.length_toList] at e
    omega
theorem Inv.list_inj (I : Inv X pins σ H s) (h : SqL X.K H a xs) (h' : SqL X.K H a ys) : xs = ys := by
  obtain ⟨its,r,⟨o,n,e,_,_,d⟩,_⟩ := I.list h
  obtain ⟨its',r',⟨o',n',e',_,_,d'⟩,_⟩ := I.list h'
  rw [e] at e'; cases e'
  rw [d] at d'
  injection d' with d1 _
  have : its = its' := by simpa using congrArg Array.toList d1
  subst this
  exact r.inj r'
theorem Inv.tuple_inj (I : Inv X pins σ H s) (h : SqT X.K H a xs) (h' : SqT X.K H a ys) : xs = ys := by
  obtain ⟨its,r,⟨o,e,_,n,d⟩,_⟩ := I.tuple h
  obtain ⟨its',r',⟨o',e',_,n',d'⟩,_⟩ := I.tuple h'
  rw [e] at e'; cases e'
  rw [d] at d'
  injection d' with d1 _
  have : its = its' := by simpa using congrArg Array.toList d1
  subst this
  exact r.inj r'
end
abbrev Cx.wish (X : Cx) (E : Value → Shared → Prop) : Cx := { X with xe := E }
abbrev Cx.nox (X : Cx) : Cx := X.wish fun _ _ => False
theorem Cx.Ok.wish {X : Cx} (ok : X.Ok) (E : Value → Shared → Prop) : (X.wish E).Ok :=
  ⟨ok.mod,ok.kind,ok.glob,ok.blt,ok.above,ok.inj,ok.has,ok.cab,ok.hd,ok.frames,ok.stk,ok.exf,ok.bs,ok.bsz,ok.noex,ok.exfs,ok.funs,ok.frf⟩
theorem Cx.Ok.unwish {X : Cx} {E : Value → Shared → Prop} (ok : (X.wish E).Ok) : X.Ok :=
  ⟨ok.mod,ok.kind,ok.glob,ok.blt,ok.above,ok.inj,ok.has,ok.cab,ok.hd,ok.frames,ok.stk,ok.exf,ok.bs,ok.bsz,ok.noex,ok.exfs,ok.funs,ok.frf⟩
section
variable {X : Cx} {pins : List (Addr × Obj)} {σ : St} {H : Hp} {s : Shared} {E : Value → Shared → Prop}
theorem Inv.wish (I : Inv X pins σ H s) (E : Value → Shared → Prop) : Inv (X.wish E) pins σ H s := ⟨I.ok.wish E,I.os,I.bare,I.base,I.loc,I.cell,I.free,I.freeC,I.pin,I.hok,I.len⟩
theorem Inv.unwish (I : Inv (X.wish E) pins σ H s) : Inv X pins σ H s := ⟨I.ok.unwish,I.os,I.bare,I.base,I.loc,I.cell,I.free,I.freeC,I.pin,I.hok,I.len⟩
theorem SP.unwish {D : Ends} {f : Flow} {s' : Shared} (h : SP (X.wish E) pins D f s') : SP X pins D f s' := by
  cases f with
  | next => obtain ⟨σ',H',I,q⟩ := h; exact ⟨σ',H',I.unwish,q⟩
  | brk => obtain ⟨σ',H',I,q⟩ := h; exact ⟨σ',H',I.unwish,q⟩
  | cont => obtain ⟨σ',H',I,q⟩ := h; exact ⟨σ',H',I.unwish,q⟩
  | ret u => obtain ⟨v,σ',H',I,r,q⟩ := h; exact ⟨v,σ',H',I.unwish,r,q⟩
theorem PSs.nox {st : List Stmt} {t : TS} (h : PSs X.nox st t) : PSs X st t := fun pins s σ H D I hw =>
  wpAny_mono (h pins s σ H D (I.wish _) hw) (fun _ _ q => q.unwish) fun _ _ z => False.elim z
end
section
variable {X : Cx} {st : Stmt} {rest : List Stmt} {t u : TS} {e : Expr} {te : TE} {pos : Pos}
def tNext : TS := fun D σ H => D.nx σ H
def tSeq (t u : TS) : TS := fun D σ H => t { D with nx := u D } σ H
theorem pss_nil : PSs X [] tNext := fun _ _ σ H _ I h => wpAny_execs_nil ⟨σ,H,I,h⟩
theorem pss_cons (h1 : PS X st t) (h2 : PSs X rest u) : PSs X (st :: rest) (tSeq t u) := by
  intro pins s σ H D I h
  refine wpAny_execs_cons (thn (h1 pins s σ H { D with nx := u D } I h) fun f s1 q => ?_)
  cases f with
  | next =>
    obtain ⟨σ',H',I',q⟩ := q
    exact h2 pins s1 σ' H' D I' q
  | ret v => exact q
  | brk => exact q
  | cont => exact q
theorem pss_one (h1 : PS X st t) : PSs X [st] t := by
  intro pins s σ H D I h
  refine wpAny_execs_cons (thn (h1 pins s σ H D I h) fun f s1 q => ?_)
  cases f with
  | next => exact wpAny_execs_nil q
  | ret v => exact q
  | brk => exact q
  | cont => exact q
theorem Inv.quiet {pins : List (Addr × Obj)} {σ : St} {H : Hp} {s : Shared} (I : Inv X pins σ H s) : interactive X.env = false := by simp [interactive,I.ok.kind]
def tDrop (te : TE) : TS := fun D σ H => te σ H fun _ H1 => D.nx σ H1
theorem ps_expr (he : PE X e te) (hs : swapsWith e none pos.line X.env = pure false := by rfl) : PS X (.Expr e pos) (tDrop te) := by
  intro pins s σ H D I h
  exact wpAny_Expr_any (thn (he pins s σ H _ I h) fun v s1 ⟨x,H1,I1,r1,q1⟩ => ⟨σ,H1,I1,q1⟩) I.quiet hs
def tRet (te : TE) : TS := fun D σ H => te σ H D.rt
theorem ps_ret (he : PE X e te) : PS X (.Return (some e) pos) (tRet te) := by
  intro pins s σ H D I h
  exact wpAny_Return_some (thn (he pins s σ H _ I h) fun v s1 ⟨x,H1,I1,r1,q1⟩ => ⟨x,σ,H1,I1,r1,q1⟩)
def tRetN : TS := fun D _ H => D.rt .non H
theorem ps_retN : PS X (.Return none pos) tRetN := fun _ _ σ H _ I h => wpAny_Return_none ⟨.non,σ,H,I,rfl,h⟩
def tIfS (c : TT) (t u : TS) : TS := fun D σ H => c σ H fun b H1 => if b = true then t D σ H1 else u D σ H1
theorem ps_if {c : Expr} {a b : List Stmt} {tc : TT} (hc : PT X c tc) (ha : PSs X a t) (hb : PSs X b u) : PS X (.If c a b pos) (tIfS tc t u) := by
  intro pins s σ H D I h
  refine wpAny_If (thn (hc pins s σ H _ I h) fun d s1 ⟨H1,I1,q1⟩ => ?_)
  cases d with
  | true => exact ha pins s1 σ H1 D I1 q1
  | false => exact hb pins s1 σ H1 D I1 q1
def tNever : TS := fun _ _ _ => False
theorem ps_never : PS X st tNever := fun _ _ _ _ _ _ h => h.elim
theorem pss_never {sts : List Stmt} : PSs X sts tNever := fun _ _ _ _ _ _ h => h.elim
end
abbrev TG := V → St → Hp → (St → Hp → Prop) → Prop
abbrev TGs := List V → St → Hp → (St → Hp → Prop) → Prop
def PG (X : Cx) (target : Expr) (t : TG) : Prop :=
  ∀ (pins : List (Addr × Obj)) (s : Shared) (σ : St) (H : Hp) (v : V) (u : Value) (Q : St → Hp → Prop),Inv X pins σ H s → RelV v u → t v σ H Q →
    wpAny (model X.prog X.w) X.A (assign target X.env u) (fun _ s' => ∃ σ' H',Inv X pins σ' H' s' ∧ Q σ' H') X.xe s
def PGs (X : Cx) (ts : List Expr) (t : TGs) : Prop :=
  ∀ (pins : List (Addr × Obj)) (s : Shared) (σ : St) (H : Hp) (vs : List V) (us : List Value) (Q : St → Hp → Prop),Inv X pins σ H s → Vals vs us → t vs σ H Q →
    wpAny (model X.prog X.w) X.A (assignInOrder ((assignEach ts X.env).map (·.2)) us) (fun _ s' => ∃ σ' H',Inv X pins σ' H' s' ∧ Q σ' H') X.xe s
abbrev TSet := V → V → V → Hp → (Hp → Prop) → Prop
def PSet (X : Cx) (t : TSet) : Prop :=
  ∀ (pins : List (Addr × Obj)) (s : Shared) (σ : St) (H : Hp) (o i v : V) (ov iv u : Value) (Q : Hp → Prop),Inv X pins σ H s → RelV o ov → RelV i iv → RelV v u → t o i v H Q →
    wpAny (model X.prog X.w) X.A (setItem ov iv u) (fun _ s' => ∃ H',Inv X pins σ H' s' ∧ Q H') X.xe s
section
variable {X : Cx} {pos : Pos}
def gName (i : Nat) : TG := fun v σ H Q => Q (σ.set i (some v)) H
theorem pg_name {i : Nat} {x : Str} (hN : X.N.Nodup) (hi : X.N[i]? = some x) (hx : Loc X.env.scope x) (hf : X.fn x = true ∨ X.env.scope.names.lookup x = some .local := by first | exact .inl rfl | exact .inr rfl | assumption) : PG X (.Name x pos) (gName i) := by
  intro pins s σ H v u Q I r h
  exact wpAny_assign_Name (store_ok I hN hi hx r (fun s' I' => ⟨_,H,I',h⟩) hf)
def gNil : TGs := fun vs σ H Q => vs = [] ∧ Q σ H
def gCons (t : TG) (u : TGs) : TGs := fun vs σ H Q => ∃ v r,vs = v :: r ∧ t v σ H fun σ' H' => u r σ' H' Q
theorem pgs_nil : PGs X [] gNil := by
  intro pins s σ H vs us Q I r h
  obtain ⟨e,h⟩ := h
  subst e
  cases r
  exact assignInOrder_nil ⟨σ,H,I,h⟩
theorem pgs_cons {e : Expr} {es : List Expr} {t : TG} {u : TGs} (h1 : PG X e t) (h2 : PGs X es u)
    (hs : (assignEach (e :: es) X.env).map (·.2) = assign e X.env :: (assignEach es X.env).map (·.2) := by rfl) : PGs X (e :: es) (gCons t u) := by
  intro pins s σ H vs us Q I r h
  obtain ⟨v,vr,e1,h⟩ := h
  subst e1
  cases r with
  | cons r rr =>
    rw [hs]
    refine assignInOrder_cons (thn (h1 pins s σ H _ _ _ I r h) fun _ s1 ⟨σ1,H1,I1,q1⟩ => ?_)
    exact h2 pins s1 σ1 H1 _ _ Q I1 rr q1
def gTup (K : PySem.W.Frag) (n : Nat) (t : TGs) : TG := fun v σ H Q => ∃ a xs,v = .ref a ∧ SqT K H a xs ∧ xs.length = n ∧ t xs σ H Q
theorem pg_tup {es : List Expr} {k : Nat} {t : TGs} {n : Nat} (hc : X.calm = true) (h : PGs X es t)
    (hn : (assignEach es X.env).length = n := by rfl) (hst : (assignEach es X.env).findIdx? (·.1) = none := by rfl) : PG X (.Tuple es k pos) (gTup X.K n t) := by
  intro pins s σ H v u Q I r hw
  obtain ⟨a,xs,e1,hq,hl,hw⟩ := hw
  subst e1
  cases r
  obtain ⟨its,rv,ht,hz⟩ := I.tuple hq
  refine assign_Tuple_tuple (I.ok.hd hc) ht (by simp [hn,← hl,rv.length]) hst fun h' hx => ?_
  have I1 : Inv X pins σ H { s with heap := h' } := I.kept (t' := s.toks) fun b o e => hx b o (Nat.ne_of_lt (Heap.lt_size e)) e
  exact h pins _ σ H xs _ Q I1 (by simpa using rv) hw
def gSub (to ti : TE) (t : TSet) : TG := fun v σ H Q => to σ H fun o H1 => ti σ H1 fun i H2 => t o i v H2 fun H3 => Q σ H3
theorem pg_sub {o i : Expr} {to ti : TE} {t : TSet} (ho : PE X o to) (hi : PE X i ti) (hs : PSet X t)
    (ha : ∀ v,assign (.Subscript o i pos) X.env v = (do
      let ov ← holding [v] (eval o X.env)
      let iv ← holding [v,ov] (eval i X.env)
      standAt pos
      holding [v,ov,iv] (setItem ov iv v)
      release [v,ov,iv] []) := by intro _; rfl) : PG X (.Subscript o i pos) (gSub to ti t) := by
  intro pins s σ H v u Q I r h
  rw [ha]
  refine wpAny_bind (wpAny_holding (thn (ho pins s σ H _ I h) fun ov s1 ⟨x,H1,I1,r1,q1⟩ => ?_))
  refine wpAny_bind (wpAny_holding (thn (hi pins s1 σ H1 _ I1 q1) fun iv s2 ⟨y,H2,I2,r2,q2⟩ => ?_))
  refine wpAny_bind (wpAny_standAt (wpAny_bind (wpAny_holding (thn (hs pins s2 σ H2 x y v ov iv u _ I2 r1 r2 r q2) fun _ s3 ⟨H3,I3,q3⟩ => ?_))))
  exact wpAny_release ⟨σ,H3,I3,q3⟩
def tAsg (te : TE) (g : TG) : TS := fun D σ H => te σ H fun x H1 => g x σ H1 D.nx
theorem ps_asg {tg e : Expr} {te : TE} {g : TG} (he : PE X e te) (hg : PG X tg g) (hs : swapsWithSole [tg] e pos.line X.env = pure false := by rfl) (hw : swappedStores [tg] e X.env = pure none := by rfl)
    (h1 : (assignEach [tg] X.env).map (·.2) = [assign tg X.env] := by rfl) : PS X (.Assign [tg] e pos) (tAsg te g) := by
  intro pins s σ H D I h
  refine wpAny_Assign_stores (thn (he pins s σ H _ I h) fun v s1 ⟨x,H1,I1,r1,q1⟩ => ?_) hs hw
  rw [h1]
  exact thn (hg pins s1 σ H1 x v _ I1 r1 q1) fun _ s2 q => q
theorem ps_set {i : Nat} {x : Str} {e : Expr} {te : TE} {pos' : Pos} (hN : X.N.Nodup) (hi : X.N[i]? = some x) (hx : Loc X.env.scope x) (he : PE X e te) (hs : swapsWith e (some (.Name x pos')) pos.line X.env = pure false := by rfl) (hf : X.fn x = true ∨ X.env.scope.names.lookup x = some .local := by first | exact .inl rfl | exact .inr rfl | assumption) :
    PS X (.Assign [.Name x pos'] e pos) (tAsg te (gName i)) := by
  intro pins s σ H D I h
  refine wpAny_Assign_Name (thn (he pins s σ H _ I h) fun v s1 ⟨y,H1,I1,r1,q1⟩ => ?_) hs
  exact store_ok I1 hN hi hx r1 (fun s2 I2 => ⟨_,H1,I2,q1⟩) hf
def tPar (i j : Nat) (ta : TA) : TS := fun D σ H => ta σ H fun vs H1 => ∃ v w,vs = [v,w] ∧ D.nx ((σ.set i (some v)).set j (some w)) H1
theorem ps_par {i j : Nat} {x y : Str} {a b : Expr} {ta : TA} {px py pt : Pos} {kt k2 pt2} (hc : X.calm = true) (hN : X.N.Nodup) (hi : X.N[i]? = some x) (hj : X.N[j]? = some y) (hij : i ≠ j)
    (hx : X.env.scope.names.lookup x = some .local) (hy : X.env.scope.names.lookup y = some .local) (ha : PA X [a,b] ta)
    (hw : swappedStores [.Tuple [.Name x px,.Name y py] kt pt] (.Tuple [a,b] k2 pt2) X.env = pure (some [x,y]))
    (hs : swapsWithSole [.Tuple [.Name x px,.Name y py] kt pt] (.Tuple [a,b] k2 pt2) pos.line X.env = pure false := by rfl) :
    PS X (.Assign [.Tuple [.Name x px,.Name y py] kt pt] (.Tuple [a,b] k2 pt2) pos) (tPar i j ta) := by
  intro pins s σ H D I h
  rw [exec_Assign_arm]
  refine wpAny_bind (wpAny_standAt ?_)
  rw [hs]
  refine wpAny_bind (wpAny_pure ?_)
  rw [if_neg (by decide)]
  refine wpAny_bind (Tuple_ (thn (ha _ pins s σ H _ I h) fun us s1 ⟨vs,H1,I1,r1,q1⟩ => ?_))
  obtain ⟨v,w,e1,q1⟩ := q1
  subst e1
  obtain ⟨u1,u2,rfl,rv,rw'⟩ : ∃ u1 u2,us = [u1,u2] ∧ RelV v u1 ∧ RelV w u2 := by
    cases r1 with
    | cons p q =>
      cases q with
      | cons p' q' =>
        cases q'
        exact ⟨_,_,rfl,p,p'⟩
  refine wpAny_newObj_type ?_ (by show 2 ≤ sizeLine; decide)
  have I2 : Inv X pins σ H1 { s1 with heap := s1.heap.push { cls := .type "tuple", data := .seq [u1, u2].toArray } } := I1.kept (t' := s1.toks) fun b o e => Heap.get?_push_of_some _ e
  rw [hw]
  refine wpAny_bind (wpAny_pure ?_)
  show wpAny (model X.prog X.w) X.A (do rule "assign.swapped-stores"; let items ← unpackItems (.ref s1.heap.objs.size) 2 none; assignInOrder [fun v => bindName X.env y v,fun v => bindName X.env x v] items.reverse; pure Flow.next) _ _ _
  refine wpAny_bind (wpAny_rule (wpAny_bind (unpackItems_tuple (items := #[u1,u2]) (I.ok.hd hc) (IsTup.new s1.heap _) fun h' hx' => ?_)))
  have I3 := I2.kept (h' := h') (t' := s1.toks) fun b o e => hx' b o (Nat.ne_of_lt (Heap.lt_size e)) e
  show wpAny _ _ (assignInOrder [fun v => bindName X.env y v,fun v => bindName X.env x v] [u2,u1] >>= fun _ => pure Flow.next) _ _ _
  refine wpAny_bind (assignInOrder_cons (wpAny_bindName (store_ok I3 hN hj (.inl hy) rw' (fun s2 I4 => ?_) (.inr hy))))
  refine assignInOrder_cons (wpAny_bindName (store_ok I4 hN hi (.inl hx) rv (fun s3 I5 => assignInOrder_nil (wpAny_pure ?_)) (.inr hx)))
  rw [List.set_comm _ _ (Ne.symm hij)] at I5
  exact ⟨_,H1,I5,q1⟩
end
section
variable {X : Cx} {pos : Pos}
def tWhile (c : TT) (tb : TS) : TS := fun D σ H => ∃ W : Nat → St → Hp → Prop,(∃ m,W m σ H) ∧ ∀ m σ H,W m σ H →
  c σ H fun b H1 => if b = true then ∃ N : St → Hp → Prop,(∀ σ' H',N σ' H' → ∃ m',m' < m ∧ W m' σ' H') ∧ tb { D with nx := N,ct := N,bk := D.nx } σ H1 else D.nx σ H1
theorem ps_while {c : Expr} {body : List Stmt} {tc : TT} {tb : TS} (hp : PassesOwn (model X.prog X.w) X.A X.env X.xe) (hc : PT X c tc) (hb : PSs X body tb) : PS X (.While c body [] pos) (tWhile tc tb) := by
  intro pins s σ H D I h
  obtain ⟨W,⟨m0,w0⟩,turn⟩ := h
  refine wpAny_While (codeAny_whileLoop (fun n s' => ∃ σ' H',Inv X pins σ' H' s' ∧ W n σ' H') ?_ m0 ⟨σ,H,I,w0⟩)
  rintro n s1 ⟨σ1,H1,I1,w1⟩
  refine wpAny_passesOwn hp (thn (hc pins s1 σ1 H1 _ I1 (turn n σ1 H1 w1)) fun b s2 ⟨H2,I2,q2⟩ => ?_)
  cases b with
  | true =>
    obtain ⟨N,hN,q2⟩ := q2
    rw [if_pos rfl]
    refine wpAny_passesOwn hp (thn (hb pins s2 σ1 H2 _ I2 q2) fun f s3 q3 => ?_)
    cases f with
    | next =>
      obtain ⟨σ3,H3,I3,n3⟩ := q3
      obtain ⟨m',hm,w3⟩ := hN σ3 H3 n3
      exact ⟨m',hm,σ3,H3,I3,w3⟩
    | cont =>
      obtain ⟨σ3,H3,I3,n3⟩ := q3
      obtain ⟨m',hm,w3⟩ := hN σ3 H3 n3
      exact ⟨m',hm,σ3,H3,I3,w3⟩
    | brk => exact q3
    | ret v => exact q3
  | false =>
    rw [if_neg Bool.false_ne_true]
    exact wpAny_execs_nil ⟨σ1,H2,I2,q2⟩
end
structure It where
  go : Nat → Hp → Prop
  yld : Nat → Hp → V → Hp → Prop
  stop : Nat → Hp → Prop
def FpOk (X : Cx) (pins : List (Addr × Obj)) (H : Hp) (b : Addr) : Prop :=
  H b = none ∧ b ≠ X.env.locals ∧ b ∉ X.fs ∧ (b ∈ X.ex ∨ X.s₀.heap.objs.size ≤ b) ∧ (∀ x c,X.env.cells.lookup x = some c → c ≠ b) ∧ ∀ p ∈ X.pn ++ pins,p.1 ≠ b
theorem Inv.fpOk {X : Cx} {pins : List (Addr × Obj)} {σ : St} {H H' : Hp} {s : Shared} {b : Addr} (I : Inv X pins σ H s) (hb : s.heap.objs.size ≤ b) (hn : H' b = none) : FpOk X pins H' b := by
  refine ⟨hn,Nat.ne_of_gt (Nat.lt_of_lt_of_le I.lt hb),I.nofs hb,.inr (Nat.le_trans I.sz hb),fun x c e z => ?_,fun p hp z => ?_⟩
  · obtain ⟨v,q⟩ := I.cell x c e
    exact absurd (Nat.lt_of_lt_of_le q.lt (by rw [z]; exact hb)) (Nat.lt_irrefl _)
  · exact absurd (Nat.lt_of_lt_of_le (Heap.lt_size (I.pin p hp).1) (by rw [z]; exact hb)) (Nat.lt_irrefl _)
structure Turn (P : Program) (w : World) (K : PySem.W.Frag) (tg : Expr) (J : It) (fp : List Addr) (it : Addr) (tn : Nat → Heap → Prop) : Prop where
  mem : it ∈ fp
  obj : ∀ i h,tn i h → ∀ b ∈ fp,∃ o,h.get? b = some o ∧ ∀ v,o.data ≠ .cell v
  keep : ∀ i h h',tn i h → (∀ b ∈ fp,∀ o,h.get? b = some o → h'.get? b = some o) → tn i h'
  item : ∀ (X : Cx),X.prog = P → X.w = w → X.K = K → X.calm = true → ∀ (i : Nat) (pins : List (Addr × Obj)) (s : Shared) (σ : St) (H : Hp) (E : Value → Shared → Prop),Inv X pins σ H s → (∀ b ∈ fp,FpOk X pins H b) → tn i s.heap → J.go i H →
    wpAny (model P w) X.A (pyNext (.ref it)) (fun r s1 => ∃ u,r = some u ∧
      wpAny (model P w) X.A (letOwnedTupleGo tg (.ref it) u) (fun _ s2 => ∃ x H',Inv X pins σ H' s2 ∧ RelV x u ∧ J.yld i H x H' ∧ tn (i + 1) s2.heap ∧ ∀ b ∈ fp,H' b = none) E s1) E s
  done : ∀ (X : Cx),X.prog = P → X.w = w → X.K = K → X.calm = true → ∀ (i : Nat) (pins : List (Addr × Obj)) (s : Shared) (σ : St) (H : Hp) (E : Value → Shared → Prop),Inv X pins σ H s → (∀ b ∈ fp,FpOk X pins H b) → tn i s.heap → J.stop i H →
    wpAny (model P w) X.A (pyNext (.ref it)) (fun r s1 => r = none ∧ Inv X pins σ H s1) E s
  self : ∀ (A : Around) (i : Nat) (s : Shared) (Q : Value → Shared → Prop) (E : Value → Shared → Prop),tn i s.heap → Q (.ref it) s → wpAny (model P w) A (pyIter (.ref it)) Q E s
abbrev TI := St → Hp → (It → Hp → Prop) → Prop
def PIE (X : Cx) (pins : List (Addr × Obj)) (σ : St) (tg : Expr) (R : It → Hp → Prop) (itv : Value) (s2 : Shared) : Prop :=
  ∃ (it : Addr) (fp : List Addr) (tn : Nat → Heap → Prop) (J : It) (H' : Hp),itv = .ref it ∧ Inv X pins σ H' s2 ∧ Turn X.prog X.w X.K tg J fp it tn ∧ tn 0 s2.heap ∧ (∀ b ∈ fp,FpOk X pins H' b) ∧ R J H'
def PI (X : Cx) (tg iter : Expr) (wi : TI) : Prop :=
  ∀ (pins : List (Addr × Obj)) (s : Shared) (σ : St) (H : Hp) (R : It → Hp → Prop),Inv X pins σ H s → wi σ H R →
    wpAny (model X.prog X.w) X.A (eval iter X.env) (fun v s1 => wpAny (model X.prog X.w) X.A (pyIter v) (PIE X pins σ tg R) X.xe s1) X.xe s
theorem go_of {M : Model} {A : Around} {E : Value → Shared → Prop} {s : Shared} {tg : Expr} {it : Addr} {u : Value} {o : Obj} {n : String} {vs : Array Value} {Q : Unit → Shared → Prop} (ho : s.heap.get? it = some o) (hc : o.cls = .type n) (hd : o.data = .fields vs)
    (hn : ["enumerate","zip","dict_itemiterator","dict_reverseitemiterator","odict_iterator","itertools.zip_longest","itertools.pairwise"].contains n = false) (hQ : Q () s) : wpAny M A (letOwnedTupleGo tg (.ref it) u) Q E s := by
  unfold letOwnedTupleGo
  cases tg <;> first
    | exact wpAny_pure hQ
    | (cases u <;> first
        | exact wpAny_pure hQ
        | (refine wpAny_bind (wpAny_load ho ?_)
           rw [hc,hd]
           show wpAny M A (if (["enumerate","zip","dict_itemiterator","dict_reverseitemiterator","odict_iterator","itertools.zip_longest","itertools.pairwise"].contains n && vs[0]? == some (rawInt _)) = true then _ else _) Q E s
           rw [if_neg (by intro h; rw [hn,Bool.false_and] at h; cases h)]
           exact wpAny_pure hQ))
def Itl (K : PySem.W.Frag) (a : Addr) : It :=
  ⟨fun i H => ∃ xs x,SqL K H a xs ∧ xs[i]? = some x,fun i H x H' => H' = H ∧ ∀ xs,SqL K H a xs → xs[i]? = some x,fun i H => ∃ xs,SqL K H a xs ∧ xs.length ≤ i⟩
def Itt (K : PySem.W.Frag) (a : Addr) : It :=
  ⟨fun i H => ∃ xs x,SqT K H a xs ∧ xs[i]? = some x,fun i H x H' => H' = H ∧ ∀ xs,SqT K H a xs → xs[i]? = some x,fun i H => ∃ xs,SqT K H a xs ∧ xs.length ≤ i⟩
def Itr (lo : Int) (n : Nat) : It := ⟨fun i _ => i < n,fun i H x H' => H' = H ∧ x = .int (lo + i),fun i _ => n ≤ i⟩
theorem turn_list {P : Program} {w : World} {K : PySem.W.Frag} {tg : Expr} (a it : Addr) : Turn P w K tg (Itl K a) [it] it (fun i h => h.IsListIter it a i) where
  mem := by simp
  obj := fun i h st b hb => by
    have e : b = it := by simpa using hb
    subst e
    obtain ⟨o,e,c,d⟩ := st
    exact ⟨o,e,fun v z => by rw [d] at z; cases z⟩
  keep := fun i h h' st k => st.at fun o e => k it (by simp) o e
  item := by
    intro X hP hw hK hc i pins s σ H E I hf st hg
    subst hP hw hK
    obtain ⟨xs,x,hq,hx⟩ := hg
    obtain ⟨its,rv,p,hz⟩ := I.list hq
    obtain ⟨u,hu,ru⟩ := rv.get hx
    obtain ⟨f0,f1,f2,f3,f4,f5⟩ := hf it (by simp)
    refine wpAny_pyNext_list_item st p.isList (x := u) (by simpa using hu) fun h' st' sb => ?_
    have I1 : Inv X pins σ H { s with heap := h' } := I.turned (t' := s.toks) (fun b o hb e => (sb.2 b hb).trans e) f0 f1 f3 f4 f5
    obtain ⟨o,e,c,d⟩ := id st'
    exact ⟨u,rfl,go_of (s := { s with heap := h' }) e c d (by decide) ⟨x,H,I1,ru,⟨rfl,fun ys hy => by rw [I.list_inj hy hq]; exact hx⟩,st',fun b hb => (hf b hb).1⟩⟩
  done := by
    intro X hP hw hK hc i pins s σ H E I hf st hg
    subst hP hw hK
    obtain ⟨xs,hq,hx⟩ := hg
    obtain ⟨its,rv,p,hz⟩ := I.list hq
    obtain ⟨f0,f1,f2,f3,f4,f5⟩ := hf it (by simp)
    have hl := rv.length
    exact wpAny_pyNext_list_end (I.ok.hd hc) st p.isList (by simp; omega) fun h' eb => ⟨rfl,I.turned (t' := s.toks) (fun b o hb e => eb b o hb e) f0 f1 f3 f4 f5⟩
  self := fun _ _ _ _ _ st h => wpAny_pyIter_listiter st h
theorem turn_tuple {P : Program} {w : World} {K : PySem.W.Frag} {tg : Expr} (a it : Addr) : Turn P w K tg (Itt K a) [it] it (fun i h => h.IsTupleIter it a i) where
  mem := by simp
  obj := fun i h st b hb => by
    have e : b = it := by simpa using hb
    subst e
    obtain ⟨o,e,c,d⟩ := st
    exact ⟨o,e,fun v z => by rw [d] at z; cases z⟩
  keep := fun i h h' st k => st.at fun o e => k it (by simp) o e
  item := by
    intro X hP hw hK hc i pins s σ H E I hf st hg
    subst hP hw hK
    obtain ⟨xs,x,hq,hx⟩ := hg
    obtain ⟨its,rv,p,hz⟩ := I.tuple hq
    obtain ⟨u,hu,ru⟩ := rv.get hx
    obtain ⟨f0,f1,f2,f3,f4,f5⟩ := hf it (by simp)
    refine wpAny_pyNext_tuple_item st (show s.heap.IsTuple a its.toArray from p) (x := u) (by simpa using hu) fun h' st' sb => ?_
    have I1 : Inv X pins σ H { s with heap := h' } := I.turned (t' := s.toks) (fun b o hb e => (sb.2 b hb).trans e) f0 f1 f3 f4 f5
    obtain ⟨o,e,c,d⟩ := id st'
    exact ⟨u,rfl,go_of (s := { s with heap := h' }) e c d (by decide) ⟨x,H,I1,ru,⟨rfl,fun ys hy => by rw [I.tuple_inj hy hq]; exact hx⟩,st',fun b hb => (hf b hb).1⟩⟩
  done := by
    intro X hP hw hK hc i pins s σ H E I hf st hg
    subst hP hw hK
    obtain ⟨xs,hq,hx⟩ := hg
    obtain ⟨its,rv,p,hz⟩ := I.tuple hq
    obtain ⟨f0,f1,f2,f3,f4,f5⟩ := hf it (by simp)
    have hl := rv.length
    exact wpAny_pyNext_tuple_end (I.ok.hd hc) st (show s.heap.IsTuple a its.toArray from p) (by simp; omega) fun h' eb => ⟨rfl,I.turned (t' := s.toks) (fun b o hb e => eb b o hb e) f0 f1 f3 f4 f5⟩
  self := fun _ _ _ _ _ st h => wpAny_pyIter_tupleiter st h
theorem turn_range {P : Program} {w : World} {K : PySem.W.Frag} {tg : Expr} (it : Addr) (lo : Int) (n : Nat) : Turn P w K tg (Itr lo n) [it] it (fun i h => IsRangeIter h it (lo + (i : Nat) * 1) ((n : Int) - (i : Nat)) 1) where
  mem := by simp
  obj := fun i h st b hb => by
    have e : b = it := by simpa using hb
    subst e
    exact ⟨_,st,fun v z => by
      have z' : Data.fields _ = Data.cell v := z
      cases z'⟩
  keep := fun i h h' st k => k it (by simp) _ st
  item := by
    intro X hP hw hK hc i pins s σ H E I hf st hg
    subst hP hw hK
    obtain ⟨f0,f1,f2,f3,f4,f5⟩ := hf it (by simp)
    have W := Walks.range (prog := X.prog) (w := X.w) (I.ok.hd hc) it lo 1 n
    refine W.item i s _ _ hg st fun v h' tk hv st' kk => ?_
    obtain ⟨t,rfl⟩ := hv
    have I1 : Inv X pins σ H { s with heap := h',toks := tk } := I.turned (fun b o hb e => kk b o (by simpa using hb) e) f0 f1 f3 f4 f5
    refine ⟨_, rfl, go_of (s := { s with heap := h', toks := tk }) (n := "range_iterator") st' rfl rfl (by decide) ⟨.int (lo + i), H, I1, ⟨t, ?_⟩, ⟨rfl, rfl⟩, st', fun b hb => (hf b hb).1⟩⟩
    rw [Int.mul_one]
  done := by
    intro X hP hw hK hc i pins s σ H E I hf st hg
    subst hP hw hK
    obtain ⟨f0,f1,f2,f3,f4,f5⟩ := hf it (by simp)
    exact wpAny_pyNext_range_end (I.ok.hd hc) st (by have : n ≤ i := hg; omega) fun h' eb => ⟨rfl,I.turned (t' := s.toks) (fun b o hb e => eb b o hb e) f0 f1 f3 f4 f5⟩
  self := fun _ _ _ _ _ st h => wpAny_pyIter_rangeiter st h
end L2
namespace L2
open PySem PySem.Spec PyProof.Rows
section
variable {X : Cx} {tg : Expr}
def iList (K : PySem.W.Frag) (tl : TE) : TI := fun σ H R => tl σ H fun x H1 => ∃ a,x = .ref a ∧ (∃ xs,SqL K H1 a xs) ∧ R (Itl K a) H1
def iTup (K : PySem.W.Frag) (tl : TE) : TI := fun σ H R => tl σ H fun x H1 => ∃ a,x = .ref a ∧ (∃ xs,SqT K H1 a xs) ∧ R (Itt K a) H1
theorem pi_list {l : Expr} {tl : TE} (hl : PE X l tl) : PI X tg l (iList X.K tl) := by
  intro pins s σ H R I h
  refine thn (hl pins s σ H _ I h) fun v s1 ⟨x,H1,I1,r1,q1⟩ => ?_
  obtain ⟨a,e,⟨xs,hq⟩,q⟩ := q1
  subst e
  cases r1
  obtain ⟨its,rv,p,hz⟩ := I1.list hq
  refine wpAny_pyIter_list p.isList ?_
  refine ⟨s1.heap.objs.size,[s1.heap.objs.size],_,_,H1,rfl,I1.kept (t' := s1.toks) fun b o e => Heap.get?_push_of_some _ e,turn_list a _,⟨_,Heap.get?_push_size _ rfl,rfl,rfl⟩,fun b hb => ?_,q⟩
  have e : b = s1.heap.objs.size := by simpa using hb
  subst e
  exact I1.fpOk (Nat.le_refl _) (I1.hok.fresh (Nat.le_refl _))
theorem pi_tup {l : Expr} {tl : TE} (hl : PE X l tl) : PI X tg l (iTup X.K tl) := by
  intro pins s σ H R I h
  refine thn (hl pins s σ H _ I h) fun v s1 ⟨x,H1,I1,r1,q1⟩ => ?_
  obtain ⟨a,e,⟨xs,hq⟩,q⟩ := q1
  subst e
  cases r1
  obtain ⟨its,rv,p,hz⟩ := I1.tuple hq
  refine wpAny_pyIter_tuple (show s1.heap.IsTuple a its.toArray from p) ?_
  refine ⟨s1.heap.objs.size,[s1.heap.objs.size],_,_,H1,rfl,I1.kept (t' := s1.toks) fun b o e => Heap.get?_push_of_some _ e,turn_tuple a _,⟨_,Heap.get?_push_size _ rfl,rfl,rfl⟩,fun b hb => ?_,q⟩
  have e : b = s1.heap.objs.size := by simpa using hb
  subst e
  exact I1.fpOk (Nat.le_refl _) (I1.hok.fresh (Nat.le_refl _))
theorem range_it {pins : List (Addr × Obj)} {σ : St} {H : Hp} {s : Shared} {R : It → Hp → Prop} {E : Value → Shared → Prop} {lo hi : Int} {t u v : Tok} {tk : Nat} (I : Inv X pins σ H s) (h1 : -(2 ^ 62) ≤ lo) (h2 : lo < 2 ^ 62) (h3 : -(2 ^ 62) ≤ hi) (h4 : hi < 2 ^ 62)
    (q : R (Itr lo (hi - lo).toNat) H) : wpAny (model X.prog X.w) X.A (pyIter (.ref s.heap.objs.size)) (PIE X pins σ tg R) E { s with heap := s.heap.push { cls := .type "range",data := .fields #[.int lo t,.int hi u,.int 1 v] },toks := tk } := by
  refine wpAny_pyIter_range (IsRange.new ..) (small_one h1 h2 h3 h4) ?_
  have I1 : Inv X pins σ H { s with heap := s.heap.push { cls := .type "range",data := .fields #[.int lo t,.int hi u,.int 1 v] },toks := tk } := I.kept fun b o e => Heap.get?_push_of_some _ e
  refine ⟨(s.heap.push { cls := .type "range",data := .fields #[.int lo t,.int hi u,.int 1 v] }).objs.size,[(s.heap.push { cls := .type "range",data := .fields #[.int lo t,.int hi u,.int 1 v] }).objs.size],_,_,H,rfl,
    I1.kept (t' := tk) fun b o e => Heap.get?_push_of_some _ e,turn_range _ lo (hi - lo).toNat,?_,fun b hb => ?_,q⟩
  · have e1 : lo + ((0 : Nat) : Int) * 1 = lo := by simp
    have e2 : (((hi - lo).toNat : Nat) : Int) - ((0 : Nat) : Int) = Builtin.Range.rangeSize lo hi 1 := by rw [rangeSize_one]; split <;> omega
    show IsRangeIter _ _ (lo + ((0 : Nat) : Int) * 1) ((((hi - lo).toNat : Nat) : Int) - ((0 : Nat) : Int)) 1
    rw [e1,e2]
    exact Heap.get?_push_size _ rfl
  · have e : b = (s.heap.push { cls := .type "range",data := .fields #[.int lo t,.int hi u,.int 1 v] }).objs.size := by simpa using hb
    subst e
    exact I1.fpOk (Nat.le_refl _) (I1.hok.fresh (Nat.le_refl _))
def iRng1 (ta : TA) : TI := fun σ H R => ta σ H fun vs H1 => ∃ j : Int,vs = [.int j] ∧ -(2 ^ 62) ≤ j ∧ j < 2 ^ 62 ∧ R (Itr 0 j.toNat) H1
def iRng2 (ta : TA) : TI := fun σ H R => ta σ H fun vs H1 => ∃ i j : Int,vs = [.int i,.int j] ∧ (-(2 ^ 62) ≤ i ∧ i < 2 ^ 62 ∧ -(2 ^ 62) ≤ j ∧ j < 2 ^ 62) ∧ R (Itr i (j - i).toNat) H1
theorem pi_range1 {a : Expr} {ta : TA} {p pos : Pos} (hg : Gl X "range") (hm : X.mg "range" = none) (ha : PA X [a] ta) (hs : starEach [a] X.env = [(false,eval a X.env)] := by rfl) : PI X tg (.Call (.Name "range" p) [a] [] pos) (iRng1 ta) := by
  intro pins s σ H R I h
  refine Call_ (ld_blt I hg hm boot_range (PyProof.Rows.callWith_type1 (thn (ha pos pins s σ H _ I h) fun us s1 ⟨vs,H1,I1,r1,q1⟩ => ?_) hs rfl))
  obtain ⟨j,e,q1,q2,q⟩ := q1
  subst e
  cases r1 with
  | cons r rr =>
    cases rr
    obtain ⟨t,rfl⟩ := r
    exact call_range_1 (range_it I1 (by omega) (by omega) q1 q2 (by simpa using q))
theorem pi_range2 {a b : Expr} {ta : TA} {p pos : Pos} (hg : Gl X "range") (hm : X.mg "range" = none) (ha : PA X [a,b] ta) (hs : starEach [a,b] X.env = [(false,eval a X.env),(false,eval b X.env)] := by rfl) (hs2 : starEach [b] X.env = [(false,eval b X.env)] := by rfl) :
    PI X tg (.Call (.Name "range" p) [a,b] [] pos) (iRng2 ta) := by
  intro pins s σ H R I h
  refine Call_ (ld_blt I hg hm boot_range (PyProof.Rows.callWith_type1 (thn (ha pos pins s σ H _ I h) fun us s1 ⟨vs,H1,I1,r1,q1⟩ => ?_) (by rw [hs,hs2]) (by rw [hs2]; rfl)))
  obtain ⟨i,j,e,⟨q1,q2,q3,q4⟩,q⟩ := q1
  subst e
  cases r1 with
  | cons r rr =>
    cases rr with
    | cons r' rr =>
      cases rr
      obtain ⟨t,rfl⟩ := r
      obtain ⟨t',rfl⟩ := r'
      exact call_range_2 (range_it I1 q1 q2 q3 q4 q)
def tFor (wi : TI) (g : TG) (tb : TS) : TS := fun D σ H => wi σ H fun J H1 => ∃ W : Nat → Nat → St → Hp → Prop,(∃ m,W 0 m σ H1) ∧ ∀ i m σ H,W i m σ H →
  (J.stop i H ∧ D.nx σ H) ∨ (J.go i H ∧ ∃ N : St → Hp → Prop,(∀ σ' H',N σ' H' → ∃ m',m' < m ∧ W (i + 1) m' σ' H') ∧ ∀ x H',J.yld i H x H' → g x σ H' fun σ2 H2 => tb { D with nx := N,ct := N,bk := D.nx } σ2 H2)
def pinsAt (fp : List Addr) (h : Heap) : List (Addr × Obj) := fp.filterMap fun b => (h.get? b).map fun o => (b,o)
theorem mem_pinsAt {fp : List Addr} {h : Heap} {b : Addr} {o : Obj} (hb : b ∈ fp) (e : h.get? b = some o) : (b,o) ∈ pinsAt fp h := List.mem_filterMap.mpr ⟨b,hb,by rw [e]; rfl⟩
theorem of_pinsAt {fp : List Addr} {h : Heap} {p : Addr × Obj} (hp : p ∈ pinsAt fp h) : p.1 ∈ fp ∧ h.get? p.1 = some p.2 := by
  obtain ⟨b,hb,e⟩ := List.mem_filterMap.mp hp
  cases q : h.get? b with
  | none => rw [q] at e; cases e
  | some o =>
    rw [q] at e
    have e' : (b,o) = p := Option.some.inj e
    subst e'
    exact ⟨hb,q⟩
theorem Inv.pinned {pins : List (Addr × Obj)} {σ : St} {H : Hp} {s : Shared} {fp : List Addr} (I : Inv X pins σ H s) (hf : ∀ b ∈ fp,FpOk X pins H b) (ho : ∀ b ∈ fp,∃ o,s.heap.get? b = some o ∧ ∀ v,o.data ≠ .cell v) : Inv X (pins ++ pinsAt fp s.heap) σ H s :=
  I.pins_of fun p hp => (List.mem_append.mp hp).elim (fun z => I.pin p (List.mem_append_right _ z)) fun z => by
    obtain ⟨hb,e⟩ := of_pinsAt z
    obtain ⟨f0,f1,f2,_⟩ := hf p.1 hb
    obtain ⟨o,e',d⟩ := ho p.1 hb
    rw [e] at e'; cases e'
    exact ⟨e,f0,f1,f2,d⟩
theorem Inv.unpinned {pins pl : List (Addr × Obj)} {σ : St} {H : Hp} {s : Shared} (I : Inv X (pins ++ pl) σ H s) : Inv X pins σ H s := I.pins_of fun p hp => I.pin p (List.mem_append_right _ (List.mem_append_left _ hp))
theorem ps_for {iter : Expr} {body : List Stmt} {wi : TI} {g : TG} {tb : TS} {pos : Pos} (hp : PassesOwn (model X.prog X.w) X.A X.env X.xe) (hc : X.calm = true) (hi : PI X tg iter wi) (hg : PG X tg g) (hb : PSs X body tb)
    (hs : ∀ x,foldedSetIterable iter X.env x = pure x := by intro _; rfl) : PS X (.For tg iter body [] pos) (tFor wi g tb) := by
  intro pins s σ H D I h
  refine wpAny_For (thn (hi pins s σ H _ I h) fun v s1 h1 => thn h1 fun itv s2 h2 => ?_) hs
  obtain ⟨it,fp,tn,J,H2,e,I2,T,st2,f2,W,⟨m0,w0⟩,turn⟩ := h2
  subst e
  have stat : ∀ {H' : Hp},(∀ b ∈ fp,H' b = none) → ∀ b ∈ fp,FpOk X pins H' b := fun hn b hb => ⟨hn b hb,(f2 b hb).2⟩
  refine codeAny_forLoop_any (fun n s' => ∃ i σ' H',Inv X pins σ' H' s' ∧ tn i s'.heap ∧ (∀ b ∈ fp,H' b = none) ∧ W i n σ' H') ?_ m0 ⟨0,σ,H2,I2,st2,fun b hb => (f2 b hb).1,w0⟩
  rintro n s3 ⟨i,σ3,H3,I3,st3,fr3,w3⟩
  rcases turn i n σ3 H3 w3 with ⟨stop,qn⟩ | ⟨go,N,hN,step⟩
  · refine wpAny_passesOwn hp (thn (T.done X rfl rfl rfl hc i pins s3 σ3 H3 X.xe I3 (stat fr3) st3 stop) fun r s4 ⟨hr,I4⟩ => ?_)
    subst hr
    exact wpAny_execs_nil ⟨σ3,H3,I4,qn⟩
  · refine wpAny_passesOwn hp (thn (T.item X rfl rfl rfl hc i pins s3 σ3 H3 X.xe I3 (stat fr3) st3 go) fun r s4 ⟨u,hr,h4⟩ => ?_)
    subst hr
    refine wpAny_passesOwn hp (thn h4 fun _ s5 ⟨x,H5,I5,r5,y5,st5,fr5⟩ => ?_)
    have I5' := I5.pinned (stat fr5) (T.obj _ _ st5)
    refine wpAny_passesOwn hp (thn (hg _ s5 σ3 H5 x u _ I5' r5 (step x H5 y5)) fun _ s6 ⟨σ6,H6,I6,q6⟩ => ?_)
    refine wpAny_passesOwn hp (thn (hb _ s6 σ6 H6 _ I6 q6) fun f s7 q7 => ?_)
    have again : ∀ {σ7 : St} {H7 : Hp},Inv X (pins ++ pinsAt fp s5.heap) σ7 H7 s7 → N σ7 H7 → ∃ m,m < n ∧ ∃ i σ' H',Inv X pins σ' H' s7 ∧ tn i s7.heap ∧ (∀ b ∈ fp,H' b = none) ∧ W i m σ' H' := fun {σ7 H7} I7 n7 => by
      obtain ⟨m',hm,w7⟩ := hN σ7 H7 n7
      refine ⟨m',hm,i + 1,σ7,H7,I7.unpinned,T.keep _ _ _ st5 fun b hb o e => (I7.pin (b,o) (List.mem_append_right _ (List.mem_append_right _ (mem_pinsAt hb e)))).1,fun b hb => ?_,w7⟩
      obtain ⟨o,e,d⟩ := T.obj _ _ st5 b hb
      exact (I7.pin (b,o) (List.mem_append_right _ (List.mem_append_right _ (mem_pinsAt hb e)))).2.1
    cases f with
    | next => obtain ⟨σ7,H7,I7,n7⟩ := q7; exact again I7 n7
    | cont => obtain ⟨σ7,H7,I7,n7⟩ := q7; exact again I7 n7
    | brk => obtain ⟨σ7,H7,I7,q7⟩ := q7; exact ⟨σ7,H7,I7.unpinned,q7⟩
    | ret v => obtain ⟨x7,σ7,H7,I7,r7,q7⟩ := q7; exact ⟨x7,σ7,H7,I7.unpinned,r7,q7⟩
end
theorem for_list {K : PySem.W.Frag} {a : Addr} {xs : List V} {g : TG} {tb : TS} {D : Ends} {σ : St} {H : Hp} (Pv : Nat → St → Hp → Prop) (h0 : Pv 0 σ H) (hl : ∀ i σ H,i ≤ xs.length → Pv i σ H → SqL K H a xs)
    (hs : ∀ i x σ H,xs[i]? = some x → Pv i σ H → g x σ H fun σ2 H2 => tb { D with nx := Pv (i + 1),ct := Pv (i + 1),bk := D.nx } σ2 H2) (hd : ∀ σ H,Pv xs.length σ H → D.nx σ H) :
    ∃ W : Nat → Nat → St → Hp → Prop,(∃ m,W 0 m σ H) ∧ ∀ i m σ H,W i m σ H →
      ((Itl K a).stop i H ∧ D.nx σ H) ∨ ((Itl K a).go i H ∧ ∃ N : St → Hp → Prop,(∀ σ' H',N σ' H' → ∃ m',m' < m ∧ W (i + 1) m' σ' H') ∧ ∀ x H',(Itl K a).yld i H x H' → g x σ H' fun σ2 H2 => tb { D with nx := N,ct := N,bk := D.nx } σ2 H2) := by
  refine ⟨fun i m σ H => m = xs.length - i ∧ i ≤ xs.length ∧ Pv i σ H,⟨xs.length,by simp,Nat.zero_le _,h0⟩,?_⟩
  rintro i m σ H ⟨rfl,hi,p⟩
  have q := hl i σ H hi p
  by_cases hlt : i < xs.length
  · refine .inr ⟨⟨xs,xs[i],q,by simp [hlt]⟩,Pv (i + 1),fun σ' H' p' => ⟨xs.length - (i + 1),by omega,rfl,hlt,p'⟩,fun x H' y => ?_⟩
    obtain ⟨e,y⟩ := y
    subst e
    exact hs i x σ _ (y xs q) p
  · have e : i = xs.length := by omega
    subst e
    exact .inl ⟨⟨xs,q,Nat.le_refl _⟩,hd σ H p⟩
theorem for_tup {K : PySem.W.Frag} {a : Addr} {xs : List V} {g : TG} {tb : TS} {D : Ends} {σ : St} {H : Hp} (Pv : Nat → St → Hp → Prop) (h0 : Pv 0 σ H) (hl : ∀ i σ H,i ≤ xs.length → Pv i σ H → SqT K H a xs)
    (hs : ∀ i x σ H,xs[i]? = some x → Pv i σ H → g x σ H fun σ2 H2 => tb { D with nx := Pv (i + 1),ct := Pv (i + 1),bk := D.nx } σ2 H2) (hd : ∀ σ H,Pv xs.length σ H → D.nx σ H) :
    ∃ W : Nat → Nat → St → Hp → Prop,(∃ m,W 0 m σ H) ∧ ∀ i m σ H,W i m σ H →
      ((Itt K a).stop i H ∧ D.nx σ H) ∨ ((Itt K a).go i H ∧ ∃ N : St → Hp → Prop,(∀ σ' H',N σ' H' → ∃ m',m' < m ∧ W (i + 1) m' σ' H') ∧ ∀ x H',(Itt K a).yld i H x H' → g x σ H' fun σ2 H2 => tb { D with nx := N,ct := N,bk := D.nx } σ2 H2) := by
  refine ⟨fun i m σ H => m = xs.length - i ∧ i ≤ xs.length ∧ Pv i σ H,⟨xs.length,by simp,Nat.zero_le _,h0⟩,?_⟩
  rintro i m σ H ⟨rfl,hi,p⟩
  have q := hl i σ H hi p
  by_cases hlt : i < xs.length
  · refine .inr ⟨⟨xs,xs[i],q,by simp [hlt]⟩,Pv (i + 1),fun σ' H' p' => ⟨xs.length - (i + 1),by omega,rfl,hlt,p'⟩,fun x H' y => ?_⟩
    obtain ⟨e,y⟩ := y
    subst e
    exact hs i x σ _ (y xs q) p
  · have e : i = xs.length := by omega
    subst e
    exact .inl ⟨⟨xs,q,Nat.le_refl _⟩,hd σ H p⟩
theorem for_range {lo : Int} {n : Nat} {g : TG} {tb : TS} {D : Ends} {σ : St} {H : Hp} (Pv : Nat → St → Hp → Prop) (h0 : Pv 0 σ H)
    (hs : ∀ i σ H,i < n → Pv i σ H → g (.int (lo + i)) σ H fun σ2 H2 => tb { D with nx := Pv (i + 1),ct := Pv (i + 1),bk := D.nx } σ2 H2) (hd : ∀ σ H,Pv n σ H → D.nx σ H) :
    ∃ W : Nat → Nat → St → Hp → Prop,(∃ m,W 0 m σ H) ∧ ∀ i m σ H,W i m σ H →
      ((Itr lo n).stop i H ∧ D.nx σ H) ∨ ((Itr lo n).go i H ∧ ∃ N : St → Hp → Prop,(∀ σ' H',N σ' H' → ∃ m',m' < m ∧ W (i + 1) m' σ' H') ∧ ∀ x H',(Itr lo n).yld i H x H' → g x σ H' fun σ2 H2 => tb { D with nx := N,ct := N,bk := D.nx } σ2 H2) := by
  refine ⟨fun i m σ H => m = n - i ∧ i ≤ n ∧ Pv i σ H,⟨n,by simp,Nat.zero_le _,h0⟩,?_⟩
  rintro i m σ H ⟨rfl,hi,p⟩
  by_cases hlt : i < n
  · refine .inr ⟨hlt,Pv (i + 1),fun σ' H' p' => ⟨n - (i + 1),by omega,rfl,hlt,p'⟩,fun x H' y => ?_⟩
    obtain ⟨e,y⟩ := y
    subst e y
    exact hs i σ _ hlt p
  · have e : i = n := by omega
    subst e
    exact .inl ⟨Nat.le_refl _,hd σ H p⟩
end L2
namespace L2
open PySem PySem.Spec PyProof.Rows
abbrev R2 := V → V → Hp → VK → Prop
def OpR (X : Cx) (f : Value → Value → Sem Value) (r : R2) : Prop :=
  ∀ (pins : List (Addr × Obj)) (s : Shared) (σ : St) (H : Hp) (x y : V) (v u : Value) (Q : VK),Inv X pins σ H s → RelV x v → RelV y u → r x y H Q →
    wpAny (model X.prog X.w) X.A (f v u) (EP X pins σ Q) X.xe s
def CallR (X : Cx) (f : Value) (r : List V → Hp → VK → Prop) : Prop :=
  ∀ (pins : List (Addr × Obj)) (s : Shared) (σ : St) (H : Hp) (xs : List V) (us : List Value) (Q : VK),Inv X pins σ H s → Vals xs us → r xs H Q →
    wpAny (model X.prog X.w) X.A (call f us) (EP X pins σ Q) X.xe s
def TruR (X : Cx) (r : V → Hp → (Bool → Hp → Prop) → Prop) : Prop :=
  ∀ (pins : List (Addr × Obj)) (s : Shared) (σ : St) (H : Hp) (x : V) (v : Value) (Q : Bool → Hp → Prop),Inv X pins σ H s → RelV x v → r x H Q →
    wpAny (model X.prog X.w) X.A (truthy v) (TP X pins σ Q) X.xe s
def tOp (r : R2) (ta tb : TE) : TE := fun σ H Q => ta σ H fun x H1 => tb σ H1 fun y H2 => r x y H2 Q
def rI (C : Int → Int → Prop) (g : Int → Int → V) : R2 := fun x y H Q => ∃ i j,x = .int i ∧ y = .int j ∧ C i j ∧ Q (g i j) H
def rI0 (g : Int → Int → V) : R2 := fun x y H Q => ∃ i j,x = .int i ∧ y = .int j ∧ Q (g i j) H
section
variable {X : Cx} {a b c : Expr} {ta tb tc : TE} {pos : Pos}
theorem binT (ha : PE X a ta) (hb : PE X b tb) {pins : List (Addr × Obj)} {s : Shared} {σ : St} {H : Hp} {R : V → V → Hp → Prop} (I : Inv X pins σ H s)
    (h : ta σ H fun x H1 => tb σ H1 fun y H2 => R x y H2) {Q : Value → Shared → Prop} {f : Value → Value → Sem Value}
    (hf : ∀ v u s2 x y H2,Inv X pins σ H2 s2 → RelV x v → RelV y u → R x y H2 → wpAny (model X.prog X.w) X.A (f v u) Q X.xe s2) :
    wpAny (model X.prog X.w) X.A (eval a X.env) (fun v s₁ => wpAny (model X.prog X.w) X.A (eval b X.env) (fun u s₂ => wpAny (model X.prog X.w) X.A (f v u) Q X.xe s₂) X.xe s₁) X.xe s := by
  refine thn (ha pins s σ H _ I h) fun v s1 ⟨x,H1,I1,r1,q1⟩ => ?_
  refine thn (hb pins s1 σ H1 _ I1 q1) fun u s2 ⟨y,H2,I2,r2,q2⟩ => ?_
  exact hf v u s2 x y H2 I2 r1 r2 q2
theorem pe_op {op : Operator} {r : R2} (ho : OpR X (binaryOp op) r) (ha : PE X a ta) (hb : PE X b tb) : PE X (.BinOp a op b pos) (tOp r ta tb) := by
  intro pins s σ H Q I h
  exact wpAny_BinOp (binT ha hb I h fun v u s2 x y H2 I2 rx ry q => ho pins s2 σ H2 x y v u Q I2 rx ry q)
theorem opI {f : Value → Value → Sem Value} {C : Int → Int → Prop} {g : Int → Int → Int}
    (rule : ∀ (i j : Int) (t u : Tok) (s : Shared) (Q : Value → Shared → Prop) (E : Value → Shared → Prop),C i j → Q (.int (g i j) s.toks) { s with toks := s.toks + 1 } → wpAny (model X.prog X.w) X.A (f (.int i t) (.int j u)) Q E s) :
    OpR X f (rI C fun i j => .int (g i j)) := by
  intro pins s σ H x y v u Q I rx ry h
  obtain ⟨i,j,rfl,rfl,hc,q⟩ := h
  obtain ⟨t,rfl⟩ := rx
  obtain ⟨t',rfl⟩ := ry
  exact rule i j t t' s _ _ hc ⟨.int (g i j),H,I.tok _,⟨_,rfl⟩,q⟩
theorem opI0 {f : Value → Value → Sem Value} {g : Int → Int → Int}
    (rule : ∀ (i j : Int) (t u : Tok) (s : Shared) (Q : Value → Shared → Prop) (E : Value → Shared → Prop),Q (.int (g i j) s.toks) { s with toks := s.toks + 1 } → wpAny (model X.prog X.w) X.A (f (.int i t) (.int j u)) Q E s) :
    OpR X f (rI0 fun i j => .int (g i j)) := by
  intro pins s σ H x y v u Q I rx ry h
  obtain ⟨i,j,rfl,rfl,q⟩ := h
  obtain ⟨t,rfl⟩ := rx
  obtain ⟨t',rfl⟩ := ry
  exact rule i j t t' s _ _ ⟨.int (g i j),H,I.tok _,⟨_,rfl⟩,q⟩
theorem opB0 {f : Value → Value → Sem Value} {g : Int → Int → Bool}
    (rule : ∀ (i j : Int) (t u : Tok) (s : Shared) (Q : Value → Shared → Prop) (E : Value → Shared → Prop),Q (.bool (g i j)) s → wpAny (model X.prog X.w) X.A (f (.int i t) (.int j u)) Q E s) :
    OpR X f (rI0 fun i j => .bl (g i j)) := by
  intro pins s σ H x y v u Q I rx ry h
  obtain ⟨i,j,rfl,rfl,q⟩ := h
  obtain ⟨t,rfl⟩ := rx
  obtain ⟨t',rfl⟩ := ry
  exact rule i j t t' s _ _ ⟨.bl (g i j),H,I,rfl,q⟩
def CDiv (i j : Int) : Prop := 0 < j ∧ j < 1073741824
def CPow (i j : Int) : Prop := 0 ≤ j ∧ j ≤ 1000000 ∧ i.natAbs < 2 ^ 64
def CMul (i j : Int) : Prop := (-(2 ^ 64) < i ∧ i < 2 ^ 64) ∨ (-(2 ^ 64) < j ∧ j < 2 ^ 64)
theorem CMul.ok {i j : Int} (h : CMul i j) : IntMulOk i j := by
  rcases h with ⟨h1,h2⟩ | ⟨h1,h2⟩
  · exact .of_left (intBits_le_64 h1 h2)
  · exact .of_right (intBits_le_64 h1 h2)
theorem op_add : OpR X (binaryOp .Add) (rI0 fun i j => .int (i + j)) := opI0 fun _ _ _ _ _ _ _ q => add_int q
theorem op_sub : OpR X (binaryOp .Sub) (rI0 fun i j => .int (i - j)) := opI0 fun _ _ _ _ _ _ _ q => sub_int q
theorem op_mul : OpR X (binaryOp .Mult) (rI CMul fun i j => .int (i * j)) := opI fun _ _ _ _ _ _ _ hc q => mul_int q hc.ok
theorem op_fdiv : OpR X (binaryOp .FloorDiv) (rI CDiv fun i j => .int (i / j)) := opI fun i j _ _ _ _ _ hc q => by
  have h1 : (0 : Int) < j := hc.1
  have h2 : j < 1073741824 := hc.2
  exact floordiv_int (by omega) (by rw [Int.fdiv_eq_ediv_of_nonneg i (by omega)]; exact q) (.inl (PyProof.noPylong_small (by omega)))
theorem op_mod : OpR X (binaryOp .Mod) (rI (fun _ j => 0 < j) fun i j => .int (i % j)) := opI fun i j _ _ _ _ _ hc q => by
  have h1 : (0 : Int) < j := hc
  exact mod_int' (by omega) (by rw [Int.fmod_eq_emod_of_nonneg i (by omega)]; exact q)
theorem op_pow : OpR X (binaryOp .Pow) (rI CPow fun i j => .int (i ^ j.toNat)) := opI fun _ _ _ _ _ _ _ hc q => pow_int_small hc.1 hc.2.1 hc.2.2 q
end
def scal : V → V → Bool
  | .non,.non => true | .non,.int _ => true | .int _,.non => true | .non,.bl _ => true | .bl _,.non => true | .non,.str _ => true | .str _,.non => true
  | .int _,.int _ => true | .bl _,.bl _ => true | .str _,.str _ => true | .byt _,.byt _ => true
  | .int _,.str _ => true | .str _,.int _ => true | .bl _,.str _ => true | .str _,.bl _ => true
  | _,_ => false
def rEq : R2 := fun x y H Q => scal x y = true ∧ Q (.bl (decide (x = y))) H
def rNe : R2 := fun x y H Q => scal x y = true ∧ Q (.bl (!decide (x = y))) H
theorem dec_int {i j : Int} : decide (V.int i = V.int j) = (i == j) := by
  rw [Bool.eq_iff_iff]
  simp
theorem dec_bl {i j : Bool} : decide (V.bl i = V.bl j) = (i == j) := by
  rw [Bool.eq_iff_iff]
  simp
theorem dec_str {i j : Str} : decide (V.str i = V.str j) = (i == j) := by
  rw [Bool.eq_iff_iff]
  simp
theorem dec_byt {i j : Array UInt8} : decide (V.byt i = V.byt j) = (i.toList == j.toList) := by
  rw [Bool.eq_iff_iff]
  cases i
  cases j
  simp
section
variable {X : Cx} {a b c : Expr} {ta tb tc : TE} {pos : Pos}
theorem fin_bl {pins : List (Addr × Obj)} {σ : St} {H : Hp} {s : Shared} {Q : VK} {k k' : Bool} (I : Inv X pins σ H s) (q : Q (.bl k) H) (e : k = k') : EP X pins σ Q (.bool k') s := by
  subst e
  exact ⟨.bl k,H,I,rfl,q⟩
theorem op_eq : OpR X (compareOp .Eq) rEq := by
  intro pins s σ H x y v u Q I rx ry h
  obtain ⟨hs,q⟩ := h
  cases x with
  | non =>
    cases rx
    cases y with
    | non => cases ry; exact PySem.EqNone.eq_none_none (fin_bl I q (by simp))
    | bl j => cases ry; exact PySem.EqNone.eq_none_bool (fin_bl I q (by simp))
    | int j => obtain ⟨t',rfl⟩ := ry; exact PySem.EqNone.eq_none_int (fin_bl I q (by simp))
    | str j => obtain ⟨t',rfl⟩ := ry; exact PySem.EqNone.eq_none_str (fin_bl I q (by simp))
    | _ => exact absurd (show false = true from hs) Bool.false_ne_true
  | bl i =>
    cases rx
    cases y with
    | non => cases ry; exact PySem.EqNone.eq_bool_none (fin_bl I q (by simp))
    | bl j => cases ry; exact eq_bool (fin_bl I q dec_bl)
    | str j => obtain ⟨t',rfl⟩ := ry; exact PySem.EqMixed.eq_bool_str (fin_bl I q (by simp))
    | _ => exact absurd (show false = true from hs) Bool.false_ne_true
  | int i =>
    obtain ⟨t,rfl⟩ := rx
    cases y with
    | non => cases ry; exact PySem.EqNone.eq_int_none (fin_bl I q (by simp))
    | int j => obtain ⟨t',rfl⟩ := ry; exact eq_int (fin_bl I q dec_int)
    | str j => obtain ⟨t',rfl⟩ := ry; exact PySem.EqMixed.eq_int_str (fin_bl I q (by simp))
    | _ => exact absurd (show false = true from hs) Bool.false_ne_true
  | str i =>
    obtain ⟨t,rfl⟩ := rx
    cases y with
    | non => cases ry; exact PySem.EqNone.eq_str_none (fin_bl I q (by simp))
    | bl j => cases ry; exact PySem.EqMixed.eq_str_bool (fin_bl I q (by simp))
    | int j => obtain ⟨t',rfl⟩ := ry; exact PySem.EqMixed.eq_str_int (fin_bl I q (by simp))
    | str j => obtain ⟨t',rfl⟩ := ry; exact eq_str (fin_bl I q dec_str)
    | _ => exact absurd (show false = true from hs) Bool.false_ne_true
  | byt i =>
    obtain ⟨t,rfl⟩ := rx
    cases y with
    | byt j => obtain ⟨t',rfl⟩ := ry; exact PySem.W.eq_bytes (fin_bl I q dec_byt)
    | _ => exact absurd (show false = true from hs) Bool.false_ne_true
  | _ => cases y <;> exact absurd (show false = true from hs) Bool.false_ne_true
theorem op_ne : OpR X (compareOp .NotEq) rNe := by
  intro pins s σ H x y v u Q I rx ry h
  obtain ⟨hs,q⟩ := h
  cases x with
  | non =>
    cases rx
    cases y with
    | non => cases ry; exact PySem.EqNone.ne_none_none (fin_bl I q (by simp))
    | bl j => cases ry; exact PySem.EqNone.ne_none_bool (fin_bl I q (by simp))
    | int j => obtain ⟨t',rfl⟩ := ry; exact PySem.EqNone.ne_none_int (fin_bl I q (by simp))
    | str j => obtain ⟨t',rfl⟩ := ry; exact PySem.EqNone.ne_none_str (fin_bl I q (by simp))
    | _ => exact absurd (show false = true from hs) Bool.false_ne_true
  | bl i =>
    cases rx
    cases y with
    | non => cases ry; exact PySem.EqNone.ne_bool_none (fin_bl I q (by simp))
    | bl j => cases ry; exact ne_bool (fin_bl I q (congrArg not dec_bl))
    | str j => obtain ⟨t',rfl⟩ := ry; exact PySem.EqMixed.ne_bool_str (fin_bl I q (by simp))
    | _ => exact absurd (show false = true from hs) Bool.false_ne_true
  | int i =>
    obtain ⟨t,rfl⟩ := rx
    cases y with
    | non => cases ry; exact PySem.EqNone.ne_int_none (fin_bl I q (by simp))
    | int j => obtain ⟨t',rfl⟩ := ry; exact ne_int (fin_bl I q (congrArg not dec_int))
    | str j => obtain ⟨t',rfl⟩ := ry; exact PySem.EqMixed.ne_int_str (fin_bl I q (by simp))
    | _ => exact absurd (show false = true from hs) Bool.false_ne_true
  | str i =>
    obtain ⟨t,rfl⟩ := rx
    cases y with
    | non => cases ry; exact PySem.EqNone.ne_str_none (fin_bl I q (by simp))
    | bl j => cases ry; exact PySem.EqMixed.ne_str_bool (fin_bl I q (by simp))
    | int j => obtain ⟨t',rfl⟩ := ry; exact PySem.EqMixed.ne_str_int (fin_bl I q (by simp))
    | str j => obtain ⟨t',rfl⟩ := ry; exact ne_str (fin_bl I q (congrArg not dec_str))
    | _ => exact absurd (show false = true from hs) Bool.false_ne_true
  | byt i =>
    obtain ⟨t,rfl⟩ := rx
    cases y with
    | byt j => obtain ⟨t',rfl⟩ := ry; exact PySem.W.ne_bytes (fin_bl I q (congrArg not dec_byt))
    | _ => exact absurd (show false = true from hs) Bool.false_ne_true
  | _ => cases y <;> exact absurd (show false = true from hs) Bool.false_ne_true
theorem op_lt : OpR X (compareOp .Lt) (rI0 fun i j => .bl (decide (i < j))) := opB0 fun _ _ _ _ _ _ _ q => lt_int q
theorem op_le : OpR X (compareOp .LtE) (rI0 fun i j => .bl (decide (i ≤ j))) := opB0 fun _ _ _ _ _ _ _ q => le_int q
theorem op_gt : OpR X (compareOp .Gt) (rI0 fun i j => .bl (decide (j < i))) := opB0 fun _ _ _ _ _ _ _ q => gt_int q
theorem op_ge : OpR X (compareOp .GtE) (rI0 fun i j => .bl (decide (j ≤ i))) := opB0 fun _ _ _ _ _ _ _ q => ge_int q
theorem nomark (b : Expr) {op : CmpOp} (h : op ≠ .In := by decide) (h2 : op ≠ .NotIn := by decide) : behindInMarks op b = false := by
  have e1 : (op == CmpOp.In) = false := by cases op <;> first | rfl | exact absurd rfl h
  have e2 : (op == CmpOp.NotIn) = false := by cases op <;> first | rfl | exact absurd rfl h2
  cases b <;> simp [behindInMarks,e1,e2]
theorem pe_cmpR {op : CmpOp} {r : R2} (ho : OpR X (compareOp op) r) (ha : PE X a ta) (hb : PE X b tb) (hm : behindInMarks op b = false) : PE X (.Compare a [op] [b] pos) (tOp r ta tb) := by
  intro pins s σ H Q I h
  exact wpAny_Compare1 (binT ha hb I h fun v u s2 x y H2 I2 rx ry q => ho pins s2 σ H2 x y v u Q I2 rx ry q) hm
def tTest (t : TE) : TT := fun σ H Q => t σ H fun x H' => ∃ k,x = .bl k ∧ Q k H'
theorem pt_cmpR {op : CmpOp} {r : R2} (ho : OpR X (compareOp op) r) (ha : PE X a ta) (hb : PE X b tb) (hm : behindInMarks op b = false) : PT X (.Compare a [op] [b] pos) (tTest (tOp r ta tb)) := by
  intro pins s σ H Q I h
  refine wpAny_isTrue_Compare1 (thn (ha pins s σ H _ I h) fun v s1 ⟨x,H1,I1,r1,q1⟩ => thn (hb pins s1 σ H1 _ I1 q1) fun u s2 ⟨y,H2,I2,r2,q2⟩ =>
    thn (ho pins s2 σ H2 x y v u _ I2 r1 r2 q2) fun c s3 ⟨z,H3,I3,r3,k,e,q3⟩ => ?_) hm
  subst e
  cases r3
  exact wpAny_truthy_bool ⟨H3,I3,q3⟩
def tChain (r r' : R2) (ta tb tc : TE) : TE := fun σ H Q => ta σ H fun x H1 => tb σ H1 fun y H2 => r x y H2 fun z H3 => ∃ k,z = .bl k ∧
  (if k = true then tc σ H3 fun w' H4 => r' y w' H4 Q else Q (.bl false) H3)
theorem pt_chain {op op' : CmpOp} {r r' : R2} (ho : OpR X (compareOp op) r) (ho' : OpR X (compareOp op') r') (ha : PE X a ta) (hb : PE X b tb) (hc : PE X c tc)
    (hm : lastMarks [op,op'] [b,c] = false := by with_unfolding_all rfl) : PT X (.Compare a [op,op'] [b,c] pos) (tTest (tChain r r' ta tb tc)) := by
  intro pins s σ H Q I h
  refine isTrue_chain (thn (ha pins s σ H _ I h) fun v s1 ⟨x,H1,I1,r1,q1⟩ => test_link (thn (hb pins s1 σ H1 _ I1 q1) fun u s2 ⟨y,H2,I2,r2,q2⟩ =>
    thn (ho pins s2 σ H2 x y v u _ I2 r1 r2 q2) fun d s3 ⟨z,H3,I3,r3,k,e,q3⟩ => ?_)) hm
  subst e
  cases r3
  refine wpAny_truthy_bool ?_
  cases k with
  | false =>
    obtain ⟨k',e',q'⟩ := q3
    cases e'
    exact ite_ff ⟨H3,I3,q'⟩
  | true =>
    refine ite_tt (test_last (thn (hc pins s3 σ H3 _ I3 q3) fun w' s4 ⟨z',H4,I4,r4,q4⟩ => thn (ho' pins s4 σ H4 y z' u w' _ I4 r2 r4 q4) fun d' s5 ⟨z2,H5,I5,r5,k2,e2,q5⟩ => ?_))
    subst e2
    cases r5
    exact wpAny_truthy_bool ⟨H5,I5,q5⟩
def TruV (K : PySem.W.Frag) (x : V) (H : Hp) (k : Bool) : Prop :=
  match x with
  | .non => k = false
  | .bl b => k = b
  | .int i => k = (i != 0)
  | .str y => y.length ≤ sizeLine ∧ k = ((y.length : Int) != 0)
  | .byt y => y.size ≤ sizeLine ∧ k = ((y.size : Int) != 0)
  | .ref p => (∃ xs,SqL K H p xs ∧ k = !xs.isEmpty) ∨ (∃ xs,SqT K H p xs ∧ k = !xs.isEmpty) ∨ ∃ kvs,H p = some (.dK kvs) ∧ k = !kvs.isEmpty
  | _ => False
theorem isEmpty_kv {κ : Type} {kvs : List (κ × V)} {vs : List (κ × Value)} (r : KV kvs vs) : (!vs.isEmpty) = !kvs.isEmpty := by
  cases r <;> rfl
theorem isEmpty_of {xs : List V} {its : List Value} (r : Vals xs its) : (!its.toArray.isEmpty) = !xs.isEmpty := by
  cases r <;> simp
theorem line63 : (sizeLine : Nat) < 2 ^ 63 := by rw [sizeLine_eq]; decide
theorem tru_ok : TruR X (fun x H Q => ∃ k,TruV X.K x H k ∧ Q k H) := by
  intro pins s σ H x v Q I rx h
  obtain ⟨k,e,q⟩ := h
  have hl := line63
  have hs : sizeLine = 16777216 := sizeLine_eq
  cases x with
  | non =>
    cases rx
    have e' : k = false := e
    subst e'
    exact truthy_none ⟨H,I,q⟩
  | bl b =>
    cases rx
    have e' : k = b := e
    subst e'
    exact wpAny_truthy_bool ⟨H,I,q⟩
  | int i =>
    obtain ⟨t,rfl⟩ := rx
    have e' : k = (i != 0) := e
    subst e'
    exact PySem.P.truthy_int ⟨H,I,q⟩
  | str y =>
    obtain ⟨t,rfl⟩ := rx
    obtain ⟨hy,e'⟩ : y.length ≤ sizeLine ∧ k = ((y.length : Int) != 0) := e
    subst e'
    exact PySem.P.truthy_str (by omega) ⟨H,I.tok _,q⟩
  | byt y =>
    obtain ⟨t,rfl⟩ := rx
    obtain ⟨hy,e'⟩ : y.size ≤ sizeLine ∧ k = ((y.size : Int) != 0) := e
    subst e'
    exact PySem.W.truthy_bytes (by omega) ⟨H,I.tok _,q⟩
  | ref p =>
    cases rx
    have e' : (∃ xs,SqL X.K H p xs ∧ k = !xs.isEmpty) ∨ (∃ xs,SqT X.K H p xs ∧ k = !xs.isEmpty) ∨ ∃ kvs,H p = some (.dK kvs) ∧ k = !kvs.isEmpty := e
    rcases e' with ⟨xs,hx,e'⟩ | ⟨xs,hx,e'⟩ | ⟨kvs,hx,e'⟩
    · subst e'
      obtain ⟨its,r,pl,hz⟩ := I.list hx
      have hlen := r.length
      exact wpAny_truthy_list pl.isList (by simp only [List.size_toArray]; omega) ⟨H,I.tok _,by rw [isEmpty_of r]; exact q⟩
    · subst e'
      obtain ⟨its,r,pl,hz⟩ := I.tuple hx
      have hlen := r.length
      exact truthy_tuple pl (by simp only [List.size_toArray]; omega) ⟨H,I.tok _,by rw [isEmpty_of r]; exact q⟩
    · subst e'
      obtain ⟨hz,hS,vs,r,m⟩ : kvs.length ≤ sizeLine ∧ (p == sysModules) = false ∧ ∃ vs,KV kvs vs ∧ s.heap.DictOf (mixKind X.prog X.w) p vs := I.hok p _ hx
      have hlen : kvs.length = vs.length := Paired.length r
      exact wpAny_truthy_dict hS m (by omega) ⟨H,I.tok _,by rw [isEmpty_kv r]; exact q⟩
  | _ => exact (show False from e).elim
theorem pt_truth (ha : PE X a ta) (he : ∀ whole,isTrue a X.env whole = (do let v ← whole; standAt a.pos; holding [v] (truthy v))) :
    PT X a (fun σ H Q => ta σ H fun x H' => ∃ k,TruV X.K x H' k ∧ Q k H') := by
  intro pins s σ H Q I h
  exact isTrue_plain (thn (ha pins s σ H _ I h) fun v s1 ⟨x,H1,I1,r1,q1⟩ => tru_ok pins s1 σ H1 x v Q I1 r1 q1) (he _)
theorem vals1 {x : V} {us : List Value} (r : Vals [x] us) : ∃ u,us = [u] ∧ RelV x u := by
  cases r with
  | cons r1 r2 => cases r2; exact ⟨_,rfl,r1⟩
theorem vals2 {x y : V} {us : List Value} (r : Vals [x,y] us) : ∃ u w',us = [u,w'] ∧ RelV x u ∧ RelV y w' := by
  cases r with
  | cons r1 r2 =>
    cases r2 with
    | cons r3 r4 => cases r4; exact ⟨_,_,rfl,r1,r3⟩
theorem call_max2 (hc : X.calm = true) : CallR X (.builtin "max") (fun xs H Q => ∃ i j,xs = [.int i,.int j] ∧ Q (.int (if j > i then j else i)) H) := by
  intro pins s σ H xs us Q I r h
  obtain ⟨i,j,rfl,q⟩ := h
  obtain ⟨u,w',rfl,⟨t,rfl⟩,⟨t',rfl⟩⟩ := vals2 r
  refine max_two_ints (I.ok.hd hc) fun h' tk k => ⟨_,H,I.kept k,?_,q⟩
  by_cases hj : j > i
  · rw [if_pos hj,if_pos hj]; exact ⟨_,rfl⟩
  · rw [if_neg hj,if_neg hj]; exact ⟨_,rfl⟩
theorem call_min2 (hc : X.calm = true) : CallR X (.builtin "min") (fun xs H Q => ∃ i j,xs = [.int i,.int j] ∧ Q (.int (if j < i then j else i)) H) := by
  intro pins s σ H xs us Q I r h
  obtain ⟨i,j,rfl,q⟩ := h
  obtain ⟨u,w',rfl,⟨t,rfl⟩,⟨t',rfl⟩⟩ := vals2 r
  refine min_two_ints (I.ok.hd hc) fun h' tk k => ⟨_,H,I.kept k,?_,q⟩
  by_cases hj : j < i
  · rw [if_pos hj,if_pos hj]; exact ⟨_,rfl⟩
  · rw [if_neg hj,if_neg hj]; exact ⟨_,rfl⟩
theorem call_int1 : CallR X (.type "int") (fun xs H Q => (∃ i,xs = [.int i] ∧ Q (.int i) H) ∨ ∃ k,xs = [.bl k] ∧ Q (.int (if k then 1 else 0)) H) := by
  intro pins s σ H xs us Q I r h
  rcases h with ⟨i,rfl,q⟩ | ⟨k,rfl,q⟩
  · obtain ⟨u,rfl,t,rfl⟩ := vals1 r
    exact call_int_int ⟨.int i,H,I,⟨_,rfl⟩,q⟩
  · obtain ⟨u,rfl,r1⟩ := vals1 r
    cases r1
    exact call_int_bool ⟨.int (if k then 1 else 0),H,I.tok _,⟨_,rfl⟩,q⟩
end
end L2
namespace L2
open PySem PySem.Spec PyProof.Rows
structure ObjM (h : Heap) (x dx C : Addr) (mA : Str → Option Value) : Prop where
  obj : h.get? x = some (PySem.W.instObj C dx)
  ns : h.Ns1 dx mA
  ne : dx ≠ x
theorem lookIn_ns {h : Heap} {dx : Addr} {mA : Str → Option Value} (n : h.Ns1 dx mA) : ∃ od,h.get? dx = some od ∧ ∀ name,PySem.W.lookIn name od = some (mA name) := by
  obtain ⟨o,es,ep,ho,hd,hk,_,hm⟩ := n
  refine ⟨o,ho,fun name => ?_⟩
  have e := hm name
  unfold nsFind findBy at e
  rw [← Array.find?_toList] at e
  unfold PySem.W.lookIn
  rw [hd]
  dsimp only
  split
  · rename_i y q
    rw [q] at e
    exact congrArg some e
  · rename_i q
    rw [q] at e
    have a : es.toList.any (·.refKey) = false := by
      rw [List.any_eq_false]
      intro y hy
      obtain ⟨z,t,hkey⟩ := hk y (Array.mem_toList_iff.mp hy)
      simp [DictEntry.refKey,hkey]
    have a' : ¬ es.toList.any (·.refKey) = true := by rw [a]; exact Bool.false_ne_true
    rw [if_neg a']
    exact congrArg some e
theorem ObjM.look {h : Heap} {x dx C : Addr} {mA : Str → Option Value} (I : ObjM h x dx C mA) : ∃ od,PySem.W.InstAt h x (PySem.W.instObj C dx) C (some od) ∧ ∀ name,PySem.W.lookIn name od = some (mA name) :=
  let ⟨od,ho,hl⟩ := lookIn_ns I.ns
  ⟨od,⟨I.obj,rfl,rfl,ho⟩,hl⟩
section
variable {prog : Program} {w : World} {A : Around} {E : Value → Shared → Prop} {s : Shared} {K : PySem.W.Frag} {x dx C f : Addr} {mA : Str → Option Value} {name : Str} {v : Value}
theorem get_map {expr : Bool} {Q : Value → Shared → Prop} (X : K.In s.heap) (I : ObjM s.heap x dx C mA) (hg : PySem.W.plainGet K C name = true) (hh : PySem.W.hasDictIn K C = true)
    (ha : PySem.W.findIn K (.ref C) name = some none) (hv : mA name = some v) (hv' : PySem.W.handedIn v = true) (h : Q v { s with toks := s.toks + 1 }) :
    wpAny (model prog w) A (getAttr (.ref x) name expr) Q E s := by
  obtain ⟨od,J,hl⟩ := I.look
  exact PySem.W.get_value X J (PySem.W.plainGet_of hg).1 (PySem.W.findObj_own hh ha rfl (by rw [hl,hv])) hv' h
theorem get_meth {pl : Sem Bool} {Q : Value × List Value → Shared → Prop} (X : K.In s.heap) (I : ObjM s.heap x dx C mA) (hg : PySem.W.plainGet K C name = true)
    (hf : PySem.W.findIn K (.ref C) name = some (some (.ref f))) (ht : PySem.W.isFn K (.ref f) = true) (hv : mA name = none) (h : Q (.ref f,[.ref x]) s) :
    wpAny (model prog w) A (getMethod (.ref x) name pl) Q E s := by
  obtain ⟨od,J,hl⟩ := I.look
  exact PySem.W.method_fn X J (PySem.W.plainGet_of hg).1 (PySem.W.plainGet_of hg).2 hf (beq_iff_eq.mp ht) (by show (PySem.W.lookIn name od).map (·.isSome) = some false; rw [hl,hv]; rfl) h
theorem set_map {ns : List Str} {Q : Unit → Shared → Prop} (X : K.In s.heap) (I : ObjM s.heap x dx C mA)
    (hs : PySem.W.findIn K (.ref C) "__setattr__" = some (some (.builtin "object.__setattr__"))) (hp : PySem.W.plainOver K C = true) (ht : PySem.W.takerIn K C name = some none) (hh : PySem.W.hasDictIn K C = true)
    (hw : PySem.Within mA ns) (hsz : ns.length ≤ sizeLine)
    (h : ∀ h',ObjM h' x dx C (fun y => if y = name then some v else mA y) → Heap.SameBut dx s.heap h' → Q () { s with heap := h',toks := s.toks + 2 }) :
    wpAny (model prog w) A (setAttr (.ref x) name v) Q E s := by
  obtain ⟨od,J,hl⟩ := I.look
  refine PySem.W.set_plain X J hs (PySem.W.osa_open (s := { s with toks := s.toks + 1 }) (r := none) X J hp ht fun b => ?_)
  obtain ⟨cd,hc,hd'⟩ := PySem.W.any_some hh
  have hx : s.heap.get? x = some ⟨.ref C,some dx,.plain,#[]⟩ := I.obj
  refine wpAny_bind (wpAny_pure (wpAny_bind (wpAny_bind (wpAny_loadPart hx (wpAny_bind (PySem.W.Looks.here (s := { s with toks := s.toks + 1 }) (PySem.W.looks_clsIn X hc) ?_))))))
  rw [hd']
  refine wpAny_pure (a := some dx) (wpAny_bind (wpAny_pure (wpAny_bind ?_)))
  refine wpAny_nsSet1 (s := { s with toks := s.toks + 1 }) I.ns fun h' hn2 hs2 => ?_
  obtain ⟨oD,esD,epD,hoD,hdD,hcD⟩ := hn2.count (PySem.Within.cons name v hw)
  refine wpAny_bind (wpAny_lookBehind hoD (by rw [hdD]; exact pastItsLine_dict (Nat.le_trans hcD (by rw [List.length_cons]; omega))) ?_)
  exact wpAny_pure (h _ ⟨(hs2.2 _ (Ne.symm I.ne)).trans I.obj,hn2,I.ne⟩ hs2)
theorem make_map {R : Result → Shared → Prop} {vs : List Value} {kw : List (Str × Value)} (X : K.In s.heap) (hm : PySem.W.makesIn K C = true)
    (hi : PySem.W.findIn K (.ref C) "__init__" = some (some (.ref f))) (hf : PySem.W.typeIn K (.ref f) = some (.type "function"))
    (h : codeAny (model prog w) (A.under (.builtin "type.__call__" ⟨.ref C :: vs,kw⟩)) (.call (.ref f) ⟨.ref (s.heap.objs.size + 1) :: vs,kw⟩) (PySem.W.InitBack (s.heap.objs.size + 1) R)
      { s with heap := (s.heap.push PySem.W.emptyDict).push (PySem.W.instObj C s.heap.objs.size) }) :
    codeAny (model prog w) A (.call (.ref C) ⟨vs,kw⟩) R s := by
  obtain ⟨hh,g,d,t,os⟩ := s
  exact PySem.W.make_core (PySem.W.makes_of X hm) (PySem.W.looks_findIn X hi) (fun self => PySem.W.bind_fn X self hf) (.inl rfl) h
end
def putF (f : Str) (v : V) : List (Str × V) → List (Str × V)
  | [] => [(f,v)]
  | (g,x) :: r => if g = f then (g,v) :: r else (g,x) :: putF f v r
theorem lookup_putF (f g : Str) (v : V) : ∀ fs : List (Str × V),(putF f v fs).lookup g = if g = f then some v else fs.lookup g
  | [] => by
    show List.lookup g [(f,v)] = _
    by_cases h : g = f
    · have hb : (g == f) = true := beq_iff_eq.mpr h
      simp only [List.lookup,hb,if_pos h]
    · have hb : (g == f) = false := beq_eq_false_iff_ne.mpr h
      simp only [List.lookup,hb,if_neg h]
  | (k,x) :: r => by
    have ih := lookup_putF f g v r
    rw [show putF f v ((k,x) :: r) = (if k = f then (k,v) :: r else (k,x) :: putF f v r) from rfl]
    by_cases hk : k = f
    · rw [if_pos hk]
      by_cases h : g = k
      · have hb : (g == k) = true := beq_iff_eq.mpr h
        simp only [List.lookup,hb,if_pos (h.trans hk)]
      · have hb : (g == k) = false := beq_eq_false_iff_ne.mpr h
        simp only [List.lookup,hb,if_neg (fun e : g = f => h (e.trans hk.symm))]
    · rw [if_neg hk]
      by_cases h : g = k
      · have hb : (g == k) = true := beq_iff_eq.mpr h
        simp only [List.lookup,hb,if_neg (fun e : g = f => hk (h.symm.trans e))]
      · have hb : (g == k) = false := beq_eq_false_iff_ne.mpr h
        simp only [List.lookup,hb]
        exact ih
theorem keys_putF (f : Str) (v : V) : ∀ fs : List (Str × V),f ∈ (putF f v fs).map (·.1) ∧ ∀ g,g ∈ fs.map (·.1) → g ∈ (putF f v fs).map (·.1)
  | [] => ⟨by simp [putF],fun g h => by simp at h⟩
  | (k,x) :: r => by
    obtain ⟨i1,i2⟩ := keys_putF f v r
    rw [show putF f v ((k,x) :: r) = (if k = f then (k,v) :: r else (k,x) :: putF f v r) from rfl]
    by_cases hk : k = f
    · rw [if_pos hk]
      subst hk
      exact ⟨by simp,fun g h => by simpa using h⟩
    · rw [if_neg hk]
      refine ⟨?_,fun g h => ?_⟩
      · rw [List.map_cons]
        exact List.mem_cons_of_mem _ i1
      · rw [List.map_cons] at h ⊢
        rcases List.mem_cons.mp h with e | e
        · exact List.mem_cons.mpr (.inl e)
        · exact List.mem_cons_of_mem _ (i2 g e)
theorem length_putF (f : Str) (v : V) : ∀ fs : List (Str × V),(putF f v fs).length ≤ fs.length + 1
  | [] => by simp [putF]
  | (k,x) :: r => by
    have ih := length_putF f v r
    rw [show putF f v ((k,x) :: r) = (if k = f then (k,v) :: r else (k,x) :: putF f v r) from rfl]
    by_cases hk : k = f
    · rw [if_pos hk,List.length_cons,List.length_cons]; omega
    · rw [if_neg hk,List.length_cons,List.length_cons]; omega
theorem RelO.some_of {v : V} {o : Option Value} (r : RelO (some v) o) : ∃ u,o = some u ∧ RelV v u := by
  cases o with
  | none => exact (show False from r).elim
  | some u => exact ⟨u,rfl,r⟩
theorem RelO.none_of {o : Option Value} (r : RelO none o) : o = none := by
  cases o with
  | none => rfl
  | some u => exact (show False from r).elim
theorem handed_of {v : V} {u : Value} (r : RelV v u) : PySem.W.handedIn u = true := by
  cases v with
  | non => cases (show u = Value.none from r); rfl
  | bl b => cases (show u = Value.bool b from r); rfl
  | int i => obtain ⟨t,e⟩ := (show ∃ t,u = Value.int i t from r); cases e; rfl
  | str x => obtain ⟨t,e⟩ := (show ∃ t,u = Value.str x t from r); cases e; rfl
  | byt b => obtain ⟨t,e⟩ := (show ∃ t,u = Value.bytes b t from r); cases e; rfl
  | flt b => obtain ⟨t,e⟩ := (show ∃ t,u = Value.float b t from r); cases e; rfl
  | ref a => cases (show u = Value.ref a from r); rfl
  | ty n => cases (show u = Value.type n from r); rfl
section
variable {P : Program} {w : World} {H H' : Hp} {h h' : Heap} {a C dx : Addr} {fs fs' : List (Str × V)}
theorem ins_get (hok : HOk P w H h) (e : H a = some (.ins C dx fs)) : ∃ mA,ObjM h a dx C mA ∧ (∀ f,RelO (fs.lookup f) (mA f)) ∧ PySem.Within mA (fs.map (·.1)) ∧ fs.length ≤ 1000 ∧ H dx = some (.own a) := by
  obtain ⟨d,z,ne,ob,mA,n,r,q⟩ := (show ObjOk P w H h a (.ins C dx fs) from hok a _ e)
  exact ⟨mA,⟨ob,n,ne⟩,r,q,z,d⟩
end
structure Cls (K : PySem.W.Frag) (C : Addr) : Prop where
  pg : PySem.W.plainGet K C Str.empty = true
  hd : PySem.W.hasDictIn K C = true
  po : PySem.W.plainOver K C = true
  sa : PySem.W.findIn K (.ref C) "__setattr__" = some (some (.builtin "object.__setattr__"))
theorem Cls.get {K : PySem.W.Frag} {C : Addr} (c : Cls K C) (f : Str) : PySem.W.plainGet K C f = true := c.pg
def NoAttr (K : PySem.W.Frag) (C : Addr) (f : Str) : Prop := PySem.W.findIn K (.ref C) f = some none
theorem NoAttr.taker {K : PySem.W.Frag} {C : Addr} {f : Str} (n : NoAttr K C f) : PySem.W.takerIn K C f = some none := by
  unfold PySem.W.takerIn
  rw [show PySem.W.findIn K (.ref C) f = some none from n]
  rfl
structure Con (K : PySem.W.Frag) (C : Addr) (f : Str) (v : V) (u : Value) : Prop where
  at_ : PySem.W.findIn K (.ref C) f = some (some u)
  rel : RelV v u
  get : PySem.W.specialIn K u "__get__" = some none
  cp : PySem.W.copiedNames.contains f = false
structure Meth (K : PySem.W.Frag) (C : Addr) (m : Str) (f : Addr) : Prop where
  at_ : PySem.W.findIn K (.ref C) m = some (some (.ref f))
  fn : PySem.W.isFn K (.ref f) = true
  kp : PySem.W.keepIn K (.ref f) = true
section
variable {X : Cx} {pins : List (Addr × Obj)} {σ : St} {H : Hp} {s : Shared} {a C dx : Addr} {fs : List (Str × V)} {f : Str} {v : V} {A : Around} {E : Value → Shared → Prop}
theorem getattr_ok {b : Bool} {Q : Value → Shared → Prop} (I : Inv X pins σ H s) (e : H a = some (.ins C dx fs)) (c : Cls X.K C) (n : NoAttr X.K C f) (l : fs.lookup f = some v)
    (h : ∀ u s',Inv X pins σ H s' → RelV v u → Q u s') : wpAny (model X.prog X.w) A (getAttr (.ref a) f b) Q E s := by
  obtain ⟨mA,O,r,_,_,_⟩ := ins_get I.hok e
  obtain ⟨u,hu,ru⟩ := RelO.some_of (v := v) (o := mA f) (by rw [← l]; exact r f)
  exact get_map I.kIn O (c.get f) c.hd n hu (handed_of ru) (h u _ (I.tok _) ru)
theorem getmeth_ok {m : Str} {g : Addr} {pl : Sem Bool} {Q : Value × List Value → Shared → Prop} (I : Inv X pins σ H s) (e : H a = some (.ins C dx fs)) (c : Cls X.K C) (k : Meth X.K C m g) (l : fs.lookup m = none)
    (h : Q (.ref g,[.ref a]) s) : wpAny (model X.prog X.w) A (getMethod (.ref a) m pl) Q E s := by
  obtain ⟨mA,O,r,_,_,_⟩ := ins_get I.hok e
  have hn : mA m = none := RelO.none_of (by rw [← l]; exact r m)
  exact get_meth I.kIn O (c.get m) k.at_ k.fn hn h
theorem setattr_ok {y : V} {u : Value} {Q : Unit → Shared → Prop} (I : Inv X pins σ H s) (e : H a = some (.ins C dx fs)) (c : Cls X.K C) (n : NoAttr X.K C f) (hl : fs.length < 1000) (ry : RelV y u)
    (h : ∀ s',Inv X pins σ (upd H a (.ins C dx (putF f y fs))) s' → Q () s') : wpAny (model X.prog X.w) A (setAttr (.ref a) f u) Q E s := by
  obtain ⟨mA,O,r,wi,_,ho⟩ := ins_get I.hok e
  have hz : (fs.map (·.1)).length ≤ sizeLine := by rw [List.length_map,sizeLine_eq]; omega
  refine set_map I.kIn O c.sa c.po n.taker c.hd wi hz fun h' O' sb => h _ ?_
  have hd : ∃ o,h'.get? dx = some o := let ⟨o,_,_,e',_⟩ := O'.ns; ⟨o,e'⟩
  refine I.write (x := a) (e := dx) (by rw [e]; exact True.intro) (.inr ho) (fun b q hb z => (sb.2 b hb).trans z) hd ?_
  refine ⟨by rw [upd_ne O.ne]; exact ho,?_,O.ne,O'.obj,_,O'.ns,fun g => ?_,fun g hg => ?_⟩
  · have := length_putF f y fs; omega
  · show RelO ((putF f y fs).lookup g) (if g = f then some u else mA g)
    rw [lookup_putF]
    by_cases q : g = f
    · rw [if_pos q,if_pos q]; exact ry
    · rw [if_neg q,if_neg q]; exact r g
  · by_cases q : g = f
    · rw [q]; exact (keys_putF f y fs).1
    · refine (keys_putF f y fs).2 g (wi g fun z => hg ?_)
      show (if g = f then some u else mA g) = none
      rw [if_neg q]; exact z
theorem Inv.made (I : Inv X pins σ H s) : Inv X pins σ (upd (upd H s.heap.objs.size (.own (s.heap.objs.size + 1))) (s.heap.objs.size + 1) (.ins C s.heap.objs.size []))
    { s with heap := (s.heap.push PySem.W.emptyDict).push (PySem.W.instObj C s.heap.objs.size) } := by
  have e1 : (s.heap.push PySem.W.emptyDict).get? s.heap.objs.size = some PySem.W.emptyDict := Heap.get?_push_size s.heap rfl
  have e2 : ((s.heap.push PySem.W.emptyDict).push (PySem.W.instObj C s.heap.objs.size)).get? (s.heap.objs.size + 1) = some (PySem.W.instObj C s.heap.objs.size) := by
    have := Heap.get?_push_size (s.heap.push PySem.W.emptyDict) (o := PySem.W.instObj C s.heap.objs.size) rfl
    rwa [Heap.size_push] at this
  have e3 : (s.heap.push PySem.W.emptyDict).Ns s.heap.objs.size (fun _ => none) := ⟨PySem.W.emptyDict,#[],_,e1,rfl,(fun e he => absurd he (by simp)),fun _ => rfl⟩
  have I1 := I.laid (a := s.heap.objs.size) (o := .own (s.heap.objs.size + 1)) (h' := s.heap.push PySem.W.emptyDict) (t' := s.toks) (fun b u q => Heap.get?_push_of_some _ q) (Nat.le_refl _) ⟨_,e1⟩
  refine I1.laid (a := s.heap.objs.size + 1) (o := .ins C s.heap.objs.size []) (t' := s.toks) (fun b u q => Heap.get?_push_of_some _ q) (Nat.le_of_eq (Heap.size_push _ _)) ?_
  have ne : s.heap.objs.size ≠ s.heap.objs.size + 1 := Nat.ne_of_lt (Nat.lt_succ_self _)
  refine ⟨by rw [upd_ne ne,upd_same],Nat.zero_le _,ne,e2,fun _ => none,(Heap.Ns1.of_empty e3).at fun o q => Heap.get?_push_of_some _ q,fun _ => True.intro,fun y hy => absurd rfl hy⟩
theorem attr_of {prog : Program} {w : World} {env : Env} {e : Expr} {f : Str} {pos : Pos} {s : Shared} {Q : Value → Shared → Prop} (hb : attributeBase e f env (eval e env) = eval e env)
    (h : wpAny (model prog w) A (eval e env) (fun o s₁ => wpAny (model prog w) A (getAttr o f true) Q E s₁) E s) : wpAny (model prog w) A (eval (.Attribute e f pos) env) Q E s :=
  Attribute_any_ h (by rw [arm_eval_Attribute,hb])
end
def tFld (K : PySem.W.Frag) (ta : TE) (f : Str) : TE := fun σ H Q => ta σ H fun x H1 => ∃ a C dx fs v,x = .ref a ∧ H1 a = some (.ins C dx fs) ∧ Cls K C ∧ NoAttr K C f ∧ fs.lookup f = some v ∧ Q v H1
def sFld (K : PySem.W.Frag) (ta tv : TE) (f : Str) : TS := fun D σ H => tv σ H fun y H1 => ta σ H1 fun x H2 => ∃ a C dx fs,x = .ref a ∧ H2 a = some (.ins C dx fs) ∧ Cls K C ∧ NoAttr K C f ∧ fs.length < 1000 ∧
  D.nx σ (upd H2 a (.ins C dx (putF f y fs)))
section
variable {X : Cx} {o e value : Expr} {f : Str} {pos pos' tpos : Pos} {ta tv : TE}
theorem pe_fld (he : PE X e ta) (hb : attributeBase e f X.env (eval e X.env) = eval e X.env) : PE X (.Attribute e f pos) (tFld X.K ta f) := by
  intro pins s σ H Q I h
  refine attr_of hb (thn (he pins s σ H _ I h) fun u s1 ⟨x,H1,I1,rx,a,C,dx,fs,v,ex,ea,c,n,l,q⟩ => ?_)
  subst ex
  obtain rfl : u = Value.ref a := rx
  exact getattr_ok I1 ea c n l fun u' s2 I2 ru => ⟨v,H1,I2,ru,q⟩
theorem ps_fld (ha : PE X o ta) (hv : PE X value tv) (hs : swapsWith value (some (.Attribute o f pos')) pos.line X.env = pure false) : PS X (.Assign [.Attribute o f pos'] value pos) (sFld X.K ta tv f) := by
  intro pins s σ H D I h
  refine plainObj_wpAny_Assign_Attribute (thn (hv pins s σ H _ I h) fun u s1 ⟨y,H1,I1,ry,q⟩ => thn (ha pins s1 σ H1 _ I1 q) fun ov s2 ⟨x,H2,I2,rx,a,C,dx,fs,ex,ea,c,n,l,q2⟩ => ?_) hs
  subst ex
  obtain rfl : ov = Value.ref a := rx
  exact setattr_ok I2 ea c n l ry fun s3 I3 => ⟨σ,_,I3,q2⟩
theorem methcall_of {pl : Sem Bool} {m : Str} {apos : Pos} {args : List Expr} {pins : List (Addr × Obj)} {s : Shared} {σ : St} {H : Hp} {Q : Value → Shared → Prop} {te : TE} (he : PE X e te) (I : Inv X pins σ H s)
    (h : te σ H fun x H1 => ∃ a C dx fs g,x = .ref a ∧ H1 a = some (.ins C dx fs) ∧ Cls X.K C ∧ Meth X.K C m g ∧ fs.lookup m = none ∧
      ∀ s1,Inv X pins σ H1 s1 → wpAny (model X.prog X.w) X.A (callWith pos (.ref g) [.ref a] (backTo pos (starEach args X.env)) (backToKw pos (keywordEach [] X.env))) Q X.xe s1)
    (ht : eval (.Call (.Attribute e m apos) args [] pos) X.env = (do
      let ov ← eval e X.env
      standAt apos.atName
      let (f,first) ← holding [ov] (getMethod ov m pl)
      callWith pos f first (backTo pos (starEach args X.env)) (backToKw pos (keywordEach [] X.env)))) :
    wpAny (model X.prog X.w) X.A (eval (.Call (.Attribute e m apos) args [] pos) X.env) Q X.xe s := by
  refine PySem.W.methodCall_KW (pl := pl) (thn (he pins s σ H _ I h) fun u s1 ⟨x,H1,I1,rx,a,C,dx,fs,g,ex,ea,c,k,l,q⟩ => ?_) ht
  subst ex
  obtain rfl : u = Value.ref a := rx
  exact getmeth_ok I1 ea c k l (q s1 I1)
end
section
variable {X : Cx} {pins : List (Addr × Obj)} {σ : St} {H : Hp} {s : Shared} {A : Around} {E : Value → Shared → Prop} {Q : Value → Shared → Prop} {c : Value} {b : Bool}
inductive TyOf (K : PySem.W.Frag) (H : Hp) : V → Value → Prop where
  | non : TyOf K H .non (.type "NoneType")
  | bl (x : Bool) : TyOf K H (.bl x) (.type "bool")
  | int (i : Int) : TyOf K H (.int i) (.type "int")
  | str (x : Str) : TyOf K H (.str x) (.type "str")
  | flt (x : UInt64) : TyOf K H (.flt x) (.type "float")
  | lst {a : Addr} {xs : List V} (e : H a = some (.lst xs)) : TyOf K H (.ref a) (.type "list")
  | frz {a : Addr} {o : Obj} {xs : List V} (e : H a = some (.frz o (.lst xs))) : TyOf K H (.ref a) (.type "list")
  | tup {a : Addr} {xs : List V} (e : H a = some (.tup xs)) : TyOf K H (.ref a) (.type "tuple")
  | dK {a : Addr} {kvs : List (Key × V)} (e : H a = some (.dK kvs)) : TyOf K H (.ref a) (.type "dict")
  | dT {a : Addr} {kvs : List (List Key × V)} (e : H a = some (.dT kvs)) : TyOf K H (.ref a) (.type "dict")
  | ins {a C dx : Addr} {fs : List (Str × V)} (e : H a = some (.ins C dx fs)) (cl : Cls K C) (ha : PySem.W.findIn K (.ref C) "__class__" = some (some (.builtin "object.__class__")))
      (hn : PySem.W.specialIn K (.builtin "object.__class__") "__get__" = some (some (.builtin "getset_descriptor.__get__"))) (htk : PySem.W.takesIn K (.builtin "object.__class__") = some true)
      (hm : PySem.W.mroIn K C (.type "object") = some true) : TyOf K H (.ref a) (.ref C)
theorem isinst_ok {x : V} {u t : Value} (I : Inv X pins σ H s) (rx : RelV x u) (ty : TyOf X.K H x t) (e : PySem.W.kitOne X.K t c = some b) (h : ∀ tk,Q (.bool b) { s with toks := tk }) :
    wpAny (model X.prog X.w) A (call (.builtin "isinstance") [u,c]) Q E s := by
  cases ty with
  | non => cases (show u = Value.none from rx); exact PySem.W.kia_one PySem.W.kitx_none I.kIn True.intro e (fun z => nomatch z) h
  | bl y => cases (show u = Value.bool y from rx); exact PySem.W.kia_one PySem.W.kitx_bool I.kIn True.intro e (fun z => nomatch z) h
  | int i => obtain ⟨t,q⟩ := (show ∃ t,u = Value.int i t from rx); cases q; exact PySem.W.kia_one PySem.W.kitx_int I.kIn True.intro e (fun z => nomatch z) h
  | str y => obtain ⟨t,q⟩ := (show ∃ t,u = Value.str y t from rx); cases q; exact PySem.W.kia_one PySem.W.kitx_str I.kIn True.intro e (fun z => nomatch z) h
  | flt y => obtain ⟨t,q⟩ := (show ∃ t,u = Value.float y t from rx); cases q; exact PySem.W.kia_one PySem.W.kitx_float I.kIn True.intro e (fun z => nomatch z) h
  | @lst a xs ea =>
    cases (show u = Value.ref a from rx)
    obtain ⟨_,_,n,_,h1⟩ := (show ObjOk X.prog X.w H s.heap a (.lst xs) from I.hok a _ ea)
    exact PySem.W.kia_one PySem.W.kitx_list I.kIn ⟨_,h1,rfl⟩ e (fun z => nomatch z) h
  | @frz a ob xs ea =>
    cases (show u = Value.ref a from rx)
    obtain ⟨_,_,_,n,_,h1⟩ := (show ObjOk X.prog X.w H s.heap a (.frz ob (.lst xs)) from I.hok a _ ea)
    exact PySem.W.kia_one PySem.W.kitx_list I.kIn ⟨_,h1,rfl⟩ e (fun z => nomatch z) h
  | @tup a xs ea =>
    cases (show u = Value.ref a from rx)
    obtain ⟨_,_,_,p⟩ := (show ObjOk X.prog X.w H s.heap a (.tup xs) from I.hok a _ ea)
    obtain ⟨o,h1,h2,_⟩ := p
    exact PySem.W.kia_one PySem.W.kitx_tuple I.kIn ⟨o,h1,h2⟩ e (fun z => nomatch z) h
  | @dK a kvs ea =>
    cases (show u = Value.ref a from rx)
    obtain ⟨_,_,vs,_,p⟩ := (show ObjOk X.prog X.w H s.heap a (.dK kvs) from I.hok a _ ea)
    obtain ⟨o,es,ep,h1,h2,_⟩ := p
    exact PySem.W.kia_one PySem.W.kitx_dict I.kIn ⟨o,h1,h2.1⟩ e (fun z => nomatch z) h
  | @dT a kvs ea =>
    cases (show u = Value.ref a from rx)
    obtain ⟨_,_,xs,_,o,es,ep,h1,h2,_⟩ := (show ObjOk X.prog X.w H s.heap a (.dT kvs) from I.hok a _ ea)
    exact PySem.W.kia_one PySem.W.kitx_dict I.kIn ⟨o,h1,h2.1⟩ e (fun z => nomatch z) h
  | @ins a C dx fs ea cl ha hn htk hm =>
    cases (show u = Value.ref a from rx)
    obtain ⟨mA,O,_⟩ := ins_get I.hok ea
    obtain ⟨od,J,_⟩ := O.look
    exact PySem.W.kia_one (PySem.W.kitx_own (cl.get _) cl.hd ha hn htk hm) I.kIn J e (fun z => nomatch z) h
end
end L2
namespace L2
open PySem PySem.Spec PyProof.Rows
structure Room (k : Nat) (A : Around) : Prop where
  hd : A.handled = none
  dp : A.depth + 3 * k + 5 < recursionLimit
  un : A.units + 16 * k + 200 < cLine
  gd : A.guards = some []
theorem Room.mono {j k : Nat} {A : Around} (r : Room k A) (h : j ≤ k) : Room j A := ⟨r.hd,by have := r.dp; omega,by have := r.un; omega,r.gd⟩
theorem Room.deeper {k : Nat} {A : Around} (r : Room (k + 1) A) (env : Env) : Room k (A.deeper env) :=
  ⟨r.hd,by have := r.dp; show A.depth + 1 + 3 * k + 5 < _; omega,by have := r.un; show A.units + 3 + 16 * k + 200 < _; omega,r.gd⟩
theorem make_depth {A : Around} {C : Addr} {us : List Value} {kw : List (Str × Value)} : (A.under (.builtin "type.__call__" ⟨.ref C :: us,kw⟩)).depth = A.depth + 1 := by
  first | rfl | simp [Around.under,Code.weight,Code.isCreation,Code.isGuard,Code.isCaller,Code.frames,Code.isFrame,guardIds]
theorem make_units {A : Around} {C : Addr} {us : List Value} {kw : List (Str × Value)} : (A.under (.builtin "type.__call__" ⟨.ref C :: us,kw⟩)).units = A.units + 1 := by
  first | rfl | simp [Around.under,Code.cUnits,Code.frames,Code.isFrame]
theorem make_guards {A : Around} {C : Addr} {us : List Value} {kw : List (Str × Value)} : (A.under (.builtin "type.__call__" ⟨.ref C :: us,kw⟩)).guards = A.guards := by
  have e : Code.guards (.builtin "type.__call__" ⟨.ref C :: us,kw⟩) = [] := by
    have : (Code.builtin "type.__call__" ⟨.ref C :: us,kw⟩).isGuard = false := by show guardIds.contains "type.__call__" = false; decide +kernel
    simp [Code.guards,this]
  unfold Around.under
  dsimp only
  rw [e]
  rfl
theorem Room.make {k : Nat} {A : Around} (r : Room (k + 1) A) (C : Addr) (us : List Value) (kw : List (Str × Value)) : Room k (A.under (.builtin "type.__call__" ⟨.ref C :: us,kw⟩)) :=
  ⟨r.hd,by have := r.dp; rw [make_depth]; omega,by have := r.un; rw [make_units]; omega,by rw [make_guards]; exact r.gd⟩
theorem Room.depth {k : Nat} {A : Around} (r : Room k A) : A.depth < recursionLimit := by have := r.dp; omega
theorem Room.units {k : Nat} {A : Around} (r : Room k A) : A.units + 64 < cLine := by have := r.un; omega
def tNil : TA := fun _ H Q => Q [] H
def tCons (ta : TE) (tr : TA) : TA := fun σ H Q => ta σ H fun x H1 => tr σ H1 fun xs H2 => Q (x :: xs) H2
section
variable {X : Cx} {e : Expr} {es : List Expr} {te : TE} {t : TA} {pos : Pos}
theorem pa_nil : PA X [] tNil := fun _ _ _ _ H Q I h => Calls.spliced_nil ⟨[],H,I,.nil,h⟩
theorem pa_cons (ha : PE X e te) (hr : PA X es t) (hs : starEach (e :: es) X.env = (false,eval e X.env) :: starEach es X.env := by rfl) : PA X (e :: es) (tCons te t) := by
  intro pos pins s σ H Q I h
  rw [hs]
  show wpAny _ _ (spliced ((false,eval e X.env) :: backTo pos (starEach es X.env))) _ _ s
  refine Calls.spliced_cons (thn (ha pins s σ H _ I h) fun u s1 ⟨x,H1,I1,r1,q1⟩ => ?_)
  exact thn (hr pos pins s1 σ H1 _ I1 q1) fun us s2 ⟨xs,H2,I2,r2,q2⟩ => ⟨x :: xs,H2,I2,.cons r1 r2,q2⟩
def tTup (t : TA) : TE := fun σ H Q => t σ H fun xs H1 => xs.length ≤ sizeLine ∧ ∀ p,H1 p = none → Q (.ref p) (upd H1 p (.tup xs))
def tLst (t : TA) : TE := fun σ H Q => t σ H fun xs H1 => xs.length ≤ sizeLine ∧ ∀ p,H1 p = none → Q (.ref p) (upd H1 p (.lst xs))
theorem pe_tup {x1} (h : PA X es t) : PE X (.Tuple es x1 pos) (tTup t) := by
  intro pins s σ H Q I hq
  refine wpAny_Tuple_spliced (thn (h pos pins s σ H _ I hq) fun us s1 ⟨xs,H1,I1,r,z,q⟩ => ⟨by rw [← r.length]; exact z,?_⟩)
  have hf : H1 s1.heap.objs.size = none := I1.hok.fresh (Nat.le_refl _)
  refine ⟨.ref s1.heap.objs.size,upd H1 s1.heap.objs.size (.tup xs),I1.laid (t' := s1.toks) (fun b u e => Heap.get?_push_of_some _ e) (Nat.le_refl _) ?_,rfl,q _ hf⟩
  exact ⟨z,us,r,⟨_,Heap.get?_push_size _ rfl,rfl,_,rfl⟩⟩
theorem pe_lst (h : PA X es t) : PE X (.List es pos) (tLst t) := by
  intro pins s σ H Q I hq
  refine wpAny_List_spliced (thn (h pos pins s σ H _ I hq) fun us s1 ⟨xs,H1,I1,r,z,q⟩ => ⟨by rw [← r.length]; exact z,?_⟩)
  have hf : H1 s1.heap.objs.size = none := I1.hok.fresh (Nat.le_refl _)
  refine ⟨.ref s1.heap.objs.size,upd H1 s1.heap.objs.size (.lst xs),I1.laid (t' := s1.toks) (fun b u e => Heap.get?_push_of_some _ e) (Nat.le_refl _) ?_,rfl,q _ hf⟩
  exact ⟨z,us,0,r,Heap.get?_push_size _ rfl⟩
end
abbrev Sp := List V → Hp → VK → XK → Prop
abbrev CXT := List Env → Hp → Shared → XK → Value → Shared → Prop
structure Env0 (P : Program) (w : World) (K : PySem.W.Frag) (mg : Str → Option Value) (base : Heap) (A : Around) (outer : List Env) (s : Shared) (H : Hp) : Prop where
  frames : A.frames = some outer
  mod : Mod K mg base
  bs : ∀ b o,base.get? b = some o → s.heap.get? b = some o ∧ H b = none
  bsz : base.objs.size ≤ s.heap.objs.size
  funs : s.heap.FunFrames base outer
  frf : ∀ b ∈ frs outer,H b = none
  hok : HOk P w H s.heap
  bare : AllBare s.gens
def CE (outer : List Env) (P : Program) (w : World) (H : Hp) (s : Shared) (Q : VK) (u : Value) (s' : Shared) : Prop :=
  ∃ v H',s'.os = s.os ∧ AllBare s'.gens ∧ Un (frs outer) [] H H' s.heap s'.heap ∧ HOk P w H' s'.heap ∧ RelV v u ∧ Q v H'
def CR (CX : CXT) (outer : List Env) (P : Program) (w : World) (H : Hp) (s : Shared) (Q : VK) (E : XK) (r : Result) (s' : Shared) : Prop :=
  match r with
  | .ok (.ret u) => CE outer P w H s Q u s'
  | .ok _ => False
  | .error e => CX outer H s E e s'
structure FnOk (P : Program) (w : World) (K : PySem.W.Frag) (mg : Str → Option Value) (base : Heap) (CX : CXT) (k : Nat) (f : Addr) (fd : FuncData) (ps : List Str) (sp : Sp) : Prop where
  len : ∀ vs H Q E,sp vs H Q E → vs.length = ps.length
  run : ∀ (A : Around) (outer : List Env) (s : Shared) (H : Hp) (args : Args) (us : List Value) (vs : List V) (Q : VK) (E : XK),Room k A → Env0 P w K mg base A outer s H → BindsTo s fd args (ps.zip us) → Vals vs us → sp vs H Q E →
    codeAny (model P w) A (.call (.ref f) args) (CR CX outer P w H s Q E) s
theorem Env0.make {P : Program} {w : World} {K : PySem.W.Frag} {mg : Str → Option Value} {base : Heap} {A : Around} {outer : List Env} {s : Shared} {H : Hp} (e : Env0 P w K mg base A outer s H) (C : Addr) (us : List Value) (kw : List (Str × Value)) :
    Env0 P w K mg base (A.under (.builtin "type.__call__" ⟨.ref C :: us,kw⟩)) outer s H := ⟨by first | exact e.frames | (simpa [Around.under,Code.envs,Code.isFrame,pushEnvs] using e.frames),e.mod,e.bs,e.bsz,e.funs,e.frf,e.hok,e.bare⟩
section
variable {X : Cx} {pins : List (Addr × Obj)} {σ : St} {H : Hp} {s s' : Shared}
theorem Inv.env0 (I : Inv X pins σ H s) : Env0 X.prog X.w X.K X.mg X.base X.A X.stack s H :=
  ⟨I.ok.frames,I.ok.mod,I.bs,Nat.le_trans I.ok.bsz I.sz,I.stack,I.stkFree,I.hok,I.bare⟩
theorem Inv.after {Q : VK} {u : Value} (I : Inv X pins σ H s) (h : CE X.stack X.prog X.w H s Q u s') : EP X pins σ Q u s' := by
  obtain ⟨v,H',os,bare,un,hok,r,q⟩ := h
  obtain ⟨hh,g,d,t,os'⟩ := s'
  obtain rfl : os' = s.os := os
  exact ⟨v,H',I.call (h' := hh) (g' := g) (d' := d) (t' := t) (ch := []) un hok bare (fun b z => absurd z (by simp)),r,q⟩
end
def tCall (sp : Sp) (dvs : List V) (E : XK) (t : TA) : TE := fun σ H Q => t σ H fun vs H1 => sp (vs ++ dvs) H1 Q E
def tMeth (C : Addr) (m : Str) (sp : Sp) (dvs : List V) (E : XK) (ta : TE) (t : TA) : TE := fun σ H Q => ta σ H fun x H1 => ∃ a dx fs,x = .ref a ∧ H1 a = some (.ins C dx fs) ∧ fs.lookup m = none ∧
  t σ H1 fun vs H2 => sp (x :: (vs ++ dvs)) H2 Q E
def tMake (C : Addr) (sp : Sp) (dvs : List V) (E : XK) (t : TA) : TE := fun σ H Q => t σ H fun vs H1 => ∀ x dx,H1 x = none → H1 dx = none → dx ≠ x →
  sp (.ref x :: (vs ++ dvs)) (upd (upd H1 dx (.own x)) x (.ins C dx [])) (fun v H2 => v = .non ∧ Q (.ref x) H2) E
def Binds (K : PySem.W.Frag) (fd : FuncData) (ps : List Str) (ds : List Value) : Prop :=
  ∀ (s : Shared) (us : List Value),K.In s.heap → (us ++ ds).length = ps.length → BindsTo s fd ⟨us,[]⟩ (ps.zip (us ++ ds))
theorem Binds.all {K : PySem.W.Frag} {fd : FuncData} {ps : List Str} (h : ∀ us : List Value,us.length = ps.length → bindArgs fd ⟨us,[]⟩ = pure (ps.zip us)) : Binds K fd ps [] := fun s us _ hl => by
  rw [List.append_nil] at hl ⊢
  exact .of_eq (h us hl)
def Passes (CX : CXT) (X : Cx) (E : XK) : Prop := ∀ (pins : List (Addr × Obj)) (σ : St) (H : Hp) (s : Shared) (e : Value) (s' : Shared),Inv X pins σ H s → CX X.stack H s E e s' → X.xe e s'
section
variable {X : Cx} {CX : CXT} {k : Nat} {f C : Addr} {fd : FuncData} {ps : List Str} {sp : Sp} {dvs : List V} {ds : List Value} {E : XK} {x m : Str} {p pos apos : Pos} {e o : Expr} {es : List Expr} {ta : TE} {t : TA}
theorem run_fn {pins : List (Addr × Obj)} {σ : St} {H : Hp} {s : Shared} {Q : VK} {us : List Value} {vs : List V} (F : FnOk X.prog X.w X.K X.mg X.base CX k f fd ps sp) (hr : Room k X.A) (hb : Binds X.K fd ps ds) (hd : Vals dvs ds) (hx : Passes CX X E)
    (I : Inv X pins σ H s) (r : Vals vs us) (h : sp (vs ++ dvs) H Q E) : wpAny (model X.prog X.w) X.A (call (.ref f) us) (EP X pins σ Q) X.xe s := by
  have r2 : Vals (vs ++ dvs) (us ++ ds) := r.append hd
  have hl : (us ++ ds).length = ps.length := by rw [← r2.length]; exact F.len _ _ _ _ h
  refine wpAny_call (codeAny_mono (F.run X.A X.stack s H ⟨us,[]⟩ (us ++ ds) (vs ++ dvs) Q E hr I.env0 (hb s us I.kIn hl) r2 h) fun r s' hq => ?_)
  cases r with
  | error e => exact hx pins σ H s e s' I hq
  | ok fl =>
    cases fl with
    | ret u => exact I.after hq
    | next => exact False.elim hq
    | brk => exact False.elim hq
    | cont => exact False.elim hq
theorem pe_call (F : FnOk X.prog X.w X.K X.mg X.base CX k f fd ps sp) (hr : Room k X.A) (hg : Gl X x) (hm : X.mg x = some (.ref f)) (hk : PySem.W.keepIn X.K (.ref f) = true) (hb : Binds X.K fd ps ds) (hd : Vals dvs ds) (hx : Passes CX X E)
    (ha : PA X (e :: es) t) (hdb : (x == ("__debug__" : Str)) = false := by decide) (he : starEach (e :: es) X.env = (false,eval e X.env) :: starEach es X.env := by rfl) (hpl : (backTo pos (starEach es X.env)).any (·.1) = false := by rfl) :
    PE X (.Call (.Name x p) (e :: es) [] pos) (tCall sp dvs E t) := by
  intro pins s σ H Q I h
  refine wpAny_Call_Name_kw (ld_glob I hg hm ?_ hdb)
  refine PySem.W.callWith_K (h₀ := X.base) I.ok.mod.kin hk (thn (ha pos pins s σ H _ I h) fun us s1 ⟨vs,H1,I1,r,q⟩ => ⟨I1.kIn,?_⟩) he hpl
  exact run_fn F hr hb hd hx I1 r q
theorem pe_meth {pl : Sem Bool} (he : PE X o ta) (c : Cls X.K C) (hm : Meth X.K C m f) (F : FnOk X.prog X.w X.K X.mg X.base CX k f fd ps sp) (hr : Room k X.A) (hb : Binds X.K fd ps ds) (hd : Vals dvs ds) (hx : Passes CX X E) (ha : PA X (e :: es) t)
    (hst : starEach (e :: es) X.env = (false,eval e X.env) :: starEach es X.env := by rfl) (hpl : (backTo pos (starEach es X.env)).any (·.1) = false := by rfl)
    (ht : eval (.Call (.Attribute o m apos) (e :: es) [] pos) X.env = (do
      let ov ← eval o X.env
      standAt apos.atName
      let (f,first) ← holding [ov] (getMethod ov m pl)
      callWith pos f first (backTo pos (starEach (e :: es) X.env)) (backToKw pos (keywordEach [] X.env))) := by rfl) :
    PE X (.Call (.Attribute o m apos) (e :: es) [] pos) (tMeth C m sp dvs E ta t) := by
  intro pins s σ H Q I h
  refine PySem.W.methodCall_KW (pl := pl) (thn (he pins s σ H _ I h) fun u s1 ⟨x,H1,I1,rx,a,dx,fs,ex,ea,l,q⟩ => ?_) ht
  subst ex
  obtain rfl : u = Value.ref a := rx
  refine getmeth_ok I1 ea c hm l ?_
  refine PySem.W.callWith_K (first := [.ref a]) (h₀ := X.base) I.ok.mod.kin hm.kp (thn (ha pos pins s1 σ H1 _ I1 q) fun us s2 ⟨vs,H2,I2,r,q2⟩ => ⟨I2.kIn,?_⟩) hst hpl
  exact run_fn (us := .ref a :: us) (vs := .ref a :: vs) F hr hb hd hx I2 (.cons rfl r) q2
theorem pe_meth0 {pl : Sem Bool} (he : PE X o ta) (c : Cls X.K C) (hm : Meth X.K C m f) (F : FnOk X.prog X.w X.K X.mg X.base CX k f fd ps sp) (hr : Room k X.A) (hb : Binds X.K fd ps ds) (hd : Vals dvs ds) (hx : Passes CX X E)
    (ht : eval (.Call (.Attribute o m apos) [] [] pos) X.env = (do
      let ov ← eval o X.env
      standAt apos.atName
      let (f,first) ← holding [ov] (getMethod ov m pl)
      callWith pos f first (backTo pos (starEach [] X.env)) (backToKw pos (keywordEach [] X.env))) := by rfl) :
    PE X (.Call (.Attribute o m apos) [] [] pos) (tMeth C m sp dvs E ta tNil) := by
  intro pins s σ H Q I h
  refine PySem.W.methodCall_KW (pl := pl) (thn (he pins s σ H _ I h) fun u s1 ⟨x,H1,I1,rx,a,dx,fs,ex,ea,l,q⟩ => ?_) ht
  subst ex
  obtain rfl : u = Value.ref a := rx
  refine getmeth_ok I1 ea c hm l ?_
  exact PySem.W.callWith_K0 (first := [.ref a]) I1.kIn hm.kp (run_fn (us := [.ref a]) (vs := [.ref a]) F hr hb hd hx I1 (.cons rfl .nil) q)
structure Mk (K : PySem.W.Frag) (C f : Addr) : Prop where
  makes : PySem.W.makesIn K C = true
  init : PySem.W.findIn K (.ref C) "__init__" = some (some (.ref f))
  fn : PySem.W.isFn K (.ref f) = true
  kp : PySem.W.keepIn K (.ref C) = true
theorem run_make {pins : List (Addr × Obj)} {σ : St} {H : Hp} {s : Shared} {Q : VK} {us : List Value} {vs : List V} (M : Mk X.K C f) (F : FnOk X.prog X.w X.K X.mg X.base CX k f fd ps sp) (hr : Room (k + 1) X.A) (hb : Binds X.K fd ps ds) (hd : Vals dvs ds)
    (hx : Passes CX X E) (I : Inv X pins σ H s) (r : Vals vs us)
    (h : ∀ x dx,H x = none → H dx = none → dx ≠ x → sp (.ref x :: (vs ++ dvs)) (upd (upd H dx (.own x)) x (.ins C dx [])) (fun v H2 => v = .non ∧ Q (.ref x) H2) E) :
    wpAny (model X.prog X.w) X.A (call (.ref C) us) (EP X pins σ Q) X.xe s := by
  have hq := h (s.heap.objs.size + 1) s.heap.objs.size (I.hok.fresh (Nat.le_succ _)) (I.hok.fresh (Nat.le_refl _)) (Nat.ne_of_lt (Nat.lt_succ_self _))
  have I2 := Inv.made (C := C) I
  have r2 : Vals (V.ref (s.heap.objs.size + 1) :: (vs ++ dvs)) (Value.ref (s.heap.objs.size + 1) :: (us ++ ds)) := .cons rfl (r.append hd)
  have hl : (Value.ref (s.heap.objs.size + 1) :: us ++ ds).length = ps.length := by
    have e := r2.length
    rw [F.len _ _ _ _ hq] at e
    exact e.symm
  refine wpAny_call (make_map (f := f) I.kIn M.makes M.init (beq_iff_eq.mp M.fn) (codeAny_mono (F.run _ X.stack _ _ ⟨Value.ref (s.heap.objs.size + 1) :: us,[]⟩ (Value.ref (s.heap.objs.size + 1) :: (us ++ ds)) _ _ E (hr.make C us [])
    (I2.env0.make C us []) (hb _ (Value.ref (s.heap.objs.size + 1) :: us) I2.kIn hl) r2 hq) fun r s' hq' => ?_))
  cases r with
  | error e => exact hx pins σ _ _ e s' I2 hq'
  | ok fl =>
    cases fl with
    | ret u =>
      obtain ⟨v,H',I3,rv,ev,q3⟩ := I2.after hq'
      subst ev
      exact ⟨rv,⟨V.ref (s.heap.objs.size + 1),H',I3,rfl,q3⟩⟩
    | next => exact False.elim hq'
    | brk => exact False.elim hq'
    | cont => exact False.elim hq'
theorem pe_make (M : Mk X.K C f) (F : FnOk X.prog X.w X.K X.mg X.base CX k f fd ps sp) (hr : Room (k + 1) X.A) (hg : Gl X x) (hm : X.mg x = some (.ref C)) (hb : Binds X.K fd ps ds) (hd : Vals dvs ds) (hx : Passes CX X E)
    (ha : PA X (e :: es) t) (hdb : (x == ("__debug__" : Str)) = false := by decide) (he : starEach (e :: es) X.env = (false,eval e X.env) :: starEach es X.env := by rfl) (hpl : (backTo pos (starEach es X.env)).any (·.1) = false := by rfl) :
    PE X (.Call (.Name x p) (e :: es) [] pos) (tMake C sp dvs E t) := by
  intro pins s σ H Q I h
  refine wpAny_Call_Name_kw (ld_glob I hg hm ?_ hdb)
  refine PySem.W.callWith_K (h₀ := X.base) I.ok.mod.kin M.kp (thn (ha pos pins s σ H _ I h) fun us s1 ⟨vs,H1,I1,r,q⟩ => ⟨I1.kIn,?_⟩) he hpl
  exact run_make M F hr hb hd hx I1 r q
end
section
variable {X : Cx} {CX : CXT} {k : Nat} {f C : Addr} {fd : FuncData} {ps ks : List Str} {sp : Sp} {E : XK} {x m : Str} {p pos apos kpos : Pos} {e o : Expr} {es : List Expr} {kws : List Keyword} {te ta : TE} {t tk : TA} {nm : Option Str}
structure KBinds (K : PySem.W.Frag) (fd : FuncData) (ps ks : List Str) (g : List Value → List Value → List Value) (gV : List V → List V → List V) : Prop where
  to : ∀ (s : Shared) (us ws : List Value),K.In s.heap → (g us ws).length = ps.length → BindsTo s fd ⟨us,ks.zip ws⟩ (ps.zip (g us ws))
  rel : ∀ {vs : List V} {us : List Value} {zs : List V} {ws : List Value},Vals vs us → Vals zs ws → Vals (gV vs zs) (g us ws)
variable {g : List Value → List Value → List Value} {gV : List V → List V → List V}
end
structure FnScope (N P : List Str) (sc : Scope) : Prop where
  kind : sc.kind = .function
  co : sc.isCoroutine = false
  gen : sc.isGenerator = false
  nd : N.Nodup
  pre : N.take P.length = P
  par : ∀ x ∈ P,sc.names.lookup x = some .local ∨ sc.names.lookup x = some .cell
  nofree : ∀ y ∈ sc.names,y.2 ≠ .free
theorem bindL_out {kindOf : Str → Option NameKind} {x : Str} : ∀ {binds : List (Str × Value)} {m : Str → Option Value},(∀ v,(x,v) ∉ binds) → bindL kindOf binds m x = m x
  | [],_,_ => rfl
  | (n,v) :: r,m,h => by
    unfold bindL
    rw [bindL_out fun w hw => h w (List.mem_cons_of_mem _ hw)]
    split
    · have : x ≠ n := by rintro rfl; exact h v List.mem_cons_self
      simp [this]
    · rfl
theorem bindC_out {kindOf : Str → Option NameKind} {x : Str} : ∀ {binds : List (Str × Value)} {m : Str → Option Value},(∀ v,(x,v) ∉ binds) → bindC kindOf binds m x = m x
  | [],_,_ => rfl
  | (n,v) :: r,m,h => by
    unfold bindC
    rw [bindC_out fun w hw => h w (List.mem_cons_of_mem _ hw)]
    split
    · rfl
    · have : x ≠ n := by rintro rfl; exact h v List.mem_cons_self
      simp [this]
theorem bindL_get {kindOf : Str → Option NameKind} {x : Str} {v : Value} : ∀ {P : List Str} {vs : List Value} {i : Nat} {m : Str → Option Value},P.Nodup → P[i]? = some x → vs[i]? = some v → kindOf x = some .local →
    bindL kindOf (P.zip vs) m x = some v
  | [],_,_,_,_,h,_,_ => by simp at h
  | _ :: _,[],_,_,_,_,h,_ => by simp at h
  | p :: P,w :: vs,0,m,nd,h1,h2,hk => by
    simp at h1 h2; subst h1; subst h2
    show bindL kindOf ((p,w) :: P.zip vs) m p = _
    unfold bindL
    rw [bindL_out fun v hv => (List.nodup_cons.mp nd).1 (List.of_mem_zip hv).1,if_pos hk]
    simp
  | p :: P,w :: vs,i + 1,m,nd,h1,h2,hk => by
    show bindL kindOf ((p,w) :: P.zip vs) m x = _
    unfold bindL
    exact bindL_get (i := i) (List.nodup_cons.mp nd).2 (by simpa using h1) (by simpa using h2) hk
theorem bindC_get {kindOf : Str → Option NameKind} {x : Str} {v : Value} : ∀ {P : List Str} {vs : List Value} {i : Nat} {m : Str → Option Value},P.Nodup → P[i]? = some x → vs[i]? = some v → kindOf x ≠ some .local →
    bindC kindOf (P.zip vs) m x = some v
  | [],_,_,_,_,h,_,_ => by simp at h
  | _ :: _,[],_,_,_,_,h,_ => by simp at h
  | p :: P,w :: vs,0,m,nd,h1,h2,hk => by
    simp at h1 h2; subst h1; subst h2
    show bindC kindOf ((p,w) :: P.zip vs) m p = _
    unfold bindC
    rw [bindC_out fun v hv => (List.nodup_cons.mp nd).1 (List.of_mem_zip hv).1,if_neg hk]
    simp
  | p :: P,w :: vs,i + 1,m,nd,h1,h2,hk => by
    show bindC kindOf ((p,w) :: P.zip vs) m x = _
    unfold bindC
    exact bindC_get (i := i) (List.nodup_cons.mp nd).2 (by simpa using h1) (by simpa using h2) hk
def start (N : List Str) (vs : List V) : St := vs.map some ++ List.replicate (N.length - vs.length) none
def cxOf (CX : CXT) (P : Program) (w : World) (K : PySem.W.Frag) (mg : Str → Option Value) (base : Heap) (N : List Str) (qual : Str) (scope : Scope) (f : Addr) (cd : Value) (A : Around) (outer : List Env) (s : Shared) (H : Hp) (E : XK) : Cx where
  prog := P
  w := w
  K := K
  mg := mg
  base := base
  A := A.deeper (envOfC qual scope s.heap.objs.size f cd)
  N := N
  s₀ := s
  H₀ := H
  env := envOfC qual scope s.heap.objs.size f cd
  outer := outer
  stack := envOfC qual scope s.heap.objs.size f cd :: outer
  ex := []
  calm := true
  fn := fun _ => true
  pn := []
  xe := fun e s' => wpAny (model P w) (A.deeper (envOfC qual scope s.heap.objs.size f cd)) (leaving (envOfC qual scope s.heap.objs.size f cd) e) (fun _ s'' => CX outer H s E e s'') (fun e' s'' => CX outer H s E e' s'') s'
theorem cell_has {sc : Scope} {n : Nat} {x : Str} (h : sc.names.lookup x = some .cell) : ∃ c,(cellsFrom n sc.names []).lookup x = some c := by
  have q := PySem.W.cellsFrom_some sc.names n [] (.inl h)
  exact Option.isSome_iff_exists.mp q
theorem inv_start {CX : CXT} {P : Program} {w : World} {K : PySem.W.Frag} {mg : Str → Option Value} {base : Heap} {N ps : List Str} {qual : Str} {scope : Scope} {f : Addr} {cd : Value} {A : Around} {outer : List Env} {s s1 : Shared} {H : Hp} {E : XK} {us : List Value} {vs : List V}
    (S : FnScope N ps scope) (hd : A.handled = none) (e0 : Env0 P w K mg base A outer s H) (hl : vs.length = ps.length) (r : Vals vs us)
    (x : InCallC s s.heap.objs.size (bindL (envOfC qual scope s.heap.objs.size f cd).kindOf (ps.zip us) fun _ => none) (cellsFrom (s.heap.objs.size + 1) scope.names []) (bindC (envOfC qual scope s.heap.objs.size f cd).kindOf (ps.zip us) fun _ => none) s1) :
    Inv (cxOf CX P w K mg base N qual scope f cd A outer s H E) [] (start N vs) H s1 := by
  have hpl : ps.length ≤ N.length := by have := congrArg List.length S.pre; rw [List.length_take] at this; omega
  obtain ⟨h1,tk,rfl,hk⟩ := x.done
  have noA : ∀ b : Addr,b ∉ (cxOf CX P w K mg base N qual scope f cd A outer s H E).ex := fun b z => absurd (show b ∈ ([] : List Addr) from z) (by simp)
  refine ⟨⟨e0.mod,S.kind,rfl,rfl,Nat.le_refl _,fun y z c h1 h2 => ?_,fun y hy => ?_,fun y c _ h => ?_,fun _ => hd,Around.frames_deeper e0.frames,.inr ⟨rfl,rfl⟩,fun b z => absurd z (noA b),e0.bs,e0.bsz,fun b _ _ => noA b,fun b z => absurd z (noA b),e0.funs,e0.frf⟩,
    rfl,e0.bare,Un.kept hk,⟨_,x.toInCall.ns,fun i y v h1 h2 h3 => ?_⟩,fun y c h => ⟨_,x.cell y c h⟩,e0.hok.fresh (Nat.le_refl _),fun y c h => ?_,fun p hp => absurd (show p ∈ ([] : List (Addr × Obj)) from hp) (by simp),e0.hok.kept hk,?_⟩
  · exact name_of_addr x.apart (PySem.mem_of_lookup h1) (PySem.mem_of_lookup h2)
  · have hy : scope.names.lookup y = some .cell ∨ scope.names.lookup y = some .free := hy
    rcases hy with hy | hy
    · exact cell_has hy
    · exact absurd rfl (S.nofree _ (PySem.mem_of_lookup hy))
  · exact Nat.le_of_lt (x.above y c (PySem.mem_of_lookup h))
  · have hi : i < vs.length := by
      unfold start at h2
      by_cases hi : i < vs.length
      · exact hi
      · rw [List.getElem?_append_right (by simpa using hi)] at h2
        rw [List.getElem?_replicate] at h2
        split at h2 <;> cases h2
    have ha : vs[i]? = some v := by
      unfold start at h2
      rw [List.getElem?_append_left (by simpa using hi),List.getElem?_map] at h2
      cases e : vs[i]? with
      | none => rw [e] at h2; cases h2
      | some a => rw [e] at h2; cases h2; rfl
    obtain ⟨u,hu,rv⟩ := r.get ha
    have hp : ps[i]? = some y := by
      rw [← S.pre,List.getElem?_take_of_lt (by omega)]; exact h1
    have ndP : ps.Nodup := by rw [← S.pre]; exact S.nd.sublist (List.take_sublist _ _)
    refine ⟨u,rv,?_⟩
    rcases S.par y (List.mem_of_getElem? hp) with k | k
    · exact .inl ⟨k,bindL_get ndP hp hu k⟩
    · obtain ⟨c,e⟩ := cell_has (n := s.heap.objs.size + 1) k
      refine .inr ⟨.inl k,c,e,?_⟩
      have q := x.cell y c e
      rw [bindC_get ndP hp hu (by show scope.names.lookup y ≠ _; rw [k]; decide)] at q
      exact q
  · exact e0.hok.fresh (Nat.le_of_lt (x.above y c (PySem.mem_of_lookup h)))
  · unfold start
    show _ = N.length
    rw [List.length_append,List.length_map,List.length_replicate]
    omega
theorem fn_of {CX : CXT} {P : Program} {w : World} {K : PySem.W.Frag} {mg : Str → Option Value} {base : Heap} {k : Nat} {f : Addr} {name qual : Str} {params : Arguments} {body : List Stmt} {scope : Scope} {dV kV doc pm cdv ct oc : Value} {an od : Option Addr}
    {osl : Array (Option Value)} {N ps : List Str} {sp : Sp} (lk : K.lookup f = some ⟨oc,od,.func (PySem.W.fnOf name qual params body scope dV kV doc pm an cdv ct),osl⟩) (hcd : PySem.W.codeIn K cdv qual = true) (S : FnScope N ps scope)
    (len : ∀ vs H Q E,sp vs H Q E → vs.length = ps.length)
    (hbody : ∀ (A : Around) (outer : List Env) (s : Shared) (H : Hp) (vs : List V) (Q : VK) (E : XK),Room k (A.deeper (envOfC qual scope s.heap.objs.size f cdv)) → sp vs H Q E →
      ∃ t,PSs (cxOf CX P w K mg base N qual scope f cdv A outer s H E) body t ∧ t { nx := fun _ H' => Q .non H',rt := Q } (start N vs) H) :
    FnOk P w K mg base CX (k + 1) f (PySem.W.fnOf name qual params body scope dV kV doc pm an cdv ct) ps sp := by
  refine ⟨len,fun A outer s H args us vs Q E hr e0 hb r hsp => ?_⟩
  have hl := len _ _ _ _ hsp
  have KX : K.In s.heap := e0.mod.kin.keeps fun b o e => (e0.bs b o e).1
  have lim : s.heap.NoLimit := e0.mod.nolimit.keeps fun b o e => (e0.bs b o e).1
  have hkind : ∀ y ∈ ps.zip us,scope.names.lookup y.1 = some .local ∨ (scope.names.lookup y.1 = some .cell ∧ ((cellsFrom (s.heap.objs.size + 1) scope.names []).lookup y.1).isSome = true) := fun ⟨n,v⟩ hy => by
    rcases S.par n (List.of_mem_zip hy).1 with q | q
    · exact .inl q
    · exact .inr ⟨q,PySem.W.cellsFrom_some _ _ _ (.inl q)⟩
  refine codeAny_call_function hr.depth (KX _ _ lk) rfl S.co S.gen rfl (PySem.W.codeRec_of KX hcd) (hb _ _ _ _ ?_)
  refine wpAny_newFunctionEnv_cells S.kind hkind fun env he s1 x => ?_
  subst he
  refine ⟨lim.keeps x.toInCall.keep,codeAny_func ?_⟩
  obtain ⟨t,ht,hq⟩ := hbody A outer s H vs Q E (hr.deeper _) hsp
  have I : Inv (cxOf CX P w K mg base N qual scope f cdv A outer s H E) [] (start N vs) H s1 := inv_start S hr.hd e0 hl r x
  refine wpAny_mono (ht [] s1 (start N vs) H _ I hq) (fun fl s' hs => ?_) fun e s' hs => hs
  have fin : ∀ {σ' : St} {H' : Hp} {v : V} {u : Value},Inv (cxOf CX P w K mg base N qual scope f cdv A outer s H E) [] σ' H' s' → RelV v u → Q v H' → CE outer P w H s Q u s' :=
    fun {σ' H' v u} J rv q => ⟨v,H',J.os,J.bare,J.base,J.hok,rv,q⟩
  cases fl with
  | ret u =>
    obtain ⟨v,σ',H',J,rv,q⟩ := hs
    exact fin J rv q
  | next =>
    obtain ⟨σ',H',J,q⟩ := hs
    exact fin (v := V.non) (u := Value.none) J rfl q
  | brk =>
    obtain ⟨_,_,_,q⟩ := hs
    exact False.elim q
  | cont =>
    obtain ⟨_,_,_,q⟩ := hs
    exact False.elim q
end L2
namespace L2
open PySem PySem.Spec PyProof.Rows
section
variable {X : Cx} {x : Str} {p pos : Pos} {e : Expr} {es : List Expr} {t : TA} {id T : String} {r : List V → Hp → VK → Prop}
def tCB (r : List V → Hp → VK → Prop) (t : TA) : TE := fun σ H Q => t σ H fun vs H1 => r vs H1 Q
theorem pe_callB (hc : CallR X (.builtin id) r) (hg : Gl X x) (hm : X.mg x = none) (hv : bootBuiltins x = some (.builtin id)) (ha : PA X (e :: es) t) (hn : x ≠ "__name__" := by decide) (hdb : (x == ("__debug__" : Str)) = false := by decide)
    (he : starEach (e :: es) X.env = (false,eval e X.env) :: starEach es X.env := by rfl) (hpl : (backTo pos (starEach es X.env)).any (·.1) = false := by rfl) : PE X (.Call (.Name x p) (e :: es) [] pos) (tCB r t) := by
  intro pins s σ H Q I h
  refine wpAny_Call_Name_kw (ld_blt I hg hm hv ?_ hn hdb)
  exact PyProof.Rows.callWith_builtin1 (thn (ha pos pins s σ H _ I h) fun us s1 ⟨vs,H1,I1,r1,q1⟩ => hc pins s1 σ H1 vs us Q I1 r1 q1) he hpl
theorem pe_callTy (hc : CallR X (.type T) r) (hg : Gl X x) (hm : X.mg x = none) (hv : bootBuiltins x = some (.type T)) (ha : PA X (e :: es) t) (hn : x ≠ "__name__" := by decide) (hdb : (x == ("__debug__" : Str)) = false := by decide)
    (he : starEach (e :: es) X.env = (false,eval e X.env) :: starEach es X.env := by rfl) (hpl : (backTo pos (starEach es X.env)).any (·.1) = false := by rfl) : PE X (.Call (.Name x p) (e :: es) [] pos) (tCB r t) := by
  intro pins s σ H Q I h
  refine wpAny_Call_Name_kw (ld_blt I hg hm hv ?_ hn hdb)
  exact PyProof.Rows.callWith_type1 (thn (ha pos pins s σ H _ I h) fun us s1 ⟨vs,H1,I1,r1,q1⟩ => hc pins s1 σ H1 vs us Q I1 r1 q1) he hpl
end
end L2
namespace HT
open PySem PyProof.Rows
section
open PySem.SeqAt
open PySem.AutoSeq1 (wpAny_loadPart')
open PySem.MeetsSeq PySem.MeetsSeq2 PySem.MeetsSeq3
end
section
variable {prog : Program} {w : World} {A : Around} {E : Value → Shared → Prop} {s : Shared}
def sIx (n d : Nat) : Option Int → Nat
  | none => d
  | some v => if v < 0 then (v + (n : Int)).toNat else min v.toNat n
theorem sIx_le (n d : Nat) (hd : d ≤ n) (o : Option Int) : sIx n d o ≤ n := by
  cases o with
  | none => exact hd
  | some v =>
    show (if v < 0 then (v + (n : Int)).toNat else min v.toNat n) ≤ n
    by_cases hv : v < 0
    · rw [if_pos hv]; omega
    · rw [if_neg hv]; exact Nat.min_le_right _ _
theorem clip_eq (v : Int) (n d : Nat) : (if v < 0 then max (v + (n : Int)) 0 else min v (n : Int)) = ((sIx n d (some v) : Nat) : Int) := by
  show (if v < 0 then max (v + (n : Int)) 0 else min v (n : Int)) = (((if v < 0 then (v + (n : Int)).toNat else min v.toNat n) : Nat) : Int)
  by_cases hv : v < 0
  · simp only [if_pos hv]; omega
  · simp only [if_neg hv]; omega
theorem adjust_gen (lo hi : Option Int) (n : Nat) : Builtin.Slice.sliceAdjust lo hi 1 (n : Int) = (((sIx n 0 lo : Nat) : Int),((sIx n n hi : Nat) : Int)) := by
  have h1 : ¬ ((1 : Int) < 0) := by omega
  unfold Builtin.Slice.sliceAdjust
  simp only [h1,if_false]
  refine Prod.ext ?_ ?_
  · cases lo with
    | none => rfl
    | some v => exact clip_eq v n 0
  · cases hi with
    | none => rfl
    | some v => exact clip_eq v n n
theorem places_gen (i j : Nat) : Builtin.Slice.slicePlaces (i : Int) (j : Int) 1 = j - i := by
  unfold Builtin.Slice.slicePlaces
  have h1 : (1 : Int) > 0 := by omega
  simp only [h1,if_true,Int.ediv_one]
  split <;> omega
theorem slicePart_ {v : Value} {o : Option Int} {Q : Option Int → Shared → Prop} (p : IsPart v o) (h : Q o s) : wpAny (model prog w) A (Builtin.Slice.slicePartIndex v) Q E s := by
  cases p with
  | none => exact slicePart_none h
  | int i t => exact slicePart_int h
theorem sliceApplied_gen {sl : Addr} {vl vu : Value} {lo hi : Option Int} {n : Nat} {Q : Int × Int × Nat → Shared → Prop} (hs : s.heap.IsSliceOf sl vl vu .none) (pl : IsPart vl lo) (pu : IsPart vu hi)
    (h : Q (((sIx n 0 lo : Nat) : Int),1,sIx n n hi - sIx n 0 lo) s) : wpAny (model prog w) A (Builtin.Slice.sliceApplied (.ref sl) (pure (n : Int))) Q E s := by
  obtain ⟨os,hos,hcs,hds⟩ := id hs
  unfold Builtin.Slice.sliceApplied Builtin.Slice.sliceFields
  refine wpAny_bind (wpAny_bind (wpAny_field hos hds (x := vl) rfl (wpAny_bind (wpAny_field hos hds (x := vu) rfl (wpAny_bind (wpAny_field hos hds (x := .none) rfl (wpAny_pure ?_)))))))
  refine wpAny_bind (slicePart_none ?_)
  show wpAny _ _ (if ((1 : Int) == 0) = true then _ else _) _ _ s
  rw [if_neg (by decide)]
  refine wpAny_bind (slicePart_ pl (wpAny_bind (slicePart_ pu (wpAny_bind (wpAny_pure ?_)))))
  show wpAny _ _ (match Builtin.Slice.sliceAdjust lo hi 1 (n : Int) with | (lo,hi) => pure (lo,(1 : Int),Builtin.Slice.slicePlaces lo hi 1)) _ _ s
  rw [adjust_gen lo hi n]
  show wpAny _ _ (pure (((sIx n 0 lo : Nat) : Int),(1 : Int),Builtin.Slice.slicePlaces ((sIx n 0 lo : Nat) : Int) ((sIx n n hi : Nat) : Int) 1)) _ _ s
  rw [places_gen]
  exact wpAny_pure h
theorem pick_gen (xs : Array Value) (i k : Nat) : ((List.range k).filterMap fun (m : Nat) => xs[((i : Int) + (m : Int) * 1).toNat]?).toArray = ((xs.toList.drop i).take k).toArray := by
  have e : (fun (m : Nat) => xs[((i : Int) + (m : Int) * 1).toNat]?) = fun m => xs[i + m]? := by
    funext m
    have : ((i : Int) + (m : Int) * 1).toNat = i + m := by omega
    rw [this]
  rw [e]
  have := pick_run xs i k
  rw [List.filterMap_map] at this
  have e2 : ((fun x => xs[x]?) ∘ fun x => i + x) = fun m => xs[i + m]? := rfl
  rw [e2] at this
  rw [this]
theorem getItem_tuple_cut {t sl : Addr} {items : Array Value} {vl vu : Value} {lo hi : Option Int} {Q : Value → Shared → Prop} (ht : IsTup s.heap t items) (hs : s.heap.IsSliceOf sl vl vu .none) (pl : IsPart vl lo) (pu : IsPart vu hi)
    (hw : ¬ (sIx items.size 0 lo = 0 ∧ sIx items.size items.size hi = items.size))
    (h : Q (.ref s.heap.objs.size) { s with heap := s.heap.push { cls := .type "tuple",data := .seq ((items.toList.drop (sIx items.size 0 lo)).take (sIx items.size items.size hi - sIx items.size 0 lo)).toArray } })
    (hsz : items.size ≤ sizeLine) : wpAny (model prog w) A (getItem (.ref t) (.ref sl)) Q E s := by
  have htake : sizeOk (.seq ((items.toList.drop (sIx items.size 0 lo)).take (sIx items.size items.size hi - sIx items.size 0 lo)).toArray) := by
    show ((items.toList.drop (sIx items.size 0 lo)).take (sIx items.size items.size hi - sIx items.size 0 lo)).toArray.size ≤ sizeLine
    rw [List.size_toArray,List.length_take,List.length_drop,Array.length_toList]
    omega
  have hj : sIx items.size items.size hi ≤ items.size := sIx_le _ _ (Nat.le_refl _) hi
  obtain ⟨os,hos,hcs,hds⟩ := id hs
  have hTs : s.TypeIs (.ref sl) "slice" := ⟨os,hos,hcs⟩
  unfold getItem
  try with_reducible refine wpAny_holding ?_
  first | refine wpAny_bind (wpAny_pure ?_) | skip
  refine wpAny_bind (wpAny_sequenceKey ht.typeIs (by decide) ?_)
  refine wpAny_bind (wpAny_callSpecial?_slot (name := Str.ofString "__getitem__") ht.typeIs PyProof.Rows.slot_tuple_getitem
    (wpAny_call_entry PyProof.Rows.slot_tuple_getitem ht.typeIs entry_tuple_getitem ?_ (args_tuple_getitem _ _)))
  show wpAny _ _ (Builtin.Tuple.tupleItemsOf (.ref t) >>= _) _ _ s
  refine wpAny_bind (tupleItemsOf_ ht ?_)
  refine wpAny_bind (wpAny_typeOf hTs ?_)
  rw [if_pos (by decide)]
  refine wpAny_bind (sliceApplied_gen hs pl pu ?_)
  have hno : ¬ ((((sIx items.size 0 lo : Nat) : Int) == 0 && (1 : Int) == 1 && (sIx items.size items.size hi - sIx items.size 0 lo) == items.size) = true) := by
    intro q
    rw [Bool.and_eq_true,Bool.and_eq_true] at q
    have q1 : ((sIx items.size 0 lo : Nat) : Int) = 0 := eq_of_beq q.1.1
    have q2 : sIx items.size items.size hi - sIx items.size 0 lo = items.size := eq_of_beq q.2
    exact hw ⟨by omega,by omega⟩
  show wpAny _ _ (if (((sIx items.size 0 lo : Nat) : Int) == 0 && (1 : Int) == 1 && (sIx items.size items.size hi - sIx items.size 0 lo) == items.size) = true then _ else _) _ _ s
  rw [if_neg hno,pick_gen]
  first
    | exact wpAny_bind (m := Builtin.Tuple.tupleExact _) (wpAny_newObj_type (wpAny_pure ⟨_,rfl,wpAny_pure h⟩) htake)
    | exact wpAny_bind (m := Builtin.Tuple.tupleExact _) (wpAny_newObj_type (wpAny_bind (wpAny_pure (wpAny_pure ⟨_,rfl,wpAny_pure h⟩))) htake)
    | exact wpAny_bind (wpAny_bind (m := Builtin.Tuple.tupleExact _) (wpAny_newObj_type (wpAny_pure (wpAny_pure ⟨_,rfl,wpAny_pure h⟩)) htake))
    | exact wpAny_bind (wpAny_bind (m := Builtin.Tuple.tupleExact _) (wpAny_newObj_type (wpAny_pure ⟨_,rfl,wpAny_pure h⟩) htake))
end
end HT
namespace L2
open PySem PySem.Spec PyProof.Rows
abbrev TO := St → Hp → (Option Int → Hp → Prop) → Prop
def PO (X : Cx) (e : Option Expr) (t : TO) : Prop :=
  ∀ (pins : List (Addr × Obj)) (s : Shared) (σ : St) (H : Hp) (Q : Option Int → Hp → Prop),Inv X pins σ H s → t σ H Q →
    wpAny (model X.prog X.w) X.A (evalPart e X.env) (fun u s' => ∃ o H',Inv X pins σ H' s' ∧ IsPart u o ∧ Q o H') X.xe s
def tNoPart : TO := fun _ H Q => Q none H
def tPart (t : TE) : TO := fun σ H Q => t σ H fun x H1 => ∃ i,x = .int i ∧ Q (some i) H1
section
variable {X : Cx} {e : Expr} {te : TE} {lo hi : Option Expr} {tl th : TO} {pos p2 : Pos}
theorem po_none : PO X none tNoPart := by
  intro pins s σ H Q I h
  rw [evalPart_none]
  exact wpAny_pure ⟨none,H,I,.none,h⟩
theorem po_some (h : PE X e te) : PO X (some e) (tPart te) := by
  intro pins s σ H Q I hw
  rw [evalPart_some]
  refine thn (h pins s σ H _ I hw) fun u s1 ⟨x,H1,I1,r1,q1⟩ => ?_
  obtain ⟨i,rfl,q⟩ := q1
  obtain ⟨t,rfl⟩ := r1
  exact ⟨some i,H1,I1,.int i t,q⟩
def SlR (X : Cx) (r : V → Option Int → Option Int → Hp → VK → Prop) : Prop :=
  ∀ (pins : List (Addr × Obj)) (s : Shared) (σ : St) (H : Hp) (x : V) (v vl vu : Value) (lo hi : Option Int) (sl : Addr) (Q : VK),Inv X pins σ H s → RelV x v → s.heap.IsSliceOf sl vl vu .none → IsPart vl lo → IsPart vu hi → r x lo hi H Q →
    ∃ T id,typeLookup (.type T) "__getitem__" = pure (some (.builtin id)) ∧ s.TypeIs v T ∧ wpAny (model X.prog X.w) X.A (getItem v (.ref sl)) (EP X pins σ Q) X.xe s
def tSl (r : V → Option Int → Option Int → Hp → VK → Prop) (te : TE) (tl th : TO) : TE := fun σ H Q => te σ H fun x H1 => tl σ H1 fun l H2 => th σ H2 fun u H3 => r x l u H3 Q
theorem pe_slice {r : V → Option Int → Option Int → Hp → VK → Prop} (hr : SlR X r) (he : PE X e te) (hl : PO X lo tl) (hu : PO X hi th) : PE X (.Subscript e (.Slice lo hi none p2) pos) (tSl r te tl th) := by
  intro pins s σ H Q I h
  refine Subscript_ (thn (he pins s σ H _ I h) fun v s1 ⟨x,H1,I1,r1,q1⟩ => ?_)
  refine wpAny_Slice (thn (hl pins s1 σ H1 _ I1 q1) fun vl s2 ⟨l,H2,I2,pl,q2⟩ => thn (hu pins s2 σ H2 _ I2 q2) fun vu s3 ⟨u,H3,I3,pu,q3⟩ => ?_)
  rw [evalPart_none]
  refine wpAny_pure ?_
  have I4 : Inv X pins σ H3 { s3 with heap := s3.heap.push { cls := .type "slice", data := .fields #[vl, vu, .none] } } := I3.kept (t' := s3.toks) fun b ob q => Heap.get?_push_of_some _ q
  obtain ⟨T,id,hT,ht,hg⟩ := hr pins { s3 with heap := s3.heap.push { cls := .type "slice",data := .fields #[vl,vu,.none] } } σ H3 x v vl vu l u s3.heap.objs.size Q I4 r1 (Heap.IsSliceOf.new ..) pl pu q3
  show wpAny (model X.prog X.w) X.A (subscriptTail e (.Slice lo hi none p2) v (.ref s3.heap.objs.size)) (EP X pins σ Q) X.xe { s3 with heap := s3.heap.push { cls := .type "slice",data := .fields #[vl,vu,.none] } }
  exact tail_any (ops := [.ref s3.heap.objs.size,v]) ht hT hg (by with_unfolding_all rfl)
def cutV (xs : List V) (lo hi : Option Int) : List V := (xs.drop (HT.sIx xs.length 0 lo)).take (HT.sIx xs.length xs.length hi - HT.sIx xs.length 0 lo)
theorem cutV_length (xs : List V) (lo hi : Option Int) : (cutV xs lo hi).length ≤ xs.length := by
  unfold cutV
  rw [List.length_take,List.length_drop]
  omega
def rSlT (K : PySem.W.Frag) : V → Option Int → Option Int → Hp → VK → Prop := fun x lo hi H Q => ∃ a xs,x = .ref a ∧ SqT K H a xs ∧
  ¬ (HT.sIx xs.length 0 lo = 0 ∧ HT.sIx xs.length xs.length hi = xs.length) ∧ ∀ p,H p = none → Q (.ref p) (upd H p (.tup (cutV xs lo hi)))
theorem sl_tup : SlR X (rSlT X.K) := by
  intro pins s σ H x v vl vu lo hi sl Q I rx hs pl pu h
  obtain ⟨a,xs,rfl,hx,hw,q⟩ := h
  cases rx
  obtain ⟨its,r,ht,hz⟩ := I.tuple hx
  have hlen : its.toArray.size = xs.length := by rw [List.size_toArray]; exact r.length.symm
  refine ⟨"tuple",_,PyProof.Rows.slot_tuple_getitem.lookup,ht.typeIs,?_⟩
  refine HT.getItem_tuple_cut ht hs pl pu (by rw [hlen]; exact hw) ?_ (by rw [hlen]; exact hz)
  rw [hlen]
  refine ⟨.ref s.heap.objs.size,_,I.laid (t' := s.toks) (o := .tup (cutV xs lo hi)) (fun b ob q => Heap.get?_push_of_some _ q) (Nat.le_refl _) ?_,rfl,q _ (I.hok.fresh (Nat.le_refl _))⟩
  exact ⟨Nat.le_trans (cutV_length xs lo hi) hz,_,(r.drop (HT.sIx xs.length 0 lo)).take (HT.sIx xs.length xs.length hi - HT.sIx xs.length 0 lo),IsTup.new _ _⟩
end
end L2
namespace L2
open PySem PySem.Spec PyProof.Rows
def ixN (n : Nat) (i : Int) : Option Nat := if 0 ≤ i then (if i < n then some i.toNat else none) else if -(n : Int) ≤ i then some (i + n).toNat else none
def atI {α : Type} (xs : List α) (i : Int) : Option α := (ixN xs.length i).bind fun j => xs[j]?
theorem ixN_seq {n : Nat} {i : Int} {j : Nat} (h : ixN n i = some j) : seqIndex? i n = some j ∧ j < n ∧ -(n : Int) ≤ i ∧ i < n := by
  unfold ixN at h
  by_cases h0 : 0 ≤ i
  · rw [if_pos h0] at h
    by_cases h1 : i < n
    · rw [if_pos h1] at h
      have e : i.toNat = j := Option.some.inj h
      exact ⟨by rw [seqIndex_of h0 h1,e],by omega,by omega,h1⟩
    · rw [if_neg h1] at h; cases h
  · rw [if_neg h0] at h
    by_cases h1 : -(n : Int) ≤ i
    · rw [if_pos h1] at h
      have e : (i + n).toNat = j := Option.some.inj h
      exact ⟨by rw [seqIndex_neg (by omega) h1,e],by omega,h1,by omega⟩
    · rw [if_neg h1] at h; cases h
theorem atI_get {α : Type} {xs : List α} {i : Int} {v : α} (h : atI xs i = some v) : ∃ j,seqIndex? i xs.length = some j ∧ xs[j]? = some v ∧ j < xs.length ∧ -(xs.length : Int) ≤ i ∧ i < xs.length := by
  unfold atI at h
  cases e : ixN xs.length i with
  | none => rw [e] at h; cases h
  | some j =>
    rw [e] at h
    obtain ⟨h1,h2,h3,h4⟩ := ixN_seq e
    exact ⟨j,h1,h,h2,h3,h4⟩
theorem atI_nat {α : Type} {xs : List α} {j : Nat} {v : α} (h : xs[j]? = some v) : atI xs (j : Int) = some v := by
  have hj : j < xs.length := (List.getElem?_eq_some_iff.mp h).1
  have e : ixN xs.length (j : Int) = some j := by
    unfold ixN
    rw [if_pos (by omega),if_pos (by omega)]; simp
  unfold atI; rw [e]; exact h
def PlainIx (b : Expr) : Prop := ∀ o i,subscripted b false o i = operate [o,i] (getItem o i)
def IxR (X : Cx) (r : R2) : Prop :=
  ∀ (value slice : Expr) (pins : List (Addr × Obj)) (s : Shared) (σ : St) (H : Hp) (x y : V) (v u : Value) (Q : VK),Inv X pins σ H s → RelV x v → RelV y u → r x y H Q →
    subscripted slice false v u = operate [v,u] (getItem v u) → wpAny (model X.prog X.w) X.A (subscriptTail value slice v u) (EP X pins σ Q) X.xe s
def MtR (X : Cx) (id : String) (r : V → List V → Hp → VK → Prop) : Prop :=
  ∀ (pins : List (Addr × Obj)) (s : Shared) (σ : St) (H : Hp) (x : V) (xs : List V) (v : Value) (us : List Value) (Q : VK),Inv X pins σ H s → RelV x v → Vals xs us → r x xs H Q →
    wpAny (model X.prog X.w) X.A (call (.builtin id) (v :: us)) (EP X pins σ Q) X.xe s
section
variable {X : Cx} {a b : Expr} {ta tb : TE} {pos : Pos}
theorem IxR.or {r r' : R2} (h : IxR X r) (h' : IxR X r') : IxR X (fun x y H Q => r x y H Q ∨ r' x y H Q) := by
  intro value slice pins s σ H x y v u Q I rx ry q hs
  rcases q with q | q
  · exact h value slice pins s σ H x y v u Q I rx ry q hs
  · exact h' value slice pins s σ H x y v u Q I rx ry q hs
theorem pe_ix {r : R2} (hr : IxR X r) (ha : PE X a ta) (hb : PE X b tb) (hs : PlainIx b) : PE X (.Subscript a b pos) (tOp r ta tb) := by
  intro pins s σ H Q I h
  exact Subscript_ (binT ha hb I h fun v u s2 x y H2 I2 rx ry q => hr a b pins s2 σ H2 x y v u Q I2 rx ry q (hs _ _))
def rIxL (K : PySem.W.Frag) : R2 := fun x y H Q => ∃ p xs i v,x = .ref p ∧ y = .int i ∧ SqL K H p xs ∧ atI xs i = some v ∧ Q v H
def rIxT (K : PySem.W.Frag) : R2 := fun x y H Q => ∃ p xs i v,x = .ref p ∧ y = .int i ∧ SqT K H p xs ∧ atI xs i = some v ∧ Q v H
def rIxS : R2 := fun x y H Q => ∃ z i c,x = .str z ∧ y = .int i ∧ z.length ≤ sizeLine ∧ atI z.cps.toList i = some c ∧ Q (.str ⟨#[c]⟩) H
theorem ix_list : IxR X (rIxL X.K) := by
  intro value slice pins s σ H x y v u Q I rx ry h hs
  obtain ⟨p,xs,i,z,rfl,rfl,hq,he,q⟩ := h
  cases rx
  obtain ⟨t,rfl⟩ := ry
  obtain ⟨its,r,pl,hz⟩ := I.list hq
  obtain ⟨j,h1,h2,h3,h4,h5⟩ := atI_get he
  obtain ⟨w,ew,rw'⟩ := r.get h2
  have hl := r.length
  have hn := line63
  have fin : EP X pins σ Q w s := ⟨z,H,I,rw',q⟩
  by_cases h0 : 0 ≤ i
  · have hj : i.toNat = j := by
      rw [seqIndex_of h0 h5] at h1
      exact Option.some.inj h1
    exact item_listR pl.isList h0 (by omega) (by rw [hj]; simpa using ew) fin hs
  · have hj : (i + (its.toArray.size : Int)).toNat = j := by
      rw [seqIndex_neg (by omega) h4] at h1
      rw [List.size_toArray,← hl]
      exact Option.some.inj h1
    exact subscriptTail_builtinR (x := w) pl.isList.typeIs slot_list_getitem.lookup
      (wpAny_getItem_list_neg (Q := fun r s' => r = w ∧ EP X pins σ Q r s') pl.isList (by omega) (by rw [List.size_toArray] <;> omega) (by omega) (by rw [hj]; simpa using ew) ⟨rfl,fin⟩) hs
theorem ix_tup : IxR X (rIxT X.K) := by
  intro value slice pins s σ H x y v u Q I rx ry h hs
  obtain ⟨p,xs,i,z,rfl,rfl,hq,he,q⟩ := h
  cases rx
  obtain ⟨t,rfl⟩ := ry
  obtain ⟨its,r,pl,hz⟩ := I.tuple hq
  obtain ⟨j,h1,h2,h3,h4,h5⟩ := atI_get he
  obtain ⟨w,ew,rw'⟩ := r.get h2
  have hl := r.length
  have hn := line63
  have fin : EP X pins σ Q w s := ⟨z,H,I,rw',q⟩
  exact subscriptTail_builtinR (x := w) pl.typeIs slot_tuple_getitem.lookup
    (getItem_tuple (j := j) (Q := fun r s' => r = w ∧ EP X pins σ Q r s') pl (by omega) (by omega) (by rw [List.size_toArray,← hl]; exact h1) (by simpa using ew) ⟨rfl,fin⟩) hs
theorem ix_str : IxR X rIxS := by
  intro value slice pins s σ H x y v u Q I rx ry h hs
  obtain ⟨z,i,c,rfl,rfl,hz,he,q⟩ := h
  obtain ⟨t,rfl⟩ := rx
  obtain ⟨t',rfl⟩ := ry
  obtain ⟨j,h1,h2,h3,h4,h5⟩ := atI_get he
  have hl : z.cps.toList.length = z.length := by simp [Str.length]
  rw [hl] at h1 h4 h5
  have hn := line63
  exact tail_any (typeIs_str s z t) slot_str_getitem.lookup (getItem_str (c := c) (by
    have e1 : decide (i < -(2 ^ 63 : Int)) = false := decide_eq_false (by omega)
    have e2 : decide (i ≥ 2 ^ 63) = false := decide_eq_false (by omega)
    rw [e1,e2,Bool.or_false]) (by rw [h1]; simpa using h2) ⟨.str ⟨#[c]⟩,H,I.tok _,⟨_,rfl⟩,q⟩) hs
def rIx (K : PySem.W.Frag) : R2 := fun x y H Q => rIxL K x y H Q ∨ rIxT K x y H Q ∨ rIxS x y H Q
theorem ix_seq : IxR X (rIx X.K) := ix_list.or (ix_tup.or ix_str)
theorem mapSeq_set (its : List Value) (n j : Nat) (u : Value) : Obj.mapSeq (·.setIfInBounds j u) { cls := .type "list",data := .seq its.toArray n } = { cls := .type "list",data := .seq (its.set j u).toArray n } := by
  simp [Obj.mapSeq]
theorem Inv.lst {pins : List (Addr × Obj)} {σ : St} {H : Hp} {s : Shared} {p : Addr} {xs : List V} (I : Inv X pins σ H s) (h : H p = some (.lst xs)) :
    ∃ (its : List Value) (n : Nat),Vals xs its ∧ s.heap.get? p = some { cls := .type "list",data := .seq its.toArray n } ∧ xs.length ≤ sizeLine := by
  obtain ⟨z,its,n,r,e⟩ := I.hok p _ h
  exact ⟨its,n,r,e,z⟩
theorem Inv.lstUpd {pins : List (Addr × Obj)} {σ : St} {H : Hp} {s : Shared} {p : Addr} {xs ys : List V} {its its' : List Value} {n n' : Nat} {f : Obj → Obj} (I : Inv X pins σ H s) (h : H p = some (.lst xs))
    (ho : s.heap.get? p = some { cls := .type "list", data := .seq its.toArray n }) (hf : f { cls := .type "list", data := .seq its.toArray n } = { cls := .type "list", data := .seq its'.toArray n' }) (r : Vals ys its') (hz : ys.length ≤ sizeLine) (t : Nat) :
    Inv X pins σ (upd H p (.lst ys)) { s with heap := s.heap.update p f,toks := t } := by
  have e : (s.heap.update p f).get? p = some { cls := .type "list", data := .seq its'.toArray n' } := by
    rw [Heap.get?_update_self f ho (by rw [hf] <;> rfl),hf]
  refine I.write (x := p) (e := p) (by rw [h]; trivial) (.inl rfl) (fun b u hb q => (Heap.get?_update_other _ _ (Ne.symm hb)).trans q) ⟨_,e⟩ ?_
  exact ⟨hz,its',n',r,e⟩
def rSetL : V → V → V → Hp → (Hp → Prop) → Prop := fun o i v H Q => ∃ p xs k j,o = .ref p ∧ i = .int k ∧ H p = some (.lst xs) ∧ ixN xs.length k = some j ∧ Q (upd H p (.lst (xs.set j v)))
theorem set_list : PSet X rSetL := by
  intro pins s σ H o i v ov iv u Q I ro ri rv h
  obtain ⟨p,xs,k,j,rfl,rfl,hp,hj,q⟩ := h
  cases ro
  obtain ⟨t,rfl⟩ := ri
  obtain ⟨its,n,r,ho,hz⟩ := I.lst hp
  obtain ⟨h1,h2,h3,h4⟩ := ixN_seq hj
  have hl := r.length
  have hn := line63
  have I' : Inv X pins σ (upd H p (.lst (xs.set j v))) { s with heap := s.heap.update p (Obj.mapSeq (·.setIfInBounds j u)) } :=
    I.lstUpd hp ho (mapSeq_set its n j u) (r.set rv j) (by rw [List.length_set]; exact hz) s.toks
  by_cases h0 : 0 ≤ k
  · have hk : k.toNat = j := by
      rw [seqIndex_of h0 h4] at h1
      exact Option.some.inj h1
    exact PySem.W.ki_setAt ho h0 (by omega) (by rw [List.size_toArray,← hl]; exact h4) (by rw [hk]; exact ⟨_,I',q⟩)
  · have hk : (k + (its.toArray.size : Int)).toNat = j := by
      rw [seqIndex_neg (by omega) h3] at h1
      rw [List.size_toArray,← hl]
      exact Option.some.inj h1
    exact PySem.W.ki_setBack ho (by omega) (by rw [List.size_toArray,← hl]; exact h3) (by omega) (by rw [hk]; exact ⟨_,I',q⟩)
theorem slice_bounds (lo hi : Option Int) (n : Nat) : (sliceBounds lo hi none n).1 = ((HT.sIx n 0 lo : Nat) : Int) ∧ (sliceBounds lo hi none n).2.1 = ((HT.sIx n n hi : Nat) : Int) ∧ (sliceBounds lo hi none n).2.2 = 1 := by
  refine ⟨?_,?_,rfl⟩
  · cases lo with
    | none => simp [sliceBounds,HT.sIx]
    | some i =>
      simp only [sliceBounds,HT.sIx,Option.getD_none,show (1 : Int) > 0 by decide,if_true]
      by_cases h : i < 0
      · simp only [h,if_true] <;> omega
      · simp only [h,if_false] <;> omega
  · cases hi with
    | none => simp [sliceBounds,HT.sIx]
    | some i =>
      simp only [sliceBounds,HT.sIx,Option.getD_none,show (1 : Int) > 0 by decide,if_true]
      by_cases h : i < 0
      · simp only [h,if_true] <;> omega
      · simp only [h,if_false] <;> omega
theorem slicePick_cut (its : List Value) (lo hi : Option Int) : slicePick its.toArray lo hi none = ((its.drop (HT.sIx its.length 0 lo)).take (HT.sIx its.length its.length hi - HT.sIx its.length 0 lo)).toArray := by
  obtain ⟨h1,h2,h3⟩ := slice_bounds lo hi its.toArray.size
  unfold slicePick
  rw [h1,h2,h3]
  simp only [sliceRange_one,pick_run,List.size_toArray] <;> rfl
def rSlL (K : PySem.W.Frag) : V → Option Int → Option Int → Hp → VK → Prop := fun x lo hi H Q => ∃ a xs,x = .ref a ∧ SqL K H a xs ∧ ∀ p,H p = none → Q (.ref p) (upd H p (.lst (cutV xs lo hi)))
theorem sl_list : SlR X (rSlL X.K) := by
  intro pins s σ H x v vl vu lo hi sl Q I rx hs pl pu h
  obtain ⟨a,xs,rfl,hx,q⟩ := h
  cases rx
  obtain ⟨its,r,ht,hz⟩ := I.list hx
  have hlen := r.length
  refine ⟨"list",_,slot_list_getitem.lookup,ht.isList.typeIs,?_⟩
  refine wpAny_getItem_list_slice ht.isList hs pl pu .none (by simp) ?_ (by rw [List.size_toArray] <;> omega)
  rw [slicePick_cut,← hlen]
  refine ⟨.ref s.heap.objs.size,_,I.laid (t' := s.toks) (o := .lst (cutV xs lo hi)) (fun b ob q => Heap.get?_push_of_some _ q) (Nat.le_refl _) ?_,rfl,q _ (I.hok.fresh (Nat.le_refl _))⟩
  exact ⟨Nat.le_trans (cutV_length xs lo hi) hz,_,0,(r.drop (HT.sIx xs.length 0 lo)).take (HT.sIx xs.length xs.length hi - HT.sIx xs.length 0 lo),Heap.get?_push_size _ rfl⟩
def flatV : V → Bool
  | .non => true
  | .bl _ => true
  | .int _ => true
  | .str _ => true
  | _ => false
def eqV : V → V → Bool
  | .non,.non => true
  | .bl a,.bl b => a == b
  | .bl a,.int b => (if a then 1 else 0) == b
  | .int a,.bl b => a == (if b then 1 else 0)
  | .int a,.int b => a == b
  | .str a,.str b => a == b
  | _,_ => false
theorem eqAt_V {A : Around} {s : Shared} {y x : V} {u v : Value} (ry : RelV y u) (rx : RelV x v) (fy : flatV y = true) (fx : flatV x = true) : SeqAt.EqAt A s u v (eqV y x) := by
  cases y with
  | non =>
    cases ry
    cases x with
    | non => cases rx; exact SeqAt.EqAt.same _
    | bl b => cases rx; exact SeqAt.EqAt.none_bool b
    | int b => obtain ⟨t,rfl⟩ := rx; exact SeqAt.EqAt.none_int b t
    | str b => obtain ⟨t,rfl⟩ := rx; exact SeqAt.EqAt.none_str b t
    | _ => exact absurd (show false = true from fx) Bool.false_ne_true
  | bl a =>
    cases ry
    cases x with
    | non => cases rx; exact SeqAt.EqAt.bool_none a
    | bl b => cases rx; exact SeqAt.EqAt.bool_bool a b
    | int b => obtain ⟨t,rfl⟩ := rx; exact SeqAt.EqAt.bool_int a b t
    | str b => obtain ⟨t,rfl⟩ := rx; exact SeqAt.EqAt.bool_str a b t
    | _ => exact absurd (show false = true from fx) Bool.false_ne_true
  | int a =>
    obtain ⟨t',rfl⟩ := ry
    cases x with
    | non => cases rx; exact SeqAt.EqAt.int_none a t'
    | bl b => cases rx; exact SeqAt.EqAt.int_bool a t' b
    | int b => obtain ⟨t,rfl⟩ := rx; exact SeqAt.EqAt.int_int a t' b t
    | str b => obtain ⟨t,rfl⟩ := rx; exact SeqAt.EqAt.int_str a t' b t
    | _ => exact absurd (show false = true from fx) Bool.false_ne_true
  | str a =>
    obtain ⟨t',rfl⟩ := ry
    cases x with
    | non => cases rx; exact SeqAt.EqAt.str_none a t'
    | bl b => cases rx; exact SeqAt.EqAt.str_bool a t' b
    | int b => obtain ⟨t,rfl⟩ := rx; exact SeqAt.EqAt.str_int a t' b t
    | str b => obtain ⟨t,rfl⟩ := rx; exact SeqAt.EqAt.str_str a t' b t
    | _ => exact absurd (show false = true from fx) Bool.false_ne_true
  | _ => exact absurd (show false = true from fy) Bool.false_ne_true
def eqU (x : V) (u : Value) : Bool := match u with
  | .none => eqV .non x
  | .bool b => eqV (.bl b) x
  | .int i _ => eqV (.int i) x
  | .str z _ => eqV (.str z) x
  | _ => false
theorem eqU_of {x y : V} {u : Value} (r : RelV y u) (f : flatV y = true) : eqU x u = eqV y x := by
  cases y with
  | non => cases r; rfl
  | bl b => cases r; rfl
  | int i => obtain ⟨t,rfl⟩ := r; rfl
  | str z => obtain ⟨t,rfl⟩ := r; rfl
  | _ => exact absurd (show false = true from f) Bool.false_ne_true
theorem any_eqU {x : V} : ∀ {xs : List V} {us : List Value},Vals xs us → xs.all flatV = true → us.any (eqU x) = xs.any fun y => eqV y x
  | _,_,.nil,_ => rfl
  | y :: xs,u :: us,.cons r t,f => by
    rw [List.all_cons,Bool.and_eq_true] at f
    rw [List.any_cons,List.any_cons,eqU_of r f.1,any_eqU t f.2]
theorem mem_eqAt {A : Around} {s : Shared} {x : V} {v : Value} (rx : RelV x v) (fx : flatV x = true) : ∀ {xs : List V} {us : List Value},Vals xs us → xs.all flatV = true → ∀ u ∈ us,SeqAt.EqAt A s u v (eqU x u)
  | _,_,.nil,_ => fun u hu => by cases hu
  | y :: xs,u :: us,.cons r t,f => fun u' hu => by
    rw [List.all_cons,Bool.and_eq_true] at f
    rcases List.mem_cons.mp hu with rfl | hu
    · rw [eqU_of r f.1]; exact eqAt_V r rx f.1 fx
    · exact mem_eqAt rx fx t f.2 u' hu
def inV (x : V) (xs : List V) : Bool := xs.any fun y => eqV y x
def rIn (K : PySem.W.Frag) (neg : Bool) : R2 := fun x y H Q => ∃ p xs,y = .ref p ∧ (SqL K H p xs ∨ SqT K H p xs) ∧ flatV x = true ∧ xs.all flatV = true ∧ Q (.bl (if neg then !inV x xs else inV x xs)) H
theorem op_in_seq : OpR X (compareOp .In) (rIn X.K false) := by
  intro pins s σ H x y v u Q I rx ry h
  obtain ⟨p,xs,rfl,hq,fx,fs,q⟩ := h
  cases ry
  rcases hq with hq | hq
  · obtain ⟨its,r,pl,hz⟩ := I.list hq
    refine SeqAt.in_listAt (eqU x) pl.isList (fun w hw => mem_eqAt rx fx r fs w (by simpa using hw)) ⟨.bl _,H,I,rfl,?_⟩
    rw [show its.toArray.any (eqU x) = its.any (eqU x) by simp,any_eqU r fs]
    exact q
  · obtain ⟨its,r,pl,hz⟩ := I.tuple hq
    refine SeqAt.in_tupleAt (eqU x) pl (fun w hw => mem_eqAt rx fx r fs w (by simpa using hw)) ⟨.bl _,H,I,rfl,?_⟩
    rw [show its.toArray.any (eqU x) = its.any (eqU x) by simp,any_eqU r fs]
    exact q
theorem call_len_seq : CallR X (.builtin "len") (fun xs H Q => ∃ p ys,xs = [.ref p] ∧ (SqL X.K H p ys ∨ SqT X.K H p ys) ∧ Q (.int ys.length) H) := by
  intro pins s σ H xs us Q I r h
  obtain ⟨p,ys,rfl,hq,q⟩ := h
  obtain ⟨u,rfl,rx⟩ := vals1 r
  cases rx
  have hn := line63
  rcases hq with hq | hq
  · obtain ⟨its,r',pl,hz⟩ := I.list hq
    have hlen := r'.length
    exact Calls.call_len_list pl.isList (by simp only [List.size_toArray] <;> omega) ⟨.int ys.length,H,I.tok _,⟨s.toks + 1,by rw [List.size_toArray,hlen]⟩,q⟩
  · obtain ⟨its,r',pl,hz⟩ := I.tuple hq
    have hlen := r'.length
    exact len_tuple pl (by simp only [List.size_toArray] <;> omega) ⟨.int ys.length,H,I.tok _,⟨s.toks + 1,by rw [List.size_toArray,hlen]⟩,q⟩
theorem call_list_of : CallR X (.type "list") (fun xs H Q => ∃ p ys,xs = [.ref p] ∧ (SqL X.K H p ys ∨ SqT X.K H p ys) ∧ ∀ l,H l = none → Q (.ref l) (upd H l (.lst ys))) := by
  intro pins s σ H xs us Q I r h
  obtain ⟨p,ys,rfl,hq,q⟩ := h
  obtain ⟨u,rfl,rx⟩ := vals1 r
  cases rx
  have fin : ∀ (its : List Value),Vals ys its → ys.length ≤ sizeLine → ∀ (h' : Heap) (c' : Nat),(∀ b o',s.heap.get? b = some o' → h'.get? b = some o') →
      h'.get? s.heap.objs.size = some { cls := .type "list", dict := none, data := .seq its.toArray c', slots := #[] } → EP X pins σ Q (.ref s.heap.objs.size) { s with heap := h' } := fun its r' hz h' c' kp e =>
    ⟨.ref s.heap.objs.size,_,I.laid (t' := s.toks) kp (Nat.le_refl _) (show ObjOk X.prog X.w _ h' _ (.lst ys) from ⟨hz,its,c',r',e⟩),rfl,q _ (I.hok.fresh (Nat.le_refl _))⟩
  rcases hq with hq | hq
  · obtain ⟨its,r',pl,hz⟩ := I.list hq
    have hlen := r'.length
    obtain ⟨o,ho,hc,n,hd⟩ := pl.isList
    exact call_list_seq p (.inl rfl) ho hc hd (fun h' c' kp e => fin its r' hz h' c' kp e) (by simp only [List.size_toArray] <;> omega)
  · obtain ⟨its,r',pl,hz⟩ := I.tuple hq
    have hlen := r'.length
    obtain ⟨o,ho,hc,n,hd⟩ := pl
    exact call_list_seq p (.inr rfl) ho hc hd (fun h' c' kp e => fin its r' hz h' c' kp e) (by simp only [List.size_toArray] <;> omega)
theorem call_tuple_of : CallR X (.type "tuple") (fun xs H Q => ∃ p ys,xs = [.ref p] ∧ ((SqL X.K H p ys ∧ ∀ l,H l = none → Q (.ref l) (upd H l (.tup ys))) ∨ (SqT X.K H p ys ∧ Q (.ref p) H))) := by
  intro pins s σ H xs us Q I r h
  obtain ⟨p,ys,rfl,h⟩ := h
  obtain ⟨u,rfl,rx⟩ := vals1 r
  cases rx
  rcases h with ⟨hq,q⟩ | ⟨hq,q⟩
  · obtain ⟨its,r',pl,hz⟩ := I.list hq
    have hlen := r'.length
    refine call_tuple_list pl.isList (fun h' kp => ?_) (by simp only [List.size_toArray] <;> omega)
    have I1 : Inv X pins σ H { s with heap := h' } := I.kept (t' := s.toks) kp
    have I2 : Inv X pins σ (upd H h'.objs.size (.tup ys)) { s with heap := h'.push { cls := .type "tuple", data := .seq its.toArray } } :=
      I1.laid (t' := s.toks) (fun b o e => Heap.get?_push_of_some _ e) (Nat.le_refl _) (show ObjOk X.prog X.w _ _ _ (.tup ys) from ⟨hz,its,r',IsTup.new _ _⟩)
    exact ⟨.ref h'.objs.size,_,I2,rfl,q _ (I1.hok.fresh (Nat.le_refl _))⟩
  · obtain ⟨its,r',pl,hz⟩ := I.tuple hq
    exact call_tuple_same pl ⟨.ref p,H,I,rfl,q⟩
def tyV (K : PySem.W.Frag) (T : String) (x : V) (H : Hp) : Prop := match x with
  | .str _ => T = "str"
  | .int _ => T = "int"
  | .ref p => (T = "list" ∧ ∃ xs,SqL K H p xs) ∨ (T = "tuple" ∧ ∃ o,K.lookup p = some o ∧ o.cls = .type "tuple" ∧ o.dict = none) ∨
      (T = "dict" ∧ ((∃ kvs,H p = some (.dK kvs)) ∨ ∃ kvs,H p = some (.dT kvs))) ∨ (T = "set" ∧ ∃ S n,H p = some (.set S n))
  | _ => False
theorem tyV_is {pins : List (Addr × Obj)} {σ : St} {H : Hp} {s : Shared} {T : String} {x : V} {v : Value} (I : Inv X pins σ H s) (r : RelV x v) (ty : tyV X.K T x H) :
    s.TypeIs v T ∧ ∀ a,v = .ref a → ∃ ob,s.heap.get? a = some ob ∧ ob.dict = none := by
  cases x with
  | str z =>
    obtain ⟨t,rfl⟩ := r
    cases (show T = "str" from ty)
    exact ⟨typeIs_str s z t,fun _ e => nomatch e⟩
  | int i =>
    obtain ⟨t,rfl⟩ := r
    cases (show T = "int" from ty)
    exact ⟨typeIs_int s i t,fun _ e => nomatch e⟩
  | ref p =>
    cases r
    rcases ty with ⟨rfl,xs,hq⟩ | ⟨rfl,o,hk,hc,hd⟩ | ⟨rfl,hk⟩ | ⟨rfl,S,n,hk⟩
    · obtain ⟨its,_,pl,_⟩ := I.list hq
      refine ⟨pl.isList.typeIs,fun a e => ?_⟩
      cases e
      obtain ⟨o,n,e,c,hd,_⟩ := pl
      exact ⟨o,e,hd⟩
    · refine ⟨⟨o,I.kIn p o hk,hc⟩,fun a e => ?_⟩
      cases e
      exact ⟨o,I.kIn _ o hk,hd⟩
    · have z : ∃ o,s.heap.get? p = some o ∧ o.ExactDict := by
        rcases hk with ⟨kvs,hk⟩ | ⟨kvs,hk⟩
        · obtain ⟨_,_,_,_,o,_,_,e,ex,_⟩ := I.hok p _ hk
          exact ⟨o,e,ex⟩
        · obtain ⟨_,_,_,_,o,_,_,e,ex,_⟩ := I.hok p _ hk
          exact ⟨o,e,ex⟩
      obtain ⟨o,e,ex⟩ := z
      refine ⟨⟨o,e,ex.1⟩,fun a e2 => ?_⟩
      cases e2
      exact ⟨o,e,ex.2.1⟩
    · obtain ⟨o,_,_,_,e,ex,_⟩ := I.hok p _ hk
      refine ⟨⟨o,e,ex.1⟩,fun a e2 => ?_⟩
      cases e2
      exact ⟨o,e,ex.2.1⟩
  | _ => exact False.elim ty
def tBM0 (K : PySem.W.Frag) (T : String) (r : V → List V → Hp → VK → Prop) (to : TE) : TE := fun σ H Q => to σ H fun x H1 => tyV K T x H1 ∧ r x [] H1 Q
def tBM (K : PySem.W.Frag) (T : String) (r : V → List V → Hp → VK → Prop) (to : TE) (t : TA) : TE := fun σ H Q => to σ H fun x H1 => tyV K T x H1 ∧ t σ H1 fun xs H2 => r x xs H2 Q
variable {o e : Expr} {es : List Expr} {to : TE} {t : TA} {name : Str} {apos cpos : Pos} {T id : String} {r : V → List V → Hp → VK → Prop}
theorem pe_bm0 (pa : PlainAttrs T) (slot : Slot T name id) (hty : typeOf (.builtin id) = pure (.type "method_descriptor")) (hm : MtR X id r) (ho : PE X o to)
    (hbase : attributeBase o name X.env (eval o X.env) = eval o X.env := by rfl) (hline : (apos.endLine == cpos.line) = true := by rfl) : PE X (.Call (.Attribute o name apos) [] [] cpos) (tBM0 X.K T r to) := by
  intro pins s σ H Q I h
  refine wpAny_Call_method0_late hbase hline (thn (ho pins s σ H _ I h) fun v s1 ⟨x,H1,I1,r1,ty,q1⟩ => ?_)
  obtain ⟨h1,h2⟩ := tyV_is I1 r1 ty
  exact ⟨T,id,pa,slot,hty,h1,h2,Calls.callWith_builtin rfl (PySem.evalArgs_none (hm pins s1 σ H1 x [] v [] Q I1 r1 .nil q1))⟩
theorem pe_bm (pa : PlainAttrs T) (slot : Slot T name id) (hty : typeOf (.builtin id) = pure (.type "method_descriptor")) (hm : MtR X id r) (ho : PE X o to) (ha : PA X (e :: es) t)
    (hbase : attributeBase o name X.env (eval o X.env) = eval o X.env := by rfl)
    (hfew : ((backTo cpos (starEach (e :: es) X.env)).all (fun x => !x.1) && (backToKw cpos (keywordEach [] X.env)).all (fun x => x.1.isSome)
      && decide ((e :: es).length + ([] : List Keyword).length + (if ([] : List Keyword).isEmpty then 0 else 1) < 30)) = true := by rfl)
    (hline : (apos.endLine == cpos.line) = true := by rfl) (hs : starEach (e :: es) X.env = (false,eval e X.env) :: starEach es X.env := by rfl) (hplain : (backTo cpos (starEach es X.env)).any (·.1) = false := by rfl) :
    PE X (.Call (.Attribute o name apos) (e :: es) [] cpos) (tBM X.K T r to t) := by
  intro pins s σ H Q I h
  refine wpAny_Call_method_late hbase hfew hline rfl (thn (ho pins s σ H _ I h) fun v s1 ⟨x,H1,I1,r1,ty,q1⟩ => ?_)
  obtain ⟨h1,h2⟩ := tyV_is I1 r1 ty
  refine ⟨T,id,pa,slot,hty,h1,h2,?_⟩
  have hA := ha cpos pins s1 σ H1 _ I1 q1
  rw [hs] at hA ⊢
  refine Calls.callWith_builtin (by show (false || (backTo cpos (starEach es X.env)).any (·.1)) = false; rw [hplain] <;> rfl) (Calls.evalArgs_plain ?_)
  exact thn hA fun us s2 ⟨vs,H2,I2,r2,q2⟩ => hm pins s2 σ H2 x vs v us Q I2 r1 r2 q2
/- xs.append(e),list.index on a module's tuple .. are MtR facts of 06m -/
end
end L2
namespace L2
open PySem PySem.Spec PyProof.Rows
def MtM (X : Cx) (id : String) (r : V → List V → Hp → VK → Prop) : Prop :=
  ∀ (pins : List (Addr × Obj)) (s : Shared) (σ : St) (H : Hp) (x : V) (xs : List V) (v : Value) (us : List Value) (Q : VK),Inv X pins σ H s → RelV x v → Vals xs us → r x xs H Q →
    wpAny (model X.prog X.w) X.A (call (.builtin id) (v :: us)) (EP X pins σ Q) X.xe s
theorem Vals.one : ∀ {x : V} {us : List Value},Vals [x] us → ∃ u,us = [u] ∧ RelV x u
  | _,_,.cons r .nil => ⟨_,rfl,r⟩
theorem Vals.zero : ∀ {us : List Value},Vals [] us → us = []
  | _,.nil => rfl
theorem Vals.dropLast {xs : List V} {us : List Value} (h : Vals xs us) : Vals xs.dropLast us.dropLast := by
  induction h with
  | nil => exact .nil
  | cons r t ih =>
    cases t with
    | nil => exact .nil
    | cons q t' => exact .cons r ih
theorem erase_last {α : Type} (l : List α) : l.eraseIdx (l.length - 1) = l.dropLast := by
  induction l with
  | nil => rfl
  | cons a r ih =>
    cases r with
    | nil => rfl
    | cons b r =>
      have e : (a :: b :: r).length - 1 = ((b :: r).length - 1) + 1 := by
        have h1 : (a :: b :: r).length = r.length + 2 := rfl
        have h2 : (b :: r).length = r.length + 1 := rfl
        omega
      rw [e,List.eraseIdx_cons_succ,ih]
      all_goals rfl
section
variable {X : Cx} {pins : List (Addr × Obj)} {σ : St} {H : Hp} {s : Shared} {l b : Addr} {xs ys zs : List V}
theorem Inv.lset {its its' : List Value} {n : Nat} {f : Array Value → Array Value} {t' : Nat} (I : Inv X pins σ H s) (hH : H l = some (.lst xs))
    (e : s.heap.get? l = some { cls := .type "list", data := .seq its.toArray n }) (hf : f its.toArray = its'.toArray) (hv : Vals ys its') (hz : ys.length ≤ sizeLine) :
    Inv X pins σ (upd H l (.lst ys)) { s with heap := s.heap.update l (Obj.mapSeq f),toks := t' } := by
  have q := PySem.IsL.update e f
  rw [hf] at q
  refine I.write (x := l) (e := l) (by rw [hH]; exact trivial) (.inl rfl) (fun b' u hb hu => (Heap.get?_update_other s.heap (Obj.mapSeq f) (Ne.symm hb)).trans hu) ⟨_,q⟩ ?_
  exact ⟨hz,its',_,hv,q⟩
theorem Inv.lstM (I : Inv X pins σ H s) (hH : H l = some (.lst xs)) : xs.length ≤ sizeLine ∧ ∃ (its : List Value) (n : Nat),Vals xs its ∧ xs.length = its.length ∧ s.heap.get? l = some { cls := .type "list",data := .seq its.toArray n } := by
  obtain ⟨z,its,n,r,e⟩ := I.hok l _ hH
  exact ⟨z,its,n,r,r.length,e⟩
theorem notLongL {n : Nat} (h : n ≤ sizeLine) : Builtin.List.listTooLong n = false := by
  unfold Builtin.List.listTooLong
  exact decide_eq_false (by omega)
end
section
variable {X : Cx}
def rAppend : V → List V → Hp → VK → Prop := fun x vs H Q => ∃ l xs y,x = .ref l ∧ vs = [y] ∧ H l = some (.lst xs) ∧ xs.length < sizeLine ∧ Q .non (upd H l (.lst (xs ++ [y])))
theorem mt_append : MtM X "list.append" rAppend := by
  intro pins s σ H x vs v us Q I rx rv h
  obtain ⟨l,xs,y,rfl,rfl,hH,hz,q⟩ := h
  cases rx
  obtain ⟨u,rfl,ru⟩ := rv.one
  obtain ⟨z,its,n,r,hl,e⟩ := I.lstM hH
  refine call_meets F.slot_list_append ⟨_,e,rfl⟩ F.entry_list_append (F.args_list_append_2 _ _) (PySem.list_append l its.toArray n u (by rw [List.size_toArray]; omega)) ⟨e,?_⟩
  refine ⟨.non,_,I.lset (its' := its ++ [u]) hH e (by simp) (r.append (.cons ru .nil)) ?_,rfl,q⟩
  rw [List.length_append,List.length_singleton]
  omega
def rExtend : V → List V → Hp → VK → Prop := fun x vs H Q => ∃ l b xs zs,x = .ref l ∧ vs = [.ref b] ∧ H l = some (.lst xs) ∧ H b = some (.lst zs) ∧ xs.length + zs.length ≤ sizeLine ∧ Q .non (upd H l (.lst (xs ++ zs)))
theorem mt_extend : MtM X "list.extend" rExtend := by
  intro pins s σ H x vs v us Q I rx rv h
  obtain ⟨l,b,xs,zs,rfl,rfl,hH,hB,hz,q⟩ := h
  cases rx
  obtain ⟨u,rfl,ru⟩ := rv.one
  cases ru
  obtain ⟨z,its,n,r,hl,e⟩ := I.lstM hH
  obtain ⟨z2,its2,n2,r2,hl2,e2⟩ := I.lstM hB
  have hsz : its.toArray.size + its2.toArray.size ≤ sizeLine := by rw [List.size_toArray,List.size_toArray]; omega
  have hlong : ¬ (!its.toArray.isEmpty && Builtin.List.listTooLong (its.toArray.size + its2.toArray.size)) = true := by
    rw [notLongL hsz,Bool.and_false]
    exact Bool.false_ne_true
  refine call_meets F.slot_list_extend ⟨_,e,rfl⟩ F.entry_list_extend (F.args_list_extend_2 _ _)
    (AutoSeq1.list_extend_list_list_0 l its.toArray n b its2.toArray n2 hlong (by rw [List.size_toArray]; omega) (by omega)) ⟨e,e2,?_⟩
  refine ⟨.non,_,I.lset (its' := its ++ its2) hH e (by simp) (r.append r2) ?_,rfl,q⟩
  rw [List.length_append]
  omega
def rPop : V → List V → Hp → VK → Prop := fun x vs H Q => ∃ l xs y,x = .ref l ∧ vs = [] ∧ H l = some (.lst xs) ∧ xs[xs.length - 1]? = some y ∧ Q y (upd H l (.lst xs.dropLast))
theorem mt_pop : MtM X "list.pop" rPop := by
  intro pins s σ H x vs v us Q I rx rv h
  obtain ⟨l,xs,y,rfl,rfl,hH,hy,q⟩ := h
  cases rx
  have hus := rv.zero
  subst hus
  obtain ⟨z,its,n,r,hl,e⟩ := I.lstM hH
  obtain ⟨u,hu,ru⟩ := r.get hy
  have hy' : its.toArray[its.toArray.size - 1]? = some u := by
    show its.toArray[its.length - 1]? = some u
    rw [← Array.getElem?_toList,← hl]
    exact hu
  refine call_meets F.slot_list_pop ⟨_,e,rfl⟩ F.entry_list_pop (F.args_list_pop_1 _) (MeetsSeq.list_pop_last l its.toArray n u hy' (by rw [List.size_toArray]; omega)) ⟨e,?_⟩
  refine ⟨y,_,I.lset (its' := its.dropLast) hH e ?_ r.dropLast ?_,ru,q⟩
  · show its.toArray.eraseIdxIfInBounds (its.toArray.size - 1) = its.dropLast.toArray
    rw [List.size_toArray,List.eraseIdxIfInBounds_toArray,erase_last]
  · rw [List.length_dropLast]
    omega
def rClear : V → List V → Hp → VK → Prop := fun x vs H Q => ∃ l xs,x = .ref l ∧ vs = [] ∧ H l = some (.lst xs) ∧ Q .non (upd H l (.lst []))
theorem mt_clear : MtM X "list.clear" rClear := by
  intro pins s σ H x vs v us Q I rx rv h
  obtain ⟨l,xs,rfl,rfl,hH,q⟩ := h
  cases rx
  have hus := rv.zero
  subst hus
  obtain ⟨z,its,n,r,hl,e⟩ := I.lstM hH
  refine call_meets F.slot_list_clear ⟨_,e,rfl⟩ F.entry_list_clear (F.args_list_clear_1 _) (AutoSeq1.list_clear_list_0 l its.toArray n (by rw [List.size_toArray]; omega)) ⟨e,?_⟩
  exact ⟨.non,_,I.lset (its' := []) (ys := []) hH e rfl .nil (Nat.zero_le _),rfl,q⟩
end
section
variable {prog : Program} {w : World} {A : Around} {E : Value → Shared → Prop} {s : Shared}
end
section
variable {X : Cx}
end
end L2
namespace Att
open PySem PySem.W PySem.Calls PyProof.Rows
theorem ints_of_wellAll {P : Params} {h : Heap} : ∀ (ns : List Int) (vs : List Value),WellAll P h vs (ns.map WData.int) → IntsAre vs ns := by
  intro ns
  induction ns with
  | nil =>
    intro vs w
    rw [List.map_nil] at w
    cases w
    exact .nil
  | cons n ns ih =>
    intro vs w
    rw [List.map_cons] at w
    cases w with
    | cons a b =>
      cases a
      exact .cons _ _ (ih _ b)
theorem script_of {l : OpenLaw} {n : Nat} (hn : l.most = some n) {P : Params} {h : Heap} {args : List WData} {vals : List Value}
    (hpre : l.row.toRowW.claim.pre args = true) (hwl : WellAll P h vals args) :
    ∃ a vs ns,vals = [Value.ref a] ∧ args = [WData.list (ns.map WData.int)] ∧ h.get? a = some { cls := .type "list",data := .seq vs.toArray } ∧ IntsAre vs ns ∧ ns.length ≤ n := by
  have hsh : WShape.hasAll [] args [.list .int] = true := (pre_splitW hpre).1
  have hc : l.pre.holds [] { args := args } = true := (pre_splitW hpre).2
  obtain ⟨d,r,rfl,h1,h2⟩ := hasAllW_cons hsh
  obtain rfl := hasAllW_nil h2
  obtain ⟨xs,rfl,h3⟩ := hasW_list h1
  obtain ⟨ns,rfl⟩ := items_int h3
  have hlen : ns.length ≤ n := by
    unfold OpenLaw.pre at hc
    have h4 : (WTm.not (.lt (.lit (.int (n : Int))) (.len (.arg 0)))).holds [] { args := [.list (ns.map .int)] } = true := by
      have h4 := (holds_andW hc).1
      rw [hn] at h4
      exact h4
    have h5 := condW_of h4 (w_not (w_lt w_lit (w_len_list (w_arg rfl))))
    rw [List.length_map] at h5
    refine Nat.le_of_not_lt fun q => ?_
    have q' : (n : Int) < ((ns.length : Nat) : Int) := by omega
    first
      | (rw [decide_eq_true q'] at h5; exact absurd h5 (by decide))
      | (simp at h5; omega)
  cases hwl with
  | cons w1 w2 =>
    cases w2
    cases w1 with
    | list ho hall => exact ⟨_,_,ns,rfl,rfl,ho,ints_of_wellAll ns _ hall,hlen⟩
theorem post_true (l : OpenLaw) (args : List WData) : l.row.toRowW.claim.post args (.bool true) args = true :=
  postW_of (r := l.row.toRowW) (X := (true == true))
    (show WShape.has [] (.bool true) .bool = true by first | rfl | decide | simp [WShape.has,WShape.arms,WShape.armsAll])
    (show (WTm.eq .res (.lit (.bool true))).value [] { args := args,res := some (.bool true),after := args } = some (.bool (true == true)) from w_eq_bool (w_res rfl) w_lit) rfl
theorem attach_call {l : OpenLaw} {n : Nat} {q : Program} {loose : List Str} {XP : (Str → Option Value) → Heap → Prop} {YP : World → Heap → Prop} {d : DefRec}
    (hn : l.most = some n) (hdf : d.params.defaults = [])
    (call : ∀ (w : World) (s₀ s₁ : Shared) (mg mb : Str → Option Value) (fa : Addr) (o : Obj) (pm cd doc : Value) (a : Addr) (vs : List Value) (ns : List Int),
      Ground q loose [] XP w s₀ mg mb s₁.heap → YP w s₁.heap →
      s₁.heap.get? fa = some o → o.data = .func (docDef d.name d.params d.body d.scope pm cd doc) → s₁.heap.CodeRec cd d.name → mg d.name = some (.ref fa) →
      s₁.heap.get? a = some { cls := .type "list",data := .seq vs.toArray } → IntsAre vs ns → ns.length ≤ n → s₁.gens = #[] →
      codeAny (model l.prog w) callerA (.call (.ref fa) ⟨[.ref a],[]⟩) (fun r s' => r = .ok (.ret (.bool true)) ∧ OldK s₁.heap s'.heap ∧ s'.os = s₁.os ∧ AllBare s'.gens) s₁) :
    WalkO q loose XP YP l.row.toRowW d [] (fun f vs => PySem.call f vs) := by
  intro w s₀ s₁ mg mb G Y fa o pm cd doc dV kV ho hd hcd hD hmg hg args vals as hpre hlay hrd hwl hlo
  obtain rfl : dV = .none := Dflts.none hD hdf
  obtain rfl : kV = .none := Dflts.noKw hD
  obtain ⟨a,vs,ns,rfl,rfl,hobj,hints,hlen⟩ := script_of hn hpre hwl
  refine enter_call (codeAny_mono (call w s₀ s₁ mg mb fa o pm cd doc a vs ns G Y ho (fd_plain hd) hcd hmg hobj hints hlen hg) fun r s' hq => ?_)
  obtain ⟨rfl,h2,h3,h4⟩ := hq
  exact ⟨.inl ⟨.bool true,.bool true,[],rfl,fun _ => rfl,.bool true,post_true l _,fun _ => ⟨List.Pairwise.nil,fun _ hm => (nomatch hm)⟩⟩,h2,h3,h4⟩
section
variable {prog : Program} {w : World} {A : Around} {E : Value → Shared → Prop} {s : Shared} {K : Frag}
def ledger (h : Heap) (L d : Addr) : List (Addr × Obj) := (List.range h.objs.size).filterMap fun a => if a = L ∨ a = d then none else (h.get? a).map fun o => (a,o)
end
end Att
namespace L2
open PySem PySem.Spec PyProof.Rows
theorem vals_ints : ∀ {vs : List Value} {ns : List Int},IntsAre vs ns → Vals (ns.map V.int) vs
  | _,_,.nil => .nil
  | _,_,.cons n t h => .cons ⟨t,rfl⟩ (vals_ints h)
def Only (H : Hp) : Prop := ∀ b,H b = none ∨ ∃ o xs,H b = some (.frz o (.lst xs))
theorem law_call {P : Program} {w : World} {K : PySem.W.Frag} {mg mb : Str → Option Value} {CX : CXT} {k : Nat} {fa a : Addr} {fd : FuncData} {x : Str} {sp : Sp} {s₁ : Shared} {vs : List Value} {ns : List Int}
    (KX : K.In s₁.heap) (hns : s₁.heap.Ns mainGlobals mg) (hb : s₁.heap.Ns builtinsNs mb) (hbb : ∀ x : Str,x ≠ "__name__" → mb x = bootBuiltins x) (hlim : s₁.heap.NoLimit) (hg : s₁.gens = #[])
    (ha : s₁.heap.get? a = some { cls := .type "list",data := .seq vs.toArray }) (hi : IntsAre vs ns) (hl : ns.length ≤ sizeLine) (hr : Room k callerA)
    (F : ∀ base : Heap,K.In base → base.Ns mainGlobals mg → FnOk P w K mg base CX k fa fd [x] sp) (hbind : ∀ (s : Shared) (u : Value),BindsTo s fd ⟨[u],[]⟩ [(x,u)])
    (hsp : ∀ H : Hp,Only H → SqL K H a (ns.map V.int) → sp [.ref a] H (fun v _ => v = .bl true) fun _ _ _ => False)
    (hCX : ∀ H e s',CX [] H s₁ (fun _ _ _ => False) e s' → False) :
    codeAny (model P w) callerA (.call (.ref fa) ⟨[.ref a],[]⟩) (fun r s' => r = .ok (.ret (.bool true)) ∧ OldK s₁.heap s'.heap ∧ s'.os = s₁.os ∧ AllBare s'.gens) s₁ := by
  have rv := vals_ints hi
  have lenV := hi.length
  have core : ∀ H : Hp,Only H → SqL K H a (ns.map V.int) → HOk P w H s₁.heap → (∀ b,H b ≠ none → b = a) → (H a ≠ none → K.lookup a = none) →
      codeAny (model P w) callerA (.call (.ref fa) ⟨[.ref a],[]⟩) (fun r s' => r = .ok (.ret (.bool true)) ∧ OldK s₁.heap s'.heap ∧ s'.os = s₁.os ∧ AllBare s'.gens) s₁ := by
    intro H hO hS hok hA hK
    have base_of : ∀ {b : Addr} {o : Obj},s₁.heap.get? b = some o → H b = none → (hidT s₁.heap H).get? b = some o := fun e n => hidT_get e n
    have noA : ∀ {b : Addr} {o : Obj} {es : Array DictEntry} {ep : Nat},s₁.heap.get? b = some o → o.data = .dict es ep → H b = none := fun {b o es ep} e d => by
      cases q : H b with
      | none => rfl
      | some u =>
        have e' : b = a := hA b (by rw [q]; simp)
        subst e'
        rw [ha] at e; cases e
        have d' : Data.seq vs.toArray _ = Data.dict es ep := d
        cases d'
    have nsK : ∀ {b : Addr} {m : Str → Option Value},s₁.heap.Ns b m → (hidT s₁.heap H).Ns b m := fun {b m} ⟨o,es,ep,e,d,r⟩ => ⟨o,es,ep,base_of e (noA e d),d,r⟩
    have hKb : K.In (hidT s₁.heap H) := fun b o e => base_of (KX b o e) (by
      cases q : H b with
      | none => rfl
      | some u =>
        have e' : b = a := hA b (by rw [q]; simp)
        subst e'
        rw [hK (by rw [q]; simp)] at e; cases e)
    have hM : Mod K mg (hidT s₁.heap H) := ⟨hKb,nsK hns,⟨mb,nsK hb,hbb⟩,let ⟨mc,h1,h2⟩ := hlim; ⟨mc,nsK h1,h2⟩⟩
    have e0 : Env0 P w K mg (hidT s₁.heap H) callerA [] s₁ H := ⟨rfl,hM,fun b o e => of_hidT e,Nat.le_of_eq (hidT_size _ _),trivial,fun b hb => absurd (show b ∈ ([] : List Addr) from hb) (by simp),hok,.of_eq hg⟩
    refine codeAny_mono ((F _ hKb (nsK hns)).run callerA [] s₁ H ⟨[.ref a],[]⟩ [.ref a] [.ref a] _ _ hr e0 (hbind s₁ (.ref a)) (.cons rfl .nil) (hsp H hO hS)) fun r s' h => ?_
    cases r with
    | error e => exact (hCX H e s' h).elim
    | ok fl =>
      cases fl with
      | next => exact False.elim h
      | brk => exact False.elim h
      | cont => exact False.elim h
      | ret u =>
        obtain ⟨v,H',os,bare,un,hok',r',q⟩ := h
        have q' : v = .bl true := q
        subst q'
        obtain rfl : u = Value.bool true := r'
        refine ⟨rfl,OldK.of_keep fun b o e => ?_,os,bare⟩
        cases q : H b with
        | none => exact un.keep b o e q (by intro z; exact absurd (show b ∈ ([] : List Addr) from z) (by simp)) (by simp)
        | some u =>
          rcases hO b with z | ⟨ob,xs,z⟩
          · rw [q] at z; cases z
          · have z2 := un.frzs b ob _ z
            obtain ⟨e1,_⟩ := hok b _ z
            obtain ⟨e2,_⟩ := hok' b _ z2
            rw [e] at e1; cases e1
            exact e2
  cases hk : K.lookup a with
  | some o =>
    have e := KX a o hk
    rw [ha] at e
    cases e
    refine core (fun _ => none) (fun _ => .inl rfl) (.inr ⟨_,vs.toArray,_,hk,rfl,rfl,rfl,by rw [List.size_toArray,lenV]; exact hl,by simpa using rv⟩) (fun b u z => by have z' : (none : Option HO) = some u := z; cases z') (fun b z => absurd rfl z) fun z => absurd rfl z
  | none =>
    refine core (fun b => if b = a then some (.frz { cls := .type "list",data := .seq vs.toArray } (.lst (ns.map V.int))) else none) (fun b => ?_) (.inl (.inr ⟨{ cls := .type "list",data := .seq vs.toArray },if_pos rfl⟩)) (fun b u z => ?_) (fun b z => ?_) fun _ => hk
    · by_cases hb : b = a
      · exact .inr ⟨_,_,if_pos hb⟩
      · exact .inl (if_neg hb)
    · by_cases hb : b = a
      · have z' := (if_pos hb).symm.trans z
        cases z'
        subst hb
        exact ⟨ha,by rw [List.length_map]; exact hl,vs,_,rv,ha⟩
      · have z' := (if_neg hb).symm.trans z
        cases z'
    · by_cases hb : b = a
      · exact hb
      · exact absurd (if_neg hb) z
end L2
namespace L2
open PySem PySem.Spec PyProof.Rows
theorem walk_of {l : PySem.W.OpenLaw} {n k : Nat} {q : Program} {loose : List Str} {XP : (Str → Option Value) → Heap → Prop} {YP : World → Heap → Prop} {d : DefRec} {K : Params → PySem.W.Frag} {CX : World → CXT} {sp : World → Sp} {x : Str}
    (hn : l.most = some n) (hn2 : n ≤ sizeLine) (hdf : d.params.defaults = []) (hr : Room k callerA)
    (hY : ∀ (w : World) (h : Heap),YP w h → (K w.params).In h)
    (F : ∀ (w : World) (mg : Str → Option Value) (fa : Addr) (h : Heap),(K w.params).In h → h.Ns mainGlobals mg → mg d.name = some (.ref fa) →
      ∃ fd : FuncData,(∀ (s : Shared) (u : Value),BindsTo s fd ⟨[u],[]⟩ [(x,u)]) ∧
        ∀ base : Heap,(K w.params).In base → base.Ns mainGlobals mg → FnOk l.prog w (K w.params) mg base (CX w) k fa fd [x] (sp w))
    (hsp : ∀ (w : World) (H : Hp) (a : Addr) (ns : List Int),ns.length ≤ n → Only H → SqL (K w.params) H a (ns.map V.int) → sp w [.ref a] H (fun v _ => v = .bl true) fun _ _ _ => False)
    (hCX : ∀ (w : World) (H : Hp) (s : Shared) (e : Value) (s' : Shared),CX w [] H s (fun _ _ _ => False) e s' → False) :
    PySem.W.WalkO q loose XP YP l.row.toRowW d [] (fun f vs => PySem.call f vs) := by
  refine Att.attach_call hn hdf fun w s₀ s₁ mg mb fa o pm cd doc a vs ns G Y ho hd hcd hmg hobj hints hlen hg => ?_
  have KX := hY w _ Y
  obtain ⟨fd,hb,hF⟩ := F w mg fa _ KX G.T.g hmg
  exact law_call KX G.T.g G.T.b G.T.builtins G.T.nolimit hg hobj hints (Nat.le_trans hlen hn2) hr hF hb (fun H hO hS => hsp w H a ns hlen hO hS) fun H e s' => hCX w H s₁ e s'
end L2
namespace L2
open PySem PySem.Spec PyProof.Rows
def inClass (s : Stmt) (j : Nat) : Stmt := match s with
  | .ClassDef _ _ _ body _ _ _ _ _ _ _ => body.getD j (.Pass ⟨0,0,0,0⟩)
  | _ => .Pass ⟨0,0,0,0⟩
def defArgs (s : Stmt) : Arguments := match s with
  | .FunctionDef _ a _ _ _ _ _ _ _ _ => a
  | _ => { posonlyargs := [],args := [],vararg := none,kwonlyargs := [],kw_defaults := [],kwarg := none,defaults := [] }
def defBody (s : Stmt) : List Stmt := match s with
  | .FunctionDef _ _ b _ _ _ _ _ _ _ => b
  | _ => []
def defScope (s : Stmt) : Scope := match s with
  | .FunctionDef _ _ _ _ _ _ sc _ _ _ => sc
  | _ => { kind := .function,names := [],isGenerator := false,isCoroutine := false }
abbrev CX0 : CXT := fun _ _ _ _ _ _ => False
abbrev E0 : XK := fun _ _ _ => False
theorem pass0 {X : Cx} : Passes CX0 X E0 := fun _ _ _ _ _ _ _ h => h.elim
structure Fun (K : PySem.W.Frag) (x qual : Str) (st : Stmt) (f : Addr) (fd : FuncData) : Prop where
  ex : ∃ (oc : Value) (od : Option Addr) (kV doc pm : Value) (an : Option Addr) (cdv ct : Value) (osl : Array (Option Value)),
    fd = PySem.W.fnOf x qual (defArgs st) (defBody st) (defScope st) .none kV doc pm an cdv ct ∧ K.lookup f = some ⟨oc,od,.func fd,osl⟩ ∧ PySem.W.codeIn K cdv qual = true
  kp : PySem.W.keepIn K (.ref f) = true
section
variable {P : Program} {w : World} {K : PySem.W.Frag} {mg : Str → Option Value} {base : Heap}
theorem Fun.ok {x qual : Str} {st : Stmt} {f : Addr} {fd : FuncData} {N ps : List Str} {k : Nat} {sp : Sp} (F : Fun K x qual st f fd) (S : FnScope N ps (defScope st)) (len : ∀ vs H Q E,sp vs H Q E → vs.length = ps.length)
    (hbody : ∀ (cdv : Value) (A : Around) (outer : List Env) (s : Shared) (H : Hp) (vs : List V) (Q : VK) (E : XK),Room k (A.deeper (envOfC qual (defScope st) s.heap.objs.size f cdv)) → sp vs H Q E →
      ∃ t,PSs (cxOf CX0 P w K mg base N qual (defScope st) f cdv A outer s H E).nox (defBody st) t ∧ t { nx := fun _ H' => Q .non H',rt := Q } (start N vs) H) : FnOk P w K mg base CX0 (k + 1) f fd ps sp := by
  obtain ⟨oc,od,kV,doc,pm,an,cdv,ct,osl,rfl,lk,hcd⟩ := F.ex
  refine fn_of lk hcd S len fun A outer s H vs Q E hr hsp => ?_
  obtain ⟨t,h,q⟩ := hbody cdv A outer s H vs Q E hr hsp
  exact ⟨t,h.nox,q⟩
theorem Fun.binds {x qual : Str} {st : Stmt} {f : Addr} {fd : FuncData} {ps : List Str} (F : Fun K x qual st f fd)
    (h : ∀ (kV doc pm : Value) (an : Option Addr) (cdv ct : Value) (us : List Value),us.length = ps.length → bindArgs (PySem.W.fnOf x qual (defArgs st) (defBody st) (defScope st) .none kV doc pm an cdv ct) ⟨us,[]⟩ = pure (ps.zip us)) : Binds K fd ps [] := by
  obtain ⟨oc,od,kV,doc,pm,an,cdv,ct,osl,rfl,lk,hcd⟩ := F.ex
  exact .all (h kV doc pm an cdv ct)
theorem fun_mk {x qual : Str} {st : Stmt} {f : Addr} {oc : Value} {od an : Option Addr} {osl : Array (Option Value)} {kV doc pm cdv ct : Value} (l : K.lookup f = some ⟨oc,od,.func (PySem.W.fnOf x qual (defArgs st) (defBody st) (defScope st) .none kV doc pm an cdv ct),osl⟩)
    (c : PySem.W.codeIn K cdv qual = true) (k : PySem.W.keepIn K (.ref f) = true) : Fun K x qual st f (PySem.W.fnOf x qual (defArgs st) (defBody st) (defScope st) .none kV doc pm an cdv ct) := ⟨⟨oc,od,kV,doc,pm,an,cdv,ct,osl,rfl,l,c⟩,k⟩
end
section
variable {X : Cx}
theorem pv (i : Nat) {x : Str} {pos : Pos} (hN : X.N[i]? = some x := by rfl) (hv : Vis X.env.scope x := by first | exact Or.inl rfl | exact Or.inr (Or.inl rfl) | exact Or.inr (Or.inr rfl)) (hd : (x == ("__debug__" : Str)) = false := by decide)
    (hcd : (x == ("__classdict__" : Str)) = false := by decide) : PE X (.Name x pos) (tVar i) := pe_var hN hv hd hcd
end
theorem iteF {A B : Prop} (h : B) : if false = true then A else B := by
  rw [if_neg Bool.false_ne_true]
  exact h
theorem iteT {A B : Prop} (h : A) : if true = true then A else B := by
  rw [if_pos rfl]
  exact h
theorem ite2 {c A B : Prop} [Decidable c] (h1 : c → A) (h2 : ¬ c → B) : if c then A else B := by
  by_cases h : c
  · rw [if_pos h]
    exact h1 h
  · rw [if_neg h]
    exact h2 h
def Same (H H' : Hp) : Prop := ∀ b o,H b = some o → H' b = some o
theorem Same.refl (H : Hp) : Same H H := fun _ _ h => h
theorem Same.trans {H H1 H2 : Hp} (a : Same H H1) (b : Same H1 H2) : Same H H2 := fun c o h => b c o (a c o h)
theorem Same.free {H H' : Hp} (e : Same H H') {l : Addr} (h : H' l = Option.none) : H l = Option.none := by
  cases q : H l with
  | none => rfl
  | some o =>
    rw [e l o q] at h
    cases h
theorem Same.seq {K : PySem.W.Frag} {H H' : Hp} {a : Addr} {xs : List V} (e : Same H H') (h : SqL K H a xs) : SqL K H' a xs := by
  rcases h with (h | ⟨o,h⟩) | h
  · exact .inl (.inl (e _ _ h))
  · exact .inl (.inr ⟨o,e _ _ h⟩)
  · exact .inr h
end L2
set_option Elab.async false
set_option linter.all false
set_option maxRecDepth 100000
namespace L2
open PySem PySem.Spec PyProof.Rows
def clAdd (env : Env) : List (Str × NameKind) → List (Str × Addr) → List (Str × Addr)
  | [],acc => acc
  | (n,k) :: r,acc => clAdd env r (if (k == NameKind.free) = true then (n,(env.cells.lookup n).getD 0) :: acc else acc)
theorem clAdd_lookup (env : Env) : ∀ (names : List (Str × NameKind)) (acc : List (Str × Addr)) (x : Str) (c : Addr),(∀ y ∈ names,y.2 = .free → ∃ c,env.cells.lookup y.1 = some c) →
    (∀ x c,acc.lookup x = some c → env.cells.lookup x = some c) → (clAdd env names acc).lookup x = some c → env.cells.lookup x = some c
  | [],acc,x,c,_,h,e => h x c e
  | (n,k) :: r,acc,x,c,hf,h,e => by
    refine clAdd_lookup env r _ x c (fun y hy => hf y (List.mem_cons_of_mem _ hy)) (fun x c e' => ?_) e
    by_cases hk : (k == NameKind.free) = true
    · rw [if_pos hk] at e'
      obtain ⟨c0,hc0⟩ := hf (n,k) List.mem_cons_self (by simpa using hk)
      have hc0' : env.cells.lookup n = some c0 := hc0
      rw [List.lookup_cons] at e'
      cases hx : x == n with
      | true =>
        rw [hx] at e'
        have : x = n := by simpa using hx
        subst this
        rw [hc0'] at e' ⊢
        simpa using e'
      | false => rw [hx] at e'; exact h x c e'
    · rw [if_neg hk] at e'; exact h x c e'
theorem clAdd_keep (env : Env) : ∀ (names : List (Str × NameKind)) (acc : List (Str × Addr)) (x : Str),(∃ c,acc.lookup x = some c) → ∃ c,(clAdd env names acc).lookup x = some c
  | [],acc,x,h => h
  | (n,k) :: r,acc,x,h => by
    refine clAdd_keep env r _ x ?_
    by_cases hk : (k == NameKind.free) = true
    · rw [if_pos hk,List.lookup_cons]
      cases hx : x == n with
      | true => exact ⟨_,rfl⟩
      | false => exact h
    · rw [if_neg hk]; exact h
theorem clAdd_has (env : Env) : ∀ (names : List (Str × NameKind)) (acc : List (Str × Addr)) (x : Str),(x,NameKind.free) ∈ names → ∃ c,(clAdd env names acc).lookup x = some c
  | [],acc,x,h => by simp at h
  | (n,k) :: r,acc,x,h => by
    rcases List.mem_cons.mp h with e | e
    · have e1 : x = n := congrArg Prod.fst e
      have e2 : NameKind.free = k := congrArg Prod.snd e
      subst e1
      subst e2
      refine clAdd_keep env r _ x ?_
      rw [if_pos (by simp),List.lookup_cons]
      simp
    · exact clAdd_has env r _ x e
theorem closure_eq {env : Env} {scope : Scope} (hf : ∀ y ∈ scope.names,y.2 = .free → ∃ c,env.cells.lookup y.1 = some c) : closureFor scope env = pure (clAdd env scope.names []) := by
  have key : ∀ (names : List (Str × NameKind)) (acc : List (Str × Addr)),(∀ y ∈ names,y.2 = .free → ∃ c,env.cells.lookup y.1 = some c) →
      (forIn names acc (fun (x : Str × NameKind) (r : List (Str × Addr)) => (if (x.2 == NameKind.free) = true then do
        let a ← cellOf env x.1
        pure (ForInStep.yield ((x.1,a) :: r)) else pure (ForInStep.yield r)) ) : Sem (List (Str × Addr))) = pure (clAdd env names acc) := by
    intro names
    induction names with
    | nil => intro acc _; rfl
    | cons y r ih =>
      intro acc h
      obtain ⟨n,k⟩ := y
      have ih' := fun acc => ih acc fun z hz => h z (List.mem_cons_of_mem _ hz)
      rw [List.forIn_cons]
      by_cases hk : (k == NameKind.free) = true
      · obtain ⟨c,hc⟩ := h (n,k) List.mem_cons_self (by simpa using hk)
        have hc' : env.cells.lookup n = some c := hc
        have e1 : cellOf env n = pure c := by unfold cellOf; rw [hc']
        have e2 : clAdd env ((n,k) :: r) acc = clAdd env r ((n,c) :: acc) := by
          show clAdd env r _ = _
          rw [if_pos hk,hc']; rfl
        rw [if_pos hk,e2,← ih']
        show ((cellOf env n >>= fun a => pure (ForInStep.yield ((n,a) :: acc))) >>= _) = _
        rw [e1]
        rfl
      · have e2 : clAdd env ((n,k) :: r) acc = clAdd env r acc := by
          show clAdd env r _ = _
          rw [if_neg hk]
        rw [if_neg hk,e2,← ih']
        rfl
  have := key scope.names [] hf
  simp only [closureFor]
  exact (congrArg (fun m => m >>= fun r => (pure r : Sem _)) this).trans rfl
theorem relabel_back {env : Env} {scope : Scope} (hcell : ∀ y ∈ scope.names,y.2 ≠ .cell) {x : Str} : ((relabel scope env).names.lookup x = some .cell ∨ (relabel scope env).names.lookup x = some .free) → (x,NameKind.free) ∈ scope.names := by
  have key : ∀ names : List (Str × NameKind),(∀ y ∈ names,y.2 ≠ .cell) → ∀ k,(names.map fun (n,k) => if (k == NameKind.free && env.scope.kind == .function && env.kindOf n == some .cell) then (n,NameKind.cell) else (n,k)).lookup x = some k →
      (k = .cell ∨ k = .free) → (x,NameKind.free) ∈ names := by
    intro names
    induction names with
    | nil => intro _ k h _; simp at h
    | cons y r ih =>
      obtain ⟨n,k'⟩ := y
      intro hc k h hk
      have nc : k' ≠ .cell := hc (n,k') List.mem_cons_self
      rw [List.map_cons] at h
      by_cases hb : (k' == NameKind.free && env.scope.kind == .function && env.kindOf n == some .cell) = true
      · have hb' : k' = .free := by simp at hb; exact hb.1.1
        dsimp only at h
        rw [if_pos hb,List.lookup_cons] at h
        cases hx : x == n with
        | true => have : x = n := by simpa using hx
                  subst this; subst hb'; exact List.mem_cons_self
        | false => rw [hx] at h; exact List.mem_cons_of_mem _ (ih (fun y hy => hc y (List.mem_cons_of_mem _ hy)) k h hk)
      · dsimp only at h
        rw [if_neg hb,List.lookup_cons] at h
        cases hx : x == n with
        | true =>
          rw [hx] at h
          have : x = n := by simpa using hx
          subst this
          have e : k' = k := by simpa using h
          rcases hk with q | q
          · exact absurd (e.trans q) nc
          · rw [e,q]; exact List.mem_cons_self
        | false => rw [hx] at h; exact List.mem_cons_of_mem _ (ih (fun y hy => hc y (List.mem_cons_of_mem _ hy)) k h hk)
  rintro (h | h)
  · exact key _ hcell _ h (.inl rfl)
  · exact key _ hcell _ h (.inr rfl)
def blkCx (X : Cx) (pins : List (Addr × Obj)) (s2 : Shared) (H2 : Hp) (scope : Scope) (C : Addr) (N' : List Str) (fp : List Addr) : Cx where
  prog := X.prog
  w := X.w
  K := X.K
  mg := X.mg
  base := X.base
  A := X.A
  N := N'
  s₀ := s2
  H₀ := H2
  env := compEnvC scope (clAdd X.env scope.names []) C X.env
  outer := X.stack
  stack := X.stack
  ex := fp
  fn := fun _ => false
  calm := X.calm
  pn := X.pn ++ pins
  xe := fun _ _ => False
def blkSt (σ : St) (cap : List Nat) (k : Nat) : St := List.replicate k none ++ cap.map fun j => (σ[j]?).join
def leS (σ σ' : St) : Prop := σ'.length = σ.length ∧ ∀ (i : Nat) v,σ[i]? = some (some v) → σ'[i]? = some (some v)
theorem leS.set {σ : St} {i : Nat} {v : V} (h : σ[i]? = some none) : leS σ (σ.set i (some v)) := by
  refine ⟨by simp,fun j w e => ?_⟩
  by_cases hj : j = i
  · subst hj; rw [h] at e; cases e
  · rw [List.getElem?_set_ne (Ne.symm hj)]; exact e
structure CompOk (X : Cx) (scope : Scope) (own : List Str) (cs : List Str) (cap : List Nat) : Prop where
  kind : scope.kind = .function
  cell : ∀ y ∈ scope.names,y.2 ≠ .cell
  names : ∀ y ∈ scope.names,y.2 = .local → scope.names.lookup y.1 = some .local
  free : ∀ y ∈ scope.names,y.2 = .free → X.env.kindOf y.1 = some .cell ∨ X.env.kindOf y.1 = some .free
  caps : ∀ (i : Nat) y,cs[i]? = some y → ∃ j,cap[i]? = some j ∧ X.N[j]? = some y ∧ (y,NameKind.free) ∈ scope.names
  ownl : ∀ y ∈ own,scope.names.lookup y = some .local
  len : cs.length = cap.length
  free2 : ∀ y,(y,NameKind.free) ∈ scope.names → scope.names.lookup y = some .local → False
def PIfs (X : Cx) (ifs : List Expr) (tt : TT) : Prop :=
  ∀ (pins : List (Addr × Obj)) (s : Shared) (σ : St) (H : Hp) (Q : Bool → Hp → Prop),Inv X pins σ H s → tt σ H Q →
    wpAny (model X.prog X.w) X.A (forIn ifs true fun c r => if r = true then do let ok ← isTrue c X.env (eval c X.env); pure (ForInStep.yield ok) else pure (ForInStep.yield r)) (TP X pins σ Q) X.xe s
def tYes : TT := fun _ H Q => Q true H
theorem pifs_nil {X : Cx} : PIfs X [] tYes := fun _ _ _ H _ I h => wpAny_tests_nil ⟨H,I,h⟩
theorem pifs_one {X : Cx} {c : Expr} {tt : TT} (h : PT X c tt) : PIfs X [c] tt := fun pins s σ H Q I q => wpAny_tests_one (h pins s σ H Q I q)
def CompW (σ : St) (cap : List Nat) (k : Nat) (J : It) (g : TG) (tt : TT) (te : TE) (Q : List V → Hp → Prop) (W : Nat → Nat → List V → Hp → Prop) : Prop :=
  ∀ i m ys H,W i m ys H → (J.stop i H ∧ ys.length ≤ sizeLine ∧ Q ys H) ∨
    (J.go i H ∧ ys.length < sizeLine ∧ ∀ x H',J.yld i H x H' → g x (blkSt σ cap k) H' fun σ2 H2 => leS (blkSt σ cap k) σ2 ∧ tt σ2 H2 fun ok H3 =>
      if ok = true then te σ2 H3 (fun v H4 => ∃ m',m' < m ∧ W (i + 1) m' (ys ++ [v]) H4) else ∃ m',m' < m ∧ W (i + 1) m' ys H3)
theorem HOk.add {P : Program} {w : World} {H : Hp} {h : Heap} {a : Addr} {o : HO} (x : HOk P w H h) (n : H a = none) (new : ObjOk P w (upd H a o) h a o) : HOk P w (upd H a o) h := fun b u e => by
  by_cases hb : b = a
  · subst hb; rw [upd_same] at e; cases e; exact new
  · rw [upd_ne hb] at e
    exact (x b u e).stay (fun c v _ q => q) (fun c q => by rw [upd_ne (ne_of_none q n)]; exact q) fun c xs q => by rw [upd_ne (ne_of_none q n)]; exact q
section
variable {X : Cx} {pins : List (Addr × Obj)} {σ : St} {H2 : Hp} {s2 : Shared} {scope : Scope} {own cs : List Str} {cap : List Nat} {fp : List Addr}
theorem blk_start {h1 : Heap} {C : Addr} {tk : Nat} (I : Inv X pins σ H2 s2) (ok : CompOk X scope own cs cap) (hf : ∀ b ∈ fp,FpOk X pins H2 b) (hfl : ∀ b ∈ fp,b < s2.heap.objs.size)
    (hC : s2.heap.objs.size ≤ C) (hns : h1.Ns C (fun _ => none)) (old : ∀ b o,s2.heap.get? b = some o → h1.get? b = some o) :
    Inv (blkCx X pins s2 H2 scope C (own ++ cs) fp) [] (blkSt σ cap own.length) H2 { s2 with heap := h1,toks := tk } := by
  have hfr : ∀ y ∈ scope.names,y.2 = .free → ∃ c,X.env.cells.lookup y.1 = some c := fun y hy e => I.ok.has y.1 (ok.free y hy e)
  have sub : ∀ x c,(clAdd X.env scope.names []).lookup x = some c → X.env.cells.lookup x = some c := fun x c e => clAdd_lookup X.env scope.names [] x c hfr (fun _ _ z => by simp at z) e
  have clt : ∀ x c,(clAdd X.env scope.names []).lookup x = some c → c < s2.heap.objs.size := fun x c e => by
    obtain ⟨v,o,ho,_⟩ := I.cell x c (sub x c e)
    exact Heap.lt_size ho
  refine ⟨⟨I.ok.mod,ok.kind,I.ok.glob,I.ok.blt,hC,fun y z c h1 h2 => I.ok.inj y z c (sub y c h1) (sub z c h2),fun y hy => ?_,fun y c z => ?_,I.ok.hd,I.ok.frames,.inl rfl,fun b hb => ?_,I.bs,Nat.le_trans I.ok.bsz I.sz,fun b o e hb => ?_,fun b hb z => ?_,I.stack,I.stkFree⟩,
    rfl,I.bare,Un.kept old,⟨_,hns,fun i y v e1 e2 e3 => ?_⟩,fun y c e => ?_,I.hok.fresh hC,fun y c e => I.freeC y c (sub y c e),fun p hp => ?_,I.hok.kept old,?_⟩
  · have hm := relabel_back ok.cell hy
    exact clAdd_has X.env scope.names [] y hm
  · exact absurd (show false = true from z) Bool.false_ne_true
  · exact ⟨Nat.ne_of_lt (Nat.lt_of_lt_of_le (hfl b hb) hC),fun x c e => (hf b hb).2.2.2.2.1 x c (sub x c e)⟩
  · rcases (hf b hb).2.2.2.1 with z | z
    · exact I.ok.noex b o e z
    · exact absurd (Nat.lt_of_lt_of_le (Heap.lt_size (I.ok.bs b o e).1) z) (Nat.lt_irrefl _)
  · rcases List.mem_cons.mp (I.stkSub b z) with q | q
    · exact (hf b hb).2.1 q
    · exact (hf b hb).2.2.1 q
  · have hi : own.length ≤ i := by
      refine Nat.le_of_not_lt fun q => ?_
      unfold blkSt at e2
      rw [List.getElem?_append_left (by simpa using q),List.getElem?_replicate] at e2
      split at e2 <;> cases e2
    have e1' : cs[i - own.length]? = some y := by
      have e1 : (own ++ cs)[i]? = some y := e1
      rwa [List.getElem?_append_right hi] at e1
    obtain ⟨j,hj,hN,hm⟩ := ok.caps _ y e1'
    have hk := ok.free _ hm rfl
    have e2' : σ[j]? = some (some v) := by
      unfold blkSt at e2
      rw [List.getElem?_append_right (by simpa using hi),List.length_replicate,List.getElem?_map,hj] at e2
      have e2 : (σ[j]?).join = some v := by simpa using e2
      cases q : σ[j]? with
      | none => rw [q] at e2; cases e2
      | some w => rw [q] at e2; have : w = some v := e2; rw [this]
    obtain ⟨m,hn,hl⟩ := I.loc
    obtain ⟨u,ru,l⟩ := hl j y v hN e2' (by rcases hk with q | q; exact .inr (.inl q); exact .inr (.inr q))
    refine ⟨u,ru,.inr ?_⟩
    obtain ⟨c,hc⟩ := clAdd_has X.env scope.names [] y hm
    have hc' := sub y c hc
    have cellu : h1.IsCell c (some u) := by
      rcases l with ⟨k,_⟩ | ⟨k,c',e,o,ho,hd⟩
      · rcases hk with q | q <;> (have z : X.env.kindOf y = _ := q; rw [k] at z; cases z)
      · rw [hc'] at e; cases e
        exact ⟨o,old _ _ ho,hd⟩
    refine ⟨?_,c,hc,cellu⟩
    rcases e3 with z | z | z
    · exfalso
      have key : ∀ names : List (Str × NameKind),True := fun _ => trivial
      have z : (relabel scope X.env).names.lookup y = some .local := z
      have zz : scope.names.lookup y = some .local := by
        unfold relabel at z
        dsimp only at z
        revert z
        generalize scope.names = names
        induction names with
        | nil => intro z; simp at z
        | cons q r ih =>
          obtain ⟨n,k⟩ := q
          intro z
          rw [List.map_cons] at z
          by_cases hb : (k == NameKind.free && X.env.scope.kind == .function && X.env.kindOf n == some .cell) = true
          · dsimp only at z
            rw [if_pos hb,List.lookup_cons] at z
            rw [List.lookup_cons]
            cases hx : y == n with
            | true => rw [hx] at z; cases z
            | false => rw [hx] at z; exact ih z
          · dsimp only at z
            rw [if_neg hb,List.lookup_cons] at z
            rw [List.lookup_cons]
            cases hx : y == n with
            | true => rw [hx] at z; exact z
            | false => rw [hx] at z; exact ih z
      have := ok.free2 y hm zz
      exact this
    · exact .inl z
    · exact .inr z
  · obtain ⟨v,o,ho,hd⟩ := I.cell y c (sub y c e)
    exact ⟨v,o,old _ _ ho,hd⟩
  · have hp' : p ∈ X.pn ++ pins := by
      have : p ∈ (X.pn ++ pins) ++ [] := hp
      simpa using this
    obtain ⟨e,n,ne,nf,d⟩ := I.pin p hp'
    refine ⟨old _ _ e,n,Nat.ne_of_lt (Nat.lt_of_lt_of_le (Heap.lt_size e) hC),fun z => ?_,d⟩
    rcases List.mem_cons.mp (I.stkSub p.1 z) with q | q
    · exact ne q
    · exact nf q
  · show (blkSt σ cap own.length).length = (own ++ cs).length
    unfold blkSt
    rw [List.length_append,List.length_replicate,List.length_map,List.length_append,ok.len]
end
end L2
set_option Elab.async false
set_option linter.all false
set_option maxRecDepth 100000
namespace L2
open PySem PySem.Spec PyProof.Rows
section
variable {X : Cx} {pins : List (Addr × Obj)} {σ : St} {H2 : Hp} {s2 : Shared} {scope : Scope} {own cs : List Str} {cap : List Nat} {fp : List Addr} {it : Addr} {tn : Nat → Heap → Prop}
  {elt tg iter : Expr} {ifs : List Expr} {pos : Pos} {J : It} {g : TG} {tt : TT} {te : TE} {E : Value → Shared → Prop} {W : Nat → Nat → List V → Hp → Prop} {Qf : List V → Hp → Prop}
structure BlkEnd (X : Cx) (pins : List (Addr × Obj)) (σ : St) (Qf : List V → Hp → Prop) (D C : Addr) (s' : Shared) : Prop where
  ex : ∃ (ys : List V) (H' : Hp),H' D = none ∧ Qf ys H' ∧ Inv X pins σ (upd H' D (.lst ys)) s' ∧ FpOk X pins (upd H' D (.lst ys)) C
  ns : ∃ m,s'.heap.Ns C m
theorem Inv.bareP {pins' : List (Addr × Obj)} {H : Hp} {s : Shared} (I : Inv X pins' σ H s) : Inv X [] σ H s := I.pins_of fun p hp => absurd hp (by simp)
theorem comp_run {RR : Value → Addr → Result → Shared → Prop} (I : Inv X pins σ H2 s2) (ok : CompOk X scope own cs cap) (hc : X.calm = true) (T : Turn X.prog X.w X.K tg J fp it tn) (st : tn 0 s2.heap) (hf : ∀ b ∈ fp,FpOk X pins H2 b)
    (hg : ∀ C,PG (blkCx X pins s2 H2 scope C (own ++ cs) fp) tg g) (hi : ∀ C,PIfs (blkCx X pins s2 H2 scope C (own ++ cs) fp) ifs tt) (he : ∀ C,PE (blkCx X pins s2 H2 scope C (own ++ cs) fp) elt te)
    (w0 : ∃ m,W 0 m [] H2) (turn : CompW σ cap own.length J g tt te Qf W)
    (hRR : ∀ D C s',BlkEnd X pins σ Qf D C s' → RR (.ref D) C (.ok .next) s') :
    wpAny (model X.prog X.w) X.A (newList []) (fun acc s₃ => wpAny (model X.prog X.w) X.A (newFunctionEnv scope X.env.globals (clAdd X.env scope.names []) [] X.env.qual none .none (some X.env)) (fun cenv s₄ =>
      codeAny (model X.prog X.w) X.A (.compStart (.ListComp elt [⟨tg,iter,ifs,0⟩] scope pos) 0 (.ref it) acc { cenv with scope := relabel scope X.env }) (RR acc cenv.locals) s₄) E s₃) E s2 := by
  refine wpAny_newObj_type (wpAny_newFunctionEnv ok.cell (by intro y hy; simp at hy) (fun h₁ hns₁ hsb₁ => ?_) ok.kind)
  dsimp only at hns₁ hsb₁ ⊢
  generalize hHH : s2.heap.push { cls := .type "list",dict := none,data := .seq ([] : List Value).toArray } = HH at hns₁ hsb₁ ⊢
  have hCs : HH.objs.size = s2.heap.objs.size + 1 := by rw [← hHH,Heap.size_push]
  have hDC : s2.heap.objs.size ≠ HH.objs.size := by rw [hCs]; exact Nat.ne_of_lt (Nat.lt_succ_self _)
  have hCle : s2.heap.objs.size ≤ HH.objs.size := by rw [hCs]; exact Nat.le_succ _
  have hfl : ∀ b ∈ fp,b < s2.heap.objs.size := fun b hb => by
    obtain ⟨o,e,_⟩ := T.obj 0 _ st b hb
    exact Heap.lt_size e
  have old : ∀ b o,s2.heap.get? b = some o → h₁.get? b = some o := fun b o e => hsb₁.extBut b o (by rw [hCs]; exact Nat.ne_of_lt (Nat.lt_succ_of_lt (Heap.lt_size e))) (Heap.get?_push_of_some _ (hHH ▸ Heap.get?_push_of_some _ e))
  have hacc : h₁.PlainList s2.heap.objs.size #[] := ⟨_,hsb₁.extBut _ _ hDC (Heap.get?_push_of_some _ (hHH ▸ Heap.get?_push_size _ rfl))⟩
  generalize hD : s2.heap.objs.size = D at *
  generalize hCC : HH.objs.size = C at *
  have hns₁' : h₁.Ns C (fun _ => none) := hns₁
  have I0 : Inv (blkCx X pins s2 H2 scope C (own ++ cs) fp) [] (blkSt σ cap own.length) H2 { s2 with heap := h₁,toks := s2.toks + ([] : List (Str × Value)).length } :=
    blk_start I ok hf (fun b hb => by rw [hD]; exact hfl b hb) (by rw [hD]; exact hCle) hns₁' old
  have Dfs : D ∉ frs X.stack := fun hb => by
    obtain ⟨_,o,ho,_⟩ := I.stack.mem hb
    exact absurd (Heap.lt_size ho) (by rw [hD]; exact Nat.lt_irrefl _)
  have Dfp : ∀ b ∈ fp,D ≠ b := fun b hb z => absurd (hfl b hb) (by rw [← z]; exact Nat.lt_irrefl _)
  have clt : ∀ x c,(clAdd X.env scope.names []).lookup x = some c → c < D := fun x c e => by
    have e' := clAdd_lookup X.env scope.names [] x c (fun y hy e => I.ok.has y.1 (ok.free y hy e)) (fun _ _ z => by simp at z) e
    obtain ⟨v,o,ho,_⟩ := I.cell x c e'
    have := Heap.lt_size ho
    rw [hD] at this; exact this
  have plt : ∀ p ∈ X.pn ++ pins,p.1 < D := fun p hp => by
    have := Heap.lt_size (I.pin p hp).1
    rw [hD] at this; exact this
  have stat : ∀ {H' : Hp} {ob : Obj},(∀ b ∈ fp,H' b = none) → ∀ b ∈ fp,FpOk (blkCx X pins s2 H2 scope C (own ++ cs) fp) [(D,ob)] H' b := fun {H' ob} hn b hb => by
    have q := I0.ok.exf b hb
    refine ⟨hn b hb,q.1,I0.ok.exfs b hb,.inl hb,q.2,fun p hp => ?_⟩
    rcases List.mem_append.mp hp with z | z
    · exact (hf b hb).2.2.2.2.2 p z
    · have : p = (D,ob) := by simpa using z
      subst this
      exact Dfp b hb
  have loop : codeAny (model X.prog X.w) X.A (.compLoop (.ListComp elt [⟨tg,iter,ifs,0⟩] scope pos) 0 (.ref it) (.ref D) (compEnvC scope (clAdd X.env scope.names []) C X.env)) (RR (.ref D) C)
      { s2 with heap := h₁,toks := s2.toks + ([] : List (Str × Value)).length } := by
    obtain ⟨m0,w0⟩ := w0
    refine codeAny_loop rfl (fun n s' => ∃ i H' its ys,Inv (blkCx X pins s2 H2 scope C (own ++ cs) fp) [] (blkSt σ cap own.length) H' s' ∧ tn i s'.heap ∧ (∀ b ∈ fp,H' b = none) ∧ s'.heap.PlainList D its.toArray ∧ Vals ys its ∧ H' D = none ∧ W i n ys H') ?_ m0
      ⟨0,H2,[],[],I0,T.keep 0 _ _ st fun b _ o e => old b o e,fun b hb => (hf b hb).1,hacc,.nil,I.hok.fresh (by rw [hD]; exact Nat.le_refl _),w0⟩
    rintro n s3 ⟨i,H3,its,ys,I3,st3,fr3,⟨nn,pl3⟩,rv3,hD3,w3⟩
    show wpAny _ X.A ((compTurn (.ListComp elt [⟨tg,iter,ifs,0⟩] scope pos) 0 (.ref it) (.ref D) (compEnvC scope (clAdd X.env scope.names []) C X.env)).onRaise (fun x => do noteFrame x (compEnvC scope (clAdd X.env scope.names []) C X.env); theTreesLotGoes x)) _ _ s3
    refine wpAny_noted ?_
    rw [compTurn_list]
    refine wpAny_bind (wpAny_standAt (wpAny_bind ?_))
    have I3' : Inv (blkCx X pins s2 H2 scope C (own ++ cs) fp) [(D, { cls := .type "list", data := .seq its.toArray nn })] (blkSt σ cap own.length) H3 s3 :=
      I3.pins_of fun p hp => by
        have : p = (D,{ cls := .type "list",data := .seq its.toArray nn }) := by simpa using hp
        subst this
        exact ⟨pl3,hD3,hDC,Dfs,fun v z => by cases z⟩
    rcases turn i n ys H3 w3 with ⟨stop,hz,qf⟩ | ⟨go,hz,step⟩
    · refine thn (T.done (blkCx X pins s2 H2 scope C (own ++ cs) fp) rfl rfl rfl hc i _ s3 _ H3 _ I3' (stat fr3) st3 stop) fun r s4 ⟨hr,I4⟩ => ?_
      subst hr
      refine wpAny_pure (hRR D C s4 ⟨⟨ys,H3,hD3,qf,?_,?_⟩,?_⟩)
      · have pl4 := (I4.pin (D,_) (List.mem_append_right _ (List.mem_singleton.mpr rfl))).1
        have u4 := I4.base
        have Ds2 : s2.heap.get? D = none := Heap.get?_none_of_le (by rw [hD]; exact Nat.le_refl _)
        refine I.call' (s' := s4) (ch := fp) I4.os ⟨u4.keep,u4.slot,fun b o e n hx => ?_,u4.there,fun b xs e => ?_,fun b o u e => ?_,fun b ps e => ?_⟩ ?_ I4.bare fun b hb => ⟨(hf b hb).2.2.2.1,(hf b hb).2.1,(hf b hb).2.2.2.2.1,(hf b hb).2.2.2.2.2⟩
        · rw [upd_ne (fun z => by rw [z,Ds2] at e; cases e)]
          exact u4.free b o e n hx
        · have := u4.tups b xs e
          rw [upd_ne (ne_of_none this hD3)]; exact this
        · have := u4.frzs b o u e
          rw [upd_ne (ne_of_none this hD3)]; exact this
        · obtain ⟨more,e'⟩ := u4.tbls b ps e
          exact ⟨more,by rw [upd_ne (ne_of_none e' hD3)]; exact e'⟩
        · exact I4.hok.add hD3 ⟨hz,its,nn,rv3,pl4⟩
      · have CH : (upd H3 D (.lst ys)) C = none := by rw [upd_ne (Ne.symm hDC)]; exact I4.free
        exact I.fpOk (H' := upd H3 D (.lst ys)) (by rw [hD]; exact hCle) CH
      · obtain ⟨m,hn,_⟩ := I4.loc
        exact ⟨m,hn⟩
    · refine thn (T.item (blkCx X pins s2 H2 scope C (own ++ cs) fp) rfl rfl rfl hc i _ s3 _ H3 _ I3' (stat fr3) st3 go) fun r s4 ⟨u,hr,h4⟩ => ?_
      subst hr
      refine wpAny_bind (thn h4 fun _ s5 ⟨x,H5,I5,r5,y5,st5,fr5⟩ => ?_)
      have I5' := I5.pinned (stat fr5) (T.obj _ _ st5)
      refine wpAny_bind (wpAny_mono (hg C _ s5 _ H5 x u _ I5' r5 (step x H5 y5)) (fun _ s6 ⟨σ6,H6,I6,le6,q6⟩ => ?_) fun _ _ z => False.elim z)
      refine wpAny_bind (wpAny_mono (hi C _ s6 σ6 H6 _ I6 q6) (fun b s7 ⟨H7,I7,q7⟩ => ?_) fun _ _ z => False.elim z)
      have back : ∀ {pins' : List (Addr × Obj)} {H8 : Hp} {s8 : Shared},Inv (blkCx X pins s2 H2 scope C (own ++ cs) fp) pins' σ6 H8 s8 → Inv (blkCx X pins s2 H2 scope C (own ++ cs) fp) [] (blkSt σ cap own.length) H8 s8 := fun I8 =>
        I8.bareP.weak le6.1.symm fun i v e => le6.2 i v e
      cases b with
      | false =>
        rw [if_neg Bool.false_ne_true] at q7
        obtain ⟨m',hm,w7⟩ := q7
        refine wpAny_pure ⟨rfl,m',hm,i + 1,H7,its,ys,back I7,T.keep _ _ _ st5 fun b hb o e => ?_,fun b hb => ?_,⟨nn,?_⟩,rv3,?_,w7⟩
        · exact (I7.pin (b,o) (List.mem_append_right _ (List.mem_append_right _ (mem_pinsAt hb e)))).1
        · obtain ⟨o,e,d⟩ := T.obj _ _ st5 b hb
          exact (I7.pin (b,o) (List.mem_append_right _ (List.mem_append_right _ (mem_pinsAt hb e)))).2.1
        · exact (I7.pin (D,_) (List.mem_append_right _ (List.mem_append_left _ (List.mem_singleton.mpr rfl)))).1
        · exact (I7.pin (D,_) (List.mem_append_right _ (List.mem_append_left _ (List.mem_singleton.mpr rfl)))).2.1
      | true =>
        rw [if_pos rfl] at q7
        refine wpAny_bind (wpAny_bind (wpAny_mono (he C _ s7 σ6 H7 _ I7 q7) (fun y s8 ⟨v,H8,I8,r8,m',hm,w8⟩ => ?_) fun _ _ z => False.elim z))
        have pD := I8.pin (D,{ cls := .type "list",data := .seq its.toArray nn }) (List.mem_append_right _ (List.mem_append_left _ (List.mem_singleton.mpr rfl)))
        have hlen := rv3.length
        refine wpAny_bind (wpAny_list_append_plain (hsz := by rw [List.size_toArray]; omega) ⟨nn,pD.1⟩ fun h9 pl9 sb9 => wpAny_pure (wpAny_pure ?_))
        have I8' := back I8
        refine ⟨rfl,m',hm,i + 1,H8,its ++ [y],ys ++ [v],?_,T.keep _ _ _ st5 fun b hb o e => ?_,fun b hb => ?_,?_,rv3.append (.cons r8 .nil),pD.2.1,w8⟩
        · exact I8'.turned (t' := s8.toks) (fun b o hb e => sb9.extBut b o hb e) pD.2.1 hDC (.inr (by show s2.heap.objs.size ≤ D; rw [hD]; exact Nat.le_refl _)) (fun x c e => Nat.ne_of_lt (clt x c e)) fun p hp => by
            have hp' : p ∈ X.pn ++ pins := by
              have : p ∈ (X.pn ++ pins) ++ [] := hp
              simpa using this
            exact Nat.ne_of_lt (plt p hp')
        · exact sb9.extBut b o (Ne.symm (Dfp b hb)) (I8.pin (b,o) (List.mem_append_right _ (List.mem_append_right _ (mem_pinsAt hb e)))).1
        · obtain ⟨o,e,d⟩ := T.obj _ _ st5 b hb
          exact (I8.pin (b,o) (List.mem_append_right _ (List.mem_append_right _ (mem_pinsAt hb e)))).2.1
        · have e : its.toArray.push y = (its ++ [y]).toArray := by simp
          rw [← e]; exact pl9
  exact codeAny_compStart_list loop (T.self _ 0 _ _ _ (T.keep 0 _ _ st fun b _ o e => old b o e) loop)
def tComp (wi : TI) (cap : List Nat) (k : Nat) (g : TG) (tt : TT) (te : TE) : TE := fun σ H Q => wi σ H fun J H1 =>
  ∃ W : Nat → Nat → List V → Hp → Prop,(∃ m,W 0 m [] H1) ∧ CompW σ cap k J g tt te (fun ys H' => ∀ p,H' p = none → Q (.ref p) (upd H' p (.lst ys))) W
theorem pe_comp {wi : TI} (hc : X.calm = true) (hit : PI X tg iter wi) (ok : CompOk X scope own cs cap)
    (hg : ∀ pins s2 H2 C fp,PG (blkCx X pins s2 H2 scope C (own ++ cs) fp) tg g) (hi : ∀ pins s2 H2 C fp,PIfs (blkCx X pins s2 H2 scope C (own ++ cs) fp) ifs tt) (he : ∀ pins s2 H2 C fp,PE (blkCx X pins s2 H2 scope C (own ++ cs) fp) elt te)
    (hs : ∀ x,foldedSetIterable iter X.env x = pure x := by intro _; rfl) : PE X (.ListComp elt [⟨tg,iter,ifs,0⟩] scope pos) (tComp wi cap own.length g tt te) := by
  intro pins s σ H Q I h
  rw [eval_ListComp]
  refine wpAny_comprehension_free (use := none) rfl hs (closure_eq fun y hy e => I.ok.has y.1 (ok.free y hy e)) ok.kind ok.names (thn (hit pins s σ H _ I h) fun v s1 h1 => thn h1 fun itv s2 h2 => ?_)
  obtain ⟨it,fp,tn,J,H2,e,I2,T,st2,f2,W,w0,turn⟩ := h2
  subst e
  refine comp_run (RR := fun acc C => compPost (model X.prog X.w) X.A X.xe none (EP X pins σ Q) acc C) I2 ok hc T st2 f2 (fun C => hg _ _ _ _ _) (fun C => hi _ _ _ _ _) (fun C => he _ _ _ _ _) w0 turn fun D C s' B => ?_
  obtain ⟨⟨ys,H',hD,q,I',fp'⟩,m,hn⟩ := B
  obtain ⟨f0,f1,f2',f3,f4,f5⟩ := fp'
  exact ⟨m,hn,fun h' sb => ⟨.ref D,_,I'.turned (t' := s'.toks) (fun b o hb e => sb.extBut b o hb e) f0 f1 f3 f4 f5,rfl,q D hD⟩⟩
theorem ps_comp {wi : TI} {i : Nat} {y : Str} {py spos : Pos} (hc : X.calm = true) (hN : X.N.Nodup) (hiy : X.N[i]? = some y) (hy : X.env.scope.names.lookup y = some .local)
    (hsw : swapsWith (.ListComp elt [⟨tg,iter,ifs,0⟩] scope pos) (some (.Name y py)) spos.line X.env = pure true) (hit : PI X tg iter wi) (ok : CompOk X scope own cs cap)
    (hg : ∀ pins s2 H2 C fp,PG (blkCx X pins s2 H2 scope C (own ++ cs) fp) tg g) (hi : ∀ pins s2 H2 C fp,PIfs (blkCx X pins s2 H2 scope C (own ++ cs) fp) ifs tt) (he : ∀ pins s2 H2 C fp,PE (blkCx X pins s2 H2 scope C (own ++ cs) fp) elt te)
    (hs : ∀ x,foldedSetIterable iter X.env x = pure x := by intro _; rfl) : PS X (.Assign [.Name y py] (.ListComp elt [⟨tg,iter,ifs,0⟩] scope pos) spos) (tAsg (tComp wi cap own.length g tt te) (gName i)) := by
  intro pins s σ H D0 I h
  rw [exec_Assign_Name_used _ _ _ _ hsw]
  refine wpAny_bind (wpAny_standAt (wpAny_bind ?_))
  show wpAny _ X.A (do let _ ← comprehension (.ListComp elt [⟨tg,iter,ifs,0⟩] scope pos) scope X.env _ (newList []) false (eval iter X.env) (some (assign (.Name y py) X.env))) _ _ s
  refine wpAny_bind (wpAny_mono (wpAny_comprehension_free (use := some (assign (.Name y py) X.env)) (Q := fun _ s' => SP X pins D0 .next s') rfl hs (closure_eq fun y hy e => I.ok.has y.1 (ok.free y hy e)) ok.kind ok.names
    (thn (hit pins s σ H _ I h) fun v s1 h1 => thn h1 fun itv s2 h2 => ?_)) (fun _ s' hq => wpAny_pure (wpAny_pure hq)) fun _ _ e => e)
  obtain ⟨it,fp,tn,J,H2,e,I2,T,st2,f2,W,w0,turn⟩ := h2
  subst e
  refine comp_run (RR := fun acc C => compPost (model X.prog X.w) X.A X.xe (some (assign (.Name y py) X.env)) (fun _ s' => SP X pins D0 .next s') acc C) I2 ok hc T st2 f2 (fun C => hg _ _ _ _ _) (fun C => hi _ _ _ _ _) (fun C => he _ _ _ _ _) w0 turn fun D C s' B => ?_
  obtain ⟨⟨ys,H',hD,q,I',fp'⟩,m,hn⟩ := B
  obtain ⟨f0,f1,f2',f3,f4,f5⟩ := fp'
  show wpAny _ X.A (assign (.Name y py) X.env (.ref D)) _ _ _
  refine wpAny_assign_Name (store_ok2 I' hN hiy (.inl hy) (v := .ref D) rfl (fun s3 I3 ⟨a,sb,ha⟩ => ?_) (.inr hy))
  have hCa : C ≠ a := by
    rcases ha with z | z
    · rw [z]; exact f1
    · exact fun q => f4 y a z q.symm
  refine ⟨m,hn.sameBut sb hCa,fun h' sb' => ⟨_,_,I3.turned (t' := s3.toks) (fun b o hb e => sb'.extBut b o hb e) f0 f1 f3 f4 f5,q D hD⟩⟩
end
end L2
set_option Elab.async false
set_option linter.all false
set_option maxRecDepth 100000
namespace L2
open PySem PySem.Spec PyProof.Rows
def CDivB (i j : Int) : Prop := 0 < j ∧ j ≤ 10 ^ 60
theorem CDivB.np {i j : Int} (h : CDivB i j) : Builtin.divisionGoesByPylong i j = false := by
  refine PyProof.noPylong_of_log2 ?_
  have h1 : j.natAbs < 2 ^ 200 := by
    obtain ⟨a,b⟩ := h
    omega
  have h2 : j.natAbs.log2 < 200 := (Nat.log2_lt (by have := h.1; omega)).mpr h1
  omega
section
variable {X : Cx}
theorem op_fdivB : OpR X (binaryOp .FloorDiv) (rI CDivB fun i j => .int (i / j)) := opI fun i j _ _ _ _ _ hc q => by
  refine floordiv_int (by have := hc.1; omega) ?_ (.inl hc.np)
  rw [Int.fdiv_eq_ediv_of_nonneg _ (by have := hc.1; omega)]
  exact q
theorem Inv.kitx {pins : List (Addr × Obj)} {σ : St} {H : Hp} {s : Shared} {x : V} {u t : Value} (I : Inv X pins σ H s) (rx : RelV x u) (ty : TyOf X.K H x t) :
    ∃ P : Heap → Prop,PySem.W.KitX X.K u t P ∧ P s.heap ∧ u ≠ .builtin "__main__.__loader__#opaque" := by
  cases ty with
  | non => cases (show u = Value.none from rx); exact ⟨_,PySem.W.kitx_none,True.intro,fun z => nomatch z⟩
  | bl y => cases (show u = Value.bool y from rx); exact ⟨_,PySem.W.kitx_bool,True.intro,fun z => nomatch z⟩
  | int i => obtain ⟨t,q⟩ := (show ∃ t,u = Value.int i t from rx); cases q; exact ⟨_,PySem.W.kitx_int,True.intro,fun z => nomatch z⟩
  | str y => obtain ⟨t,q⟩ := (show ∃ t,u = Value.str y t from rx); cases q; exact ⟨_,PySem.W.kitx_str,True.intro,fun z => nomatch z⟩
  | flt y => obtain ⟨t,q⟩ := (show ∃ t,u = Value.float y t from rx); cases q; exact ⟨_,PySem.W.kitx_float,True.intro,fun z => nomatch z⟩
  | @lst a xs ea =>
    cases (show u = Value.ref a from rx)
    obtain ⟨_,_,n,_,h1⟩ := (show ObjOk X.prog X.w H s.heap a (.lst xs) from I.hok a _ ea)
    exact ⟨_,PySem.W.kitx_list,⟨_,h1,rfl⟩,fun z => nomatch z⟩
  | @frz a ob xs ea =>
    cases (show u = Value.ref a from rx)
    obtain ⟨_,_,_,n,_,h1⟩ := (show ObjOk X.prog X.w H s.heap a (.frz ob (.lst xs)) from I.hok a _ ea)
    exact ⟨_,PySem.W.kitx_list,⟨_,h1,rfl⟩,fun z => nomatch z⟩
  | @tup a xs ea =>
    cases (show u = Value.ref a from rx)
    obtain ⟨_,_,_,p⟩ := (show ObjOk X.prog X.w H s.heap a (.tup xs) from I.hok a _ ea)
    obtain ⟨o,h1,h2,_⟩ := p
    exact ⟨_,PySem.W.kitx_tuple,⟨o,h1,h2⟩,fun z => nomatch z⟩
  | @dK a kvs ea =>
    cases (show u = Value.ref a from rx)
    obtain ⟨_,_,vs,_,p⟩ := (show ObjOk X.prog X.w H s.heap a (.dK kvs) from I.hok a _ ea)
    obtain ⟨o,es,ep,h1,h2,_⟩ := p
    exact ⟨_,PySem.W.kitx_dict,⟨o,h1,h2.1⟩,fun z => nomatch z⟩
  | @dT a kvs ea =>
    cases (show u = Value.ref a from rx)
    obtain ⟨_,_,xs,_,o,es,ep,h1,h2,_⟩ := (show ObjOk X.prog X.w H s.heap a (.dT kvs) from I.hok a _ ea)
    exact ⟨_,PySem.W.kitx_dict,⟨o,h1,h2.1⟩,fun z => nomatch z⟩
  | @ins a C dx fs ea cl ha hn htk hm =>
    cases (show u = Value.ref a from rx)
    obtain ⟨mA,O,_⟩ := ins_get I.hok ea
    obtain ⟨od,J,_⟩ := O.look
    exact ⟨_,PySem.W.kitx_own (cl.get _) cl.hd ha hn htk hm,J,fun z => nomatch z⟩
def clV : V → Option Value
  | .ty T => some (.type T)
  | .ref C => some (.ref C)
  | _ => none
theorem clV.rel {v : V} {u c : Value} (e : clV v = some c) (r : RelV v u) : u = c := by
  cases v with
  | ty T => have e' : Value.type T = c := Option.some.inj e; rw [← e']; exact r
  | ref C => have e' : Value.ref C = c := Option.some.inj e; rw [← e']; exact r
  | _ => cases e
def clVs : List V → Option (List Value)
  | [] => some []
  | v :: r => match clV v,clVs r with
    | some c,some cs => some (c :: cs)
    | _,_ => none
theorem clVs.rel : ∀ {vs : List V} {us cs : List Value},clVs vs = some cs → Vals vs us → us = cs
  | [],_,_,e,.nil => Option.some.inj e
  | v :: r,_,_,e,.cons r1 r2 => by
    unfold clVs at e
    split at e
    · rename_i c cs' e1 e2
      cases e
      rw [clV.rel e1 r1,clVs.rel e2 r2]
    · cases e
theorem call_isinst : CallR X (.builtin "isinstance") (fun xs H Q => ∃ x cv t c b,xs = [x,cv] ∧ TyOf X.K H x t ∧ clV cv = some c ∧ PySem.W.kitOne X.K t c = some b ∧ Q (.bl b) H) := by
  intro pins s σ H xs us Q I rv h
  obtain ⟨x,cv,t,c,b,rfl,ty,e1,e2,q⟩ := h
  cases rv with
  | cons r1 rr =>
    cases rr with
    | cons r2 rr =>
      cases rr
      rw [clV.rel e1 r2]
      exact isinst_ok I r1 ty e2 fun tk => ⟨.bl b,H,I.tok tk,rfl,q⟩
theorem call_isinstT : CallR X (.builtin "isinstance") (fun xs H Q => ∃ x p t cvs cs b,xs = [x,.ref p] ∧ TyOf X.K H x t ∧ H p = some (.tup cvs) ∧ clVs cvs = some cs ∧ PySem.W.kitAny X.K t cs = some b ∧ Q (.bl b) H) := by
  intro pins s σ H xs us Q I rv h
  obtain ⟨x,p,t,cvs,cs,b,rfl,ty,hp,e1,e2,q⟩ := h
  cases rv with
  | cons r1 rr =>
    cases rr with
    | cons r2 rr =>
      cases rr
      cases r2
      obtain ⟨_,its,rits,o,ho,hc,n,hd⟩ := I.hok p _ hp
      obtain ⟨P,Z,p1,p2⟩ := I.kitx r1 ty
      obtain ⟨oc,od,dt,osl⟩ := o
      replace hc : oc = .type "tuple" := hc
      replace hd : dt = .seq its.toArray n := hd
      subst hc hd
      have e3 := clVs.rel e1 rits
      subst e3
      exact PySem.W.kia_tup Z I.kIn p1 ho e2 p2 fun tk => ⟨.bl b,H,I.tok tk,rfl,q⟩
end
mutual
inductive DatV (K : PySem.W.Frag) (H : Hp) : V → PyData → Prop
  | non : DatV K H .non .none
  | bl (b : Bool) : DatV K H (.bl b) (.bool b)
  | int (i : Int) : DatV K H (.int i) (.int i)
  | str (x : Str) : DatV K H (.str x) (.str x)
  | lst {a : Addr} {xs : List V} {ds : List PyData} : SqL K H a xs → DatVs K H xs ds → DatV K H (.ref a) (.list ds)
  | tup {a : Addr} {xs : List V} {ds : List PyData} : SqT K H a xs → DatVs K H xs ds → DatV K H (.ref a) (.tuple ds)
inductive DatVs (K : PySem.W.Frag) (H : Hp) : List V → List PyData → Prop
  | nil : DatVs K H [] []
  | cons {x : V} {d : PyData} {xs : List V} {ds : List PyData} : DatV K H x d → DatVs K H xs ds → DatVs K H (x :: xs) (d :: ds)
end
section
variable {X : Cx} {pins : List (Addr × Obj)} {σ : St} {H : Hp} {s : Shared}
mutual
theorem Inv.reads (I : Inv X pins σ H s) : ∀ {v : V} {d : PyData},DatV X.K H v d → ∀ {u : Value},RelV v u → ∃ as,Reads s.heap u d as
  | _,_,.non,u,r => by cases (show u = Value.none from r); exact ⟨_,.none⟩
  | _,_,.bl b,u,r => by cases (show u = Value.bool b from r); exact ⟨_,.bool b⟩
  | _,_,.int i,u,r => by obtain ⟨t,e⟩ := (show ∃ t,u = Value.int i t from r); subst e; exact ⟨_,.int i t⟩
  | _,_,.str x,u,r => by obtain ⟨t,e⟩ := (show ∃ t,u = Value.str x t from r); subst e; exact ⟨_,.str x t⟩
  | _,_,.lst (a := a) h hs,u,r => by
    cases (show u = Value.ref a from r)
    obtain ⟨its,rv,⟨o,n,e,c,_,d⟩,_⟩ := I.list h
    obtain ⟨as,ra⟩ := I.readsAll hs rv
    exact ⟨_,.list e c d (by simpa using ra)⟩
  | _,_,.tup (a := a) h hs,u,r => by
    cases (show u = Value.ref a from r)
    obtain ⟨its,rv,⟨o,e,c,n,d⟩,_⟩ := I.tuple h
    obtain ⟨as,ra⟩ := I.readsAll hs rv
    exact ⟨_,.tuple e c d (by simpa using ra)⟩
theorem Inv.readsAll (I : Inv X pins σ H s) : ∀ {vs : List V} {ds : List PyData},DatVs X.K H vs ds → ∀ {us : List Value},Vals vs us → ∃ as,ReadsAll s.heap us ds as
  | _,_,.nil,_,.nil => ⟨_,.nil⟩
  | _,_,.cons h hs,_,.cons r rs => by
    obtain ⟨as,ra⟩ := I.reads h r
    obtain ⟨bs,rb⟩ := I.readsAll hs rs
    exact ⟨_,.cons ra rb⟩
end
end
section
variable {X : Cx}
theorem op_neD (hu : X.A.units + 64 < cLine) : OpR X (compareOp .NotEq) (fun x y H Q => ∃ da db,DatV X.K H x da ∧ DatV X.K H y db ∧ SeqAt.shaped da = true ∧ SeqAt.shaped db = true ∧ Q (.bl (!PyData.eqv da db)) H) := by
  intro pins s σ H x y v u Q I rx ry h
  obtain ⟨da,db,hx,hy,s1,s2,q⟩ := h
  obtain ⟨as,ra⟩ := I.reads hx rx
  obtain ⟨bs,rb⟩ := I.reads hy ry
  exact ne_dataH ra rb s1 s2 hu ⟨.bl _,H,I,rfl,q⟩
theorem op_eqD (hu : X.A.units + 64 < cLine) : OpR X (compareOp .Eq) (fun x y H Q => ∃ da db,DatV X.K H x da ∧ DatV X.K H y db ∧ SeqAt.shaped da = true ∧ SeqAt.shaped db = true ∧ Q (.bl (PyData.eqv da db)) H) := by
  intro pins s σ H x y v u Q I rx ry h
  obtain ⟨da,db,hx,hy,s1,s2,q⟩ := h
  obtain ⟨as,ra⟩ := I.reads hx rx
  obtain ⟨bs,rb⟩ := I.reads hy ry
  exact eq_dataH ra rb s1 s2 hu ⟨.bl _,H,I,rfl,q⟩
end
section
variable {prog : Program} {w : World} {A : Around} {E : Value → Shared → Prop}
theorem draw_listN {it l : Addr} {items : Array Value} (hne : l ≠ it) : ∀ (n i : Nat) (s : Shared) (Q : List Value → Shared → Prop),s.heap.IsListIter it l i → s.heap.IsList l items → i + n ≤ items.size →
    (∀ h',h'.IsListIter it l (i + n) → Heap.SameBut it s.heap h' → Q ((items.toList.drop i).take n) { s with heap := h' }) → wpAny (model prog w) A (draw (.ref it) n) Q E s
  | 0,i,s,Q,hit,_,_,hQ => by
    show wpAny _ _ (pure []) Q E s
    exact wpAny_pure (by simpa using hQ s.heap hit (Heap.SameBut.refl ..))
  | n + 1,i,s,Q,hit,ht,hle,hQ => by
    have hlt : i < items.size := by omega
    show wpAny _ _ (pyNext (.ref it) >>= _) Q E s
    refine wpAny_bind (wpAny_pyNext_list_item hit ht (x := items[i]) (by simp [hlt]) fun h₁ hit₁ hs₁ => ?_)
    refine wpAny_bind (wpAny_holding (draw_listN hne n (i + 1) _ _ hit₁ (ht.extBut hs₁.extBut hne) (by omega) fun h₂ hit₂ hs₂ => wpAny_pure ?_))
    have hd : items.toList.drop i = items[i] :: items.toList.drop (i + 1) := by simp [List.drop_eq_getElem_cons,hlt]
    have q := hQ h₂ (by rw [show i + (n + 1) = i + 1 + n by omega]; exact hit₂) (hs₁.trans hs₂)
    rw [hd,List.take_succ_cons] at q
    exact q
theorem unpackItems_listN {s : Shared} {l : Addr} {items : Array Value} {Q : List Value → Shared → Prop} (hh : A.handled = none) (ht : s.heap.IsList l items)
    (hQ : ∀ h',Heap.ExtBut s.heap.objs.size s.heap h' → Q items.toList { s with heap := h' }) : wpAny (model prog w) A (unpackItems (.ref l) items.size none) Q E s := by
  have hlt : l ≠ s.heap.objs.size := by obtain ⟨o,ho,_⟩ := ht; exact Nat.ne_of_lt (Heap.lt_size ho)
  have hp : (s.heap.push { cls := .type "list_iterator",data := .fields #[.ref l,.int 0 0] }).IsList l items := by
    obtain ⟨o,ho,r⟩ := ht; exact ⟨o,Heap.get?_push_of_some _ ho,r⟩
  unfold unpackItems
  refine wpAny_bind ?_
  · unfold notIterableAtAll
    refine wpAny_bind (wpAny_specialOf ht.typeIs PySem.slot_list_iter.lookup ?_)
    refine wpAny_pure ?_
    simp only [Bool.false_eq_true,if_false]
    refine wpAny_bind (wpAny_holding (wpAny_pyIter_list ht ?_))
    refine wpAny_bind (wpAny_holding (draw_listN hlt items.size 0 _ _ ⟨_,Heap.get?_push_size _ rfl,rfl,rfl⟩ hp (by omega) fun h₁ hit₁ hs₁ => ?_))
    have hall : List.take items.size (List.drop 0 items.toList) = items.toList := by
      rw [List.drop_zero]; exact List.take_of_length_le (by simp)
    rw [hall]
    rw [if_neg (by simp)]
    have ht₁ : h₁.IsList l items := hp.extBut hs₁.extBut hlt
    refine wpAny_bind (wpAny_holding (wpAny_pyNext_list_end hh hit₁ ht₁ (by simp) fun h₂ he₂ => ?_))
    simp only [Option.isSome_none,Bool.false_eq_true,if_false]
    refine wpAny_pure (hQ h₂ fun b o hb e => he₂ b o hb (hs₁.extBut b o hb (Heap.get?_push_of_some _ e)))
theorem assign_Tuple_listN {s : Shared} {env : Env} {elts : List Expr} {x1} {pos : Pos} {l : Addr} {items : Array Value} {Q : Unit → Shared → Prop} (hh : A.handled = none) (ht : s.heap.IsList l items)
    (hn : (assignEach elts env).length = items.size) (hstar : (assignEach elts env).findIdx? (·.1) = none)
    (h : ∀ h',Heap.ExtBut s.heap.objs.size s.heap h' → wpAny (model prog w) A (assignInOrder ((assignEach elts env).map (·.2)) items.toList) Q E { s with heap := h' }) :
    wpAny (model prog w) A (assign (.Tuple elts x1 pos) env (.ref l)) Q E s := by
  rw [assign_Tuple]
  refine wpAny_bind (wpAny_standAt ?_)
  unfold unpack
  rw [hn,hstar]
  exact wpAny_bind (wpAny_holding (unpackItems_listN hh ht h))
end
section
variable {X : Cx} {pos : Pos}
def gSeq (K : PySem.W.Frag) (n : Nat) (t : TGs) : TG := fun v σ H Q => ∃ a xs,v = .ref a ∧ (SqL K H a xs ∨ SqT K H a xs) ∧ xs.length = n ∧ t xs σ H Q
theorem pg_seq {es : List Expr} {k : Nat} {t : TGs} {n : Nat} (hc : X.calm = true) (h : PGs X es t)
    (hn : (assignEach es X.env).length = n := by rfl) (hst : (assignEach es X.env).findIdx? (·.1) = none := by rfl) : PG X (.Tuple es k pos) (gSeq X.K n t) := by
  intro pins s σ H v u Q I r hw
  obtain ⟨a,xs,e1,hq,hl,hw⟩ := hw
  rcases hq with hq | hq
  · subst e1
    cases r
    obtain ⟨its,rv,ht,hz⟩ := I.list hq
    refine assign_Tuple_listN (I.ok.hd hc) ht.isList (by simp [hn,← hl,rv.length]) hst fun h' hx => ?_
    have I1 : Inv X pins σ H { s with heap := h' } := I.kept (t' := s.toks) fun b o e => hx b o (Nat.ne_of_lt (Heap.lt_size e)) e
    exact h pins _ σ H xs _ Q I1 (by simpa using rv) hw
  · exact pg_tup hc h hn hst pins s σ H v u Q I r ⟨a,xs,e1,hq,hl,hw⟩
end
section
variable {X : Cx}
theorem Inv.turnedN {pins : List (Addr × Obj)} {σ : St} {H : Hp} {s : Shared} {h' : Heap} {t' : Nat} {ch : List Addr} (I : Inv X pins σ H s) (hf : ∀ b ∈ ch,FpOk X pins H b) (k : ∀ b o,b ∉ ch → s.heap.get? b = some o → h'.get? b = some o) : Inv X pins σ H { s with heap := h',toks := t' } := by
  have hLc : X.env.locals ∉ ch := fun z => (hf _ z).2.1 rfl
  have nt : ∀ b u,H b = some u → b ∉ ch := fun b u e z => by rw [(hf b z).1] at e; cases e
  refine I.step (g' := s.gens) (d' := s.drawn) (ch := ch) (fun b hb => ⟨(hf b hb).2.2.2.1,(hf b hb).2.1,(hf b hb).2.2.2.2.1,(hf b hb).2.2.2.2.2⟩) (fun b o _ _ hc e _ => k b o hc e) (fun b o _ _ hc e _ => ⟨o.slots,k b o hc e⟩) (fun _ _ _ _ n => n)
    (fun b o hc e => ⟨o,k b o hc e⟩) (fun _ _ e => e) (fun _ _ _ e => e) (fun b ps e => ⟨#[],by rw [e]; simp⟩) (fun m hm => ?_) (fun b u e => ?_) I.bare
  · obtain ⟨o,es,ep,ho,r⟩ := hm
    exact ⟨o,es,ep,k _ o hLc ho,r⟩
  · refine (I.hok b u e).stay (fun c v hc q => k c v ?_ q) (fun _ q => q) fun _ _ q => q
    rcases hc with z | z
    · rw [z]; exact nt b u e
    · exact nt c _ z
theorem Inv.track {pins : List (Addr × Obj)} {σ : St} {H : Hp} {s : Shared} {a : Addr} {o : HO} (I : Inv X pins σ H s) (hf : FpOk X pins H a) (fa : X.s₀.heap.objs.size ≤ a) (new : ObjOk X.prog X.w (upd H a o) s.heap a o) : Inv X pins σ (upd H a o) s := by
  obtain ⟨f0,f1,f2,f3,f4,f5⟩ := hf
  have s0 : ∀ b o,X.s₀.heap.get? b = some o → b ≠ a := fun b o e => Nat.ne_of_lt (Nat.lt_of_lt_of_le (Heap.lt_size e) fa)
  refine ⟨I.ok,I.os,I.bare,⟨I.base.keep,I.base.slot,fun b o e n hx => ?_,I.base.there,fun b xs e => ?_,fun b o u e => ?_,fun b ps e => ?_⟩,I.loc,I.cell,?_,fun x c e => ?_,fun p hp => ?_,I.hok.add f0 new,I.len⟩
  · rw [upd_ne (s0 b o e)]; exact I.base.free b o e n hx
  · have q := I.base.tups b xs e
    rw [upd_ne (ne_of_none q f0)]; exact q
  · have q := I.base.frzs b o u e
    rw [upd_ne (ne_of_none q f0)]; exact q
  · obtain ⟨more,q⟩ := I.base.tbls b ps e
    exact ⟨more,by rw [upd_ne (ne_of_none q f0)]; exact q⟩
  · rw [upd_ne (Ne.symm f1)]; exact I.free
  · rw [upd_ne (f4 x c e)]; exact I.freeC x c e
  · obtain ⟨e,n,r⟩ := I.pin p hp
    exact ⟨e,by rw [upd_ne (f5 p hp)]; exact n,r⟩
end
structure ZipAp (z TI TO i1 i2 : Addr) : Prop where
  nd : [z,TI,TO,i1,i2].Nodup
end L2
set_option Elab.async false
set_option linter.all false
set_option maxRecDepth 100000
namespace L2
open PySem PySem.Spec PyProof.Rows
def Dn (P : Program) (w : World) (K : PySem.W.Frag) (mg : Str → Option Value) (base : Heap) (x : Str) (ps : List Str) (k : Nat) (sp : Sp) : Prop :=
  ∃ (f : Addr) (fd : FuncData),FnOk P w K mg base CX0 k f fd ps sp ∧ Binds K fd ps [] ∧ PySem.W.keepIn K (.ref f) = true ∧ mg x = some (.ref f)
theorem pe_cD {X : Cx} {k : Nat} {ps : List Str} {sp : Sp} {x : Str} {p pos : Pos} {e : Expr} {es : List Expr} {t : TA} (D : Dn X.prog X.w X.K X.mg X.base x ps k sp) (hr : Room k X.A) (hg : Gl X x) (ha : PA X (e :: es) t)
    (hdb : (x == ("__debug__" : Str)) = false := by decide) (he : starEach (e :: es) X.env = (false,eval e X.env) :: starEach es X.env := by rfl) (hpl : (backTo pos (starEach es X.env)).any (·.1) = false := by rfl) :
    PE X (.Call (.Name x p) (e :: es) [] pos) (tCall sp [] E0 t) := by
  obtain ⟨f,fd,F,hb,hk,hm⟩ := D
  exact pe_call F hr hg hm hk hb .nil pass0 ha hdb he hpl
def compChk (sc : Scope) (N : List Str) (scope : Scope) (own cs : List Str) (cap : List Nat) : Bool :=
  decide (scope.kind = .function) && scope.names.all (fun y => decide (y.2 ≠ .cell)) && scope.names.all (fun y => decide (y.2 = .local → scope.names.lookup y.1 = some .local)) &&
  scope.names.all (fun y => decide (y.2 = .free → sc.names.lookup y.1 = some .cell ∨ sc.names.lookup y.1 = some .free)) && own.all (fun y => decide (scope.names.lookup y = some .local)) &&
  decide (cs.length = cap.length) && (cs.zip cap).all (fun y => decide (N[y.2]? = some y.1) && decide ((y.1,NameKind.free) ∈ scope.names)) && scope.names.all (fun y => decide (y.2 = .free → scope.names.lookup y.1 ≠ some .local))
theorem compOk_of {X : Cx} {sc : Scope} {N : List Str} {scope : Scope} {own cs : List Str} {cap : List Nat} (h1 : X.env.scope = sc) (h2 : X.N = N) (h : compChk sc N scope own cs cap = true) : CompOk X scope own cs cap := by
  subst h1 h2
  unfold compChk at h
  simp only [Bool.and_eq_true,List.all_eq_true,decide_eq_true_eq] at h
  obtain ⟨⟨⟨⟨⟨⟨⟨a1,a2⟩,a3⟩,a4⟩,a5⟩,a6⟩,a7⟩,a8⟩ := h
  refine ⟨a1,a2,a3,a4,fun i y e => ?_,a5,a6,fun y hy e => a8 _ hy rfl e⟩
  have hi : i < cs.length := (List.getElem?_eq_some_iff.mp e).1
  have hj : i < cap.length := by rw [← a6]; exact hi
  refine ⟨cap[i],List.getElem?_eq_getElem hj,?_⟩
  have hm : (y,cap[i]) ∈ cs.zip cap := by
    have : (cs.zip cap)[i]? = some (y,cap[i]) := by
      rw [List.getElem?_zip_eq_some]
      exact ⟨e,List.getElem?_eq_getElem hj⟩
    exact List.mem_of_getElem? this
  exact a7 _ hm
theorem tYes_ite {σ : St} {H : Hp} {A B : Hp → Prop} (h : A H) : tYes σ H (fun ok H3 => if ok = true then A H3 else B H3) := by
  show (if (true : Bool) = true then A H else B H)
  rw [if_pos rfl]
  exact h
section
variable {X : Cx} {tg : Expr}
def iSeq (K : PySem.W.Frag) (tl : TE) : TI := fun σ H R => iList K tl σ H R ∨ iTup K tl σ H R
theorem pi_seq {l : Expr} {tl : TE} (hl : PE X l tl) : PI X tg l (iSeq X.K tl) := by
  intro pins s σ H R I h
  rcases h with h | h
  · exact pi_list hl pins s σ H R I h
  · exact pi_tup hl pins s σ H R I h
end
def tyNames : List String := ["NoneType","bool","int","str","list","tuple","dict"]
theorem kit_int {K : PySem.W.Frag} : ∀ T ∈ tyNames,PySem.W.kitOne K (.type T) (.type "int") = some (T == "int" || T == "bool") := by
  intro T h
  simp only [tyNames,List.mem_cons,List.not_mem_nil,or_false] at h
  rcases h with rfl | rfl | rfl | rfl | rfl | rfl | rfl <;> kernel_rfl
theorem kit_bool {K : PySem.W.Frag} : ∀ T ∈ tyNames,PySem.W.kitOne K (.type T) (.type "bool") = some (T == "bool") := by
  intro T h
  simp only [tyNames,List.mem_cons,List.not_mem_nil,or_false] at h
  rcases h with rfl | rfl | rfl | rfl | rfl | rfl | rfl <;> kernel_rfl
theorem kit_list {K : PySem.W.Frag} : ∀ T ∈ tyNames,PySem.W.kitOne K (.type T) (.type "list") = some (T == "list") := by
  intro T h
  simp only [tyNames,List.mem_cons,List.not_mem_nil,or_false] at h
  rcases h with rfl | rfl | rfl | rfl | rfl | rfl | rfl <;> kernel_rfl
theorem kit_tuple {K : PySem.W.Frag} : ∀ T ∈ tyNames,PySem.W.kitOne K (.type T) (.type "tuple") = some (T == "tuple") := by
  intro T h
  simp only [tyNames,List.mem_cons,List.not_mem_nil,or_false] at h
  rcases h with rfl | rfl | rfl | rfl | rfl | rfl | rfl <;> kernel_rfl
theorem kit_str {K : PySem.W.Frag} : ∀ T ∈ tyNames,PySem.W.kitOne K (.type T) (.type "str") = some (T == "str") := by
  intro T h
  simp only [tyNames,List.mem_cons,List.not_mem_nil,or_false] at h
  rcases h with rfl | rfl | rfl | rfl | rfl | rfl | rfl <;> kernel_rfl
theorem kit_row {K : PySem.W.Frag} : ∀ T ∈ tyNames,PySem.W.kitAny K (.type T) [.type "list",.type "tuple"] = some (T == "list" || T == "tuple") := by
  intro T h
  have h1 := kit_list (K := K) T h
  have h2 := kit_tuple (K := K) T h
  unfold PySem.W.kitAny
  rw [h1]
  cases e : (T == "list") with
  | true => rfl
  | false =>
    show PySem.W.kitAny K (.type T) [.type "tuple"] = _
    unfold PySem.W.kitAny
    rw [h2]
    cases e2 : (T == "tuple") <;> rfl
def Ty (K : PySem.W.Frag) (H : Hp) (x : V) (T : String) : Prop := T ∈ tyNames ∧ TyOf K H x (.type T)
theorem Ty.int {K : PySem.W.Frag} {H : Hp} {i : Int} : Ty K H (.int i) "int" := ⟨by simp [tyNames],.int i⟩
theorem Ty.bl {K : PySem.W.Frag} {H : Hp} {b : Bool} : Ty K H (.bl b) "bool" := ⟨by simp [tyNames],.bl b⟩
theorem Ty.non {K : PySem.W.Frag} {H : Hp} : Ty K H .non "NoneType" := ⟨by simp [tyNames],.non⟩
theorem Ty.str {K : PySem.W.Frag} {H : Hp} {x : Str} : Ty K H (.str x) "str" := ⟨by simp [tyNames],.str x⟩
theorem Ty.lst {K : PySem.W.Frag} {H : Hp} {a : Addr} {xs : List V} (e : H a = some (.lst xs)) : Ty K H (.ref a) "list" := ⟨by simp [tyNames],.lst e⟩
theorem Ty.tup {K : PySem.W.Frag} {H : Hp} {a : Addr} {xs : List V} (e : H a = some (.tup xs)) : Ty K H (.ref a) "tuple" := ⟨by simp [tyNames],.tup e⟩
theorem Ty.dK {K : PySem.W.Frag} {H : Hp} {a : Addr} {xs : List (Key × V)} (e : H a = some (.dK xs)) : Ty K H (.ref a) "dict" := ⟨by simp [tyNames],.dK e⟩
def whole : V → Int → Bool
  | .int i,l => decide (l ≤ i)
  | _,_ => false
def isBl : V → Bool
  | .bl _ => true
  | _ => false
theorem ty_int {K : PySem.W.Frag} {H : Hp} {x : V} {T : String} (t : TyOf K H x (.type T)) (h : T ∈ tyNames) : (T == "int") = true → ∃ i,x = .int i := by
  intro e
  have e' : T = "int" := by simpa using e
  subst e'
  generalize hv : Value.type "int" = tv at t
  cases t with
  | int i => exact ⟨i,rfl⟩
  | _ => exact absurd hv (by simp)
theorem ty_bool {K : PySem.W.Frag} {H : Hp} {x : V} {T : String} (t : TyOf K H x (.type T)) : (T == "bool") = isBl x := by
  generalize hv : Value.type T = tv at t
  cases t with
  | bl b => cases hv; rfl
  | non => cases hv; rfl
  | int i => cases hv; rfl
  | str i => cases hv; rfl
  | flt i => cases hv; rfl
  | lst i => cases hv; rfl
  | frz i => cases hv; rfl
  | tup i => cases hv; rfl
  | dK i => cases hv; rfl
  | dT i => cases hv; rfl
  | ins => cases hv
end L2
namespace Pc
open PySem L2
structure Pot (a b : Int) : Prop where
  a0 : 0 ≤ a
  b0 : 0 ≤ b
  b1 : b < 2147483629
def PotAt (H : Hp) (p : Addr) : Prop := ∃ a b,Pot a b ∧ H p = some (.lst [.int a,.int b])
def But (p : Addr) (H H' : Hp) : Prop := ∀ b o,b ≠ p → H b = some o → H' b = some o
theorem But.refl {p : Addr} {H : Hp} : But p H H := fun _ _ _ e => e
theorem But.trans {p : Addr} {H H1 H2 : Hp} (a : But p H H1) (b : But p H1 H2) : But p H H2 := fun c o n e => b c o n (a c o n e)
theorem But.upd {p : Addr} {H : Hp} {o : HO} : But p H (upd H p o) := fun b u n e => by rw [upd_ne n]; exact e
theorem But.new {p q : Addr} {H : Hp} {o : HO} (h : H q = none) : But p H (L2.upd H q o) := fun b u n e => by rw [upd_ne (ne_of_none e h)]; exact e
theorem PotAt.new {p q : Addr} {H : Hp} {o : HO} (x : PotAt H p) (h : H q = none) : PotAt (L2.upd H q o) p := by
  obtain ⟨a,b,h1,h2⟩ := x
  exact ⟨a,b,h1,by rw [upd_ne (ne_of_none h2 h)]; exact h2⟩
theorem PotAt.some {p : Addr} {H : Hp} (x : PotAt H p) : H p ≠ none := by
  obtain ⟨a,b,_,h⟩ := x
  rw [h]; exact fun z => nomatch z
theorem But.same {p : Addr} {H H' : Hp} (b : But p H H') (h : H p = none) : Same H H' := fun c o e => b c o (ne_of_none e h) e
structure Kd where
  w : Int
  h : Int
  wo : Int
  wa : Int
  tu : Bool
def kdV (k : Kd) : List V := [.int k.w,.int k.h,.int k.wo,.int k.wa,.bl k.tu]
structure Good (k : Kd) : Prop where
  w : 1 ≤ k.w
  h : 1 ≤ k.h
  wo : 0 ≤ k.wo
  wa : 0 ≤ k.wa
  w' : k.w < 10 ^ 60
  h' : k.h < 10 ^ 60
  wo' : k.wo < 10 ^ 60
  wa' : k.wa < 10 ^ 60
def TupAt (H : Hp) (v : V) (k : Kd) : Prop := ∃ a,v = .ref a ∧ H a = some (.tup (kdV k))
def LstAt (H : Hp) (v : V) (k : Kd) : Prop := ∃ a,v = .ref a ∧ H a = some (.lst (kdV k))
def RowAt (H : Hp) (v : V) (k : Kd) : Prop := TupAt H v k ∨ LstAt H v k
abbrev Tups (H : Hp) : List V → List Kd → Prop := Paired (TupAt H)
theorem Tups.keep {H H' : Hp} (k : ∀ b xs,H b = some (.tup xs) → H' b = some (.tup xs)) : ∀ {xs : List V} {ks : List Kd},Tups H xs ks → Tups H' xs ks := fun r =>
  Paired.mapP r fun v kd ⟨a,e,h⟩ => ⟨a,e,k a _ h⟩
def spPot (K : PySem.W.Frag) : Sp := fun vs H Q _ => ∃ (a : Addr) (ns : List Int) (n : Int),vs = [.ref a,.int n] ∧ SqL K H a (ns.map V.int) ∧ 0 ≤ n ∧ n ≤ 1000 ∧ ns.length ≤ 63 ∧
  ∀ (p : Addr) (H' : Hp),H p = none → PotAt H' p → Same H H' → Q (.ref p) H'
def spDraw : Sp := fun vs H Q _ => ∃ (p : Addr) (m : Int),vs = [.ref p,.int m] ∧ PotAt H p ∧ 0 < m ∧ m ≤ 10 ^ 60 ∧ ∀ (r : Int) (H' : Hp),0 ≤ r → r < m → PotAt H' p → But p H H' → Q (.int r) H'
def spNumber : Sp := fun vs H Q _ => ∃ (p : Addr) (l : Int),vs = [.ref p,.int l] ∧ PotAt H p ∧ 0 ≤ l ∧ l ≤ 1 ∧ ∀ (n : Int) (H' : Hp),l ≤ n → n < 10 ^ 60 → PotAt H' p → But p H H' → Q (.int n) H'
structure ToldAt (H : Hp) (t l : Addr) (bl : Int) (xs : List V) (ks : List Kd) : Prop where
  t : H t = some (.tup [.int bl,.ref l])
  l : H l = some (.lst xs)
  r : Tups H xs ks
  b0 : 0 ≤ bl
  b1 : bl < 10 ^ 60
  g : ∀ k ∈ ks,Good k
  n0 : 1 ≤ xs.length
  n1 : xs.length ≤ 8
def spWhole (K : PySem.W.Frag) : Sp := fun vs H Q _ => ∃ (x : V) (T : String) (l : Int),vs = [x,.int l] ∧ Ty K H x T ∧ Q (.bl (whole x l)) H
def spTruth (K : PySem.W.Frag) : Sp := fun vs H Q _ => ∃ (x : V) (T : String),vs = [x] ∧ Ty K H x T ∧ Q (.bl (isBl x)) H
def spRow (K : PySem.W.Frag) : Sp := fun vs H Q _ => ∃ (x : V) (T : String), vs = [x] ∧ Ty K H x T ∧ ∀ H', Same H H' → Q (.bl (T == "list" || T == "tuple")) H'
def kind5 : List V → Bool
  | [w,h,wo,wa,tu] => whole w 1 && whole h 1 && whole wo 0 && whole wa 0 && isBl tu
  | _ => false
def spIsKind (K : PySem.W.Frag) : Sp := fun vs H Q _ => ∃ (x : V) (T : String),vs = [x] ∧ Ty K H x T ∧ 
  ((T ≠ "list" ∧ T ≠ "tuple" ∧ ∀ H', Same H H' → Q (.bl false) H') ∨ ∃ (a : Addr) (xs : List V), x = .ref a ∧ (H a = some (.lst xs) ∨ H a = some (.tup xs)) ∧ (∀ y ∈ xs, ∃ U, Ty K H y U) ∧ ∀ H', Same H H' → Q (.bl (kind5 xs)) H')
theorem kind5_good {k : Kd} (g : Good k) : kind5 (kdV k) = true := by
  show (decide (1 ≤ k.w) && decide (1 ≤ k.h) && decide (0 ≤ k.wo) && decide (0 ≤ k.wa) && true) = true
  rw [decide_eq_true g.w,decide_eq_true g.h,decide_eq_true g.wo,decide_eq_true g.wa]
  rfl
theorem Ty.same {K : PySem.W.Frag} {H H' : Hp} {x : V} {T : String} (s : Same H H') (t : Ty K H x T) : Ty K H' x T := by
  refine ⟨t.1,?_⟩
  have t2 := t.2
  generalize hv : Value.type T = tv at t2 ⊢
  cases t2 with
  | non => exact .non
  | bl b => exact .bl b
  | int b => exact .int b
  | str b => exact .str b
  | flt b => exact .flt b
  | lst e => exact .lst (s _ _ e)
  | frz e => exact .frz (s _ _ e)
  | tup e => exact .tup (s _ _ e)
  | dK e => exact .dK (s _ _ e)
  | dT e => exact .dT (s _ _ e)
  | ins => cases hv
end Pc
set_option Elab.async false
set_option linter.all false
set_option maxRecDepth 100000
namespace L2
open PySem PySem.Spec PyProof.Rows
def rTupleOf (K : PySem.W.Frag) : List V → Hp → VK → Prop := fun xs H Q => ∃ p ys,xs = [V.ref p] ∧ ((SqL K H p ys ∧ ∀ l,H l = none → Q (.ref l) (upd H l (.tup ys))) ∨ (SqT K H p ys ∧ Q (.ref p) H))
theorem for_seqV {K : PySem.W.Frag} {j : Nat} {a : Addr} {xs : List V} {g : TG} {tb : TS} {D : Ends} {σ : St} {H : Hp} (hσ : σ[j]? = some (some (.ref a))) (hs : H a = some (.lst xs) ∨ H a = some (.tup xs)) (Pv : Nat → St → Hp → Prop) (h0 : Pv 0 σ H)
    (hk : ∀ i σ H',i ≤ xs.length → Pv i σ H' → ∀ o,H a = some o → H' a = some o)
    (ht : ∀ i x σ H,xs[i]? = some x → Pv i σ H → g x σ H fun σ2 H2 => tb { D with nx := Pv (i + 1),ct := Pv (i + 1),bk := D.nx } σ2 H2) (hd : ∀ σ H,Pv xs.length σ H → D.nx σ H) : tFor (iSeq K (tVar j)) g tb D σ H := by
  rcases hs with z | z
  · exact .inl ⟨_,hσ,a,rfl,⟨xs,SqL.of z⟩,for_list (xs := xs) Pv h0 (fun i σ H' hi p => SqL.of (hk i σ H' hi p _ z)) ht hd⟩
  · exact .inr ⟨_,hσ,a,rfl,⟨xs,SqT.of z⟩,for_tup (xs := xs) Pv h0 (fun i σ H' hi p => SqT.of (hk i σ H' hi p _ z)) ht hd⟩
def Nx (n : Nat) (Pv : Nat → List V → Hp → Prop) (i : Nat) (ys : List V) (H : Hp) : Prop := ∃ m',m' < n - i ∧ m' = n - (i + 1) ∧ i + 1 ≤ n ∧ Pv (i + 1) ys H
theorem Nx.of {n : Nat} {Pv : Nat → List V → Hp → Prop} {i : Nat} {ys : List V} {H : Hp} (h : i < n) (p : Pv (i + 1) ys H) : Nx n Pv i ys H := ⟨n - (i + 1),by omega,rfl,h,p⟩
theorem comp_seq {K : PySem.W.Frag} {a : Addr} {xs : List V} {σ : St} {cap : List Nat} {k : Nat} {g : TG} {tt : TT} {te : TE} {Q : List V → Hp → Prop} {H : Hp} (hs : H a = some (.lst xs) ∨ H a = some (.tup xs)) (Pv : Nat → List V → Hp → Prop)
    (hk : ∀ i ys H',i ≤ xs.length → Pv i ys H' → ∀ o,H a = some o → H' a = some o) (h0 : Pv 0 [] H)
    (ht : ∀ i x ys H',xs[i]? = some x → Pv i ys H' → ys.length < sizeLine ∧ g x (blkSt σ cap k) H' fun σ2 H2 => leS (blkSt σ cap k) σ2 ∧ tt σ2 H2 fun ok H3 => if ok = true then te σ2 H3 (fun v H4 => Nx xs.length Pv i (ys ++ [v]) H4) else Nx xs.length Pv i ys H3)
    (hd : ∀ ys H',Pv xs.length ys H' → ys.length ≤ sizeLine ∧ Q ys H') :
    (H a = some (.lst xs) → ∃ W,(∃ m,W 0 m [] H) ∧ CompW σ cap k (Itl K a) g tt te Q W) ∧ (H a = some (.tup xs) → ∃ W,(∃ m,W 0 m [] H) ∧ CompW σ cap k (Itt K a) g tt te Q W) := by
  refine ⟨fun z => ⟨fun i m ys H' => m = xs.length - i ∧ i ≤ xs.length ∧ Pv i ys H',⟨_,rfl,Nat.zero_le _,h0⟩,?_⟩,fun z => ⟨fun i m ys H' => m = xs.length - i ∧ i ≤ xs.length ∧ Pv i ys H',⟨_,rfl,Nat.zero_le _,h0⟩,?_⟩⟩
  · rintro i m ys H' ⟨rfl,hi,p⟩
    have z' := hk i ys H' hi p _ z
    by_cases hin : i < xs.length
    · obtain ⟨e,hg⟩ := ht i xs[i] ys H' (by simp [hin]) p
      refine .inr ⟨⟨xs,xs[i],SqL.of z',by simp [hin]⟩,e,fun x H2 yl => ?_⟩
      obtain ⟨e1,e2⟩ := yl
      have e3 := e2 xs (SqL.of z')
      have e4 : x = xs[i] := by simpa [hin] using e3.symm
      subst e1 e4
      exact hg
    · have e : i = xs.length := by omega
      subst e
      obtain ⟨a1,a2⟩ := hd ys H' p
      exact .inl ⟨⟨xs,SqL.of z',Nat.le_refl _⟩,a1,a2⟩
  · rintro i m ys H' ⟨rfl,hi,p⟩
    have z' := hk i ys H' hi p _ z
    by_cases hin : i < xs.length
    · obtain ⟨e,hg⟩ := ht i xs[i] ys H' (by simp [hin]) p
      refine .inr ⟨⟨xs,xs[i],SqT.of z',by simp [hin]⟩,e,fun x H2 yl => ?_⟩
      obtain ⟨e1,e2⟩ := yl
      have e3 := e2 xs (SqT.of z')
      have e4 : x = xs[i] := by simpa [hin] using e3.symm
      subst e1 e4
      exact hg
    · have e : i = xs.length := by omega
      subst e
      obtain ⟨a1,a2⟩ := hd ys H' p
      exact .inl ⟨⟨xs,SqT.of z',Nat.le_refl _⟩,a1,a2⟩
theorem comp_seqV {K : PySem.W.Frag} {j : Nat} {a : Addr} {xs : List V} {σ : St} {cap : List Nat} {k : Nat} {g : TG} {tt : TT} {te : TE} {Q : VK} {H : Hp} (hσ : σ[j]? = some (some (.ref a))) (hs : H a = some (.lst xs) ∨ H a = some (.tup xs)) (Pv : Nat → List V → Hp → Prop)
    (hk : ∀ i ys H',i ≤ xs.length → Pv i ys H' → ∀ o,H a = some o → H' a = some o) (h0 : Pv 0 [] H)
    (ht : ∀ i x ys H',xs[i]? = some x → Pv i ys H' → ys.length < sizeLine ∧ g x (blkSt σ cap k) H' fun σ2 H2 => leS (blkSt σ cap k) σ2 ∧ tt σ2 H2 fun ok H3 => if ok = true then te σ2 H3 (fun v H4 => Nx xs.length Pv i (ys ++ [v]) H4) else Nx xs.length Pv i ys H3)
    (hd : ∀ ys H',Pv xs.length ys H' → ys.length ≤ sizeLine ∧ ∀ p,H' p = none → Q (.ref p) (upd H' p (.lst ys))) : tComp (iSeq K (tVar j)) cap k g tt te σ H Q := by
  obtain ⟨c1,c2⟩ := comp_seq (K := K) (σ := σ) (cap := cap) (k := k) (g := g) (tt := tt) (te := te) hs Pv hk h0 ht hd
  rcases hs with z | z
  · exact .inl ⟨_,hσ,a,rfl,⟨xs,SqL.of z⟩,c1 z⟩
  · exact .inr ⟨_,hσ,a,rfl,⟨xs,SqT.of z⟩,c2 z⟩
end L2
namespace Pc
open PySem L2
def flds (b : Int) (r : Addr) : List (Str × V) := putF "kind_rows" (.ref r) (putF "blade_width" (.int b) [])
theorem kbw : ¬ (("blade_width" : Str) = "kind_rows") := by decide +kernel
theorem flds_blade (b : Int) (r : Addr) : (flds b r).lookup ("blade_width" : Str) = some (.int b) := by
  unfold flds
  rw [lookup_putF,if_neg kbw,lookup_putF,if_pos rfl]
theorem flds_rows (b : Int) (r : Addr) : (flds b r).lookup ("kind_rows" : Str) = some (.ref r) := by
  unfold flds
  rw [lookup_putF,if_pos rfl]
theorem flds_no (b : Int) (r : Addr) {m : Str} (h1 : ¬ m = "kind_rows") (h2 : ¬ m = "blade_width") : (flds b r).lookup m = none := by
  unfold flds
  rw [lookup_putF,if_neg h1,lookup_putF,if_neg h2]
  all_goals rfl
def ShopAt (C : Addr) (H : Hp) (x : Addr) (b : Int) (ks : List Kd) : Prop := ∃ dx r rs,H x = some (.ins C dx (flds b r)) ∧ H r = some (.tup rs) ∧ Tups H rs ks
theorem ShopAt.keep {C : Addr} {H H' : Hp} {x : Addr} {b : Int} {ks : List Kd} (s : ShopAt C H x b ks) (k1 : ∀ b xs,H b = some (.tup xs) → H' b = some (.tup xs)) (k2 : ∀ b C dx fs,H b = some (.ins C dx fs) → H' b = some (.ins C dx fs)) : ShopAt C H' x b ks := by
  obtain ⟨dx,r,rs,h1,h2,h3⟩ := s
  exact ⟨dx,r,rs,k2 _ _ _ _ h1,k1 _ _ h2,Tups.keep k1 h3⟩
def spInit (C : Addr) : Sp := fun vs H Q _ => ∃ (x dx ks : Addr) (b : Int) (rs : List V) (kds : List Kd),vs = [.ref x,.int b,.ref ks] ∧ H x = some (.ins C dx []) ∧ 0 ≤ b ∧ (H ks = some (.lst rs) ∨ H ks = some (.tup rs)) ∧ Paired (RowAt H) rs kds ∧ (∀ k ∈ kds,Good k) ∧ 1 ≤ rs.length ∧ rs.length ≤ 8 ∧
  ∀ H' : Hp,ShopAt C H' x b kds → (∀ c o,c ≠ x → H c = some o → H' c = some o) → Q .non H'
def spBlade (C : Addr) : Sp := fun vs H Q _ => ∃ (x : Addr) (b : Int) (ks : List Kd),vs = [.ref x] ∧ ShopAt C H x b ks ∧ Q (.int b) H
def spKinds (C : Addr) : Sp := fun vs H Q _ => ∃ (x : Addr) (b : Int) (ks : List Kd),vs = [.ref x] ∧ ShopAt C H x b ks ∧ ∀ (l : Addr) (rs : List V),H l = none → Tups H rs ks → Q (.ref l) (upd H l (.lst rs))
theorem rows_ty {K : PySem.W.Frag} {H : Hp} {k : Kd} : ∀ y ∈ kdV k,∃ U,Ty K H y U := by
  intro y hy
  simp only [kdV,List.mem_cons,List.not_mem_nil,or_false] at hy
  rcases hy with rfl | rfl | rfl | rfl | rfl
  · exact ⟨_,.int⟩
  · exact ⟨_,.int⟩
  · exact ⟨_,.int⟩
  · exact ⟨_,.int⟩
  · exact ⟨_,.bl⟩
theorem Paired.getR {α β : Type} {F : α → β → Prop} : ∀ {l₁ : List α} {l₂ : List β} {i : Nat} {x : α},Paired F l₁ l₂ → l₁[i]? = some x → ∃ y,l₂[i]? = some y ∧ F x y
  | _,_,_,_,.nil,e => by simp at e
  | _,_,0,_,.cons h _,e => by simp at e; subst e; exact ⟨_,rfl,h⟩
  | _,_,i + 1,x,.cons _ t,e => by
    obtain ⟨y,h1,h2⟩ := Paired.getR (i := i) (x := x) t (by simpa using e)
    exact ⟨y,by simpa using h1,h2⟩
theorem RowAt.same {H H' : Hp} {v : V} {k : Kd} (s : Same H H') (r : RowAt H v k) : RowAt H' v k := by
  rcases r with ⟨a,e,h⟩ | ⟨a,e,h⟩
  · exact .inl ⟨a,e,s _ _ h⟩
  · exact .inr ⟨a,e,s _ _ h⟩
theorem isKind_of {K : PySem.W.Frag} {H : Hp} {v : V} {k : Kd} {Q : VK} {E : XK} (r : RowAt H v k) (g : Good k) (q : ∀ H',Same H H' → Q (.bl true) H') : spIsKind K [v] H Q E := by
  rcases r with ⟨a,rfl,h⟩ | ⟨a,rfl,h⟩
  · exact ⟨_,_,rfl,.tup h,.inr ⟨a,_,rfl,.inr h,rows_ty,fun H' s => by rw [kind5_good g]; exact q H' s⟩⟩
  · exact ⟨_,_,rfl,.lst h,.inr ⟨a,_,rfl,.inl h,rows_ty,fun H' s => by rw [kind5_good g]; exact q H' s⟩⟩
structure ShopTxt (K : PySem.W.Frag) (C : Addr) : Prop where
  cl : Cls K C
  nB : NoAttr K C "blade_width"
  nK : NoAttr K C "kind_rows"
end Pc
set_option Elab.async false
set_option linter.all false
set_option maxRecDepth 100000
namespace L2
open PySem PySem.Spec PyProof.Rows
def Mn (P : Program) (w : World) (K : PySem.W.Frag) (mg : Str → Option Value) (base : Heap) (C : Addr) (m : Str) (ps : List Str) (k : Nat) (sp : Sp) : Prop :=
  ∃ (f : Addr) (fd : FuncData),FnOk P w K mg base CX0 k f fd ps sp ∧ Binds K fd ps [] ∧ Meth K C m f
theorem pe_mD0 {X : Cx} {k : Nat} {C : Addr} {ps : List Str} {sp : Sp} {m : Str} {o : Expr} {ta : TE} {apos pos : Pos} {pl : Sem Bool} (he : PE X o ta) (c : Cls X.K C) (D : Mn X.prog X.w X.K X.mg X.base C m ps k sp) (hr : Room k X.A)
    (ht : eval (.Call (.Attribute o m apos) [] [] pos) X.env = (do
      let ov ← eval o X.env
      standAt apos.atName
      let (f,first) ← holding [ov] (getMethod ov m pl)
      callWith pos f first (backTo pos (starEach [] X.env)) (backToKw pos (keywordEach [] X.env))) := by rfl) : PE X (.Call (.Attribute o m apos) [] [] pos) (tMeth C m sp [] E0 ta tNil) := by
  obtain ⟨f,fd,F,hb,hm⟩ := D
  exact pe_meth0 he c hm F hr hb .nil pass0 ht
def Kn (P : Program) (w : World) (K : PySem.W.Frag) (mg : Str → Option Value) (base : Heap) (x : Str) (C : Addr) (ps : List Str) (k : Nat) (sp : Sp) : Prop :=
  ∃ (f : Addr) (fd : FuncData),Mk K C f ∧ FnOk P w K mg base CX0 k f fd ps sp ∧ Binds K fd ps [] ∧ mg x = some (.ref C)
theorem pe_kD {X : Cx} {k : Nat} {C : Addr} {ps : List Str} {sp : Sp} {x : Str} {p pos : Pos} {e : Expr} {es : List Expr} {t : TA} (D : Kn X.prog X.w X.K X.mg X.base x C ps k sp) (hr : Room (k + 1) X.A) (hg : Gl X x) (ha : PA X (e :: es) t)
    (hdb : (x == ("__debug__" : Str)) = false := by decide) (he : starEach (e :: es) X.env = (false,eval e X.env) :: starEach es X.env := by rfl) (hpl : (backTo pos (starEach es X.env)).any (·.1) = false := by rfl) :
    PE X (.Call (.Name x p) (e :: es) [] pos) (tMake C sp [] E0 t) := by
  obtain ⟨f,fd,M,F,hb,hm⟩ := D
  exact pe_make M F hr hg hm hb .nil pass0 ha hdb he hpl
end L2
namespace Pc
open PySem L2
theorem Same.but {p : Addr} {H H' : Hp} (s : Same H H') : But p H H' := fun b o _ e => s b o e
theorem Same.new {q : Addr} {H : Hp} {o : HO} (h : H q = none) : Same H (upd H q o) := fun b u e => by rw [upd_ne (ne_of_none e h)]; exact e
end Pc
set_option Elab.async false
set_option linter.all false
set_option maxRecDepth 100000
namespace L2
open PySem PySem.Spec PyProof.Rows
theorem runs_det {M : Model} {Γ : PySem.Ctx} {p : Pos} {t : Sem Fin} {fs : List Frame} {s s' : Shared} {e : End} (h : Runs M Γ p t fs s e s') : ∀ {e2 : End} {s2 : Shared},Runs M Γ p t fs s e2 s2 → e = e2 ∧ s' = s2 := by
  induction h with
  | done => intro e2 s2 h2; cases h2; exact ⟨rfl,rfl⟩
  | raise => intro e2 s2 h2; cases h2; exact ⟨rfl,rfl⟩
  | again _ _ ih => intro e2 s2 h2; cases h2; rename_i a b; exact ih b
  | rule _ ih => intro e2 s2 h2; cases h2; rename_i b; exact ih b
  | «at» _ ih => intro e2 s2 h2; cases h2; rename_i b; exact ih b
  | load he _ ih => intro e2 s2 h2; cases h2; rename_i b1 b2 b3; rw [he] at b2; cases b2; exact ih b3
  | update _ _ ih => intro e2 s2 h2; cases h2; rename_i b1 b; exact ih b
  | loadIfAlive _ ih => intro e2 s2 h2; cases h2; rename_i b; exact ih b
  | point _ ih => intro e2 s2 h2; cases h2; rename_i b; exact ih b
  | alloc _ ih => intro e2 s2 h2; cases h2; rename_i b; exact ih b
  | fresh _ ih => intro e2 s2 h2; cases h2; rename_i b; exact ih b
  | ask _ ih => intro e2 s2 h2; cases h2; rename_i b; exact ih b
  | choose _ _ ih => intro e2 s2 h2; cases h2; rename_i b1 b; exact ih b
  | os _ ih => intro e2 s2 h2; cases h2; rename_i b; exact ih b
  | handled _ ih => intro e2 s2 h2; cases h2; rename_i b; exact ih b
  | genState he _ ih => intro e2 s2 h2; cases h2; rename_i b1 b2 b3; rw [he] at b2; cases b2; exact ih b3
  | stack _ ih => intro e2 s2 h2; cases h2; rename_i b; exact ih b
  | thread _ ih => intro e2 s2 h2; cases h2; rename_i b; exact ih b
  | newGen _ ih => intro e2 s2 h2; cases h2; rename_i b; exact ih b
  | call _ _ ih1 ih2 =>
    intro e2 s2 h2
    cases h2 with
    | call a b => obtain ⟨q1,q2⟩ := ih1 a; cases q1; subst q2; exact ih2 b
    | callSusp a => obtain ⟨q1,_⟩ := ih1 a; cases q1
  | callSusp _ ih1 =>
    intro e2 s2 h2
    cases h2 with
    | call a b => obtain ⟨q1,_⟩ := ih1 a; cases q1
    | callSusp a => obtain ⟨q1,q2⟩ := ih1 a; cases q1; exact ⟨rfl,q2⟩
  | yield => intro e2 s2 h2; cases h2; exact ⟨rfl,rfl⟩
  | resumeFresh hg _ _ _ ih1 ih2 =>
    intro e2 s2 h2
    cases h2 with
    | resumeFresh hg' a _ b => rw [hg] at hg'; cases hg'; obtain ⟨q1,q2⟩ := ih1 a; subst q1 q2; exact ih2 b
    | resumeSuspended hg' => rw [hg] at hg'; cases hg'
    | resumeJustStarted hg' n => exact absurd rfl n
    | resumeRunning hg' => rw [hg] at hg'; cases hg'
    | resumeFinished hg' => rw [hg] at hg'; cases hg'
  | resumeSuspended hg _ _ _ ih1 ih2 =>
    intro e2 s2 h2
    cases h2 with
    | resumeFresh hg' => rw [hg] at hg'; cases hg'
    | resumeSuspended hg' a _ b => rw [hg] at hg'; cases hg'; obtain ⟨q1,q2⟩ := ih1 a; subst q1 q2; exact ih2 b
    | resumeJustStarted hg' => rw [hg] at hg'; cases hg'
    | resumeThrowFresh hg' => rw [hg] at hg'; cases hg'
    | resumeRunning hg' => rw [hg] at hg'; cases hg'
    | resumeFinished hg' => rw [hg] at hg'; cases hg'
  | resumeJustStarted hg n _ ih =>
    intro e2 s2 h2
    cases h2 with
    | resumeFresh hg' => exact absurd rfl n
    | resumeSuspended hg' => rw [hg] at hg'; cases hg'
    | resumeJustStarted hg' n b => exact ih b
    | resumeRunning hg' => rw [hg] at hg'; cases hg'
    | resumeFinished hg' => rw [hg] at hg'; cases hg'
  | resumeThrowFresh hg _ ih =>
    intro e2 s2 h2
    cases h2 with
    | resumeSuspended hg' => rw [hg] at hg'; cases hg'
    | resumeThrowFresh hg' b => exact ih b
    | resumeRunning hg' => rw [hg] at hg'; cases hg'
    | resumeFinished hg' => rw [hg] at hg'; cases hg'
  | resumeRunning hg _ ih =>
    intro e2 s2 h2
    cases h2 with
    | resumeFresh hg' => rw [hg] at hg'; cases hg'
    | resumeSuspended hg' => rw [hg] at hg'; cases hg'
    | resumeJustStarted hg' => rw [hg] at hg'; cases hg'
    | resumeThrowFresh hg' => rw [hg] at hg'; cases hg'
    | resumeRunning hg' b => exact ih b
    | resumeFinished hg' => rw [hg] at hg'; cases hg'
  | resumeFinished hg _ ih =>
    intro e2 s2 h2
    cases h2 with
    | resumeFresh hg' => rw [hg] at hg'; cases hg'
    | resumeSuspended hg' => rw [hg] at hg'; cases hg'
    | resumeJustStarted hg' => rw [hg] at hg'; cases hg'
    | resumeThrowFresh hg' => rw [hg] at hg'; cases hg'
    | resumeRunning hg' => rw [hg] at hg'; cases hg'
    | resumeFinished hg' b => exact ih b
  | segRet _ _ ih1 ih2 =>
    intro e2 s2 h2
    cases h2 with
    | segRet a b => obtain ⟨q1,q2⟩ := ih1 a; cases q1; subst q2; exact ih2 b
    | segSuspOut _ a => obtain ⟨q1,_⟩ := ih1 a; cases q1
    | segSuspGen _ a => obtain ⟨q1,_⟩ := ih1 a; cases q1
  | segGen _ _ ih1 ih2 =>
    intro e2 s2 h2
    cases h2 with
    | segGen a b => obtain ⟨q1,q2⟩ := ih1 a; cases q1; subst q2; exact ih2 b
    | segSuspOut _ a => obtain ⟨q1,_⟩ := ih1 a; cases q1
    | segSuspGen _ a => obtain ⟨q1,_⟩ := ih1 a; cases q1
  | segSuspOut hn _ ih1 =>
    intro e2 s2 h2
    cases h2 with
    | segRet a b => obtain ⟨q1,_⟩ := ih1 a; cases q1
    | segGen a b => obtain ⟨q1,_⟩ := ih1 a; cases q1
    | segSuspOut _ a => obtain ⟨q1,q2⟩ := ih1 a; cases q1; exact ⟨rfl,q2⟩
    | segSuspGen hs a => rw [hn] at hs; cases hs
  | segSuspGen hs _ _ _ ih1 ih2 =>
    intro e2 s2 h2
    cases h2 with
    | segRet a b => obtain ⟨q1,_⟩ := ih1 a; cases q1
    | segGen a b => obtain ⟨q1,_⟩ := ih1 a; cases q1
    | segSuspOut hn a => rw [hn] at hs; cases hs
    | segSuspGen hs' a _ b => rw [hs] at hs'; cases hs'; obtain ⟨q1,q2⟩ := ih1 a; cases q1; subst q2; exact ih2 b
theorem wp_conj {α : Type} (M : Model) (Γ : PySem.Ctx) (t : Sem α) : ∀ (Q Q' : α → Pos → Shared → Prop) (E E' : Value → Pos → Shared → Prop) (p : Pos) (s : Shared),Sem.wp M Γ t Q E p s → Sem.wp M Γ t Q' E' p s →
    Sem.wp M Γ t (fun a p' s' => Q a p' s' ∧ Q' a p' s') (fun e p' s' => E e p' s' ∧ E' e p' s') p s := by
  have det : ∀ {Δ : PySem.Ctx} {p : Pos} {s : Shared} {r r' : Result} {s1 s2 : Shared},Returns M Δ p s r s1 → Returns M Δ p s r' s2 → r = r' ∧ s1 = s2 := by
    intro Δ p s r r' s1 s2 h1 h2
    obtain ⟨q1,q2⟩ := runs_det h1 h2
    cases q1
    exact ⟨rfl,q2⟩
  have detW : ∀ {Δ : PySem.Ctx} {p : Pos} {g : Nat} {r : Resume} {s : Shared} {x x' : GenResult} {s1 s2 : Shared},Wakes M Δ p g r s x s1 → Wakes M Δ p g r s x' s2 → x = x' ∧ s1 = s2 := by
    intro Δ p g r s x x' s1 s2 h1 h2
    unfold Wakes at h1 h2
    split at h1
    · exact h1.elim
    · split at h1
      · obtain ⟨e1,t1,a1,_,rfl,rfl⟩ := h1
        rename_i hg _ _
        simp only [hg] at h2
        obtain ⟨e2,t2,a2,_,rfl,rfl⟩ := h2
        obtain ⟨q1,q2⟩ := runs_det a1 a2
        subst q1 q2
        exact ⟨rfl,rfl⟩
      · rename_i hg _ _ hn
        simp only [hg] at h2
        obtain ⟨rfl,rfl⟩ := h1
        obtain ⟨rfl,rfl⟩ := h2
        exact ⟨rfl,rfl⟩
      · rename_i hg _ _
        simp only [hg] at h2
        obtain ⟨rfl,rfl⟩ := h1
        obtain ⟨rfl,rfl⟩ := h2
        exact ⟨rfl,rfl⟩
    · rename_i hg
      simp only [hg] at h2
      obtain ⟨e1,t1,a1,_,rfl,rfl⟩ := h1
      obtain ⟨e2,t2,a2,_,rfl,rfl⟩ := h2
      obtain ⟨q1,q2⟩ := runs_det a1 a2
      subst q1 q2
      exact ⟨rfl,rfl⟩
    · rename_i hg
      simp only [hg] at h2
      obtain ⟨rfl,rfl⟩ := h1
      obtain ⟨rfl,rfl⟩ := h2
      exact ⟨rfl,rfl⟩
    · rename_i hg
      simp only [hg] at h2
      obtain ⟨rfl,rfl⟩ := h1
      obtain ⟨rfl,rfl⟩ := h2
      exact ⟨rfl,rfl⟩
  induction t with
  | pure a => intro Q Q' E E' p s h h'; exact ⟨h,h'⟩
  | raise e => intro Q Q' E E' p s h h'; exact ⟨h,h'⟩
  | unsupported _ => intro Q Q' E E' p s h _; exact h
  | finish _ => intro Q Q' E E' p s h _; exact h
  | rule _ k ih => intro Q Q' E E' p s h h'; exact ih () _ _ _ _ p s h h'
  | «at» p' k ih => intro Q Q' E E' p s h h'; exact ih () _ _ _ _ p' s h h'
  | load a _ k ih =>
    intro Q Q' E E' p s h h'; obtain ⟨o,ho,h⟩ := h; obtain ⟨o',ho',h'⟩ := h'
    rw [ho] at ho'; cases ho'; exact ⟨o,ho,ih o _ _ _ _ p s h h'⟩
  | update a _ f k ih => intro Q Q' E E' p s h h'; exact ⟨h.1,ih () _ _ _ _ p _ h.2 h'.2⟩
  | loadIfAlive a k ih => intro Q Q' E E' p s h h'; exact ih _ _ _ _ _ p s h h'
  | point _ k ih => intro Q Q' E E' p s h h'; exact ih () _ _ _ _ p s h h'
  | register _ _ => intro Q Q' E E' p s h _; exact h
  | alloc o k ih => intro Q Q' E E' p s h h'; exact ih _ _ _ _ _ p _ h h'
  | fresh k ih => intro Q Q' E E' p s h h'; exact ih _ _ _ _ _ p _ h h'
  | ask k ih => intro Q Q' E E' p s h h'; exact ih _ _ _ _ _ p s h h'
  | choose src m k ih => intro Q Q' E E' p s h h'; exact ⟨h.1,ih _ _ _ _ _ p _ h.2 h'.2⟩
  | os q _ k ih => intro Q Q' E E' p s h h'; exact ih _ _ _ _ _ p _ h h'
  | call c hd _ _ k ih =>
    intro Q Q' E E' p s h h'; obtain ⟨r,s',hr,h⟩ := h; obtain ⟨r',s'',hr',h'⟩ := h'
    obtain ⟨rfl,rfl⟩ := det hr hr'
    exact ⟨r,s',hr,ih r _ _ _ _ p s' h h'⟩
  | handled own k ih => intro Q Q' E E' p s h h'; exact ih _ _ _ _ _ p s h h'
  | genState g k ih =>
    intro Q Q' E E' p s h h'; obtain ⟨st,hs,h⟩ := h; obtain ⟨st',hs',h'⟩ := h'
    rw [hs] at hs'; cases hs'; exact ⟨st,hs,ih _ _ _ _ _ p s h h'⟩
  | newGen c k ih => intro Q Q' E E' p s h h'; exact ih _ _ _ _ _ p _ h h'
  | resume g r _ k ih =>
    intro Q Q' E E' p s h h'; obtain ⟨x,s',hw,h⟩ := h; obtain ⟨x',s'',hw',h'⟩ := h'
    obtain ⟨rfl,rfl⟩ := detW hw hw'
    exact ⟨x,s',hw,ih x _ _ _ _ p s' h h'⟩
  | yield _ _ _ _ => intro Q Q' E E' p s h _; exact h
  | stack k ih => intro Q Q' E E' p s h h'; exact ih _ _ _ _ _ p s h h'
  | fork _ _ => intro Q Q' E E' p s h _; exact h
  | thread k ih => intro Q Q' E E' p s h h'; exact ih _ _ _ _ _ p s h h'
  | await _ _ _ _ _ => intro Q Q' E E' p s h _; exact h
theorem wpAny_conj {α : Type} {M : Model} {A : Around} {t : Sem α} {Q Q' : α → Shared → Prop} {E E' : Value → Shared → Prop} {s : Shared} (h : wpAny M A t Q E s) (h' : wpAny M A t Q' E' s) :
    wpAny M A t (fun a s' => Q a s' ∧ Q' a s') (fun e s' => E e s' ∧ E' e s') s := fun Γ p hΓ => wp_conj M Γ t _ _ _ _ p s (h Γ p hΓ) (h' Γ p hΓ)
def Q2 (e : Addr) (h : Heap) : Prop := ∃ oe vs,h.get? e = some oe ∧ oe.data = .fields vs ∧ vs[2]? = some .none
section
variable {M : Model} {A : Around} {E : Value → Shared → Prop} {s : Shared} {base : Heap} {env : Env} {outer l : List Env} {L e : Addr} {cls a0 fl : Value} {Q : Unit → Shared → Prop}
theorem Q2.set {e c : Addr} {h : Heap} {i : Nat} {v : Value} (hi : i ≠ 2) (q : Q2 e h) : Q2 e (h.update c (Obj.mapFields (·.setIfInBounds i v))) := by
  obtain ⟨oe,vs,he,hd,h2⟩ := q
  by_cases z : c = e
  · subst z
    have hd' := Obj.data_mapFields hd (·.setIfInBounds i v)
    exact ⟨_,_,Heap.get?_update_self _ he (Obj.isFreed_of_fields hd'),hd',by rw [Array.getElem?_setIfInBounds_ne hi]; exact h2⟩
  · exact ⟨oe,vs,(Heap.get?_update_other _ _ z).trans he,hd,h2⟩
theorem Q2.push {e : Addr} {h : Heap} {o : Obj} (q : Q2 e h) : Q2 e (h.push o) := let ⟨oe,vs,he,r⟩ := q; ⟨oe,vs,Heap.get?_push_of_some _ he,r⟩
theorem entry2 {head : Value} {nx : Bool} (hfr : A.frames = some (env :: outer)) (hl : s.heap.FunFrames base (env :: outer)) (hf : env.frame = some L) (q : Q2 e s.heap)
    (h : ∀ h₁ o ts,Q2 e h₁ → o.data = .fields ts → 3 < ts.size → Q () { s with heap := (h₁.push o).update e (Obj.mapFields (·.setIfInBounds 1 (Value.ref h₁.objs.size))) }) :
    wpAny M A (do let a ← frameOf env; let pl ← entryPlaceOf L nx; let b ← EntryCells.newEntry head a .none (rawInt L) .none pl; setField (.ref e) 1 b) Q E s := by
  obtain ⟨oe,vs,he,hd,h2⟩ := q
  have hene : e ∉ (env :: outer).filterMap (·.frame) := fun hm => by
    obtain ⟨_,o,ho,hnf⟩ := hl.mem hm
    rw [he] at ho; injection ho with ho; subst ho; exact hnf vs hd
  refine wpAny_bind (wpAny_frameOf_fun hfr hl hf fun h₁ hs₁ => ?_)
  refine wpAny_bind (wpAny_entryPlaceOf fun pl hpl => ?_)
  unfold EntryCells.newEntry newFields
  refine wpAny_bind (wpAny_newObj_type ?_ (hpl.sizeOk5 _ _ _ _ _))
  have he₁ : h₁.get? e = some oe := (hs₁.2.1 e hene).trans he
  have h2s : 2 < vs.size := (Array.getElem?_eq_some_iff.mp h2).1
  exact wpAny_setField (Heap.get?_push_of_some _ he₁) hd (by omega) (h h₁ _ _ ⟨oe,vs,he₁,hd,h2⟩ rfl (by simp only [List.size_toArray,List.length_append,List.length_cons,List.length_nil]; omega))
theorem leave2 {h : Heap} {args : List Value} (hfr : A.frames = some (env :: outer)) (hf : env.frame = some L) (hl : h.FunFrames base (env :: outer)) (hx : Heap.MadeExcOf h s.heap e cls args) : wpAny M A (leaving env (.ref e)) (fun _ s' => Q2 e s'.heap) E s := by
  obtain ⟨t,he,htn,ht⟩ := hx.there
  have q : Q2 e s.heap := ⟨_,_,he,rfl,rfl⟩
  unfold leaving noteFrame
  simp only [hf]
  refine wpAny_bind (wpAny_bind (wpAny_field he rfl (x := .none) rfl ?_))
  rw [if_neg (by decide)]
  refine entry2 (base := base) hfr (hl.of_keeps fun b o hb _ => ⟨o,hx.keeps b o hb,rfl⟩) hf q fun h₁ o ts q1 ho h3 => ?_
  obtain ⟨oe1,vs1,he1,hd1,h21⟩ := q1
  have hTe : h₁.objs.size ≠ e := Nat.ne_of_gt (Heap.lt_size he1)
  have hd3 := Obj.data_mapFields hd1 (·.setIfInBounds 1 (Value.ref h₁.objs.size))
  have he3 := Heap.get?_update_self (Obj.mapFields (·.setIfInBounds 1 (Value.ref h₁.objs.size))) (Heap.get?_push_of_some o he1) (Obj.isFreed_of_fields hd3)
  have h2s : 2 < vs1.size := (Array.getElem?_eq_some_iff.mp h21).1
  have hT := (Heap.get?_update_other (h₁.push o) (Obj.mapFields (·.setIfInBounds 1 (Value.ref h₁.objs.size))) (Ne.symm hTe)).trans (Heap.get?_push_size h₁ (Obj.isFreed_of_fields ho))
  unfold setFlight
  refine wpAny_bind (wpAny_field he3 hd3 (x := .ref h₁.objs.size) (by rw [Array.getElem?_setIfInBounds_self_of_lt (by omega)]) ?_)
  rw [if_pos (show (Value.ref h₁.objs.size != Value.none) = true from by simp)]
  exact wpAny_setField hT ho h3 ((Q2.push (o := o) ⟨oe1,vs1,he1,hd1,h21⟩).set (i := 1) (by decide) |>.set (by decide))
end
section
variable {M : Model} {A : Around} {E : Value → Shared → Prop} {s : Shared} {base : Heap} {env : Env} {outer l : List Env} {L e : Addr} {cls a0 fl : Value} {Q : Unit → Shared → Prop}
theorem leaves_madeQ {h : Heap} {args : List Value} (hfr : A.frames = some (env :: outer)) (hf : env.frame = some L) (hkb : base.StaysIn h) (hl : h.FunFrames base (env :: outer)) (hx : Heap.MadeExcOf h s.heap e cls args)
    (hQ : ∀ h' t,Heap.FlyingW base outer e cls (.ref t) h' → h'.TupAt t args → base.get? t = none → s.heap.UpToSlots h' → Q2 e h' → Q () { s with heap := h' }) : wpAny M A (leaving env (.ref e)) Q E s :=
  wpAny_mono (wpAny_conj (leave2 (E := E) hfr hf hl hx) (wpAny_leaves_madeW (Q := fun _ s' => Q2 e s'.heap → Q () s') (E := E) hfr hf hkb hl hx fun h' t a b c d q => hQ h' t a b c d q)) (fun _ _ z => z.2 z.1) fun _ _ z => z.1
end
end L2
set_option Elab.async false
set_option linter.all false
set_option maxRecDepth 100000
namespace L2
open PySem PySem.Spec PyProof.Rows
theorem ObjOk.ex {P : Program} {w : World} {H : Hp} {h : Heap} {a : Addr} {o : HO} (x : ObjOk P w H h a o) : ∃ ob,h.get? a = some ob := by
  cases o with
  | lst xs => obtain ⟨_,_,_,_,e⟩ := x; exact ⟨_,e⟩
  | tup xs => obtain ⟨_,_,_,o,e,_⟩ := x; exact ⟨_,e⟩
  | dK kvs => obtain ⟨_,_,_,_,o,_,_,e,_⟩ := x; exact ⟨_,e⟩
  | dT kvs => obtain ⟨_,_,_,_,o,_,_,e,_⟩ := x; exact ⟨_,e⟩
  | set S n => obtain ⟨o,_,_,_,e,_⟩ := x; exact ⟨_,e⟩
  | ins C dx fs => obtain ⟨_,_,_,e,_⟩ := x; exact ⟨_,e⟩
  | own y => exact x
  | xd fs => obtain ⟨_,⟨_,_,_,e,_⟩,_⟩ := x; exact ⟨_,e⟩
  | rng lo hi => obtain ⟨_,_,_,e⟩ := x; exact ⟨_,e⟩
  | frz ob u => exact ⟨_,x.1⟩
  | tbl ps => exact ⟨_,(show h.get? a = some _ from x)⟩
  | met f y => exact ⟨_,(show h.get? a = some _ from x)⟩
  | ext φ => exact x.2.1
structure Flew (P : Program) (w : World) (outer : List Env) (H : Hp) (s : Shared) (ea : Addr) (C : Value) (H' : Hp) (B : Heap) (s' : Shared) : Prop where
  os : s'.os = s.os
  bare : AllBare s'.gens
  un : Un (frs outer) [] H H' s.heap s'.heap
  hok : HOk P w H' s'.heap
  fly : ∃ a0,Heap.FlyingW B outer ea C a0 s'.heap
  ctx : Q2 ea s'.heap
  cov : ∀ b o,b ∉ frs outer → (H' b ≠ none ∨ ∃ o',s.heap.get? b = some o') → s'.heap.get? b = some o → B.get? b = some o
  new : s.heap.get? ea = none ∧ H' ea = none
def CXx (P : Program) (w : World) : CXT := fun outer H s E e s' => ∃ ea C H' B,e = Value.ref ea ∧ Flew P w outer H s ea C H' B s' ∧ E C none H'
section
variable {X : Cx} {pins : List (Addr × Obj)} {σ : St} {H : Hp} {s : Shared}
theorem Inv.raised {h2 : Heap} {ea : Addr} {C : Value} {vs : List Value} {M : Model} {E : Value → Shared → Prop} {Q : Unit → Shared → Prop} (I : Inv X pins σ H s) (hst : X.stack = X.env :: X.outer) (hfr : X.env.frame = some X.env.locals) (hex : X.ex = [])
    (hx : Heap.MadeExcOf s.heap h2 ea C vs) (hQ : ∀ B h',Flew X.prog X.w X.outer X.H₀ X.s₀ ea C H B { s with heap := h' } → Q () { s with heap := h' }) :
    wpAny M X.A (leaving X.env (.ref ea)) Q E { s with heap := h2 } := by
  have fS : frs X.stack = X.env.locals :: X.fs := by rw [hst]; unfold frs; rw [List.filterMap_cons,hfr]; rfl
  have st : s.heap.FunFrames X.base (X.env :: X.outer) := by rw [← hst]; exact I.stack
  have hin : ∀ env ∈ (X.env :: X.outer),∀ b,env.frame = some b → b ∈ frs X.stack := fun env he b hb => by rw [hst]; exact List.mem_filterMap.mpr ⟨env,he,hb⟩
  have s0L : ∀ b o,X.s₀.heap.get? b = some o → b ≠ X.env.locals := fun b o e => Nat.ne_of_lt (Nat.lt_of_lt_of_le (Heap.lt_size e) I.ok.above)
  have Ubase : Un X.fs [] X.H₀ H X.s₀.heap s.heap := by have := I.base; rw [hex] at this; exact this
  have trk : ∀ b u,H b = some u → b ∉ frs X.stack := fun b u e hb => by rw [I.stkFree b hb] at e; cases e
  have ofd : ∀ b,b ∈ X.fs → ∃ o,s.heap.get? b = some o ∧ ∀ vs,o.data ≠ .fields vs := fun b hb => by
    obtain ⟨_,o,ho,hd⟩ := I.funs.mem hb
    exact ⟨o,ho,hd⟩
  refine leaves_madeQ (base := PySem.W.hideAll s.heap (frs X.stack)) (h := s.heap) (by rw [← hst]; exact I.ok.frames) hfr (fun b o q => PySem.W.of_hideAll _ q) (PySem.W.funFrames_hide st hin) hx fun h' t fl tup hbt sm q2 => hQ (PySem.W.hideAll s.heap (frs X.stack)) h' ?_
  have toB : ∀ b o,b ∉ frs X.stack → s.heap.get? b = some o → h'.get? b = some o := fun b o nb e => fl.1 _ _ (PySem.W.hideAll_get _ e nb)
  have nfs : ∀ b o,X.s₀.heap.get? b = some o → b ∉ X.fs → b ∉ frs X.stack := fun b o e nb z => by
    rw [fS] at z
    rcases List.mem_cons.mp z with q | q
    · exact s0L b o e q
    · exact nb q
  have slot1 : ∀ b o,b ∈ X.fs → s.heap.get? b = some o → ∃ sl,h'.get? b = some { o with slots := sl } := fun b o hb e => by
    obtain ⟨o',e',hd⟩ := ofd b hb
    rw [e] at e'; cases e'
    exact sm b o (hx.keeps _ _ e) hd
  refine ⟨I.os,I.bare,⟨fun b o e n hb _ => ?_,fun b o e n hb _ => ?_,fun b o e n _ => Ubase.free b o e n (by simp),fun b o e _ => ?_,Ubase.tups,Ubase.frzs,Ubase.tbls⟩,fun b u e => ?_,⟨_,fl⟩,q2,fun b o nb hh e => ?_,?_,?_⟩
  · exact toB b o (nfs b o e hb) (Ubase.keep b o e n hb (by simp))
  · obtain ⟨sl,e1⟩ := Ubase.slot b o e n hb (by simp)
    obtain ⟨sl',e2⟩ := slot1 b _ hb e1
    exact ⟨sl',e2⟩
  · obtain ⟨o',e1⟩ := Ubase.there b o e (by simp)
    by_cases hb : b ∈ X.fs
    · obtain ⟨sl,e2⟩ := slot1 b _ hb e1
      exact ⟨_,e2⟩
    · exact ⟨o',toB b o' (nfs b o e hb) e1⟩
  · refine (I.hok b u e).stay (fun c v hc q => toB c v ?_ q) (fun _ q => q) fun _ _ q => q
    rcases hc with z | z
    · rw [z]; exact trk b u e
    · exact trk c _ z
  · rcases hh with z | ⟨o',z⟩
    · cases q : H b with
      | none => exact absurd q z
      | some u =>
        obtain ⟨ob,eb⟩ := (I.hok b u q).ex
        have eB := PySem.W.hideAll_get _ eb (trk b u q)
        have := fl.1 _ _ eB
        rw [e] at this; cases this
        exact eB
    · obtain ⟨o'',e1⟩ := Ubase.there b o' z (by simp)
      have eB := PySem.W.hideAll_get _ e1 (nfs b o' z nb)
      have := fl.1 _ _ eB
      rw [e] at this; cases this
      exact eB
  · cases q : X.s₀.heap.get? ea with
    | none => rfl
    | some o =>
      obtain ⟨o',e1⟩ := Ubase.there ea o q (by simp)
      rw [hx.new] at e1; cases e1
  · cases q : H ea with
    | none => rfl
    | some u =>
      obtain ⟨ob,eb⟩ := (I.hok ea u q).ex
      rw [hx.new] at eb; cases eb
end
def bmVE : List Value := [.type "ValueError",.type "Exception",.type "BaseException",.type "object"]
def ExcC (K : PySem.W.Frag) (C : Addr) : Prop := PySem.W.excIn K C bmVE "ValueError.__new__" = true
theorem ExcC.obj {K : PySem.W.Frag} {C : Addr} {h : Heap} (X : K.In h) (q : ExcC K C) : ∃ bm N nm qn bs hdct sn sub ab col dd k0 k1 k2 k3 k5 mN,
    h.get? C = some (excClassObj nm qn C N bs bm hdct sn sub ab col dd k0 k1 k2 k3 k5 "ValueError.__new__") ∧ h.Ns N mN ∧ mN "__init__" = none ∧ OwnTail h bmVE bm := by
  unfold ExcC PySem.W.excIn at q
  split at q
  · rename_i dd cd sl ho
    split at q
    · rename_i C' bm k0 k1 k2 k3 n k5 hm hs
      simp only [Bool.and_eq_true,beq_iff_eq,Bool.not_eq_true'] at q
      obtain ⟨⟨⟨⟨⟨e1,e2⟩,e3⟩,e4⟩,e5⟩,e6⟩ := q
      obtain ⟨nm,bs,mro,ns,qn,hd,sn,sub,ab,col,del⟩ := cd
      dsimp only at hm e3 e5 e6
      subst e1 e2 hm e3
      obtain ⟨l⟩ := sl
      simp only at hs
      subst hs
      exact ⟨bm,ns,nm,qn,bs,hd,sn,sub,ab,col,dd,k0,k1,k2,k3,k5,_,X _ _ ho,.of_isNs (PySem.W.isNs_of_in X e5),PySem.W.nsMap_none_of_in X e5 e6,PySem.W.tail_of_in X e4⟩
    · cases q
  · cases q
section
variable {X : Cx} {x : Str} {C : Addr} {e0 : Expr} {np cpos pos : Pos} {t : TA}
def tRaise (R : Value → Hp → Prop) (C : Addr) (t : TA) : TS := fun _ σ H => t σ H fun vs H1 => vs.length ≤ sizeLine ∧ R (.ref C) H1
theorem ps_raise {R : Value → Hp → Prop} (hc : X.calm = true) (hg : Gl X x) (hm : X.mg x = some (.ref C)) (ec : ExcC X.K C) (ha : PA X [e0] t)
    (hR : ∀ pins σ H s h2 ea vs,Inv X pins σ H s → Heap.MadeExcOf s.heap h2 ea (.ref C) vs → R (.ref C) H → X.xe (.ref ea) { s with heap := h2 })
    (he : starEach [e0] X.env = [(false,eval e0 X.env)] := by rfl) (hd : (x == ("__debug__" : Str)) = false := by decide) :
    PS X (.Raise (some (.Call (.Name x np) [e0] [] cpos)) none pos) (tRaise R C t) := by
  intro pins s σ H D I h
  obtain ⟨bm,N,nm,qn,bs,hdct,sn,sub,ab,col,dd,k0,k1,k2,k3,k5,mN,hC,hN,hni,T⟩ := ec.obj I.ok.mod.kin
  refine wpAny_Raise_call_subT (C := C) (nm := nm) (q := qn) (N := N) (bs := bs) (bm := bm) (hdct := hdct) (sn := sn) (sub := sub) (ab := ab) (col := col) (dd := dd) (k0 := k0) (k1 := k1) (k2 := k2) (k3 := k3) (k5 := k5)
    PySem.F.excBase_ValueError (mN := mN) (T.hasType PySem.F.excBase_ValueError.hasBase) (I.ok.hd hc) (by rw [he]; rfl) hni (ld_glob I hg hm ⟨rfl,?_⟩ hd)
  have h2 := ha cpos pins s σ H _ I h
  rw [he] at h2 ⊢
  refine Calls.evalArgs_plain (thn h2 fun us s2 ⟨vs,H1,I1,rv,hl,q⟩ => ⟨rfl,by rw [← rv.length]; exact hl,I1.bk _ _ hC,hN.keeps I1.bk,T.keeps I1.bk,fun h' ea hx => ?_⟩)
  exact hR pins σ H1 s2 h' ea us I1 hx q
end
section
variable {P : Program} {w : World} {K : PySem.W.Frag} {mg : Str → Option Value} {base : Heap}
theorem raise_ends {N : List Str} {qual : Str} {scope : Scope} {f : Addr} {cd : Value} {A : Around} {outer : List Env} {s₀ : Shared} {H₀ : Hp} {E : XK} {C : Addr} :
    ∀ pins σ H s h2 ea vs,Inv (cxOf (CXx P w) P w K mg base N qual scope f cd A outer s₀ H₀ E) pins σ H s → Heap.MadeExcOf s.heap h2 ea (.ref C) vs → (fun c H => E c none H) (Value.ref C) H →
      (cxOf (CXx P w) P w K mg base N qual scope f cd A outer s₀ H₀ E).xe (.ref ea) { s with heap := h2 } := fun pins σ H s h2 ea vs I hx q =>
  I.raised (E := fun e' s'' => CXx P w outer H₀ s₀ E e' s'') rfl rfl rfl hx fun B h' f => ⟨ea,_,H,B,rfl,f,q⟩
theorem Fun.okX {x qual : Str} {st : Stmt} {f : Addr} {fd : FuncData} {N ps : List Str} {k : Nat} {sp : Sp} (F : Fun K x qual st f fd) (S : FnScope N ps (defScope st)) (len : ∀ vs H Q E,sp vs H Q E → vs.length = ps.length)
    (hbody : ∀ (cdv : Value) (A : Around) (outer : List Env) (s : Shared) (H : Hp) (vs : List V) (Q : VK) (E : XK),Room k (A.deeper (envOfC qual (defScope st) s.heap.objs.size f cdv)) → sp vs H Q E →
      ∃ t,PSs (cxOf (CXx P w) P w K mg base N qual (defScope st) f cdv A outer s H E) (defBody st) t ∧ t { nx := fun _ H' => Q .non H',rt := Q } (start N vs) H) : FnOk P w K mg base (CXx P w) (k + 1) f fd ps sp := by
  obtain ⟨oc,od,kV,doc,pm,an,cdv,ct,osl,rfl,lk,hcd⟩ := F.ex
  exact fn_of lk hcd S len fun A outer s H vs Q E hr hsp => hbody cdv A outer s H vs Q E hr hsp
end
def XP (X : Cx) (pins : List (Addr × Obj)) (σ : St) (E : XK) (v : Value) (s' : Shared) : Prop := ∃ ea C H H' B s0,v = Value.ref ea ∧ Inv X pins σ H s0 ∧ Flew X.prog X.w X.stack H s0 ea C H' B s' ∧ E C none H'
section
variable {X : Cx} {k : Nat} {f C : Addr} {fd : FuncData} {ps : List Str} {sp : Sp} {x m : Str} {p pos apos : Pos} {e o : Expr} {es : List Expr} {ta : TE} {t : TA}
end
end L2
set_option Elab.async false
set_option linter.all false
set_option maxRecDepth 100000
namespace PySem
open Sem (wp)
open AutoSeq1 (wpAny_loadPart')
section
variable {prog : Program} {w : World} {A : Around} {E : Value → Shared → Prop} {s : Shared}
theorem nextOf_tup_item {it t : Addr} {i : Nat} {items} {x : Value} {Q : Value → Shared → Prop} (hit : s.heap.IsTupleIter it t i)
    (ht : s.heap.IsTuple t items) (hx : items[i]? = some x)
    (hQ : ∀ h',h'.IsTupleIter it t (i + 1) → Heap.SameBut it s.heap h' → Q x { s with heap := h' }) :
    wpAny (model prog w) A (Builtin.SmallTypes.nextOf (.ref it)) Q E s := by
  obtain ⟨o,ho,hc,hd⟩ := id hit
  obtain ⟨ol,hol,_,nl,hdl⟩ := ht
  unfold Builtin.SmallTypes.nextOf
  refine wpAny_bind (wpAny_callSpecial?_slot (name := Str.ofString "__next__") hit.typeIs F.slot_tuple_iterator_next
    (wpAny_call_entry F.slot_tuple_iterator_next hit.typeIs F.entry_tuple_iterator_next ?_ (F.args_tuple_iterator_next_1 _)))
  show wpAny _ _ (field (.ref it) 0 >>= _) _ _ s
  refine wpAny_bind (wpAny_field ho hd (x := .ref t) rfl ?_)
  show wpAny _ _ (if (Value.ref t == Value.none) = true then _ else _) _ _ s
  rw [if_neg (show ¬ ((Value.ref t == Value.none) = true) from Bool.false_ne_true)]
  show wpAny _ _ (field (.ref it) 1 >>= _) _ _ s
  refine wpAny_bind (wpAny_field ho hd (x := .int i 0) rfl ?_)
  show wpAny _ _ (seqItems? (.ref t) >>= _) _ _ s
  refine wpAny_bind (wpAny_seqItems hol hdl ?_)
  simp only [Int.toNat_natCast,hx]
  refine wpAny_bind (wpAny_setField ho hd (by simp) (wpAny_pure ⟨x,rfl,wpAny_pure (hQ _ ?_ (Heap.SameBut.update ..))⟩))
  exact ⟨_,Heap.get?_update_self _ ho (Obj.isFreed_of_fields (Obj.data_mapFields hd _)),(Obj.cls_mapFields ..).trans hc,by
    rw [Obj.data_mapFields hd]; simp [rawInt]⟩
theorem nextOf_tup_end {it t : Addr} {i : Nat} {items} {Q : Value → Shared → Prop} (hh : A.handled = none)
    (hit : s.heap.IsTupleIter it t i) (ht : s.heap.IsTuple t items) (hx : items[i]? = none)
    (hE : ∀ h' e, Heap.ExtBut it s.heap h' → (∃ o, h'.get? e = some o ∧ o.cls = .type "StopIteration") → E (.ref e) { s with heap := h' }) :
    wpAny (model prog w) A (Builtin.SmallTypes.nextOf (.ref it)) Q E s := by
  obtain ⟨o,ho,hc,hd⟩ := id hit
  obtain ⟨ol,hol,_,nl,hdl⟩ := ht
  unfold Builtin.SmallTypes.nextOf
  refine wpAny_bind (wpAny_callSpecial?_slot (name := Str.ofString "__next__") hit.typeIs F.slot_tuple_iterator_next
    (wpAny_call_entry F.slot_tuple_iterator_next hit.typeIs F.entry_tuple_iterator_next ?_ (F.args_tuple_iterator_next_1 _)))
  show wpAny _ _ (field (.ref it) 0 >>= _) _ _ s
  refine wpAny_bind (wpAny_field ho hd (x := .ref t) rfl ?_)
  show wpAny _ _ (if (Value.ref t == Value.none) = true then _ else _) _ _ s
  rw [if_neg (show ¬ ((Value.ref t == Value.none) = true) from Bool.false_ne_true)]
  show wpAny _ _ (field (.ref it) 1 >>= _) _ _ s
  refine wpAny_bind (wpAny_field ho hd (x := .int i 0) rfl ?_)
  show wpAny _ _ (seqItems? (.ref t) >>= _) _ _ s
  refine wpAny_bind (wpAny_seqItems hol hdl ?_)
  simp only [Int.toNat_natCast,hx]
  refine wpAny_bind (wpAny_rule (wpAny_bind (wpAny_setField ho hd (by simp) ?_)))
  show wpAny _ _ (newExc (.type "StopIteration") [] >>= _) _ _ _
  refine wpAny_bind ?_
  simp only [newExc,newTuple]
  refine wpAny_bind (wpAny_newObj_type ?_ (by size_fits))
  refine wpAny_bind (m := firstArgMember _ _) (wpAny_of_eq (a := Value.none) (by first | rfl | (simp only [firstArgMember]; rfl)) ?_)
  refine wpAny_newObj_type ?_ (by size_fits)
  simp only [raiseNew]
  refine wpAny_bind (wpAny_handled ?_)
  first | rw [show A.in1.handled = none from hh] | rw [hh]
  refine wpAny_bind (wpAny_pure (wpAny_throw ?_))
  exact hE _ _ (((Heap.SameBut.update ..).extBut.push _).push _) ⟨_,Heap.get?_push_size _ rfl,rfl⟩
end
theorem drawsTup {prog : Program} {w : World} {A : Around} (hh : A.handled = none) (it l : Addr) (hne : l ≠ it) (items : Array Value) :
    Draws prog w A it [it,l] items.size (fun i v => items[i]? = some v) (fun i h => h.IsTupleIter it l i ∧ h.IsTuple l items) where
  live := fun _ _ st => let ⟨o,ho,_⟩ := st.1; ⟨o,ho⟩
  frame := fun _ _ _ st hk => ⟨st.1.at fun o e => hk it (by simp) o e,let ⟨o,ho,r⟩ := st.2; ⟨o,hk l (by simp) o ho,r⟩⟩
  item := fun i s Q E hi st hQ => by
    refine nextOf_tup_item st.1 st.2 (x := items[i]) (by simp [hi]) fun h' hit' hs' => ?_
    exact hQ _ h' s.toks (by simp [hi]) ⟨hit',st.2.extBut hs'.extBut hne⟩ hs'
  done := fun s Q E st hE => nextOf_tup_end hh st.1 st.2 (by simp) hE
theorem enumerate_newT (l : Addr) (items : Array Value) (n : Nat) (dct : Option Addr) (sl : Array (Option Value)) :
    Meets (Builtin.«enumerate.__new__» ⟨[.type "enumerate",.ref l],[]⟩) (fun _ R s => s.heap.get? l = some { cls := .type "tuple",dict := dct,data := .seq items n,slots := sl } ∧
      R (.ok (.ret (.ref (s.heap.push { cls := .type "tuple_iterator",data := .fields #[.ref l,.int 0 0] }).objs.size)))
        { s with heap := (s.heap.push { cls := .type "tuple_iterator",data := .fields #[.ref l,.int 0 0] }).push { cls := .type "enumerate",data := .fields #[.none,.bool false,.ref s.heap.objs.size,rawInt 0,.none,.none] } }) :=
  .of_wp fun prog w A R s h => by
    obtain ⟨hp,g,d,tk,os⟩ := s; obtain ⟨hl,h⟩ := h
    have hsub := sub_enumerate
    have hL : Heap.IsTuple (Shared.heap ⟨hp,g,d,tk,os⟩) l items := ⟨_,hl,rfl,n,rfl⟩
    wp_walk using wpAny_loadPart' hl
    refine wpAny_stack_any fun st => wpAny_pure ?_
    split
    · rename_i c _ _ _ _ _
      cases (c == Value.type "enumerate")
      · wp_walk using wpAny_loadPart' hl,wpAny_pyIter_tuple hL
        exact ⟨_,rfl,h⟩
      · wp_walk using wpAny_loadPart' hl,wpAny_pyIter_tuple hL
        exact ⟨_,rfl,h⟩
    · wp_walk using wpAny_loadPart' hl,wpAny_pyIter_tuple hL
      exact ⟨_,rfl,h⟩
section
variable {prog : Program} {w : World} {A : Around} {E : Value → Shared → Prop} {s : Shared}
theorem call_enumerate_tup {l : Addr} {items : Array Value} {Q : Value → Shared → Prop} (hL : s.heap.IsTuple l items)
    (h : ∀ h',IsEnum h' (s.heap.objs.size + 1) s.heap.objs.size 0 .none → h'.IsTupleIter s.heap.objs.size l 0 → h'.objs.size = s.heap.objs.size + 2 →
      (∀ b o,s.heap.get? b = some o → h'.get? b = some o) → Q (.ref (s.heap.objs.size + 1)) { s with heap := h' }) :
    wpAny (model prog w) A (call (.type "enumerate") [.ref l]) Q E s := by
  obtain ⟨⟨c,dct,dt,sl⟩,hl,hc,n,hd⟩ := hL
  replace hc : c = .type "tuple" := hc
  replace hd : dt = .seq items n := hd
  subst hc hd
  refine callType_new F.called_enumerate (by decide) (F.typeCall_enumerate_1 _) (F.newCall_enumerate_1 _) (fun obj => F.args_object_init_2 obj _) F.entry_enumerate_new
    (enumerate_newT l items n dct sl) ⟨hl,?_⟩
  have hz : (s.heap.push { cls := .type "tuple_iterator",data := .fields #[.ref l,.int 0 0] }).objs.size = s.heap.objs.size + 1 := Heap.size_push ..
  show _ ∧ _
  rw [hz]
  have he : IsEnum ((s.heap.push { cls := .type "tuple_iterator",data := .fields #[.ref l,.int 0 0] }).push
      { cls := .type "enumerate",data := .fields #[.none,.bool false,.ref s.heap.objs.size,rawInt 0,.none,.none] }) (s.heap.objs.size + 1) s.heap.objs.size 0 .none := by
    have := Heap.get?_push_size (s.heap.push { cls := .type "tuple_iterator",data := .fields #[.ref l,.int 0 0] })
      (o := { cls := .type "enumerate",data := .fields #[.none,.bool false,.ref s.heap.objs.size,rawInt 0,.none,.none] }) rfl
    rw [hz] at this; exact this
  refine ⟨⟨_,he,rfl⟩,h _ he ⟨_,Heap.get?_push_of_some _ (Heap.get?_push_size _ rfl),rfl,rfl⟩ (by rw [Heap.size_push,hz]) fun b o x => Heap.get?_push_of_some _ (Heap.get?_push_of_some _ x)⟩
end
end PySem
set_option Elab.async false
set_option linter.all false
set_option maxRecDepth 100000
namespace L2
open PySem PySem.Spec PyProof.Rows
def Ite (f : List V → HO) (l : Addr) : It :=
  ⟨fun i H => ∃ xs x,H l = some (f xs) ∧ xs[i]? = some x,
   fun i H v H' => ∃ p xs x,H p = none ∧ v = .ref p ∧ H' = upd H p (.tup [.int i,x]) ∧ H l = some (f xs) ∧ xs[i]? = some x,
   fun i H => ∃ xs,H l = some (f xs) ∧ xs.length ≤ i⟩
section
variable {X : Cx} {pins : List (Addr × Obj)} {σ : St} {H : Hp} {s : Shared}
theorem enum_step {f : List V → HO} {tn : Nat → Heap → Prop} {es : List Expr} {kk : Nat} {tp : Pos} {e it l : Addr} {i : Nat} {xs : List V} {x : V} {u : Value} {tk : Nat} {h' : Heap} {E : Value → Shared → Prop} (hne : e ≠ it) (I : Inv X pins σ H s) (hf : ∀ b ∈ [e,it],FpOk X pins H b) (hl : H l = some (f xs)) (hx : xs[i]? = some x)
    (ho : ∀ b ∈ [e, it], b < s.heap.objs.size) (r : RelV x u) (b1 : IsEnumOut h' e it ((i : Int) + 1) u s.heap.objs.size) (b3 : h'.get? s.heap.objs.size = some { cls := .type "tuple", data := .seq #[.int i tk, u] })
    (bk : ∀ b o,b ≠ e → b ≠ it → s.heap.get? b = some o → h'.get? b = some o) (hn : ∀ h'',IsEnum h'' e it ((i + 1 : Nat) : Int) u → Heap.SameBut e h' h'' → tn (i + 1) h'') :
    wpAny (model X.prog X.w) X.A (letOwnedTupleGo (.Tuple es kk tp) (.ref e) (.ref s.heap.objs.size)) (fun _ s2 => ∃ x H',Inv X pins σ H' s2 ∧ RelV x (.ref s.heap.objs.size) ∧ (Ite f l).yld i H x H' ∧ tn (i + 1) s2.heap ∧ ∀ b ∈ [e,it],H' b = none) E { s with heap := h',toks := tk + 1 } := by
  refine wpAny_letOwnedTupleGo_enum b1 fun h'' c1 cs => ?_
  have es' : e < s.heap.objs.size := ho e (by simp)
  have k2 : ∀ b o,b ∉ [e,it] → s.heap.get? b = some o → h''.get? b = some o := fun b o hb q => by
    simp only [List.mem_cons,List.not_mem_nil,or_false,not_or] at hb
    exact cs.extBut b o hb.1 (bk b o hb.1 hb.2 q)
  have I1 : Inv X pins σ H { s with heap := h'',toks := tk + 1 } := I.turnedN (t' := tk + 1) hf k2
  have hp : h''.get? s.heap.objs.size = some { cls := .type "tuple", data := .seq #[.int i tk, u] } := cs.extBut _ _ (Nat.ne_of_gt es') b3
  have hn0 : H s.heap.objs.size = none := I.hok.fresh (Nat.le_refl _)
  have fpk := I.fpOk (H' := H) (Nat.le_refl _) hn0
  have I2 : Inv X pins σ (upd H s.heap.objs.size (.tup [.int i,x])) { s with heap := h'',toks := tk + 1 } := I1.track fpk I.sz ⟨by show 2 ≤ sizeLine; decide,[.int i tk,u],.cons ⟨tk,rfl⟩ (.cons r .nil),_,hp,rfl,_,rfl⟩
  refine ⟨.ref s.heap.objs.size,_,I2,rfl,⟨_,xs,x,hn0,rfl,rfl,hl,hx⟩,hn h'' c1 cs,fun b hb => ?_⟩
  rw [upd_ne (Nat.ne_of_lt (ho b hb))]
  exact (hf b hb).1
end
theorem turn_enumL {P : Program} {w : World} {K : PySem.W.Frag} {es : List Expr} {kk : Nat} {tp : Pos} (l e it : Addr) (hne : e ≠ it) :
    Turn P w K (.Tuple es kk tp) (Ite .lst l) [e,it] e (fun i h => (∃ old,IsEnum h e it i old) ∧ h.IsListIter it l i) where
  mem := by simp
  obj := fun i h st b hb => by
    obtain ⟨⟨old,a1⟩,⟨o2,a2,_,d2⟩⟩ := st
    simp only [List.mem_cons,List.not_mem_nil,or_false] at hb
    rcases hb with rfl | rfl
    · exact ⟨_,a1,fun v q => by cases q⟩
    · exact ⟨_,a2,fun v q => by rw [d2] at q; cases q⟩
  keep := fun i h h' st k => by
    obtain ⟨⟨old,a1⟩,a2⟩ := st
    exact ⟨⟨old,k e (by simp) _ a1⟩,a2.at fun o q => k it (by simp) o q⟩
  item := by
    intro X hP hw hK hc i pins s σ H E I hf st hg
    subst hP hw hK
    obtain ⟨⟨old,a1⟩,a2⟩ := st
    obtain ⟨xs,x,e1,ex⟩ := hg
    obtain ⟨its,rv,p1,_⟩ := I.list (SqL.of e1)
    obtain ⟨u,hu,r⟩ := rv.get ex
    have ho : ∀ b ∈ [e,it],b < s.heap.objs.size := fun b hb => by
      obtain ⟨o2,a2',_⟩ := a2
      simp only [List.mem_cons,List.not_mem_nil,or_false] at hb
      rcases hb with rfl | rfl
      · exact Heap.lt_size a1
      · exact Heap.lt_size a2'
    refine wpAny_pyNext_enum_item a1 a2 p1.isList (x := u) (by simpa using hu) hne fun h' b1 b2 b3 b4 bk => ⟨_,rfl,?_⟩
    exact enum_step (tn := fun i h => (∃ old,IsEnum h e it i old) ∧ h.IsListIter it l i) hne I hf e1 ex ho r b1 b3 bk fun h'' c1 cs => ⟨⟨u,c1⟩,b2.extBut cs.extBut (Ne.symm hne)⟩
  done := by
    intro X hP hw hK hc i pins s σ H E I hf st hg
    subst hP hw hK
    obtain ⟨⟨old,a1⟩,a2⟩ := st
    obtain ⟨xs,e1,ex⟩ := hg
    obtain ⟨its,rv,p1,_⟩ := I.list (SqL.of e1)
    have lv := rv.length
    refine wpAny_pyNext_enum_end (I.ok.hd hc) a1 a2 p1.isList (by simp; omega) fun h' bk => ⟨rfl,?_⟩
    exact I.turnedN (t' := s.toks) hf fun b o hb q => by
      simp only [List.mem_cons,List.not_mem_nil,or_false,not_or] at hb
      exact bk b o hb.2 q
  self := fun _ _ _ _ _ st h => by obtain ⟨⟨old,a1⟩,_⟩ := st; exact wpAny_pyIter_enum a1 h
theorem turn_enumT {P : Program} {w : World} {K : PySem.W.Frag} {es : List Expr} {kk : Nat} {tp : Pos} (l e it : Addr) (hne : e ≠ it) :
    Turn P w K (.Tuple es kk tp) (Ite .tup l) [e,it] e (fun i h => (∃ old,IsEnum h e it i old) ∧ h.IsTupleIter it l i) where
  mem := by simp
  obj := fun i h st b hb => by
    obtain ⟨⟨old,a1⟩,⟨o2,a2,_,d2⟩⟩ := st
    simp only [List.mem_cons,List.not_mem_nil,or_false] at hb
    rcases hb with rfl | rfl
    · exact ⟨_,a1,fun v q => by cases q⟩
    · exact ⟨_,a2,fun v q => by rw [d2] at q; cases q⟩
  keep := fun i h h' st k => by
    obtain ⟨⟨old,a1⟩,a2⟩ := st
    exact ⟨⟨old,k e (by simp) _ a1⟩,a2.at fun o q => k it (by simp) o q⟩
  item := by
    intro X hP hw hK hc i pins s σ H E I hf st hg
    subst hP hw hK
    obtain ⟨⟨old,a1⟩,a2⟩ := st
    obtain ⟨xs,x,e1,ex⟩ := hg
    obtain ⟨its,rv,p1,_⟩ := I.tuple (SqT.of e1)
    obtain ⟨u,hu,r⟩ := rv.get ex
    have lt : i < its.toArray.size := by simp; exact (List.getElem?_eq_some_iff.mp hu).1
    have ho : ∀ b ∈ [e,it],b < s.heap.objs.size := fun b hb => by
      obtain ⟨o2,a2',_⟩ := a2
      simp only [List.mem_cons,List.not_mem_nil,or_false] at hb
      rcases hb with rfl | rfl
      · exact Heap.lt_size a1
      · exact Heap.lt_size a2'
    have nl : ∀ b ∈ [e,it],l ≠ b := fun b hb q => by rw [q,(hf b hb).1] at e1; cases e1
    have p1' : s.heap.IsTuple l its.toArray := p1
    have DD : Draws X.prog X.w X.A.in1 it [it,l] its.toArray.size (fun i v => its.toArray[i]? = some v) (fun i h => h.IsTupleIter it l i ∧ h.IsTuple l its.toArray) := drawsTup (show X.A.in1.handled = none from I.ok.hd hc) it l (nl it (by simp)) its.toArray
    refine wpAny_pyNext_enum_itemD DD a1 ⟨a2,p1'⟩ lt hne (by simp only [List.mem_cons,List.not_mem_nil,or_false,not_or]; exact ⟨hne,Ne.symm (nl e (by simp))⟩) fun x' h' tk px b1 b2 b3 b4 bk => ⟨_,rfl,?_⟩
    have hu' : its.toArray[i]? = some u := by simpa using hu
    have eu : u = x' := Option.some.inj (hu'.symm.trans px)
    subst eu
    exact enum_step (tn := fun i h => (∃ old,IsEnum h e it i old) ∧ h.IsTupleIter it l i) hne I hf e1 ex ho r b1 b3 bk fun h'' c1 cs => ⟨⟨u,c1⟩,b2.1.extBut cs.extBut (Ne.symm hne)⟩
  done := by
    intro X hP hw hK hc i pins s σ H E I hf st hg
    subst hP hw hK
    obtain ⟨⟨old,a1⟩,a2⟩ := st
    obtain ⟨xs,e1,ex⟩ := hg
    obtain ⟨its,rv,p1,_⟩ := I.tuple (SqT.of e1)
    have lv := rv.length
    have p1' : s.heap.IsTuple l its.toArray := p1
    have hT : s.TypeIs (.ref e) "enumerate" := ⟨_,a1,rfl⟩
    unfold pyNext
    refine wpAny_bind (wpAny_attempt (wpAny_callSpecial?_slot (name := Str.ofString "__next__") hT F.slot_enumerate_next
      (wpAny_call_entry F.slot_enumerate_next hT F.entry_enumerate_next ?_ (F.args_enumerate_next_1 _))))
    show wpAny _ _ (field (.ref e) 2 >>= _) _ _ _
    refine wpAny_bind (wpAny_field a1 rfl (x := .ref it) rfl ?_)
    refine wpAny_bind (nextOf_tup_end (I.ok.hd hc) a2 p1' (by simp; omega) fun h' x he' hx' => ?_)
    obtain ⟨o,ho,hc⟩ := hx'
    refine wpAny_bind (wpAny_isInstance (T := "StopIteration") (b := true) ⟨o,ho,hc⟩ isSubtype_stop ?_)
    refine wpAny_pure ⟨rfl,?_⟩
    exact I.turnedN (t' := s.toks) hf fun b o hb q => by
      simp only [List.mem_cons,List.not_mem_nil,or_false,not_or] at hb
      exact he' b o hb.2 q
  self := fun _ _ _ _ _ st h => by obtain ⟨⟨old,a1⟩,_⟩ := st; exact wpAny_pyIter_enum a1 h
def iEnum (ta : TA) : TI := fun σ H R => ta σ H fun vs H1 => ∃ l xs,vs = [.ref l] ∧ ((H1 l = some (.lst xs) ∧ R (Ite .lst l) H1) ∨ (H1 l = some (.tup xs) ∧ R (Ite .tup l) H1))
theorem pi_enum {X : Cx} {a : Expr} {ta : TA} {p pos tp : Pos} {es : List Expr} {kk : Nat} (hg : Gl X "enumerate") (hm : X.mg "enumerate" = none) (ha : PA X [a] ta)
    (hs : starEach [a] X.env = [(false,eval a X.env)] := by rfl) :
    PI X (.Tuple es kk tp) (.Call (.Name "enumerate" p) [a] [] pos) (iEnum ta) := by
  intro pins s σ H R I h
  refine Call_ (ld_blt I hg hm PyProof.Rows.boot_enumerate (PyProof.Rows.callWith_type1 (thn (ha pos pins s σ H _ I h) fun us s1 ⟨vs,H1,I1,r1,q1⟩ => ?_) (by rw [hs]; rfl) (by rfl)))
  obtain ⟨l,xs,rfl,q⟩ := q1
  cases r1 with
  | cons r rr =>
    cases rr
    cases r
    rcases q with ⟨e1,q⟩ | ⟨e1,q⟩
    · obtain ⟨its1,rv1,p1,_⟩ := I1.list (SqL.of e1)
      refine call_enumerate_list p1.isList fun h' z1 z2 sz keep => ?_
      have I2 : Inv X pins σ H1 { s1 with heap := h' } := I1.kept (t' := s1.toks) keep
      refine wpAny_pyIter_enum z1 ⟨s1.heap.objs.size + 1,[s1.heap.objs.size + 1,s1.heap.objs.size],_,_,H1,rfl,I2,turn_enumL l _ _ (Nat.succ_ne_self _),⟨⟨_,z1⟩,z2⟩,fun b hb => ?_,q⟩
      have hb' : s1.heap.objs.size ≤ b := by
        simp only [List.mem_cons,List.not_mem_nil,or_false] at hb
        rcases hb with rfl | rfl <;> omega
      exact I1.fpOk hb' (I1.hok.fresh hb')
    · obtain ⟨its1,rv1,p1,_⟩ := I1.tuple (SqT.of e1)
      have p1' : s1.heap.IsTuple l its1.toArray := p1
      refine call_enumerate_tup p1' fun h' z1 z2 sz keep => ?_
      have I2 : Inv X pins σ H1 { s1 with heap := h' } := I1.kept (t' := s1.toks) keep
      refine wpAny_pyIter_enum z1 ⟨s1.heap.objs.size + 1,[s1.heap.objs.size + 1,s1.heap.objs.size],_,_,H1,rfl,I2,turn_enumT l _ _ (Nat.succ_ne_self _),⟨⟨_,z1⟩,z2⟩,fun b hb => ?_,q⟩
      have hb' : s1.heap.objs.size ≤ b := by
        simp only [List.mem_cons,List.not_mem_nil,or_false] at hb
        rcases hb with rfl | rfl <;> omega
      exact I1.fpOk hb' (I1.hok.fresh hb')
theorem for_enum {f : List V → HO} (hf : ∀ xs ys,f xs = f ys → xs = ys) {l : Addr} {xs : List V} {g : TG} {tb : TS} {D : Ends} {σ : St} {H : Hp} (Pv : Nat → St → Hp → Prop) (h0 : Pv 0 σ H) (hk : ∀ i σ H',Pv i σ H' → H' l = some (f xs))
    (ht : ∀ i x p σ H,xs[i]? = some x → H p = none → Pv i σ H → g (.ref p) σ (upd H p (.tup [.int i,x])) fun σ2 H2 => tb { D with nx := Pv (i + 1),ct := Pv (i + 1),bk := D.nx } σ2 H2) (hd : ∀ σ H,Pv xs.length σ H → D.nx σ H) :
    ∃ W : Nat → Nat → St → Hp → Prop,(∃ m,W 0 m σ H) ∧ ∀ i m σ H,W i m σ H →
      ((Ite f l).stop i H ∧ D.nx σ H) ∨ ((Ite f l).go i H ∧ ∃ N : St → Hp → Prop,(∀ σ' H',N σ' H' → ∃ m',m' < m ∧ W (i + 1) m' σ' H') ∧ ∀ x H',(Ite f l).yld i H x H' → g x σ H' fun σ2 H2 => tb { D with nx := N,ct := N,bk := D.nx } σ2 H2) := by
  refine ⟨fun i m σ H => m = xs.length - i ∧ i ≤ xs.length ∧ Pv i σ H,⟨xs.length,by simp,Nat.zero_le _,h0⟩,?_⟩
  rintro i m σ H ⟨rfl,hi,p⟩
  have e1 := hk i σ H p
  by_cases hlt : i < xs.length
  · refine .inr ⟨⟨xs,xs[i],e1,by simp [hlt]⟩,Pv (i + 1),fun σ' H' p' => ⟨xs.length - (i + 1),by omega,rfl,hlt,p'⟩,fun v H' y => ?_⟩
    obtain ⟨q,xs',x,hq,rfl,rfl,e1',ex⟩ := y
    rw [e1] at e1'
    cases hf _ _ (Option.some.inj e1')
    exact ht i x q σ H ex hq p
  · have e : i = xs.length := by omega
    subst e
    exact .inl ⟨⟨xs,e1,Nat.le_refl _⟩,hd σ H p⟩
end L2
set_option Elab.async false
set_option linter.all false
set_option maxRecDepth 100000
namespace Pc
open PySem L2
def turnable (k : Kd) : Bool := k.tu && !decide (k.w = k.h)
def spTurned (K : PySem.W.Frag) : Sp := fun vs H Q _ => ∃ (a : Addr) (k : Kd),vs = [.ref a] ∧ H a = some (.tup (kdV k)) ∧ Q (.bl (turnable k)) H
def isLy (ks : List Kd) (x t : V) : Bool := match x,t with
  | .int i,.bl b => decide (0 ≤ i) && match ks[i.toNat]? with
    | some k => !b || turnable k
    | none => false
  | _,_ => false
def spIsLying (K : PySem.W.Frag) (C : Addr) : Sp := fun vs H Q _ => ∃ (s : Addr) (b : Int) (ks : List Kd) (x t : V) (T U : String),vs = [.ref s,x,t] ∧ ShopAt C H s b ks ∧ Ty K H x T ∧ Ty K H t U ∧ Q (.bl (isLy ks x t)) H
end Pc
set_option Elab.async false
set_option linter.all false
set_option maxRecDepth 100000
namespace L2
open PySem PySem.Spec PyProof.Rows
section
variable {X : Cx}
theorem pe_mD {k : Nat} {C : Addr} {ps : List Str} {sp : Sp} {m : Str} {o : Expr} {e : Expr} {es : List Expr} {ta : TE} {t : TA} {apos pos : Pos} {pl : Sem Bool} (he : PE X o ta) (c : Cls X.K C) (D : Mn X.prog X.w X.K X.mg X.base C m ps k sp) (hr : Room k X.A) (ha : PA X (e :: es) t)
    (hst : starEach (e :: es) X.env = (false,eval e X.env) :: starEach es X.env := by rfl) (hpl : (backTo pos (starEach es X.env)).any (·.1) = false := by rfl)
    (ht : eval (.Call (.Attribute o m apos) (e :: es) [] pos) X.env = (do
      let ov ← eval o X.env
      standAt apos.atName
      let (f,first) ← holding [ov] (getMethod ov m pl)
      callWith pos f first (backTo pos (starEach (e :: es) X.env)) (backToKw pos (keywordEach [] X.env))) := by rfl) : PE X (.Call (.Attribute o m apos) (e :: es) [] pos) (tMeth C m sp [] E0 ta t) := by
  obtain ⟨f,fd,F,hb,hm⟩ := D
  exact pe_meth he c hm F hr hb .nil pass0 ha hst hpl ht
def MnX (P : Program) (w : World) (K : PySem.W.Frag) (mg : Str → Option Value) (base : Heap) (C : Addr) (m : Str) (ps : List Str) (k : Nat) (sp : Sp) : Prop :=
  ∃ (f : Addr) (fd : FuncData),FnOk P w K mg base (CXx P w) k f fd ps sp ∧ Binds K fd ps [] ∧ Meth K C m f
end
end L2
set_option Elab.async false
set_option linter.all false
set_option maxRecDepth 100000
namespace L2
open PySem PySem.Spec PyProof.Rows
theorem passX {P : Program} {w : World} {X : Cx} : Passes (CXx P w) X E0 := fun _ _ _ _ _ _ _ ⟨_,_,_,_,_,_,h⟩ => h.elim
section
variable {X : Cx}
theorem pe_mDX {k : Nat} {C : Addr} {ps : List Str} {sp : Sp} {m : Str} {o : Expr} {e : Expr} {es : List Expr} {ta : TE} {t : TA} {apos pos : Pos} {pl : Sem Bool} (he : PE X o ta) (c : Cls X.K C) (D : MnX X.prog X.w X.K X.mg X.base C m ps k sp) (hr : Room k X.A) (ha : PA X (e :: es) t)
    (hst : starEach (e :: es) X.env = (false,eval e X.env) :: starEach es X.env := by rfl) (hpl : (backTo pos (starEach es X.env)).any (·.1) = false := by rfl)
    (ht : eval (.Call (.Attribute o m apos) (e :: es) [] pos) X.env = (do
      let ov ← eval o X.env
      standAt apos.atName
      let (f,first) ← holding [ov] (getMethod ov m pl)
      callWith pos f first (backTo pos (starEach (e :: es) X.env)) (backToKw pos (keywordEach [] X.env))) := by rfl) : PE X (.Call (.Attribute o m apos) (e :: es) [] pos) (tMeth C m sp [] E0 ta t) := by
  obtain ⟨f,fd,F,hb,hm⟩ := D
  exact pe_meth he c hm F hr hb .nil passX ha hst hpl ht
end
end L2
namespace Pc
open PySem L2
end Pc
namespace Pc
open PySem PySem.Spec L2
end Pc
set_option Elab.async false
set_option linter.all false
namespace Pc
open PySem L2
abbrev Lp (x : Str) : List Nat := x.cps.toList
theorem Lp_app (x y : Str) : Lp (x ++ y) = Lp x ++ Lp y := Array.toList_append
def jn (c : Nat) : List (List Nat) → List Nat
  | [] => []
  | [a] => a
  | a :: b :: r => a ++ c :: jn c (b :: r)
theorem Lp_join (c : Nat) : ∀ ps : List Str,Lp (Str.join ⟨#[c]⟩ ps) = jn c (ps.map Lp)
  | [] => by simp [Str.join,jn,Lp,Str.empty]
  | [a] => by simp [Str.join,jn]
  | a :: b :: r => by
    have ih := Lp_join c (b :: r)
    have e : Str.join ⟨#[c]⟩ (a :: b :: r) = a ++ (⟨#[c]⟩ : Str) ++ Str.join ⟨#[c]⟩ (b :: r) := by simp [Str.join]
    rw [e,Lp_app,Lp_app,ih]
    simp [jn,Lp]
theorem Lp_join0 : ∀ ps : List Str,Lp (Str.join ⟨#[]⟩ ps) = (ps.map Lp).flatten
  | [] => by simp [Str.join,Lp,Str.empty]
  | [a] => by simp [Str.join]
  | a :: b :: r => by
    have ih := Lp_join0 (b :: r)
    have e : Str.join ⟨#[]⟩ (a :: b :: r) = a ++ (⟨#[]⟩ : Str) ++ Str.join ⟨#[]⟩ (b :: r) := by simp [Str.join]
    rw [e,Lp_app,Lp_app,ih]
    simp [Lp]
end Pc
set_option Elab.async false
set_option linter.all false
set_option maxRecDepth 100000
namespace L2
open PySem PySem.Spec PyProof.Rows
theorem strs_are : ∀ {ys : List Str} {its : List Value},Vals (ys.map V.str) its → StrsAre its ys
  | [],_,.nil => .nil
  | y :: ys,_,.cons r t => by
    obtain ⟨tk,e⟩ := (show ∃ t,_ = Value.str y t from r)
    subst e
    exact .cons y tk (strs_are t)
section
variable {X : Cx}
theorem mt_join : MtR X "str.join" (fun x xs H Q => ∃ sep p ys,x = .str sep ∧ xs = [.ref p] ∧ H p = some (.lst (ys.map V.str)) ∧ sep.length ≤ 64 ∧ (List.map (fun x : Str => x.length) ys).sum + ys.length * 64 ≤ 16777216 ∧ Q (.str (Txt.join sep ys)) H) := by
  intro pins s σ H x xs v us Q I rx rv h
  obtain ⟨sep,p,ys,rfl,rfl,hp,h1,h2,q⟩ := h
  obtain ⟨t,rfl⟩ := rx
  obtain ⟨u,rfl,ru⟩ := vals1 rv
  cases ru
  obtain ⟨its,r,pl,hz⟩ := I.list (SqL.of hp)
  exact join_listC pl.isList (by simpa using strs_are r) h1 h2 fun t' k => ⟨.str _,H,I.tok _,⟨_,rfl⟩,q⟩
end
end L2
set_option Elab.async false
set_option linter.all false
set_option maxRecDepth 100000
namespace L2
open PySem PySem.Spec PyProof.Rows
section
variable {X : Cx}
end
theorem atI_int {α : Type} {xs : List α} {i : Int} {v : α} (h0 : 0 ≤ i) (h : xs[i.toNat]? = some v) : atI xs i = some v := by
  have e : i = ((i.toNat : Nat) : Int) := by omega
  have z : atI xs ((i.toNat : Nat) : Int) = some v := atI_nat h
  rw [← e] at z; exact z
end L2
namespace Pc
open PySem L2
end Pc
set_option Elab.async false
set_option linter.all false
set_option maxRecDepth 100000
namespace L2
open PySem PySem.Spec PyProof.Rows
section
variable {κ : Type} [DecidableEq κ]
def valV (kvs : List (κ × V)) (k : κ) : Option V := (kvs.find? fun kv => decide (kv.1 = k)).map (·.2)
def putK (kvs : List (κ × V)) (k : κ) (v : V) : List (κ × V) :=
  if (kvs.any fun kv => decide (kv.1 = k)) = true then kvs.map (fun kv => if kv.1 = k then (kv.1,v) else kv) else kvs ++ [(k,v)]
theorem valV_pos {p : κ × V} {r : List (κ × V)} {k : κ} (e : p.1 = k) : valV (p :: r) k = some p.2 := by simp [valV,List.find?_cons,e]
theorem valV_neg {p : κ × V} {r : List (κ × V)} {k : κ} (e : ¬ p.1 = k) : valV (p :: r) k = valV r k := by simp [valV,List.find?_cons,e]
theorem valV_any (k : κ) : ∀ kvs : List (κ × V),(kvs.any fun kv => decide (kv.1 = k)) = (valV kvs k).isSome
  | [] => rfl
  | p :: r => by
    rw [List.any_cons]
    by_cases e : p.1 = k
    · simp only [valV_pos e,decide_eq_true e,Bool.true_or,Option.isSome_some]
    · rw [valV_neg e,decide_eq_false e,Bool.false_or]; exact valV_any k r
theorem valV_map (k j : κ) (y : V) : ∀ kvs : List (κ × V),valV (kvs.map fun kv => if kv.1 = k then (kv.1,y) else kv) j = (valV kvs j).map fun x => if j = k then y else x
  | [] => rfl
  | p :: r => by
    have ih := valV_map k j y r
    rw [List.map_cons]
    by_cases h : p.1 = k
    · rw [if_pos h]
      by_cases e : p.1 = j
      · rw [valV_pos (p := (p.1,y)) e,valV_pos e,Option.map_some,if_pos (e.symm.trans h)]
      · rw [valV_neg (p := (p.1,y)) e,valV_neg e,ih]
    · rw [if_neg h]
      by_cases e : p.1 = j
      · rw [valV_pos (p := p) e,valV_pos e,Option.map_some,if_neg (fun z => h (e.trans z))]
      · rw [valV_neg (p := p) e,valV_neg e,ih]
theorem valV_snoc (k j : κ) (y : V) : ∀ kvs : List (κ × V),valV kvs k = none → valV (kvs ++ [(k,y)]) j = if j = k then some y else valV kvs j
  | [],_ => by
    by_cases e : k = j
    · rw [if_pos e.symm]; exact valV_pos (p := (k,y)) e
    · rw [if_neg (fun z => e z.symm)]; exact valV_neg (p := (k,y)) e
  | p :: r,hn => by
    rw [List.cons_append]
    have hk : ¬ p.1 = k := fun z => by rw [valV_pos z] at hn; cases hn
    rw [valV_neg hk] at hn
    have ih := valV_snoc k j y r hn
    by_cases e : p.1 = j
    · rw [valV_pos e,valV_pos e,if_neg (fun z => hk (e.trans z))]
    · rw [valV_neg e,valV_neg e,ih]
theorem valV_put (kvs : List (κ × V)) (k j : κ) (y : V) : valV (putK kvs k y) j = if j = k then some y else valV kvs j := by
  unfold putK
  by_cases a : (kvs.any fun kv => decide (kv.1 = k)) = true
  · rw [if_pos a,valV_map]
    rw [valV_any] at a
    by_cases e : j = k
    · obtain ⟨x,hx⟩ := Option.isSome_iff_exists.mp a
      rw [if_pos e,e,hx,Option.map_some,if_pos rfl]
    · rw [if_neg e]
      cases valV kvs j with
      | none => rfl
      | some x => rw [Option.map_some,if_neg e]
  · rw [if_neg a]
    refine valV_snoc k j y kvs ?_
    rw [valV_any] at a
    cases q : valV kvs k with
    | none => rfl
    | some x => rw [q] at a; exact (a rfl).elim
theorem length_putK (kvs : List (κ × V)) (k : κ) (v : V) : (putK kvs k v).length ≤ kvs.length + 1 := by
  unfold putK
  split
  · rw [List.length_map]; omega
  · rw [List.length_append,List.length_cons,List.length_nil]; omega
theorem RelO.isSome_eq {o : Option V} {u : Option Value} (r : RelO o u) : o.isSome = u.isSome := by
  cases o with
  | none => cases u with
    | none => rfl
    | some _ => exact (show False from r).elim
  | some _ => cases u with
    | none => exact (show False from r).elim
    | some _ => rfl
theorem KV.val {kvs : List (κ × V)} {vs : List (κ × Value)} (r : KV kvs vs) (k : κ) : RelO (valV kvs k) (valueAt vs k) := by
  unfold KV at r
  induction r with
  | nil => exact True.intro
  | @cons p q ps qs h t ih =>
    obtain ⟨h1,h2⟩ := h
    by_cases e : p.1 = k
    · have e' : q.1 = k := h1.symm.trans e
      have b : valueAt (q :: qs) k = some q.2 := by simp [valueAt,List.find?_cons,e']
      rw [valV_pos e,b]; exact h2
    · have e' : ¬ q.1 = k := fun z => e (h1.trans z)
      have b : valueAt (q :: qs) k = valueAt qs k := by simp [valueAt,List.find?_cons,e']
      rw [valV_neg e,b]; exact ih
theorem KV.any {kvs : List (κ × V)} {vs : List (κ × Value)} (r : KV kvs vs) (k : κ) : (kvs.any fun kv => decide (kv.1 = k)) = vs.any fun kv => decide (kv.1 = k) := by
  unfold KV at r
  induction r with
  | nil => rfl
  | cons h t ih => rw [List.any_cons,List.any_cons,ih,h.1]
theorem KV.repl {kvs : List (κ × V)} {vs : List (κ × Value)} (r : KV kvs vs) (k : κ) {y : V} {u : Value} (ry : RelV y u) :
    KV (kvs.map fun kv => if kv.1 = k then (kv.1,y) else kv) (vs.map fun kv => if kv.1 = k then (kv.1,u) else kv) := by
  unfold KV at r ⊢
  induction r with
  | nil => exact .nil
  | @cons p q ps qs h t ih =>
    rw [List.map_cons,List.map_cons]
    refine .cons ?_ ih
    obtain ⟨h1,h2⟩ := h
    by_cases e : p.1 = k
    · rw [if_pos e,if_pos (h1.symm.trans e)]; exact ⟨h1,ry⟩
    · rw [if_neg e,if_neg (fun z => e (h1.trans z))]; exact ⟨h1,h2⟩
theorem KV.put {kvs : List (κ × V)} {vs : List (κ × Value)} (r : KV kvs vs) (k : κ) {y : V} {u : Value} (ry : RelV y u) : KV (putK kvs k y) (stored vs k u) := by
  unfold putK stored
  rw [r.any k]
  by_cases e : (vs.any fun kv => decide (kv.1 = k)) = true
  · rw [if_pos e,if_pos e]; exact r.repl k ry
  · rw [if_neg e,if_neg e]; exact Paired.snoc r ⟨rfl,ry⟩
theorem KV.length {kvs : List (κ × V)} {vs : List (κ × Value)} (r : KV kvs vs) : kvs.length = vs.length := Paired.length r
end
theorem kV_is {P : Program} {w : World} {k : Key} {u : Value} (r : RelV (kV k) u) : (mixKind P w).is k u = true := by
  cases k with
  | inl i => obtain ⟨t,e⟩ := (show ∃ t,u = Value.int i t from r); subst e; exact mixKind_int P w i t
  | inr x => obtain ⟨t,e⟩ := (show ∃ t,u = Value.str x t from r); subst e; exact mixKind_str P w x t
theorem items_are {P : Program} {w : World} : ∀ {ks : List Key} {us : List Value},Vals (ks.map kV) us → ItemsAre (mixKind P w) ks us
  | [],_,r => by rw [List.map_nil] at r; cases r; exact .nil
  | k :: ks,_,r => by
    rw [List.map_cons] at r
    cases r with
    | cons h t => exact .cons (kV_is h) (items_are t)
abbrev KT (H : Hp) : List (List Key × V) → List (List Key × Addr × Value) → Prop := Paired fun p q => p.1 = q.1 ∧ H q.2.1 = some (.tup (p.1.map kV)) ∧ RelV p.2 q.2.2
theorem KT.val {H : Hp} {kvs : List (List Key × V)} {xs : List (List Key × Addr × Value)} (r : KT H kvs xs) (k : List Key) : RelO (valV kvs k) ((atKey xs k).map (·.2)) := by
  induction r with
  | nil => exact True.intro
  | @cons p q ps qs h t ih =>
    obtain ⟨h1,_,h2⟩ := h
    by_cases e : p.1 = k
    · have e' : q.1 = k := h1.symm.trans e
      have b : atKey (q :: qs) k = some q.2 := by simp [atKey,List.find?_cons,e']
      rw [valV_pos e,b]; exact h2
    · have e' : ¬ q.1 = k := fun z => e (h1.trans z)
      have b : atKey (q :: qs) k = atKey qs k := by simp [atKey,List.find?_cons,e']
      rw [valV_neg e,b]; exact ih
theorem KT.repl {H : Hp} {kvs : List (List Key × V)} {xs : List (List Key × Addr × Value)} (r : KT H kvs xs) (k : List Key) {y : V} {u : Value} (ry : RelV y u) :
    KT H (kvs.map fun kv => if kv.1 = k then (kv.1,y) else kv) (xs.map (putAt k u)) := by
  induction r with
  | nil => exact .nil
  | @cons p q ps qs h t ih =>
    rw [List.map_cons,List.map_cons]
    refine .cons ?_ ih
    obtain ⟨h1,h2,h3⟩ := h
    unfold putAt
    by_cases e : p.1 = k
    · rw [if_pos e,if_pos (h1.symm.trans e)]; exact ⟨h1,h2,ry⟩
    · rw [if_neg e,if_neg (fun z => e (h1.trans z))]; exact ⟨h1,h2,h3⟩
theorem KT.put {H : Hp} {kvs : List (List Key × V)} {xs : List (List Key × Addr × Value)} (r : KT H kvs xs) (k : List Key) {b : Addr} {y : V} {u : Value} (hb : H b = some (.tup (k.map kV))) (ry : RelV y u) :
    KT H (putK kvs k y) (storedH xs k b u) := by
  have e : (kvs.any fun kv => decide (kv.1 = k)) = (atKey xs k).isSome := by
    rw [valV_any,(r.val k).isSome_eq,Option.isSome_map]
  unfold putK storedH
  rw [e]
  by_cases q : (atKey xs k).isSome = true
  · rw [if_pos q,if_pos q]; exact r.repl k ry
  · rw [if_neg q,if_neg q]; exact Paired.snoc r ⟨rfl,hb,ry⟩
theorem KT.keeps {H H' : Hp} {kvs : List (List Key × V)} {xs : List (List Key × Addr × Value)} (r : KT H kvs xs) (ht : ∀ b ys,H b = some (.tup ys) → H' b = some (.tup ys)) : KT H' kvs xs :=
  Paired.mapP r fun _ _ z => ⟨z.1,ht _ _ z.2.1,z.2.2⟩
section
variable {P : Program} {w : World} {H : Hp} {h : Heap} {a : Addr}
theorem rd_of {u : HO} (ok : HOk P w H h) (e : Rd H a u) : ObjOk P w H h a u := e.ok ok
theorem dk_rd {kvs : List (Key × V)} (ok : HOk P w H h) (e : Rd H a (.dK kvs)) : kvs.length ≤ sizeLine ∧ (a == sysModules) = false ∧ ∃ vs,KV kvs vs ∧ h.DictOf (mixKind P w) a vs :=
  show ObjOk P w H h a (.dK kvs) from rd_of ok e
theorem dk_of {kvs : List (Key × V)} (ok : HOk P w H h) (e : H a = some (.dK kvs)) : kvs.length ≤ sizeLine ∧ (a == sysModules) = false ∧ ∃ vs,KV kvs vs ∧ h.DictOf (mixKind P w) a vs := dk_rd ok (.inl e)
theorem key_of {ks : List Key} (ok : HOk P w H h) (e : H a = some (.tup (ks.map kV))) : (tupleKind (mixKind P w)).is h ks a := by
  obtain ⟨_,its,r,o,h1,h2,n,h3⟩ := (show ObjOk P w H h a (.tup (ks.map kV)) from ok a _ e)
  exact ⟨o,its.toArray,n,h1,h2,h3,by simpa using items_are r⟩
theorem dt_rd {kvs : List (List Key × V)} (ok : HOk P w H h) (e : Rd H a (.dT kvs)) : kvs.length ≤ sizeLine ∧ (a == sysModules) = false ∧
    ∃ xs,KT H kvs xs ∧ h.DictOfH (tupleKind (mixKind P w)) a xs := by
  obtain ⟨z,y,xs,r,o,es,ep,h1,h2,h3,h4,h5⟩ := (show ObjOk P w H h a (.dT kvs) from rd_of ok e)
  refine ⟨z,y,xs,r,o,es,ep,h1,h2,h3,h4,fun x hx => ?_,h5⟩
  have all : ∀ {l : List (List Key × V)} {m : List (List Key × Addr × Value)},KT H l m → ∀ x ∈ m,(tupleKind (mixKind P w)).is h x.1 x.2.1 := by
    intro l m q
    induction q with
    | nil => intro x hx; exact nomatch hx
    | @cons p q ps qs hq t ih =>
      intro x hx
      rcases List.mem_cons.mp hx with e | hx
      · subst e
        exact key_of ok (by rw [← hq.1]; exact hq.2.1)
      · exact ih x hx
  exact all r x hx
theorem dt_of {kvs : List (List Key × V)} (ok : HOk P w H h) (e : H a = some (.dT kvs)) : kvs.length ≤ sizeLine ∧ (a == sysModules) = false ∧
    ∃ xs,KT H kvs xs ∧ h.DictOfH (tupleKind (mixKind P w)) a xs := dt_rd ok (.inl e)
end
def DGet (H : Hp) (a : Addr) (y : V) (r : Option V) : Prop :=
  (∃ kvs k,Rd H a (.dK kvs) ∧ y = kV k ∧ r = valV kvs k) ∨ ∃ kvs k b,Rd H a (.dT kvs) ∧ y = .ref b ∧ H b = some (.tup (k.map kV)) ∧ r = valV kvs k
def DPut (H : Hp) (a : Addr) (y v : V) (H' : Hp) : Prop :=
  (∃ kvs k,H a = some (.dK kvs) ∧ y = kV k ∧ kvs.length < sizeLine ∧ H' = upd H a (.dK (putK kvs k v))) ∨
  ∃ kvs k b,H a = some (.dT kvs) ∧ y = .ref b ∧ H b = some (.tup (k.map kV)) ∧ kvs.length < sizeLine ∧ H' = upd H a (.dT (putK kvs k v))
theorem DGet.t {H : Hp} {a b : Addr} {kvs : List (List Key × V)} {k : List Key} (e : H a = some (.dT kvs)) (eb : H b = some (.tup (k.map kV))) : DGet H a (.ref b) (valV kvs k) := .inr ⟨kvs,k,b,.inl e,rfl,eb,rfl⟩
theorem DPut.t {H : Hp} {a b : Addr} {kvs : List (List Key × V)} {k : List Key} {v : V} (e : H a = some (.dT kvs)) (eb : H b = some (.tup (k.map kV))) (hl : kvs.length < sizeLine) :
    DPut H a (.ref b) v (upd H a (.dT (putK kvs k v))) := .inr ⟨kvs,k,b,e,rfl,eb,hl,rfl⟩
section
variable {X : Cx} {pins : List (Addr × Obj)} {σ : St} {H : Hp} {s : Shared} {a : Addr} {y v : V} {u r : Value} {o : Option V} {A : Around} {E : Value → Shared → Prop}
theorem Inv.big (I : Inv X pins σ H s) : sysModules < s.heap.objs.size := by
  have h : mainGlobals < s.heap.objs.size := (I.mod.glob.keeps I.bk).lt
  exact Nat.lt_trans (by decide) h
theorem d_getItem {Q : Value → Shared → Prop} (hu : A.units + 1 < cLine) (I : Inv X pins σ H s) (g : DGet H a y (some v)) (ry : RelV y u) (h : ∀ w' s',Inv X pins σ H s' → RelV v w' → Q w' s') :
    wpAny (model X.prog X.w) A (getItem (.ref a) u) Q E s := by
  rcases g with ⟨kvs,k,e,ey,l⟩ | ⟨kvs,k,b,e,ey,eb,l⟩
  · subst ey
    obtain ⟨z,hd,vs,rel,dd⟩ := dk_rd I.hok e
    obtain ⟨w',hw,rw'⟩ := RelO.some_of (v := v) (o := valueAt vs k) (by rw [l]; exact rel.val k)
    exact wpAny_getItem_of (kV_is ry) dd.mapOf hw (h w' _ (I.tok _) rw')
  · subst ey
    cases (show u = Value.ref b from ry)
    obtain ⟨z,hd,xs,rel,dd⟩ := dt_rd I.hok e
    obtain ⟨w',hw,rw'⟩ := RelO.some_of (v := v) (o := (atKey xs k).map (·.2)) (by rw [l]; exact rel.val k)
    obtain ⟨p,hp,hp2⟩ := Option.map_eq_some_iff.mp hw
    refine wpAny_getItem_heap (tupleKind_room_in1 hu) (key_of I.hok eb) dd hp ?_
    rw [hp2]
    exact h w' _ (I.tok _) rw'
theorem d_write {h' : Heap} {t' : Nat} {ob : HO} (I : Inv X pins σ H s) (mu : Mut (H a)) (hs : Heap.SameBut a s.heap h') (he : ∃ q,h'.get? a = some q) (new : ObjOk X.prog X.w (upd H a ob) h' a ob) :
    Inv X pins σ (upd H a ob) { s with heap := h',toks := t' } :=
  I.write (x := a) (e := a) mu (.inl rfl) (fun b q hb z => (hs.2 b hb).trans z) he new
theorem dk_new {P : Program} {w : World} {H' : Hp} {h' : Heap} {kvs : List (Key × V)} {vs : List (Key × Value)} (z : kvs.length ≤ sizeLine) (hd : (a == sysModules) = false) (rel : KV kvs vs) (dd : h'.DictOf (mixKind P w) a vs) :
    ObjOk P w H' h' a (.dK kvs) := ⟨z,hd,vs,rel,dd⟩
theorem d_setItem {H' : Hp} {Q : Unit → Shared → Prop} (hu : A.units + 1 < cLine) (I : Inv X pins σ H s) (g : DPut H a y v H') (ry : RelV y u) (rv : RelV v r) (h : ∀ s',Inv X pins σ H' s' → Q () s') :
    wpAny (model X.prog X.w) A (setItem (.ref a) u r) Q E s := by
  rcases g with ⟨kvs,k,e,ey,l,eH⟩ | ⟨kvs,k,b,e,ey,eb,l,eH⟩
  · subst ey eH
    obtain ⟨z,hd,vs,rel,dd⟩ := dk_of I.hok e
    have hz : vs.length ≤ sizeLine := by rw [← rel.length]; exact z
    have hl : (putK kvs k v).length ≤ sizeLine := by have := length_putK kvs k v; omega
    refine wpAny_setItem_pairs (hsz := hz) (kV_is ry) dd fun h' dd' hs => h _ ?_
    have he : ∃ q,h'.get? a = some q := let ⟨q,_,_,hq,_⟩ := dd'; ⟨q,hq⟩
    exact d_write I (by rw [e]; exact True.intro) hs he (dk_new hl hd (rel.put k rv) dd')
  · subst ey eH
    cases (show u = Value.ref b from ry)
    obtain ⟨z,hd,xs,rel,dd⟩ := dt_of I.hok e
    have hz : xs.length ≤ sizeLine := by rw [← Paired.length rel]; exact z
    have hl : (putK kvs k v).length ≤ sizeLine := by have := length_putK kvs k v; omega
    refine wpAny_setItem_heap (hsz := hz) (tupleKind_room_in1 hu) (key_of I.hok eb) dd fun h' dd' hs => h _ ?_
    obtain ⟨q,es,ep,hq,h2,h3,h4,_,h5⟩ := dd'
    refine d_write I (by rw [e]; exact True.intro) hs ⟨q,hq⟩ ⟨hl,hd,_,(rel.put k eb rv).keeps fun c ys ec => ?_,q,es,ep,hq,h2,h3,h4,h5⟩
    rw [upd_ne (ne_of ec e (fun z => nomatch z))]
    exact ec
end
section
variable {X : Cx} {pins : List (Addr × Obj)} {σ : St} {H : Hp} {s : Shared} {a : Addr} {kvs : List (Key × V)} {k : Key} {u : Value} {A : Around} {E : Value → Shared → Prop}
end
def NoSl (i : Expr) : Prop := ∀ ov iv,subscripted i false ov iv = operate [ov,iv] (getItem ov iv)
theorem subD_of {prog : Program} {w : World} {A : Around} {E : Value → Shared → Prop} {s : Shared} {env : Env} {value slice : Expr} {pos : Pos} {T id : String} {Q : Value → Shared → Prop}
    (hl : typeLookup (.type T) "__getitem__" = pure (some (.builtin id))) (hs : NoSl slice)
    (h : wpAny (model prog w) A (eval value env) (fun o s₁ => wpAny (model prog w) A (eval slice env) (fun i s₂ => s₂.TypeIs o T ∧ wpAny (model prog w) A (getItem o i) Q E s₂) E s₁) E s) :
    wpAny (model prog w) A (eval (.Subscript value slice pos) env) Q E s := by
  refine Subscript_ (wpAny_mono h (fun o s₁ h₁ => wpAny_mono h₁ (fun i s₂ h₂ => ?_) fun _ _ x => x) fun _ _ x => x)
  obtain ⟨hT,h₂⟩ := h₂
  unfold subscriptTail
  refine wpAny_bind ?_
  rw [getitemInPython_of_ne hT.not_modules]
  refine wpAny_bind (wpAny_specialOf hT hl ?_)
  have fin : wpAny (model prog w) A (subscripted slice false o i) (fun r s₃ => wpAny (model prog w) A (letTemporaryGo value o r >>= fun _ => pure r) Q E s₃) E s₂ := by
    rw [hs o i]
    exact wpAny_operating (wpAny_mono h₂ (fun r s₃ h₃ => wpAny_bind (wpAny_letTemporaryGo (wpAny_pure h₃))) fun _ _ x => x)
  first
    | exact wpAny_pure (wpAny_bind fin)
    | exact wpAny_bind (wpAny_pure (wpAny_bind fin))
    | exact wpAny_bind fin
theorem dict_typeIs {X : Cx} {pins : List (Addr × Obj)} {σ : St} {H : Hp} {s : Shared} {a : Addr} {y : V} {o : Option V} (I : Inv X pins σ H s) (g : DGet H a y o) : s.TypeIs (.ref a) "dict" := by
  rcases g with ⟨kvs,k,e,_,_⟩ | ⟨kvs,k,b,e,_,_,_⟩
  · obtain ⟨_,_,vs,_,dd⟩ := dk_rd I.hok e
    exact dd.typeIs
  · obtain ⟨_,_,xs,_,dd⟩ := dt_rd I.hok e
    exact dd.typeIs
def tDGet (td ty : TE) : TE := fun σ H Q => td σ H fun x H1 => ty σ H1 fun y H2 => ∃ a v,x = .ref a ∧ DGet H2 a y (some v) ∧ Q v H2
def sDPut (td ty tv : TE) : TS := fun D σ H => tv σ H fun v H1 => td σ H1 fun x H2 => ty σ H2 fun y H3 => ∃ a H4,x = .ref a ∧ DPut H3 a y v H4 ∧ D.nx σ H4
section
variable {X : Cx} {o i e value : Expr} {pos pos' tpos : Pos} {td ty tv : TE}
theorem pe_dget (hu : X.A.units + 1 < cLine) (ho : PE X o td) (hi : PE X i ty) (hs : NoSl i) : PE X (.Subscript o i pos) (tDGet td ty) := by
  intro pins s σ H Q I h
  refine subD_of PySem.F.slot_dict_getitem.lookup hs (thn (ho pins s σ H _ I h) fun u s1 ⟨x,H1,I1,rx,q1⟩ => thn (hi pins s1 σ H1 _ I1 q1) fun iv s2 ⟨y,H2,I2,ry,a,v,ex,g,q2⟩ => ?_)
  subst ex
  obtain rfl : u = Value.ref a := rx
  exact ⟨dict_typeIs I2 g,d_getItem hu I2 g ry fun w' s3 I3 rw' => ⟨v,H2,I3,rw',q2⟩⟩
theorem ps_dput (hu : X.A.units + 1 < cLine) (ho : PE X o td) (hi : PE X i ty) (hv : PE X value tv) (hs : swapsWith value (some (.Subscript o i pos')) pos.line X.env = pure false) :
    PS X (.Assign [.Subscript o i pos'] value pos) (sDPut td ty tv) := by
  intro pins s σ H D I h
  refine wpAny_Assign_Subscript (thn (hv pins s σ H _ I h) fun r s1 ⟨v,H1,I1,rv,q1⟩ => thn (ho pins s1 σ H1 _ I1 q1) fun u s2 ⟨x,H2,I2,rx,q2⟩ => thn (hi pins s2 σ H2 _ I2 q2) fun iv s3 ⟨y,H3,I3,ry,a,H4,ex,g,q3⟩ => ?_) hs
  subst ex
  obtain rfl : u = Value.ref a := rx
  exact d_setItem hu I3 g ry rv fun s4 I4 => ⟨σ,H4,I4,q3⟩
end
theorem dt_empty {P : Program} {w : World} {H : Hp} (h : Heap) (hb : sysModules < h.objs.size) : ObjOk P w H (h.push { cls := .type "dict",data := .dict #[] }) h.objs.size (.dT []) :=
  ⟨Nat.zero_le _,beq_eq_false_iff_ne.mpr (Ne.symm (Nat.ne_of_lt hb)),[],.nil,_,#[],0,Heap.get?_push_size _ rfl,⟨rfl,rfl,rfl⟩,rfl,rfl,List.nodup_nil⟩
def tDNewT : TE := fun _ H Q => ∀ p,H p = none → Q (.ref p) (upd H p (.dT []))
section
variable {X : Cx} {pos : Pos}
theorem pe_dnewT : PE X (.Dict [] [] pos) tDNewT := fun pins s σ H Q I h =>
  wpAny_Dict_empty ⟨.ref s.heap.objs.size,_,I.laid (a := s.heap.objs.size) (o := .dT []) (t' := s.toks) (fun _ _ q => Heap.get?_push_of_some _ q) (Nat.le_refl _) (dt_empty s.heap I.big),rfl,h _ (I.hok.fresh (Nat.le_refl _))⟩
end
structure M1 (X : Cx) (o : Expr) (m : Str) (apos : Pos) (e : Expr) (cpos : Pos) : Prop where
  base : attributeBase o m X.env (eval o X.env) = eval o X.env
  few : ((backTo cpos (starEach [e] X.env)).all (fun x => !x.1) && (backToKw cpos (keywordEach [] X.env)).all (fun x => x.1.isSome)
    && decide (([e] : List Expr).length + ([] : List Keyword).length + (if ([] : List Keyword).isEmpty then 0 else 1) < 30)) = true
  line : (apos.endLine == cpos.line) = true
  trees : backTo cpos (starEach [e] X.env) = [(false,eval e X.env)]
structure M2 (X : Cx) (o : Expr) (m : Str) (apos : Pos) (e f : Expr) (cpos : Pos) : Prop where
  base : attributeBase o m X.env (eval o X.env) = eval o X.env
  few : ((backTo cpos (starEach [e,f] X.env)).all (fun x => !x.1) && (backToKw cpos (keywordEach [] X.env)).all (fun x => x.1.isSome)
    && decide (([e,f] : List Expr).length + ([] : List Keyword).length + (if ([] : List Keyword).isEmpty then 0 else 1) < 30)) = true
  line : (apos.endLine == cpos.line) = true
  trees : backTo cpos (starEach [e,f] X.env) = [(false,eval e X.env),(false,eval f X.env)]
section
variable {X : Cx} {pins : List (Addr × Obj)} {σ : St} {H : Hp} {s : Shared} {a : Addr} {y d : V} {u r : Value} {o : Option V} {A : Around} {E : Value → Shared → Prop}
end
section
variable {X : Cx} {o e f : Expr} {apos cpos : Pos} {td ty tx : TE}
end
section
variable {X : Cx} {pins : List (Addr × Obj)} {σ : St} {H : Hp} {s : Shared} {a : Addr} {kvs : List (Key × V)} {A : Around} {E : Value → Shared → Prop}
end
section
variable {X : Cx} {pins : List (Addr × Obj)} {σ : St} {H : Hp} {s : Shared} {a : Addr} {y : V} {u : Value} {A : Around} {E : Value → Shared → Prop}
end
end L2
namespace Att
open PySem PySem.W PySem.Calls PyProof.Rows
section
variable {prog : Program} {w : World} {A : Around} {E : Value → Shared → Prop} {s : Shared} {K : Frag}
end
end Att
namespace L2
open PySem PySem.Spec PyProof.Rows
end L2
namespace L2
open PySem PySem.Spec PyProof.Rows
end L2
/- THE LAST THEOREM (shape; LID,My.* are yours):
   My.Adr: a structure of the addresses that your layer names (classes,functions); My.Txt K t: a structure (Prop) of the equations over K;
   My.txt_mk : {K} {implicit addresses ..} (e1 : nsIn K mainGlobals "law" = some (some (.ref f))) (e2 : K.lookup f = some ⟨oc,od,.func (fnOf "law" "law" params body scope dV kV doc pm an cdv ct),sl⟩) (e3 : codeIn K cdv "law" = true) .. : ∃ t,My.Txt K t
(the tactic k_is has no namespace: write k_is) -/
namespace L2
open PySem PySem.Spec PyProof.Rows
section
variable {P : Program} {w : World} {K : PySem.W.Frag} {mg : Str → Option Value} {base : Heap}
end
section
variable {X : Cx}
end
section
variable {κ : Type} [DecidableEq κ]
end
end L2
set_option Elab.async false
set_option linter.all false
set_option maxRecDepth 100000
namespace L2
open PySem PySem.Spec PyProof.Rows
theorem pg_three {X : Cx} (K : PySem.W.Frag) {x y z : Str} {px py pz pos : Pos} {k : Nat} (hK : X.K = K) (hc : X.calm = true) (hN : X.N.Nodup) (h0 : X.N[0]? = some x) (h1 : X.N[1]? = some y) (h2 : X.N[2]? = some z) (l0 : X.env.scope.names.lookup x = some .local) (l1 : X.env.scope.names.lookup y = some .local) (l2 : X.env.scope.names.lookup z = some .local) :
    PG X (.Tuple [.Name x px,.Name y py,.Name z pz] k pos) (gTup K 3 (gCons (gName 0) (gCons (gName 1) (gCons (gName 2) gNil)))) :=
  hK ▸ pg_tup hc (pgs_cons (pg_name hN h0 (.inl l0) (.inr l0)) (pgs_cons (pg_name hN h1 (.inl l1) (.inr l1)) (pgs_cons (pg_name hN h2 (.inl l2) (.inr l2)) pgs_nil)))
end L2
namespace L2
open PySem PySem.Spec PyProof.Rows
section
variable {X : Cx}
end
end L2
set_option Elab.async false
set_option linter.all false
set_option maxRecDepth 100000
namespace PySem
open Spec
section
variable {prog : Program} {w : World} {A : Around} {E : Value → Shared → Prop} {s : Shared} {l : Addr} {xs : Array (Int × Tok)}
end
end PySem
namespace L2
open PySem PySem.Spec PyProof.Rows
section
variable {X : Cx}
theorem comp_rng {lo : Int} {n : Nat} {σ : St} {cap : List Nat} {k : Nat} {g : TG} {tt : TT} {te : TE} {Q : List V → Hp → Prop} {H : Hp} (Pv : Nat → List V → Hp → Prop) (h0 : Pv 0 [] H)
    (ht : ∀ i ys H',i < n → Pv i ys H' → ys.length < sizeLine ∧ g (.int (lo + i)) (blkSt σ cap k) H' fun σ2 H2 => leS (blkSt σ cap k) σ2 ∧ tt σ2 H2 fun ok H3 => if ok = true then te σ2 H3 (fun v H4 => Nx n Pv i (ys ++ [v]) H4) else Nx n Pv i ys H3)
    (hd : ∀ ys H',Pv n ys H' → ys.length ≤ sizeLine ∧ Q ys H') : ∃ W,(∃ m,W 0 m [] H) ∧ CompW σ cap k (Itr lo n) g tt te Q W := by
  refine ⟨fun i m ys H' => m = n - i ∧ i ≤ n ∧ Pv i ys H',⟨_,rfl,Nat.zero_le _,h0⟩,?_⟩
  rintro i m ys H' ⟨rfl,hi,p⟩
  by_cases hin : i < n
  · obtain ⟨e,hg⟩ := ht i ys H' hin p
    refine .inr ⟨hin,e,fun x H2 yl => ?_⟩
    obtain ⟨e1,e2⟩ := yl
    subst e1 e2
    exact hg
  · have e : i = n := by omega
    subst e
    obtain ⟨a1,a2⟩ := hd ys H' p
    exact .inl ⟨Nat.le_refl _,a1,a2⟩
end
end L2
namespace PySem
theorem Paired.getL {α β : Type} {F : α → β → Prop} : ∀ {l₁ : List α} {l₂ : List β} {i : Nat} {y : β},Paired F l₁ l₂ → l₂[i]? = some y → ∃ x,l₁[i]? = some x ∧ F x y
  | _,_,_,_,.nil,e => by simp at e
  | _,_,0,_,.cons h _,e => by simp at e; subst e; exact ⟨_,rfl,h⟩
  | _,_,i + 1,y,.cons _ t,e => by
    obtain ⟨x,h1,h2⟩ := Paired.getL (i := i) t (by simpa using e)
    exact ⟨x,by simpa using h1,h2⟩
end PySem
set_option Elab.async false
set_option linter.all false
set_option maxRecDepth 100000
namespace L2
open PySem PySem.Spec PyProof.Rows
def Itv (K : PySem.W.Frag) (a : Addr) (n : Nat) : It :=
  ⟨fun i H => i < n ∧ ∃ xs x,SqL K H a xs ∧ xs[n - 1 - i]? = some x,fun i H x H' => H' = H ∧ ∀ xs,SqL K H a xs → xs[n - 1 - i]? = some x,fun i _ => n = i⟩
theorem turn_rev {P : Program} {w : World} {K : PySem.W.Frag} {tg : Expr} (a it : Addr) (n : Nat) : Turn P w K tg (Itv K a n) [it] it (fun i h => h.IsRevIter it a ((n : Int) - 1 - (i : Int))) where
  mem := by simp
  obj := fun i h st b hb => by
    have e : b = it := by simpa using hb
    subst e
    obtain ⟨o,e,c,d⟩ := st
    exact ⟨o,e,fun v z => by rw [d] at z; cases z⟩
  keep := fun i h h' st k => st.at fun o e => k it (by simp) o e
  item := by
    intro X hP hw hK hc i pins s σ H E I hf st hg
    subst hP hw hK
    obtain ⟨hi,xs,x,hq,hx⟩ := hg
    obtain ⟨its,rv,p,hz⟩ := I.list hq
    obtain ⟨u,hu,ru⟩ := rv.get hx
    obtain ⟨f0,f1,f2,f3,f4,f5⟩ := hf it (by simp)
    have ei : (n : Int) - 1 - (i : Int) = ((n - 1 - i : Nat) : Int) := by omega
    rw [ei] at st
    refine wpAny_pyNext_rev_item st p.isList (x := u) (by simpa using hu) fun h' st' sb => ?_
    have I1 : Inv X pins σ H { s with heap := h' } := I.turned (t' := s.toks) (fun b o hb e => (sb.2 b hb).trans e) f0 f1 f3 f4 f5
    rw [show ((n - 1 - i : Nat) : Int) - 1 = (n : Int) - 1 - ((i + 1 : Nat) : Int) by omega] at st'
    obtain ⟨o,e,c,d⟩ := id st'
    exact ⟨u,rfl,go_of (s := { s with heap := h' }) e c d (by decide) ⟨x,H,I1,ru,⟨rfl,fun ys hy => by rw [I.list_inj hy hq]; exact hx⟩,st',fun b hb => (hf b hb).1⟩⟩
  done := by
    intro X hP hw hK hc i pins s σ H E I hf st hg
    subst hP hw hK
    have hg : n = i := hg
    obtain ⟨f0,f1,f2,f3,f4,f5⟩ := hf it (by simp)
    rw [show (n : Int) - 1 - (i : Int) = -1 by omega] at st
    exact wpAny_pyNext_rev_end (I.ok.hd hc) st fun h' eb => ⟨rfl,I.turned (t' := s.toks) (fun b o hb e => eb b o hb e) f0 f1 f3 f4 f5⟩
  self := fun _ _ _ _ _ st h => wpAny_pyIter_revIter st h
section
variable {X : Cx} {tg : Expr}
def iRev (K : PySem.W.Frag) (ta : TA) : TI := fun σ H R => ta σ H fun vs H1 => ∃ a xs,vs = [V.ref a] ∧ SqL K H1 a xs ∧ R (Itv K a xs.length) H1
theorem pi_rev {a : Expr} {ta : TA} {p pos : Pos} (hg : Gl X "reversed") (hm : X.mg "reversed" = none) (ha : PA X [a] ta) (hs : starEach [a] X.env = [(false,eval a X.env)] := by rfl) : PI X tg (.Call (.Name "reversed" p) [a] [] pos) (iRev X.K ta) := by
  intro pins s σ H R I h
  refine Call_ (ld_blt I hg hm boot_reversed (PyProof.Rows.callWith_type1 (thn (ha pos pins s σ H _ I h) fun us s1 ⟨vs,H1,I1,r1,q1⟩ => ?_) hs rfl))
  obtain ⟨l,xs,e,hq,q⟩ := q1
  subst e
  cases r1 with
  | cons r rr =>
    cases rr
    cases r
    obtain ⟨its,rv,pl,hz⟩ := I1.list hq
    have hl := rv.length
    refine call_reversed_list pl.isList ?_
    have st : (s1.heap.push (revObj l ((its.toArray.size : Int) - 1))).IsRevIter s1.heap.objs.size l ((xs.length : Int) - 1 - ((0 : Nat) : Int)) := by
      refine ⟨_,Heap.get?_push_size _ rfl,rfl,?_⟩
      show Data.fields #[.ref l,rawInt ((its.toArray.size : Int) - 1)] = _
      rw [List.size_toArray,hl,show (its.length : Int) - 1 - ((0 : Nat) : Int) = (its.length : Int) - 1 by simp]
    refine wpAny_pyIter_revIter st ⟨s1.heap.objs.size,[s1.heap.objs.size],_,_,H1,rfl,I1.kept (t' := s1.toks) fun b o e => Heap.get?_push_of_some _ e,turn_rev l _ _,st,fun b hb => ?_,q⟩
    have e : b = s1.heap.objs.size := by simpa using hb
    subst e
    exact I1.fpOk (Nat.le_refl _) (I1.hok.fresh (Nat.le_refl _))
end
theorem comp_rev {K : PySem.W.Frag} {a : Addr} {xs : List V} {σ : St} {cap : List Nat} {k : Nat} {g : TG} {tt : TT} {te : TE} {Q : List V → Hp → Prop} {H : Hp} (Pv : Nat → List V → Hp → Prop)
    (hk : ∀ i ys H',i ≤ xs.length → Pv i ys H' → H' a = some (.lst xs)) (h0 : Pv 0 [] H)
    (ht : ∀ i x ys H',i < xs.length → xs[xs.length - 1 - i]? = some x → Pv i ys H' → ys.length < sizeLine ∧ g x (blkSt σ cap k) H' fun σ2 H2 => leS (blkSt σ cap k) σ2 ∧ tt σ2 H2 fun ok H3 => if ok = true then te σ2 H3 (fun v H4 => Nx xs.length Pv i (ys ++ [v]) H4) else Nx xs.length Pv i ys H3)
    (hd : ∀ ys H',Pv xs.length ys H' → ys.length ≤ sizeLine ∧ Q ys H') : ∃ W,(∃ m,W 0 m [] H) ∧ CompW σ cap k (Itv K a xs.length) g tt te Q W := by
  refine ⟨fun i m ys H' => m = xs.length - i ∧ i ≤ xs.length ∧ Pv i ys H',⟨_,rfl,Nat.zero_le _,h0⟩,?_⟩
  rintro i m ys H' ⟨rfl,hi,p⟩
  have z := hk i ys H' hi p
  by_cases hin : i < xs.length
  · have hj : xs.length - 1 - i < xs.length := by omega
    obtain ⟨e,hg⟩ := ht i xs[xs.length - 1 - i] ys H' hin (List.getElem?_eq_getElem hj) p
    refine .inr ⟨⟨hin,xs,xs[xs.length - 1 - i],SqL.of z,List.getElem?_eq_getElem hj⟩,e,fun x H2 yl => ?_⟩
    obtain ⟨e1,e2⟩ := yl
    have e3 := e2 xs (SqL.of z)
    rw [List.getElem?_eq_getElem hj] at e3
    have e4 := Option.some.inj e3
    subst e1 e4
    exact hg
  · have e : i = xs.length := by omega
    subst e
    obtain ⟨a1,a2⟩ := hd ys H' p
    exact .inl ⟨rfl,a1,a2⟩
def rJoin : V → List V → Hp → VK → Prop := fun x xs H Q => ∃ sep p ys,x = .str sep ∧ xs = [.ref p] ∧ H p = some (.lst (ys.map V.str)) ∧ sep.length ≤ 64 ∧ (List.map (fun x : Str => x.length) ys).sum + ys.length * 64 ≤ 16777216 ∧ Q (.str (Txt.join sep ys)) H
theorem pe_joinK {X : Cx} (K : PySem.W.Frag) {o e : Expr} {to : TE} {t : TA} {apos cpos : Pos} (hK : X.K = K) (ho : PE X o to) (ha : PA X [e] t)
    (hbase : attributeBase o "join" X.env (eval o X.env) = eval o X.env := by rfl)
    (hfew : ((backTo cpos (starEach [e] X.env)).all (fun x => !x.1) && (backToKw cpos (keywordEach [] X.env)).all (fun x => x.1.isSome)
      && decide (([e] : List Expr).length + ([] : List Keyword).length + (if ([] : List Keyword).isEmpty then 0 else 1) < 30)) = true := by rfl)
    (hline : (apos.endLine == cpos.line) = true := by rfl) (hs : starEach [e] X.env = (false,eval e X.env) :: starEach [] X.env := by rfl) (hplain : (backTo cpos (starEach [] X.env)).any (·.1) = false := by rfl) :
    PE X (.Call (.Attribute o "join" apos) [e] [] cpos) (tBM K "str" rJoin to t) :=
  hK ▸ pe_bm PySem.F.plainAttrs_str PySem.F.slot_str_join PySem.F.type_str_join mt_join ho ha hbase hfew hline hs hplain
end L2
set_option Elab.async false
set_option linter.all false
set_option maxRecDepth 100000
namespace Pc
open PySem L2
def top (i : Nat) : Stmt := PySem.Challenge.pw_platecuts_k91_whole_pictures.main.body.getD i (.Pass ⟨0,0,0,0⟩)
abbrev sWall : Stmt := top 0
abbrev sWhole : Stmt := top 11
abbrev sTruth : Stmt := top 12
abbrev sRow : Stmt := top 13
abbrev sCheckPlate : Stmt := top 14
abbrev sCheckSides : Stmt := top 15
abbrev sLiesIn : Stmt := top 20
abbrev sCutParts : Stmt := top 21
abbrev sBeginsWith : Stmt := top 28
abbrev sIsCut : Stmt := top 29
abbrev sIsLeaf : Stmt := top 30
abbrev sSpotsBehind : Stmt := top 31
abbrev sIsTree : Stmt := top 32
abbrev sCheckTree : Stmt := top 33
abbrev sLeavesOf : Stmt := top 34
abbrev sFill : Stmt := top 41
abbrev sFillLeaf : Stmt := top 42
abbrev sPicture : Stmt := top 43
abbrev sIsKind : Stmt := top 47
abbrev sTurned : Stmt := top 48
abbrev sShopInit : Stmt := inClass (top 49) 0
abbrev sShopBlade : Stmt := inClass (top 49) 1
abbrev sShopKinds : Stmt := inClass (top 49) 2
abbrev sShopWanted : Stmt := inClass (top 49) 3
abbrev sShopLyings : Stmt := inClass (top 49) 4
abbrev sShopIsLying : Stmt := inClass (top 49) 5
abbrev sShopSides : Stmt := inClass (top 49) 6
abbrev sPot : Stmt := top 51
abbrev sDraw : Stmt := top 52
abbrev sNumber : Stmt := top 53
abbrev sFitting : Stmt := top 54
abbrev sLeaf : Stmt := top 55
abbrev sTree : Stmt := top 56
abbrev sListed : Stmt := top 57
abbrev sSmall : Stmt := top 58
abbrev sBox : Stmt := top 59
abbrev sPainted : Stmt := top 60
abbrev sRows : Stmt := top 61
abbrev sLaw : Stmt := top 62
section
variable {P : Program} {w : World} {K : PySem.W.Frag} {mg : Str → Option Value} {base : Heap}
structure Blt (mg : Str → Option Value) : Prop where
  isi : mg "isinstance" = none
  int : mg "int" = none
  bool : mg "bool" = none
  list : mg "list" = none
  tuple : mg "tuple" = none
  len : mg "len" = none
  range : mg "range" = none
  max : mg "max" = none
  min : mg "min" = none
  abs : mg "abs" = none
  divmod : mg "divmod" = none
  sum : mg "sum" = none
  sorted : mg "sorted" = none
  all : mg "all" = none
  repr : mg "repr" = none
  zip : mg "zip" = none
  enumerate : mg "enumerate" = none
  mostk : ∃ t,mg "MOST_KINDS" = some (.int 8 t)
  fivek : ∃ t,mg "THINGS_OF_A_KIND" = some (.int 5 t)
end
theorem at_mem {xs : List V} {i : Int} (h0 : 0 ≤ i) (h1 : i < xs.length) : ∃ v,atI xs i = some v ∧ v ∈ xs := by
  have hk : i.toNat < xs.length := by omega
  exact ⟨xs[i.toNat],atI_int h0 (List.getElem?_eq_getElem hk),List.getElem_mem hk⟩
theorem sBut {H H' : Hp} {p : Addr} (s : Same H H') : But p H H' := fun c o _ e => s c o e
theorem seqCut {t u : TS} {D : Ends} {σ : St} {H : Hp} (J : St → Hp → Prop) (h1 : ∀ R : St → Hp → Prop,(∀ σ' H',J σ' H' → R σ' H') → t { D with nx := R } σ H) (h2 : ∀ σ' H',J σ' H' → u D σ' H') : tSeq t u D σ H := h1 _ h2
section
variable {P : Program} {w : World} {K : PySem.W.Frag} {mg : Str → Option Value} {base : Heap}
theorem scWhole : FnScope ["thing","least"] ["thing","least"] (defScope sWhole) := ⟨rfl,rfl,rfl,by decide +kernel,rfl,by decide +kernel,by decide +kernel⟩
theorem ok_whole {f : Addr} {fd : FuncData} (F : Fun K "is_whole" "is_whole" sWhole f fd) (B : Blt mg) : FnOk P w K mg base CX0 1 f fd ["thing","least"] (spWhole K) := by
  refine F.ok scWhole (fun vs H Q E h => ?_) (fun cdv A outer s H vs Q E hr h => ?_)
  · obtain ⟨x,T,l,rfl,_⟩ := h
    rfl
  obtain ⟨x,T,l,rfl,⟨tn,ty⟩,q⟩ := h
  refine ⟨_,pss_one (ps_ret (pe_and (pe_callB call_isinst rfl B.isi PyProof.Rows.boot_isinstance (pa_cons (pv 0) (pa_cons (pe_bltn (v := .ty "int") rfl B.int PyProof.Rows.boot_int rfl) pa_nil)))
    (pe_and (pe_not (pe_callB call_isinst rfl B.isi PyProof.Rows.boot_isinstance (pa_cons (pv 0) (pa_cons (pe_bltn (v := .ty "bool") rfl B.bool PyProof.Rows.boot_bool rfl) pa_nil))))
    (pe_one (pe_cmpR op_ge (pv 0) (pv 1) (nomark _)))))),?_⟩
  refine ⟨_,rfl,x,_,_,_,_,rfl,ty,rfl,kit_int T tn,_,rfl,?_⟩
  have tb := ty_bool ty
  refine ite2 (fun c => ?_) (fun c => ?_)
  · refine ⟨_,rfl,x,_,_,_,_,rfl,ty,rfl,kit_bool T tn,_,rfl,_,rfl,?_⟩
    refine ite2 (fun c2 => ?_) (fun c2 => ?_)
    · have hT : (T == "int") = true := by
        have : (T == "bool") = false := by simpa using c2
        rw [this,Bool.or_false] at c; exact c
      obtain ⟨i,rfl⟩ := ty_int ty tn hT
      exact ⟨_,rfl,_,rfl,_,_,rfl,rfl,q⟩
    · have hT : isBl x = true := by
        rw [← tb]
        cases e : (T == "bool") with
        | true => rfl
        | false => rw [e] at c2; exact absurd rfl c2
      cases x <;> first | exact q | (exact absurd hT Bool.false_ne_true)
  · have hx : whole x l = false := by
      cases x with
      | int i =>
        exfalso
        have ty' := ty
        generalize hv : Value.type T = tv at ty'
        cases ty' with
        | int => cases hv; exact c rfl
      | _ => rfl
    rw [hx] at q
    exact q
theorem scTruth : FnScope ["thing"] ["thing"] (defScope sTruth) := ⟨rfl,rfl,rfl,by decide +kernel,rfl,by decide +kernel,by decide +kernel⟩
theorem ok_truth {f : Addr} {fd : FuncData} (F : Fun K "is_truth" "is_truth" sTruth f fd) (B : Blt mg) : FnOk P w K mg base CX0 1 f fd ["thing"] (spTruth K) := by
  refine F.ok scTruth (fun vs H Q E h => ?_) (fun cdv A outer s H vs Q E hr h => ?_)
  · obtain ⟨x,T,rfl,_⟩ := h
    rfl
  obtain ⟨x,T,rfl,⟨tn,ty⟩,q⟩ := h
  refine ⟨_,pss_one (ps_ret (pe_callB call_isinst rfl B.isi PyProof.Rows.boot_isinstance (pa_cons (pv 0) (pa_cons (pe_bltn (v := .ty "bool") rfl B.bool PyProof.Rows.boot_bool rfl) pa_nil)))),?_⟩
  refine ⟨_,rfl,x,_,_,_,_,rfl,ty,rfl,kit_bool T tn,?_⟩
  rw [ty_bool ty]
  exact q
theorem scRow : FnScope ["thing"] ["thing"] (defScope sRow) := ⟨rfl,rfl,rfl,by decide +kernel,rfl,by decide +kernel,by decide +kernel⟩
theorem ok_row {f : Addr} {fd : FuncData} (F : Fun K "is_row" "is_row" sRow f fd) (B : Blt mg) : FnOk P w K mg base CX0 1 f fd ["thing"] (spRow K) := by
  refine F.ok scRow (fun vs H Q E h => ?_) (fun cdv A outer s H vs Q E hr h => ?_)
  · obtain ⟨x,T,rfl,_⟩ := h
    rfl
  obtain ⟨x,T,rfl,ty,q⟩ := h
  refine ⟨_,pss_one (ps_ret (pe_callB call_isinstT rfl B.isi PyProof.Rows.boot_isinstance (pa_cons (pv 0) (pa_cons (pe_tup (pa_cons (pe_bltn (v := .ty "list") rfl B.list PyProof.Rows.boot_list rfl) (pa_cons (pe_bltn (v := .ty "tuple") rfl B.tuple PyProof.Rows.boot_tuple rfl) pa_nil))) pa_nil)))),?_⟩
  refine ⟨_,rfl,(by show 2 ≤ sizeLine; decide),fun p hp => ?_⟩
  have s1 : Same H (upd H p (.tup [.ty "list",.ty "tuple"])) := fun b o e => by rw [upd_ne (ne_of_none e hp)]; exact e
  have t2 := Ty.same s1 ty
  exact ⟨x,p,_,_,_,_,rfl,t2.2,upd_same,rfl,kit_row T ty.1,q _ s1⟩
theorem scIsKind : FnScope ["thing","wide","high","worth","wanted","turns"] ["thing"] (defScope sIsKind) := ⟨rfl,rfl,rfl,by decide +kernel,rfl,by decide +kernel,by decide +kernel⟩
theorem ok_iskind {f : Addr} {fd : FuncData} (F : Fun K "is_kind" "is_kind" sIsKind f fd) (B : Blt mg) (DW : Dn P w K mg base "is_whole" ["thing","least"] 1 (spWhole K)) (DT : Dn P w K mg base "is_truth" ["thing"] 1 (spTruth K)) (DR : Dn P w K mg base "is_row" ["thing"] 1 (spRow K)) :
    FnOk P w K mg base CX0 2 f fd ["thing"] (spIsKind K) := by
  refine F.ok scIsKind (fun vs H Q E h => ?_) (fun cdv A outer s H vs Q E hr h => ?_)
  · obtain ⟨x,T,rfl,_⟩ := h
    rfl
  obtain ⟨x,T,rfl,ty,q⟩ := h
  obtain ⟨tk,htk⟩ := B.fivek
  have nd := scIsKind.nd
  refine ⟨_,pss_cons (ps_if (PW.pt (pw_or (pt_not (pt_val (pe_cD DR hr rfl (pa_cons (pv 0) pa_nil)))) (pw_or1 (pt_cmpR op_ne (pe_callB call_len_seq rfl B.len PySem.boot_len (pa_cons (pv 0) pa_nil)) (pe_glob (v := .int 5) rfl htk ⟨tk,rfl⟩) (nomark _))))) (pss_one (ps_ret pe_bl)) pss_nil)
    (pss_cons (ps_asg (pv 0) (pg_seq rfl (pgs_cons (pg_name (i := 1) nd rfl (Or.inl rfl)) (pgs_cons (pg_name (i := 2) nd rfl (Or.inl rfl)) (pgs_cons (pg_name (i := 3) nd rfl (Or.inl rfl)) (pgs_cons (pg_name (i := 4) nd rfl (Or.inl rfl)) (pgs_cons (pg_name (i := 5) nd rfl (Or.inl rfl)) pgs_nil)))))))
    (pss_cons (ps_if (PW.pt (pw_or (pt_not (pt_val (pe_cD DW hr rfl (pa_cons (pv 1) (pa_cons pe_int pa_nil))))) (pw_or1 (pt_not (pt_val (pe_cD DW hr rfl (pa_cons (pv 2) (pa_cons pe_int pa_nil)))))))) (pss_one (ps_ret pe_bl)) pss_nil)
    (pss_one (ps_ret (pe_and (pe_cD DW hr rfl (pa_cons (pv 3) (pa_cons pe_int pa_nil))) (pe_and (pe_cD DW hr rfl (pa_cons (pv 4) (pa_cons pe_int pa_nil))) (pe_one (pe_cD DT hr rfl (pa_cons (pv 5) pa_nil))))))))),?_⟩
  refine ⟨_,rfl,x,T,rfl,ty,fun H1 s1 => ⟨_,rfl,?_⟩⟩
  rcases q with ⟨n1,n2,q⟩ | ⟨a,xs,rfl,hx,its,q⟩
  · have e : (T == "list" || T == "tuple") = false := by simp [n1,n2]
    rw [e]
    refine iteT (iteT ?_)
    exact q H1 s1
  · have e : (T == "list" || T == "tuple") = true := by
      have t2 := ty.2
      generalize hv : Value.type T = tv at t2
      generalize hr : V.ref a = rv at t2
      cases t2 with
      | lst _ => cases hv; rfl
      | frz _ => cases hv; rfl
      | tup _ => cases hv; rfl
      | dK e => cases hr; rcases hx with z | z <;> (rw [z] at e; cases e)
      | dT e => cases hr; rcases hx with z | z <;> (rw [z] at e; cases e)
      | ins => cases hv
      | _ => cases hr
    rw [e]
    have sq : SqL K H1 a xs ∨ SqT K H1 a xs := by
      rcases hx with z | z
      · exact .inl (SqL.of (s1 _ _ z))
      · exact .inr (SqT.of (s1 _ _ z))
    refine iteF ⟨_,rfl,a,xs,rfl,sq,rfl,_,rfl,?_⟩
    refine ite2 (fun c => ?_) (fun c => ?_)
    · have hl : xs.length ≠ 5 := fun z => by rw [z] at c; exact absurd c (by decide)
      have : kind5 xs = false := by
        unfold kind5
        split
        · exact absurd rfl hl
        · rfl
      rw [this] at q
      exact q H1 s1
    · have hl : xs.length = 5 := by
        by_cases z : xs.length = 5
        · exact z
        · exfalso
          apply c
          have : ¬ (V.int (xs.length : Int) = V.int 5) := fun h => z (by have := V.int.inj h; omega)
          rw [decide_eq_false this]; rfl
      obtain ⟨x1,x2,x3,x4,x5,rfl⟩ : ∃ x1 x2 x3 x4 x5,xs = [x1,x2,x3,x4,x5] := by
        match xs,hl with
        | [a,b,c,d,e],_ => exact ⟨a,b,c,d,e,rfl⟩
      obtain ⟨T1,t1⟩ := its x1 (by simp)
      obtain ⟨T2,t2⟩ := its x2 (by simp)
      obtain ⟨T3,t3⟩ := its x3 (by simp)
      obtain ⟨T4,t4⟩ := its x4 (by simp)
      obtain ⟨T5,t5⟩ := its x5 (by simp)
      refine ⟨_,rfl,a,_,rfl,sq,rfl,x1,_,rfl,x2,_,rfl,x3,_,rfl,x4,_,rfl,x5,_,rfl,rfl,?_⟩
      refine ⟨_,rfl,x1,T1,1,rfl,Ty.same s1 t1,_,rfl,?_⟩
      have q' : ∀ b,kind5 [x1,x2,x3,x4,x5] = b → Q (.bl b) H1 := fun b e => by rw [← e]; exact q H1 s1
      have k5 : kind5 [x1,x2,x3,x4,x5] = (whole x1 1 && whole x2 1 && whole x3 0 && whole x4 0 && isBl x5) := rfl
      cases w1 : whole x1 1 with
      | false =>
        refine iteT (iteT ?_)
        exact q' false (by rw [k5,w1]; rfl)
      | true =>
        refine iteF ⟨_,rfl,x2,T2,1,rfl,Ty.same s1 t2,_,rfl,?_⟩
        cases w2 : whole x2 1 with
        | false =>
          refine iteT ?_
          exact q' false (by rw [k5,w1,w2]; rfl)
        | true =>
          refine iteF ⟨_,rfl,x3,T3,0,rfl,Ty.same s1 t3,_,rfl,?_⟩
          cases w3 : whole x3 0 with
          | false =>
            refine iteF ?_
            exact q' false (by rw [k5,w1,w2,w3]; rfl)
          | true =>
            refine iteT ⟨_,rfl,x4,T4,0,rfl,Ty.same s1 t4,_,rfl,?_⟩
            cases w4 : whole x4 0 with
            | false =>
              refine iteF ?_
              exact q' false (by rw [k5,w1,w2,w3,w4]; rfl)
            | true =>
              refine iteT ⟨_,rfl,x5,T5,rfl,Ty.same s1 t5,?_⟩
              exact q' _ (by rw [k5,w1,w2,w3,w4]; rfl)
end
section
variable {P : Program} {w : World} {K : PySem.W.Frag} {mg : Str → Option Value} {base : Heap}
theorem scInit : FnScope ["self","blade","kinds","kind"] ["self","blade","kinds"] (defScope sShopInit) := ⟨rfl,rfl,rfl,by decide +kernel,rfl,by decide +kernel,by decide +kernel⟩
theorem ok_init {f C : Addr} {fd : FuncData} (F : Fun K "__init__" "Shop.__init__" sShopInit f fd) (B : Blt mg) (T : ShopTxt K C) (DW : Dn P w K mg base "is_whole" ["thing","least"] 1 (spWhole K)) (DR : Dn P w K mg base "is_row" ["thing"] 1 (spRow K))
    (DK : Dn P w K mg base "is_kind" ["thing"] 2 (spIsKind K)) : FnOk P w K mg base CX0 3 f fd ["self","blade","kinds"] (spInit C) := by
  refine F.ok scInit (fun vs H Q E h => ?_) (fun cdv A outer s H vs Q E hr h => ?_)
  · obtain ⟨x,dx,ks,b,rs,kds,rfl,_⟩ := h
    rfl
  obtain ⟨x,dx,ks,b,rs,kds,rfl,hx,b0,hks,hrs,hgd,n1,n8,q⟩ := h
  have hr1 := hr.mono (show 1 ≤ 2 by decide)
  obtain ⟨tk,htk⟩ := B.mostk
  have nd := scInit.nd
  have n8' : (8 : Nat) < sizeLine := by decide
  refine ⟨_,pss_cons (ps_if (pt_not (pt_val (pe_cD DW hr1 rfl (pa_cons (pv 1) (pa_cons pe_int pa_nil))))) pss_never pss_nil)
    (pss_cons (ps_if (PW.pt (pw_or (pt_not (pt_val (pe_cD DR hr1 rfl (pa_cons (pv 2) pa_nil)))) (pw_or1 (pt_not (pt_chain op_le op_le pe_int (pe_callB call_len_seq rfl B.len PySem.boot_len (pa_cons (pv 2) pa_nil)) (pe_glob (v := .int 8) rfl htk ⟨tk,rfl⟩)))))) pss_never pss_nil)
    (pss_cons (ps_for PassesOwn.never rfl (pi_seq (pv 2)) (pg_name (i := 3) nd rfl (Or.inl rfl)) (pss_one (ps_if (pt_not (pt_val (pe_cD DK hr rfl (pa_cons (pv 3) pa_nil)))) pss_never pss_nil)))
    (pss_cons (ps_fld (pv 0) (pv 1) rfl)
    (pss_one (ps_fld (pv 0) (pe_callTy call_tuple_of rfl B.tuple PyProof.Rows.boot_tuple (pa_cons (pe_comp (own := ["kind"]) (cs := []) (cap := []) rfl (pi_seq (pv 2))
      (compOk_of (sc := defScope sShopInit) (N := ["self","blade","kinds","kind"]) rfl rfl (by decide +kernel))
      (fun _ _ _ _ _ => pg_name (i := 0) (by show List.Nodup (["kind"] : List Str); decide +kernel) rfl (Or.inl rfl) (Or.inr rfl)) (fun _ _ _ _ _ => pifs_nil)
      (fun _ _ _ _ _ => pe_callTy (r := rTupleOf K) call_tuple_of rfl B.tuple PyProof.Rows.boot_tuple (pa_cons (pv 0) pa_nil))) pa_nil)) rfl))))),?_⟩
  refine ⟨_,rfl,.int b,_,0,rfl,.int,_,rfl,?_⟩
  have wb : whole (.int b) 0 = true := decide_eq_true b0
  rw [wb]
  refine iteF ?_
  have tyk : ∃ T,Ty K H (.ref ks) T ∧ (T == "list" || T == "tuple") = true := by
    rcases hks with e | e
    · exact ⟨_,.lst e,rfl⟩
    · exact ⟨_,.tup e,rfl⟩
  obtain ⟨T0,ty0,te0⟩ := tyk
  refine ⟨_,rfl,.ref ks,T0,rfl,ty0,fun H1 s1 => ⟨_,rfl,?_⟩⟩
  rw [te0]
  have sq : ∀ {H2 : Hp},Same H H2 → SqL K H2 ks rs ∨ SqT K H2 ks rs := fun s2 => by
    rcases hks with z | z
    · exact .inl (SqL.of (s2 _ _ z))
    · exact .inr (SqT.of (s2 _ _ z))
  refine iteF ⟨_,rfl,ks,rs,rfl,sq s1,_,_,rfl,rfl,_,rfl,?_⟩
  rw [decide_eq_true (show (1 : Int) ≤ (rs.length : Int) by omega)]
  refine iteT ⟨_,_,rfl,rfl,_,rfl,?_⟩
  rw [decide_eq_true (show (rs.length : Int) ≤ 8 by omega)]
  refine iteF ?_
  have len2 := Paired.length hrs
  refine for_seqV (j := 2) (a := ks) (xs := rs) rfl (hks.imp (fun z => s1 _ _ z) fun z => s1 _ _ z) (fun i σ H2 => ∃ v,σ = [some (.ref x),some (.int b),some (.ref ks),v] ∧ Same H1 H2) ⟨none,rfl,Same.refl _⟩ (fun i σ H2 _ ⟨_,_,s2⟩ o e => s2 _ _ e) ?_ ?_
  · rintro i y σ H2 hi ⟨v,rfl,s2⟩
    obtain ⟨k,hk,rk⟩ := Paired.getR hrs hi
    refine ⟨_,rfl,?_⟩
    simp only [tNil,List.append_nil]
    refine isKind_of ((rk.same s1).same s2) (hgd k (List.mem_of_getElem? hk)) fun H3 s3 => ⟨_,rfl,iteF ?_⟩
    exact ⟨_,rfl,s2.trans s3⟩
  rintro σ H2 ⟨v,rfl,s12⟩
  have s2 : Same H H2 := s1.trans s12
  refine ⟨_,rfl,_,rfl,x,C,dx,[],rfl,s2 _ _ hx,T.cl,T.nB,(by show 0 < 1000; decide),?_⟩
  have k3 : ∀ c o,c ≠ x → H c = some o → (upd H2 x (.ins C dx (putF "blade_width" (.int b) []))) c = some o := fun c o n e => by rw [upd_ne n]; exact s2 c o e
  have x3 : (upd H2 x (.ins C dx (putF "blade_width" (.int b) []))) x = some (.ins C dx (putF "blade_width" (.int b) [])) := upd_same
  generalize upd H2 x (.ins C dx (putF "blade_width" (.int b) [])) = H3 at k3 x3 ⊢
  have rx : ∀ c xs,H c = some (.lst xs) ∨ H c = some (.tup xs) → c ≠ x := fun c xs e z => by
    subst z
    rcases e with e | e <;> (rw [hx] at e; cases e)
  dsimp only [sFld,tCB,tCons]
  refine comp_seqV (j := 2) (a := ks) (xs := rs) rfl (hks.imp (fun z => k3 _ _ (rx _ _ (.inl z)) z) fun z => k3 _ _ (rx _ _ (.inr z)) z) (fun i ys H4 => ys.length = i ∧ Same H3 H4 ∧ Tups H4 ys (kds.take i)) (fun i ys H4 _ ⟨_,s4,_⟩ o e => s4 _ _ e) ⟨rfl,Same.refl _,.nil⟩ ?_ ?_
  · rintro i y ys H4 hi ⟨hy,s4,ty4⟩
    have hin : i < rs.length := (List.getElem?_eq_some_iff.mp hi).1
    obtain ⟨k,hk,rk⟩ := Paired.getR hrs hi
    have tk1 : kds.take (i + 1) = kds.take i ++ [k] := by rw [List.take_add_one,hk]; rfl
    refine ⟨by omega,leS.set rfl,tYes_ite ?_⟩
    rcases rk with ⟨a,rfl,h⟩ | ⟨a,rfl,h⟩
    · have h4 := s4 _ _ (k3 _ _ (rx _ _ (.inr h)) h)
      exact ⟨_,rfl,a,_,rfl,.inr ⟨SqT.of h4,Nx.of hin ⟨by rw [List.length_append,hy]; rfl,s4,by rw [tk1]; exact Paired.snoc ty4 ⟨a,rfl,h4⟩⟩⟩⟩
    · have h4 := s4 _ _ (k3 _ _ (rx _ _ (.inl h)) h)
      refine ⟨_,rfl,a,_,rfl,.inl ⟨SqL.of h4,fun l hl => Nx.of hin ⟨by rw [List.length_append,hy]; rfl,fun c o e => ?_,?_⟩⟩⟩
      · have e4 := s4 c o e
        rw [upd_ne (ne_of_none e4 hl)]; exact e4
      · rw [tk1]
        exact Paired.snoc (Tups.keep (fun c xs e => by rw [upd_ne (ne_of_none e hl)]; exact e) ty4) ⟨l,rfl,upd_same⟩
  rintro ys H4 ⟨hy,s4,ty4⟩
  refine ⟨by omega,fun p hp => ?_⟩
  refine ⟨p,ys,rfl,.inl ⟨SqL.of upd_same,fun r hr' => ?_⟩⟩
  have hpr : r ≠ p := fun z => by rw [z,upd_same] at hr'; cases hr'
  have hr4 : H4 r = none := by rw [upd_ne hpr] at hr'; exact hr'
  have x4 := s4 _ _ x3
  have xp : x ≠ p := ne_of_none x4 hp
  have xr : x ≠ r := ne_of_none x4 hr4
  refine ⟨_,rfl,x,C,dx,_,rfl,(by rw [upd_ne xr,upd_ne xp]; exact x4),T.cl,T.nK,(Nat.lt_of_le_of_lt (length_putF _ _ _) (by decide)),?_⟩
  rw [len2,List.take_length] at ty4
  refine q _ ⟨dx,r,ys,upd_same,by rw [upd_ne (Ne.symm xr),upd_same],?_⟩ fun c o n e => ?_
  · refine Tups.keep (fun c xs e => ?_) ty4
    rw [upd_ne (fun z => by rw [z,x4] at e; cases e),upd_ne (ne_of_none e hr4),upd_ne (ne_of_none e hp)]
    exact e
  · have e4 := s4 _ _ (k3 c o n e)
    rw [upd_ne n,upd_ne (ne_of_none e4 hr4),upd_ne (ne_of_none e4 hp)]
    exact e4
theorem scBlade : FnScope ["self"] ["self"] (defScope sShopBlade) := ⟨rfl,rfl,rfl,by decide +kernel,rfl,by decide +kernel,by decide +kernel⟩
theorem ok_blade {f C : Addr} {fd : FuncData} (F : Fun K "blade" "Shop.blade" sShopBlade f fd) (T : ShopTxt K C) : FnOk P w K mg base CX0 1 f fd ["self"] (spBlade C) := by
  refine F.ok scBlade (fun vs H Q E h => ?_) (fun cdv A outer s H vs Q E hr h => ?_)
  · obtain ⟨x,b,ks,rfl,_⟩ := h
    rfl
  obtain ⟨x,b,ks,rfl,⟨dx,r,rs,h1,h2,h3⟩,q⟩ := h
  exact ⟨_,pss_one (ps_ret (pe_fld (pv 0) rfl)),_,rfl,x,C,dx,_,_,rfl,h1,T.cl,T.nB,flds_blade _ _,q⟩
theorem scKinds : FnScope ["self"] ["self"] (defScope sShopKinds) := ⟨rfl,rfl,rfl,by decide +kernel,rfl,by decide +kernel,by decide +kernel⟩
theorem ok_kinds {f C : Addr} {fd : FuncData} (F : Fun K "kinds" "Shop.kinds" sShopKinds f fd) (T : ShopTxt K C) (ml : mg "list" = none) : FnOk P w K mg base CX0 1 f fd ["self"] (spKinds C) := by
  refine F.ok scKinds (fun vs H Q E h => ?_) (fun cdv A outer s H vs Q E hr h => ?_)
  · obtain ⟨x,b,ks,rfl,_⟩ := h
    rfl
  obtain ⟨x,b,ks,rfl,⟨dx,r,rs,h1,h2,h3⟩,q⟩ := h
  refine ⟨_,pss_one (ps_ret (pe_callTy call_list_of rfl ml PyProof.Rows.boot_list (pa_cons (pe_fld (pv 0) rfl) pa_nil))),?_⟩
  exact ⟨_,rfl,x,C,dx,_,_,rfl,h1,T.cl,T.nK,flds_rows _ _,r,rs,rfl,.inr (SqT.of h2),fun l hl => q l rs hl h3⟩
end
section
variable {P : Program} {w : World} {K : PySem.W.Frag} {mg : Str → Option Value} {base : Heap}
theorem scTurned : FnScope ["kind"] ["kind"] (defScope sTurned) := ⟨rfl,rfl,rfl,by decide +kernel,rfl,by decide +kernel,by decide +kernel⟩
theorem ok_turned {f : Addr} {fd : FuncData} (F : Fun K "can_lie_turned" "can_lie_turned" sTurned f fd) : FnOk P w K mg base CX0 1 f fd ["kind"] (spTurned K) := by
  refine F.ok scTurned (fun vs H Q E h => ?_) (fun cdv A outer s H vs Q E hr h => ?_)
  · obtain ⟨a,k,rfl,_⟩ := h
    rfl
  obtain ⟨a,k,rfl,ha,q⟩ := h
  refine ⟨_,pss_one (ps_ret (pe_and (pe_ix ix_tup (pv 0) pe_int (fun _ _ => rfl)) (pe_one (pe_cmpR op_ne (pe_ix ix_tup (pv 0) pe_int (fun _ _ => rfl)) (pe_ix ix_tup (pv 0) pe_int (fun _ _ => rfl)) (nomark _))))),?_⟩
  refine ⟨_,rfl,a,_,4,_,rfl,rfl,SqT.of ha,rfl,_,rfl,?_⟩
  unfold turnable at q
  refine ite2 (fun c => ?_) (fun c => ?_)
  · rw [c,Bool.true_and] at q
    refine ⟨_,rfl,a,_,0,_,rfl,rfl,SqT.of ha,rfl,_,rfl,a,_,1,_,rfl,rfl,SqT.of ha,rfl,rfl,?_⟩
    rw [dec_int]
    rw [show (decide (k.w = k.h)) = (k.w == k.h) from rfl] at q
    exact q
  · have c' : k.tu = false := by simpa using c
    rw [c',Bool.false_and] at q
    exact q
theorem scIsLying : FnScope ["self","kind","turned"] ["self","kind","turned"] (defScope sShopIsLying) := ⟨rfl,rfl,rfl,by decide +kernel,rfl,by decide +kernel,by decide +kernel⟩
theorem ok_islying {f C : Addr} {fd : FuncData} (F : Fun K "is_lying" "Shop.is_lying" sShopIsLying f fd) (B : Blt mg) (T : ShopTxt K C) (DW : Dn P w K mg base "is_whole" ["thing","least"] 1 (spWhole K)) (DU : Dn P w K mg base "is_truth" ["thing"] 1 (spTruth K)) (DT : Dn P w K mg base "can_lie_turned" ["kind"] 1 (spTurned K)) :
    FnOk P w K mg base CX0 2 f fd ["self","kind","turned"] (spIsLying K C) := by
  refine F.ok scIsLying (fun vs H Q E h => ?_) (fun cdv A outer s H vs Q E hr h => ?_)
  · obtain ⟨s,b,ks,x,t,T0,U,rfl,_⟩ := h
    rfl
  obtain ⟨s,b,ks,x,t,T0,U,rfl,⟨dx,r,rs,h1,h2,h3⟩,tx,tt,q⟩ := h
  have len3 := Paired.length h3
  refine ⟨_,pss_cons (ps_if (PW.pt (pw_or (pt_not (pt_val (pe_cD DW hr rfl (pa_cons (pv 1) (pa_cons pe_int pa_nil))))) (pw_or (pt_cmpR op_ge (pv 1) (pe_callB call_len_seq rfl B.len PySem.boot_len (pa_cons (pe_fld (pv 0) rfl) pa_nil)) (nomark _))
      (pw_or1 (pt_not (pt_val (pe_cD DU hr rfl (pa_cons (pv 2) pa_nil)))))))) (pss_one (ps_ret pe_bl)) pss_nil)
    (pss_one (ps_ret (pe_or (pe_not (pv 2)) (pe_one (pe_cD DT hr rfl (pa_cons (pe_ix ix_tup (pe_fld (pv 0) rfl) (pv 1) (fun _ _ => rfl)) pa_nil)))))),?_⟩
  refine ⟨_,rfl,x,_,0,rfl,tx,_,rfl,?_⟩
  cases hw : whole x 0 with
  | false =>
    have e : isLy ks x t = false := by
      cases x with
      | int i =>
        have h0 : decide (0 ≤ i) = false := hw
        cases t <;> first | rfl | (show (decide (0 ≤ i) && _) = false; rw [h0,Bool.false_and])
      | _ => rfl
    rw [e] at q
    exact iteT (iteT q)
  | true =>
    have ex : ∃ i,x = .int i ∧ 0 ≤ i := by
      cases x with
      | int i => exact ⟨i,rfl,of_decide_eq_true hw⟩
      | _ => cases hw
    obtain ⟨i,rfl,i0⟩ := ex
    refine iteF ⟨_,rfl,_,rfl,s,C,dx,_,_,rfl,h1,T.cl,T.nK,flds_rows _ _,r,rs,rfl,.inr (SqT.of h2),i,_,rfl,rfl,_,rfl,?_⟩
    by_cases hi : (rs.length : Int) ≤ i
    · rw [decide_eq_true hi]
      have e : isLy ks (.int i) t = false := by
        have hn : ks[i.toNat]? = none := List.getElem?_eq_none (by omega)
        cases t <;> first | rfl | (show (decide (0 ≤ i) && match ks[i.toNat]? with | some k => _ | none => false) = false; rw [hn,Bool.and_false])
      rw [e] at q
      exact iteT (iteT q)
    · rw [decide_eq_false hi]
      refine iteF ⟨_,rfl,t,_,rfl,tt,_,rfl,?_⟩
      have hlt : i.toNat < ks.length := by omega
      cases hb : isBl t with
      | false =>
        have e : isLy ks (.int i) t = false := by cases t <;> first | rfl | cases hb
        rw [e] at q
        exact iteT q
      | true =>
        have ex : ∃ c,t = .bl c := by cases t <;> first | exact ⟨_,rfl⟩ | cases hb
        obtain ⟨c,rfl⟩ := ex
        obtain ⟨y,hy⟩ : ∃ y,rs[i.toNat]? = some y := ⟨rs[i.toNat]'(by omega),by simp [show i.toNat < rs.length by omega]⟩
        obtain ⟨k,hk,a,rfl,ha⟩ := Paired.getR h3 hy
        have e : isLy ks (.int i) (.bl c) = (!c || turnable k) := by
          show (decide (0 ≤ i) && match ks[i.toNat]? with | some k => (!c || turnable k) | none => false) = _
          rw [hk,decide_eq_true i0,Bool.true_and]
        rw [e] at q
        refine iteF ⟨_,rfl,c,rfl,_,rfl,?_⟩
        refine ite2 (fun d => ?_) (fun d => ?_)
        · rw [d,Bool.true_or] at q
          exact q
        · have d' : (!c) = false := by simpa using d
          rw [d',Bool.false_or] at q
          have at' : atI rs i = some (.ref a) := by
            have en : ixN rs.length i = some i.toNat := by
              unfold ixN
              rw [if_pos i0,if_pos (by omega)]
            unfold atI
            rw [en]
            exact hy
          exact ⟨_,rfl,s,C,dx,_,_,rfl,h1,T.cl,T.nK,flds_rows _ _,_,rfl,r,rs,i,_,rfl,rfl,SqT.of h2,at',a,k,rfl,ha,q⟩
end
def sidesV (k : Kd) (c : Bool) : List V := if c = true then [.int k.h,.int k.w] else [.int k.w,.int k.h]
def spSides (K : PySem.W.Frag) (C NL : Addr) : Sp := fun vs H Q E => ∃ (s : Addr) (b : Int) (ks : List Kd) (x t : V) (T U : String),vs = [.ref s,x,t] ∧ ShopAt C H s b ks ∧ Ty K H x T ∧ Ty K H t U ∧
  (isLy ks x t = false → E (.ref NL) none H) ∧ ∀ (i : Int) (c : Bool) (k : Kd) (p : Addr),x = .int i → t = .bl c → ks[i.toNat]? = some k → isLy ks x t = true → H p = none → Q (.ref p) (upd H p (.tup (sidesV k c)))
theorem isLy_true {ks : List Kd} {x t : V} (h : isLy ks x t = true) : ∃ (i : Int) (c : Bool) (k : Kd),x = .int i ∧ t = .bl c ∧ 0 ≤ i ∧ ks[i.toNat]? = some k := by
  unfold isLy at h
  split at h
  · rename_i i c
    rw [Bool.and_eq_true] at h
    obtain ⟨h1,h2⟩ := h
    split at h2
    · rename_i k hk
      exact ⟨i,c,k,rfl,rfl,of_decide_eq_true h1,hk⟩
    · cases h2
  · cases h
theorem atI_of {rs : List V} {i : Int} {v : V} (i0 : 0 ≤ i) (h : rs[i.toNat]? = some v) : atI rs i = some v := by
  have en : ixN rs.length i = some i.toNat := by
    unfold ixN
    have := (List.getElem?_eq_some_iff.mp h).1
    rw [if_pos i0,if_pos (by omega)]
  unfold atI
  rw [en]
  exact h
section
variable {P : Program} {w : World} {K : PySem.W.Frag} {mg : Str → Option Value} {base : Heap}
theorem scSides : FnScope ["self","kind","turned","row"] ["self","kind","turned"] (defScope sShopSides) := ⟨rfl,rfl,rfl,by decide +kernel,rfl,by decide +kernel,by decide +kernel⟩
theorem ok_sides {f C NL : Addr} {fd : FuncData} (F : Fun K "sides" "Shop.sides" sShopSides f fd) (T : ShopTxt K C) (ML : Mn P w K mg base C "is_lying" ["self","kind","turned"] 2 (spIsLying K C)) (mn : mg "NoLying" = some (.ref NL)) (ec : ExcC K NL) :
    FnOk P w K mg base (CXx P w) 3 f fd ["self","kind","turned"] (spSides K C NL) := by
  refine F.okX scSides (fun vs H Q E h => ?_) (fun cdv A outer s H vs Q E hr h => ?_)
  · obtain ⟨s,b,ks,x,t,T0,U,rfl,_⟩ := h
    rfl
  obtain ⟨s,b,ks,x,t,T0,U,rfl,S,tx,tt,he,hq⟩ := h
  have nd := scSides.nd
  refine ⟨_,pss_cons (ps_if (pt_not (pt_val (pe_mD (pv 0) T.cl ML hr (pa_cons (pv 1) (pa_cons (pv 2) pa_nil))))) (pss_one (ps_raise (R := fun c H => E c none H) rfl rfl mn ec (pa_cons pe_str pa_nil) raise_ends)) pss_nil)
    (pss_cons (ps_set (i := 3) nd rfl (Or.inl rfl) (pe_ix ix_tup (pe_fld (pv 0) rfl) (pv 1) (fun _ _ => rfl)))
    (pss_cons (ps_if (pt_val (pv 2)) (pss_one (ps_ret (pe_tup (pa_cons (pe_ix ix_tup (pv 3) pe_int (fun _ _ => rfl)) (pa_cons (pe_ix ix_tup (pv 3) pe_int (fun _ _ => rfl)) pa_nil))))) pss_nil)
    (pss_one (ps_ret (pe_tup (pa_cons (pe_ix ix_tup (pv 3) pe_int (fun _ _ => rfl)) (pa_cons (pe_ix ix_tup (pv 3) pe_int (fun _ _ => rfl)) pa_nil))))))),?_⟩
  obtain ⟨dx,r,rs,h1,h2,h3⟩ := id S
  refine ⟨_,rfl,s,dx,_,rfl,h1,flds_no _ _ (by decide +kernel) (by decide +kernel),_,rfl,_,rfl,s,b,ks,x,t,T0,U,rfl,S,tx,tt,_,rfl,?_⟩
  cases hl : isLy ks x t with
  | false =>
    refine iteT ?_
    exact ⟨(by show 1 ≤ sizeLine; decide),he hl⟩
  | true =>
    obtain ⟨i,c,k,rfl,rfl,i0,hk⟩ := isLy_true hl
    have len3 := Paired.length h3
    have hik := (List.getElem?_eq_some_iff.mp hk).1
    obtain ⟨y,hy⟩ : ∃ y,rs[i.toNat]? = some y := ⟨rs[i.toNat]'(by omega),by simp [show i.toNat < rs.length by omega]⟩
    obtain ⟨k',hk',a,rfl,ha⟩ := Paired.getR h3 hy
    rw [hk] at hk'
    obtain rfl := Option.some.inj hk'
    refine iteF ?_
    refine ⟨_,rfl,s,C,dx,_,_,rfl,h1,T.cl,T.nK,flds_rows _ _,_,rfl,r,rs,i,_,rfl,rfl,SqT.of h2,atI_of i0 hy,?_⟩
    refine ⟨_,rfl,_,rfl,?_⟩
    cases c with
    | true =>
      refine iteT ?_
      refine ⟨_,rfl,a,_,1,_,rfl,rfl,SqT.of ha,rfl,_,rfl,a,_,0,_,rfl,rfl,SqT.of ha,rfl,(by show 2 ≤ sizeLine; decide),fun p hp => ?_⟩
      exact hq i true k p rfl rfl hk hl hp
    | false =>
      refine iteF ?_
      refine ⟨_,rfl,a,_,0,_,rfl,rfl,SqT.of ha,rfl,_,rfl,a,_,1,_,rfl,rfl,SqT.of ha,rfl,(by show 2 ≤ sizeLine; decide),fun p hp => ?_⟩
      exact hq i false k p rfl rfl hk hl hp
end
mutual
inductive Dt (p : Addr) (H : Hp) : V → PyData → Prop
  | non : Dt p H .non .none
  | bl (b : Bool) : Dt p H (.bl b) (.bool b)
  | int (i : Int) : Dt p H (.int i) (.int i)
  | str (z : Str) : Dt p H (.str z) (.str z)
  | lst {a : Addr} {xs : List V} {ds : List PyData} : a ≠ p → H a = some (.lst xs) → Dts p H xs ds → Dt p H (.ref a) (.list ds)
  | tup {a : Addr} {xs : List V} {ds : List PyData} : H a = some (.tup xs) → Dts p H xs ds → Dt p H (.ref a) (.tuple ds)
  | emp {a : Addr} : H a = some (.dK []) → Dt p H (.ref a) (.dict [])
inductive Dts (p : Addr) (H : Hp) : List V → List PyData → Prop
  | nil : Dts p H [] []
  | cons {x : V} {d : PyData} {xs : List V} {ds : List PyData} : Dt p H x d → Dts p H xs ds → Dts p H (x :: xs) (d :: ds)
end
mutual
theorem Dt.same {p : Addr} {H H' : Hp} (s : Same H H') : ∀ {v : V} {d : PyData},Dt p H v d → Dt p H' v d
  | _,_,.non => .non
  | _,_,.bl b => .bl b
  | _,_,.int i => .int i
  | _,_,.str z => .str z
  | _,_,.lst n h r => .lst n (s _ _ h) (r.same s)
  | _,_,.tup h r => .tup (s _ _ h) (r.same s)
  | _,_,.emp h => .emp (s _ _ h)
theorem Dts.same {p : Addr} {H H' : Hp} (s : Same H H') : ∀ {vs : List V} {ds : List PyData},Dts p H vs ds → Dts p H' vs ds
  | _,_,.nil => .nil
  | _,_,.cons a r => .cons (a.same s) (r.same s)
end
theorem Dts.length {p : Addr} {H : Hp} : ∀ {vs : List V} {ds : List PyData},Dts p H vs ds → vs.length = ds.length
  | _,_,.nil => rfl
  | _,_,.cons _ r => by rw [List.length_cons,List.length_cons,r.length]
theorem Dt.ty {K : PySem.W.Frag} {p : Addr} {H : Hp} {v : V} {d : PyData} (h : Dt p H v d) : ∃ T,Ty K H v T := by
  cases h with
  | non => exact ⟨_,Ty.non⟩
  | bl b => exact ⟨_,Ty.bl⟩
  | int i => exact ⟨_,Ty.int⟩
  | str z => exact ⟨_,Ty.str⟩
  | lst _ h _ => exact ⟨_,Ty.lst h⟩
  | tup h _ => exact ⟨_,Ty.tup h⟩
  | emp h => exact ⟨_,Ty.dK h⟩
mutual
theorem Dt.but {p : Addr} {H H' : Hp} (hp : ∃ xs,H p = some (.lst xs)) (b : But p H H') : ∀ {v : V} {d : PyData},Dt p H v d → Dt p H' v d
  | _,_,.non => .non
  | _,_,.bl b => .bl b
  | _,_,.int i => .int i
  | _,_,.str z => .str z
  | _,_,.lst n h r => .lst n (b _ _ n h) (r.but hp b)
  | _,_,.tup h r => .tup (b _ _ (fun z => by obtain ⟨_,e⟩ := hp; rw [z,e] at h; cases h) h) (r.but hp b)
  | _,_,.emp h => .emp (b _ _ (fun z => by obtain ⟨_,e⟩ := hp; rw [z,e] at h; cases h) h)
theorem Dts.but {p : Addr} {H H' : Hp} (hp : ∃ xs,H p = some (.lst xs)) (b : But p H H') : ∀ {vs : List V} {ds : List PyData},Dts p H vs ds → Dts p H' vs ds
  | _,_,.nil => .nil
  | _,_,.cons a r => .cons (a.but hp b) (r.but hp b)
end
mutual
def wt : PyData → Nat
  | .str z => z.length + 1
  | .list ds => wts ds + 1
  | .tuple ds => wts ds + 1
  | _ => 1
def wts : List PyData → Nat
  | [] => 0
  | d :: r => wt d + wts r
end
theorem wtpos (d : PyData) : 1 ≤ wt d := by cases d <;> simp only [wt] <;> omega
def rowOf : PyData → Option (List PyData)
  | .list ds => some ds
  | .tuple ds => some ds
  | _ => none
theorem rowOf_lt {d x : PyData} {ds : List PyData} (h : rowOf d = some ds) (hx : x ∈ ds) : sizeOf x < sizeOf d := by
  have := List.sizeOf_lt_of_mem hx
  cases d <;> simp only [rowOf,Option.some.injEq,reduceCtorEq] at h
  · subst h; simp; omega
  · subst h; simp; omega
theorem Dt.row {K : PySem.W.Frag} {p : Addr} {H : Hp} {v : V} {d : PyData} (h : Dt p H v d) : (rowOf d = none ∧ ∃ T,Ty K H v T ∧ (T == "list" || T == "tuple") = false) ∨ ∃ a xs ds T,rowOf d = some ds ∧ v = .ref a ∧ (H a = some (.lst xs) ∨ H a = some (.tup xs)) ∧ Dts p H xs ds ∧ Ty K H v T ∧ (T == "list" || T == "tuple") = true := by
  cases h with
  | non => exact .inl ⟨rfl,_,Ty.non,rfl⟩
  | bl b => exact .inl ⟨rfl,_,Ty.bl,rfl⟩
  | int i => exact .inl ⟨rfl,_,Ty.int,rfl⟩
  | str z => exact .inl ⟨rfl,_,Ty.str,rfl⟩
  | lst _ h r => exact .inr ⟨_,_,_,_,rfl,rfl,.inl h,r,Ty.lst h,rfl⟩
  | tup h r => exact .inr ⟨_,_,_,_,rfl,rfl,.inr h,r,Ty.tup h,rfl⟩
  | emp h => exact .inl ⟨rfl,_,Ty.dK h,rfl⟩
def bw (d : PyData) (z : Str) (n : Nat) : Bool := match rowOf d with
  | some (.str y :: r) => decide (r.length + 1 = n) && decide (y = z)
  | _ => false
section
variable {P : Program} {w : World} {K : PySem.W.Frag} {mg : Str → Option Value} {base : Heap}
def spBegins : Sp := fun vs H Q _ => ∃ (pp : Addr) (v : V) (d : PyData) (z : Str) (n : Nat),vs = [v,.str z,.int n] ∧ 1 ≤ n ∧ Dt pp H v d ∧ ∀ H',Same H H' → Q (.bl (bw d z n)) H'
theorem scbegins : FnScope ["thing","word","many"] ["thing","word","many"] (defScope sBeginsWith) := ⟨rfl,rfl,rfl,by decide +kernel,rfl,by decide +kernel,by decide +kernel⟩
theorem ok_begins {f : Addr} {fd : FuncData} (F : Fun K "begins_with" "begins_with" sBeginsWith f fd) (B : Blt mg) (bs : mg "str" = none) (DR : Dn P w K mg base "is_row" ["thing"] 1 (spRow K)) : FnOk P w K mg base CX0 2 f fd ["thing","word","many"] (spBegins) := by
  refine F.ok scbegins (fun vs H Q E h => ?_) (fun cdv A outer s H vs Q E hr h => ?_)
  · obtain ⟨pp,v,d,z,n,rfl,_⟩ := h
    rfl
  obtain ⟨pp,v,d,z,n,rfl,n1,hd,q⟩ := h
  have nd := scbegins.nd
  refine ⟨_,(@pss_cons _ _ _ _ _ (@ps_if _ _ _ _ _ _ _ _ (PW.pt (pw_or (@pt_not _ _ _ _ (@pt_val _ _ _ (@pe_cD _ _ _ _ _ _ _ _ _ _ DR hr rfl (@pa_cons _ _ _ _ _ (pv 0) pa_nil rfl) (by decide) rfl rfl) (by intro _; rfl))) (pw_or1 (@pt_cmpR _ _ _ _ _ _ _ _ op_ne (@pe_callB _ _ _ _ _ _ _ _ _ call_len_seq rfl B.len PySem.boot_len (@pa_cons _ _ _ _ _ (pv 0) pa_nil rfl) (by decide) (by decide) rfl rfl) (pv 2) (nomark _))))) (@pss_one _ _ _ (@ps_ret _ _ _ _ pe_bl)) pss_nil) (@pss_one _ _ _ (@ps_ret _ _ _ _ (pe_and (@pe_callB _ _ _ _ _ _ _ _ _ call_isinst rfl B.isi PyProof.Rows.boot_isinstance (@pa_cons _ _ _ _ _ (@pe_ix _ _ _ _ _ _ _ ix_seq (pv 0) pe_int (fun _ _ => rfl)) (@pa_cons _ _ _ _ _ (pe_bltn (v := .ty "str") rfl bs PyProof.Rows.boot_str rfl) pa_nil rfl) rfl) (by decide) (by decide) rfl rfl) (pe_one (@pe_cmpR _ _ _ _ _ _ _ _ op_eq (@pe_ix _ _ _ _ _ _ _ ix_seq (pv 0) pe_int (fun _ _ => rfl)) (pv 1) (nomark _))))))),?_⟩
  rcases hd.row (K := K) with ⟨e,T,ty,hT⟩ | ⟨a,xs,ds,T,e,rfl,hx,dx,ty,hT⟩
  · refine ⟨_,rfl,v,T,rfl,ty,fun H1 s1 => ⟨_,rfl,?_⟩⟩
    rw [hT]
    have q1 := q H1 s1
    unfold bw at q1
    rw [e] at q1
    exact iteT (iteT q1)
  refine ⟨_,rfl,_,T,rfl,ty,fun H1 s1 => ⟨_,rfl,?_⟩⟩
  rw [hT]
  have sq : SqL K H1 a xs ∨ SqT K H1 a xs := hx.imp (fun z => SqL.of (s1 _ _ z)) fun z => SqT.of (s1 _ _ z)
  refine iteF ⟨_,rfl,a,_,rfl,sq,_,rfl,rfl,_,rfl,?_⟩
  have q1 := q H1 s1
  have len := dx.length
  cases dx with
  | nil =>
    rw [show decide (V.int (([] : List V).length : Int) = V.int (n : Int)) = false from decide_eq_false (fun z => by have := V.int.inj z; simp at this; omega)]
    unfold bw at q1
    rw [e] at q1
    exact iteT q1
  | @cons x d1 xs ds hd1 dr =>
    have a0 : atI (x :: xs) 0 = some x := atI_int (Int.le_refl _) rfl
    have ixs : ∀ Q' : VK,Q' x H1 → rIx K (.ref a) (.int 0) H1 Q' := fun Q' h => sq.elim (fun z => .inl ⟨a,_,0,x,rfl,rfl,z,a0,h⟩) (fun z => .inr (.inl ⟨a,_,0,x,rfl,rfl,z,a0,h⟩))
    rw [List.length_cons,List.length_cons] at len
    by_cases hn : ds.length + 1 = n
    · rw [show decide (V.int ((x :: xs).length : Int) = V.int (n : Int)) = true from decide_eq_true (by rw [List.length_cons,len,hn])]
      refine iteF ⟨_,rfl,ixs _ ?_⟩
      cases hd1 with
      | str y =>
        refine ⟨_,_,_,_,_,rfl,(Ty.str (K := K)).2,rfl,kit_str "str" (by simp [tyNames]),_,rfl,iteT ?_⟩
        refine ⟨_,rfl,ixs _ ⟨_,rfl,rfl,?_⟩⟩
        unfold bw at q1
        rw [e] at q1
        simp only [hn,decide_true,Bool.true_and] at q1
        rw [show decide (V.str y = V.str z) = decide (y = z) from decide_eq_decide.mpr ⟨V.str.inj,congrArg _⟩]
        exact q1
      | non => exact ⟨_,_,_,_,_,rfl,(Ty.non (K := K)).2,rfl,kit_str "NoneType" (by simp [tyNames]),_,rfl,iteF (by unfold bw at q1; rw [e] at q1; exact q1)⟩
      | bl b => exact ⟨_,_,_,_,_,rfl,(Ty.bl (K := K)).2,rfl,kit_str "bool" (by simp [tyNames]),_,rfl,iteF (by unfold bw at q1; rw [e] at q1; exact q1)⟩
      | int i => exact ⟨_,_,_,_,_,rfl,(Ty.int (K := K)).2,rfl,kit_str "int" (by simp [tyNames]),_,rfl,iteF (by unfold bw at q1; rw [e] at q1; exact q1)⟩
      | lst _ h r => exact ⟨_,_,_,_,_,rfl,(Ty.lst (s1 _ _ h) (K := K)).2,rfl,kit_str "list" (by simp [tyNames]),_,rfl,iteF (by unfold bw at q1; rw [e] at q1; exact q1)⟩
      | tup h r => exact ⟨_,_,_,_,_,rfl,(Ty.tup (s1 _ _ h) (K := K)).2,rfl,kit_str "tuple" (by simp [tyNames]),_,rfl,iteF (by unfold bw at q1; rw [e] at q1; exact q1)⟩
      | emp h => exact ⟨_,_,_,_,_,rfl,(Ty.dK (s1 _ _ h) (K := K)).2,rfl,kit_str "dict" (by simp [tyNames]),_,rfl,iteF (by unfold bw at q1; rw [e] at q1; exact q1)⟩
    · rw [show decide (V.int ((x :: xs).length : Int) = V.int (n : Int)) = false from decide_eq_false (fun z => hn (by have := V.int.inj z; rw [List.length_cons,len] at this; omega))]
      refine iteT ?_
      have z : bw d z n = false := by
        unfold bw
        rw [e]
        cases d1 <;> simp [hn]
      rw [z] at q1
      exact q1
def sd1 (k : Kd) (c : Bool) : Int := if c = true then k.h else k.w
def sd2 (k : Kd) (c : Bool) : Int := if c = true then k.w else k.h
theorem sides_eq (k : Kd) (c : Bool) : sidesV k c = [.int (sd1 k c),.int (sd2 k c)] := by cases c <;> rfl
def lieV (ks : List Kd) (w h : Int) (kv tv xv yv : V) : Bool := isLy ks kv tv && whole xv 0 && whole yv 0 && (match kv,tv,xv,yv with
  | .int i,.bl c,.int x,.int y => (match ks[i.toNat]? with
    | some k => decide (x + sd1 k c ≤ w) && decide (y + sd2 k c ≤ h)
    | none => false)
  | _,_,_,_ => false)
def spLiesG (K : PySem.W.Frag) (C : Addr) : Sp := fun vs H Q _ => ∃ (s : Addr) (b : Int) (ks : List Kd) (w h : Int) (kv tv xv yv : V) (T1 T2 T3 T4 : String),vs = [.ref s,.int w,.int h,kv,tv,xv,yv] ∧ ShopAt C H s b ks ∧ Ty K H kv T1 ∧ Ty K H tv T2 ∧ Ty K H xv T3 ∧ Ty K H yv T4 ∧ ∀ H',Same H H' → Q (.bl (lieV ks w h kv tv xv yv)) H'
theorem scliesG : FnScope ["shop","wide","high","kind","turned","x","y","piece_wide","piece_high"] ["shop","wide","high","kind","turned","x","y"] (defScope sLiesIn) := ⟨rfl,rfl,rfl,by decide +kernel,rfl,by decide +kernel,by decide +kernel⟩
theorem ok_liesG {f C NL : Addr} {fd : FuncData} (F : Fun K "lies_in" "lies_in" sLiesIn f fd) (T : ShopTxt K C) (DW : Dn P w K mg base "is_whole" ["thing","least"] 1 (spWhole K)) (MI : Mn P w K mg base C "is_lying" ["self","kind","turned"] 2 (spIsLying K C)) (MS : MnX P w K mg base C "sides" ["self","kind","turned"] 3 (spSides K C NL)) : FnOk P w K mg base CX0 4 f fd ["shop","wide","high","kind","turned","x","y"] (spLiesG K C) := by
  refine F.ok scliesG (fun vs H Q E h => ?_) (fun cdv A outer s H vs Q E hr h => ?_)
  · obtain ⟨s,b,ks,w1,h1,kv,tv,xv,yv,T1,T2,T3,T4,rfl,_⟩ := h
    rfl
  obtain ⟨s,b,ks,w1,h1',kv,tv,xv,yv,T1,T2,T3,T4,rfl,S,t1,t2,t3,t4,q⟩ := h
  have nd := scliesG.nd
  have hr1 := hr.mono (show 1 ≤ 3 by decide)
  have hr2 := hr.mono (show 2 ≤ 3 by decide)
  refine ⟨_,(@pss_cons _ _ _ _ _ (@ps_if _ _ _ _ _ _ _ _ (PW.pt (pw_or (@pt_not _ _ _ _ (@pt_val _ _ _ (pe_mD (pv 0) T.cl MI hr2 (@pa_cons _ _ _ _ _ (pv 3) (@pa_cons _ _ _ _ _ (pv 4) pa_nil rfl) rfl)) (by intro _; rfl))) (pw_or (@pt_not _ _ _ _ (@pt_val _ _ _ (@pe_cD _ _ _ _ _ _ _ _ _ _ DW hr1 rfl (@pa_cons _ _ _ _ _ (pv 5) (@pa_cons _ _ _ _ _ pe_int pa_nil rfl) rfl) (by decide) rfl rfl) (by intro _; rfl))) (pw_or1 (@pt_not _ _ _ _ (@pt_val _ _ _ (@pe_cD _ _ _ _ _ _ _ _ _ _ DW hr1 rfl (@pa_cons _ _ _ _ _ (pv 6) (@pa_cons _ _ _ _ _ pe_int pa_nil rfl) rfl) (by decide) rfl rfl) (by intro _; rfl))))))) (@pss_one _ _ _ (@ps_ret _ _ _ _ pe_bl)) pss_nil) (@pss_cons _ _ _ _ _ (@ps_asg _ _ _ _ _ _ (pe_mDX (pv 0) T.cl MS hr (@pa_cons _ _ _ _ _ (pv 3) (@pa_cons _ _ _ _ _ (pv 4) pa_nil rfl) rfl)) (pg_tup rfl (pgs_cons (pg_name (i := 7) nd rfl (Or.inl rfl)) (pgs_cons (pg_name (i := 8) nd rfl (Or.inl rfl)) pgs_nil))) rfl rfl rfl) (@pss_one _ _ _ (@ps_ret _ _ _ _ (pe_and (@pe_cmpR _ _ _ _ _ _ _ _ op_le (@pe_op _ _ _ _ _ _ _ _ op_add (pv 5) (pv 7)) (pv 1) (nomark _)) (pe_one (@pe_cmpR _ _ _ _ _ _ _ _ op_le (@pe_op _ _ _ _ _ _ _ _ op_add (pv 6) (pv 8)) (pv 2) (nomark _)))))))),?_⟩
  obtain ⟨dx,r,rs,h1,h2,h3⟩ := id S
  refine ⟨_,rfl,s,dx,_,rfl,h1,(flds_no _ _ (by decide +kernel) (by decide +kernel)),_,rfl,_,rfl,s,b,ks,kv,tv,T1,T2,rfl,S,t1,t2,_,rfl,?_⟩
  cases ly : isLy ks kv tv with
  | false =>
    have q1 := q H (Same.refl _)
    unfold lieV at q1
    rw [ly] at q1
    exact iteT (iteT q1)
  | true =>
  refine iteF ⟨_,rfl,xv,T3,0,rfl,t3,_,rfl,?_⟩
  cases hx : whole xv 0 with
  | false =>
    have q1 := q H (Same.refl _)
    unfold lieV at q1
    rw [ly,hx] at q1
    exact iteT (iteT q1)
  | true =>
  refine iteF ⟨_,rfl,yv,T4,0,rfl,t4,_,rfl,?_⟩
  cases hy : whole yv 0 with
  | false =>
    have q1 := q H (Same.refl _)
    unfold lieV at q1
    rw [ly,hx,hy] at q1
    exact iteT q1
  | true =>
  refine iteF ?_
  obtain ⟨i,c,k,rfl,rfl,i0,hk⟩ := isLy_true ly
  obtain ⟨x1,rfl⟩ : ∃ i,xv = .int i := by cases xv <;> first | exact ⟨_,rfl⟩ | cases hx
  obtain ⟨y1,rfl⟩ : ∃ i,yv = .int i := by cases yv <;> first | exact ⟨_,rfl⟩ | cases hy
  refine ⟨_,rfl,s,dx,_,rfl,h1,(flds_no _ _ (by decide +kernel) (by decide +kernel)),_,rfl,_,rfl,s,b,ks,.int i,.bl c,T1,T2,rfl,S,t1,t2,fun z => absurd z (by rw [ly]; decide),fun i' c' k' p e1 e2 hk' _ hp => ?_⟩
  cases e1
  cases e2
  rw [hk] at hk'
  cases hk'
  rw [sides_eq]
  have q1 := q _ (Same.new hp (o := .tup [.int (sd1 k c),.int (sd2 k c)]))
  refine ⟨p,_,rfl,SqT.of upd_same,rfl,_,_,rfl,_,_,rfl,rfl,?_⟩
  refine ⟨_,rfl,_,rfl,_,_,rfl,rfl,_,rfl,_,_,rfl,rfl,_,rfl,?_⟩
  unfold lieV at q1
  rw [ly,hx,hy] at q1
  simp only [hk,Bool.true_and] at q1
  refine ite2 (fun cc => ?_) (fun cc => ?_)
  · refine ⟨_,rfl,_,rfl,_,_,rfl,rfl,_,rfl,_,_,rfl,rfl,?_⟩
    rw [cc,Bool.true_and] at q1
    exact q1
  · rw [show decide (x1 + sd1 k c ≤ w1) = false by simpa using cc,Bool.false_and] at q1
    exact q1
end
section
variable {P : Program} {w : World} {K : PySem.W.Frag} {mg : Str → Option Value} {base : Heap}
structure TrC (K : PySem.W.Frag) (mg : Str → Option Value) (wa : Addr) : Prop where
  dn : ∃ t,mg "DOWN" = some (.str "down" t)
  rs : ∃ t,mg "REST" = some (.str "rest" t)
  pc : ∃ t,mg "PIECE" = some (.str "piece" t)
  n1 : ∃ t,mg "THINGS_OF_A_REST" = some (.int 1 t)
  n5 : ∃ t,mg "THINGS_OF_A_PIECE" = some (.int 5 t)
  n4 : ∃ t,mg "THINGS_OF_A_CUT" = some (.int 4 t)
  wy : mg "WAYS" = some (.ref wa)
  wq : ∀ H,SqT K H wa [.str "down",.str "across"]
def cutP (b side : Int) : PyData → Bool
  | .int p => decide (1 ≤ p) && decide (p + b < side)
  | _ => false
def cutOk (b side : Int) (d : PyData) : Bool := match rowOf d with
  | some [_,p,_,_] => cutP b side p
  | _ => false
def isC (b w h : Int) (d : PyData) : Bool := if bw d "down" 4 = true then cutOk b w d else if bw d "across" 4 = true then cutOk b h d else false
def lieD (ks : List Kd) (w h : Int) : PyData → PyData → PyData → PyData → Bool
  | .int i,.bool c,.int x,.int y => lieV ks w h (.int i) (.bl c) (.int x) (.int y)
  | _,_,_,_ => false
def isL (ks : List Kd) (w h : Int) (d : PyData) : Bool := if bw d "piece" 5 = true then (match rowOf d with
  | some [_,k,t,x,y] => lieD ks w h k t x y
  | _ => false) else bw d "rest" 1
def spParts2 : Sp := fun vs H Q _ => ∃ (b w h p : Int) (t : Addr) (dn : Bool),vs = [.int b,.ref t,.str (if dn = true then "down" else "across"),.int p] ∧ H t = some (.tup [.int w,.int h]) ∧
  ∀ (u t1 t2 : Addr) (H' : Hp),H' u = some (.tup [.ref t1,.ref t2]) → H' t1 = some (.tup (if dn = true then [.int p,.int h] else [.int w,.int p])) → H' t2 = some (.tup (if dn = true then [.int (w - p - b),.int h] else [.int w,.int (h - p - b)])) → Same H H' → Q (.ref u) H'
def spCut : Sp := fun vs H Q _ => ∃ (pp : Addr) (b x y w h : Int) (sp : Addr) (v : V) (d : PyData),vs = [.int b,.ref sp] ∧ H sp = some (.tup [.int x,.int y,.int w,.int h,v]) ∧ Dt pp H v d ∧ ∀ H',Same H H' → Q (.bl (isC b w h d)) H'
def spLeaf (C : Addr) : Sp := fun vs H Q _ => ∃ (pp : Addr) (b' x y w h : Int) (s sp : Addr) (ks : List Kd) (v : V) (d : PyData),vs = [.ref s,.ref sp] ∧ ShopAt C H s b' ks ∧ H sp = some (.tup [.int x,.int y,.int w,.int h,v]) ∧ Dt pp H v d ∧ ∀ H',Same H H' → Q (.bl (isL ks w h d)) H'
def spBehind : Sp := fun vs H Q _ => ∃ (b x y w h p : Int) (sp a : Addr) (dn : Bool) (l r : V),vs = [.int b,.ref sp] ∧ H sp = some (.tup [.int x,.int y,.int w,.int h,.ref a]) ∧ (H a = some (.lst [.str (if dn = true then "down" else "across"),.int p,l,r]) ∨ H a = some (.tup [.str (if dn = true then "down" else "across"),.int p,l,r])) ∧
  ∀ (u t1 t2 : Addr) (H' : Hp),H u = none → H' u = some (.lst [.ref t1,.ref t2]) → H' t1 = some (.tup (if dn = true then [.int x,.int y,.int p,.int h,l] else [.int x,.int y,.int w,.int p,l])) →
    H' t2 = some (.tup (if dn = true then [.int (x + (p + b)),.int y,.int (w - p - b),.int h,r] else [.int x,.int (y + (p + b)),.int w,.int (h - p - b),r])) → Same H H' → Q (.ref u) H'
theorem scparts2 : FnScope ["blade","part","way","p","wide","high"] ["blade","part","way","p"] (defScope sCutParts) := ⟨rfl,rfl,rfl,by decide +kernel,rfl,by decide +kernel,by decide +kernel⟩
theorem ok_parts2 {f wa : Addr} {fd : FuncData} (F : Fun K "cut_parts" "cut_parts" sCutParts f fd) (Z : TrC K mg wa) : FnOk P w K mg base CX0 1 f fd ["blade","part","way","p"] (spParts2) := by
  refine F.ok scparts2 (fun vs H Q E h => ?_) (fun cdv A outer s H vs Q E hr h => ?_)
  · obtain ⟨b,w1,h1,p1,t,dn,rfl,_⟩ := h
    rfl
  obtain ⟨b,w1,h1,p1,t,dn,rfl,ht,q⟩ := h
  have nd := scparts2.nd
  obtain ⟨tdn,hdn⟩ := Z.dn
  obtain ⟨trs,hrs⟩ := Z.rs
  obtain ⟨tpc,hpc⟩ := Z.pc
  obtain ⟨tn1,hn1⟩ := Z.n1
  obtain ⟨tn5,hn5⟩ := Z.n5
  obtain ⟨tn4,hn4⟩ := Z.n4
  refine ⟨_,(@pss_cons _ _ _ _ _ (@ps_asg _ _ _ _ _ _ (pv 1) (pg_tup rfl (pgs_cons (pg_name (i := 4) nd rfl (Or.inl rfl)) (pgs_cons (pg_name (i := 5) nd rfl (Or.inl rfl)) pgs_nil))) rfl rfl rfl) (@pss_cons _ _ _ _ _ (@ps_if _ _ _ _ _ _ _ _ (@pt_cmpR _ _ _ _ _ _ _ _ op_eq (pv 2) (pe_glob (v := .str "down") rfl hdn ⟨tdn,rfl⟩) (nomark _)) (@pss_one _ _ _ (@ps_ret _ _ _ _ (@pe_tup _ _ _ _ _ (@pa_cons _ _ _ _ _ (@pe_tup _ _ _ _ _ (@pa_cons _ _ _ _ _ (pv 3) (@pa_cons _ _ _ _ _ (pv 5) pa_nil rfl) rfl)) (@pa_cons _ _ _ _ _ (@pe_tup _ _ _ _ _ (@pa_cons _ _ _ _ _ (@pe_op _ _ _ _ _ _ _ _ op_sub (@pe_op _ _ _ _ _ _ _ _ op_sub (pv 4) (pv 3)) (pv 0)) (@pa_cons _ _ _ _ _ (pv 5) pa_nil rfl) rfl)) pa_nil rfl) rfl)))) pss_nil) (@pss_one _ _ _ (@ps_ret _ _ _ _ (@pe_tup _ _ _ _ _ (@pa_cons _ _ _ _ _ (@pe_tup _ _ _ _ _ (@pa_cons _ _ _ _ _ (pv 4) (@pa_cons _ _ _ _ _ (pv 3) pa_nil rfl) rfl)) (@pa_cons _ _ _ _ _ (@pe_tup _ _ _ _ _ (@pa_cons _ _ _ _ _ (pv 4) (@pa_cons _ _ _ _ _ (@pe_op _ _ _ _ _ _ _ _ op_sub (@pe_op _ _ _ _ _ _ _ _ op_sub (pv 5) (pv 3)) (pv 0)) pa_nil rfl) rfl)) pa_nil rfl) rfl)))))),?_⟩
  refine ⟨_,rfl,t,_,rfl,SqT.of ht,rfl,_,_,rfl,_,_,rfl,rfl,?_⟩
  cases dn with
  | true =>
    refine ⟨_,rfl,rfl,_,rfl,iteT ?_⟩
    refine ⟨_,rfl,_,rfl,(by show 2 ≤ sizeLine; decide),fun t1 h1' => ?_⟩
    have sa : Same H (upd H t1 (.tup [.int p1,.int h1])) := Same.new h1'
    have ka : (upd H t1 (.tup [.int p1,.int h1])) t1 = some (.tup [.int p1,.int h1]) := upd_same
    generalize upd H t1 (.tup [.int p1,.int h1]) = Ha at sa ka ⊢
    refine ⟨_,rfl,_,rfl,_,_,rfl,rfl,_,rfl,_,_,rfl,rfl,_,rfl,(by show 2 ≤ sizeLine; decide),fun t2 h2' => ?_⟩
    have sb : Same Ha (upd Ha t2 (.tup [.int (w1 - p1 - b),.int h1])) := Same.new h2'
    have kb : (upd Ha t2 (.tup [.int (w1 - p1 - b),.int h1])) t2 = some (.tup [.int (w1 - p1 - b),.int h1]) := upd_same
    generalize upd Ha t2 (.tup [.int (w1 - p1 - b),.int h1]) = Hb at sb kb ⊢
    refine ⟨(by show 2 ≤ sizeLine; decide),fun u hu => ?_⟩
    have sc : Same Hb (upd Hb u (.tup [.ref t1,.ref t2])) := Same.new hu
    have kc : (upd Hb u (.tup [.ref t1,.ref t2])) u = some (.tup [.ref t1,.ref t2]) := upd_same
    generalize upd Hb u (.tup [.ref t1,.ref t2]) = Hc at sc kc ⊢
    exact q u t1 t2 Hc kc (sc _ _ (sb _ _ ka)) (sc _ _ kb) ((sa.trans sb).trans sc)
  | false =>
    refine ⟨_,rfl,rfl,_,rfl,iteF ?_⟩
    refine ⟨_,rfl,_,rfl,(by show 2 ≤ sizeLine; decide),fun t1 h1' => ?_⟩
    have sa : Same H (upd H t1 (.tup [.int w1,.int p1])) := Same.new h1'
    have ka : (upd H t1 (.tup [.int w1,.int p1])) t1 = some (.tup [.int w1,.int p1]) := upd_same
    generalize upd H t1 (.tup [.int w1,.int p1]) = Ha at sa ka ⊢
    refine ⟨_,rfl,_,rfl,_,rfl,_,_,rfl,rfl,_,rfl,_,_,rfl,rfl,(by show 2 ≤ sizeLine; decide),fun t2 h2' => ?_⟩
    have sb : Same Ha (upd Ha t2 (.tup [.int w1,.int (h1 - p1 - b)])) := Same.new h2'
    have kb : (upd Ha t2 (.tup [.int w1,.int (h1 - p1 - b)])) t2 = some (.tup [.int w1,.int (h1 - p1 - b)]) := upd_same
    generalize upd Ha t2 (.tup [.int w1,.int (h1 - p1 - b)]) = Hb at sb kb ⊢
    refine ⟨(by show 2 ≤ sizeLine; decide),fun u hu => ?_⟩
    have sc : Same Hb (upd Hb u (.tup [.ref t1,.ref t2])) := Same.new hu
    have kc : (upd Hb u (.tup [.ref t1,.ref t2])) u = some (.tup [.ref t1,.ref t2]) := upd_same
    generalize upd Hb u (.tup [.ref t1,.ref t2]) = Hc at sc kc ⊢
    exact q u t1 t2 Hc kc (sc _ _ (sb _ _ ka)) (sc _ _ kb) ((sa.trans sb).trans sc)
theorem bw_row {d : PyData} {z : Str} {n : Nat} (h : bw d z n = true) : ∃ r,rowOf d = some (.str z :: r) ∧ r.length + 1 = n := by
  unfold bw at h
  split at h
  · rename_i y r e
    rw [Bool.and_eq_true] at h
    have := of_decide_eq_true h.2
    subst this
    exact ⟨r,e,of_decide_eq_true h.1⟩
  · cases h
theorem Dt.ref_row {p : Addr} {H : Hp} {v : V} {d : PyData} {ds : List PyData} (h : Dt p H v d) (e : rowOf d = some ds) : ∃ a xs,v = .ref a ∧ (H a = some (.lst xs) ∨ H a = some (.tup xs)) ∧ Dts p H xs ds := by
  cases h <;> simp only [rowOf,Option.some.injEq,reduceCtorEq] at e
  · subst e; exact ⟨_,_,rfl,.inl ‹_›,‹_›⟩
  · subst e; exact ⟨_,_,rfl,.inr ‹_›,‹_›⟩
theorem ixR {H H1 : Hp} {a : Addr} {xs : List V} (s1 : Same H H1) (hx : H a = some (.lst xs) ∨ H a = some (.tup xs)) {i : Int} {x : V} (e : atI xs i = some x) {Q' : VK} (h : Q' x H1) : rIx K (.ref a) (.int i) H1 Q' :=
  hx.elim (fun z => .inl ⟨a,_,i,x,rfl,rfl,SqL.of (s1 _ _ z),e,h⟩) (fun z => .inr (.inl ⟨a,_,i,x,rfl,rfl,SqT.of (s1 _ _ z),e,h⟩))
theorem sccut : FnScope ["blade","spot","tree","way","side"] ["blade","spot"] (defScope sIsCut) := ⟨rfl,rfl,rfl,by decide +kernel,rfl,by decide +kernel,by decide +kernel⟩
theorem ok_cut {f wa : Addr} {fd : FuncData} (F : Fun K "is_cut" "is_cut" sIsCut f fd) (Z : TrC K mg wa) (DB : Dn P w K mg base "begins_with" ["thing","word","many"] 2 spBegins) (DW : Dn P w K mg base "is_whole" ["thing","least"] 1 (spWhole K)) : FnOk P w K mg base CX0 3 f fd ["blade","spot"] (spCut) := by
  refine F.ok sccut (fun vs H Q E h => ?_) (fun cdv A outer s H vs Q E hr h => ?_)
  · obtain ⟨pp,b,x1,y1,w1,h1,sp,v,d,rfl,_⟩ := h
    rfl
  obtain ⟨pp,b,x0',y0',w1,h1,sp,v,d,rfl,hsp,hd,q⟩ := h
  have nd := sccut.nd
  obtain ⟨tdn,hdn⟩ := Z.dn
  obtain ⟨trs,hrs⟩ := Z.rs
  obtain ⟨tpc,hpc⟩ := Z.pc
  obtain ⟨tn1,hn1⟩ := Z.n1
  obtain ⟨tn5,hn5⟩ := Z.n5
  obtain ⟨tn4,hn4⟩ := Z.n4
  have hr1 := hr.mono (show 1 ≤ 2 by decide)
  refine ⟨_,(@pss_cons _ _ _ _ _ (@ps_set _ _ 2 _ _ _ _ nd rfl (Or.inl rfl) (@pe_ix _ _ _ _ _ _ _ ix_tup (pv 1) pe_int (fun _ _ => rfl)) rfl (Or.inl rfl)) (@pss_cons _ _ _ _ _ (@ps_for _ _ _ _ _ _ _ _ PassesOwn.never rfl (pi_tup (pe_glob (v := .ref wa) rfl Z.wy rfl)) (pg_name (i := 3) nd rfl (Or.inl rfl)) (@pss_one _ _ _ (@ps_if _ _ _ _ _ _ _ _ (@pt_val _ _ _ (@pe_cD _ _ _ _ _ _ _ _ _ _ DB hr rfl (@pa_cons _ _ _ _ _ (pv 2) (@pa_cons _ _ _ _ _ (pv 3) (@pa_cons _ _ _ _ _ (pe_glob (v := .int 4) rfl hn4 ⟨tn4,rfl⟩) pa_nil rfl) rfl) rfl) (by decide) rfl rfl) (by intro _; rfl)) (@pss_cons _ _ _ _ _ (@ps_set _ _ 4 _ _ _ _ nd rfl (Or.inl rfl) (pe_ifExp (@pt_cmpR _ _ _ _ _ _ _ _ op_eq (pv 3) (pe_glob (v := .str "down") rfl hdn ⟨tdn,rfl⟩) (nomark _)) (@pe_ix _ _ _ _ _ _ _ ix_tup (pv 1) pe_int (fun _ _ => rfl)) (@pe_ix _ _ _ _ _ _ _ ix_tup (pv 1) pe_int (fun _ _ => rfl))) rfl (Or.inl rfl)) (@pss_one _ _ _ (@ps_ret _ _ _ _ (pe_and (@pe_cD _ _ _ _ _ _ _ _ _ _ DW hr1 rfl (@pa_cons _ _ _ _ _ (@pe_ix _ _ _ _ _ _ _ ix_seq (pv 2) pe_int (fun _ _ => rfl)) (@pa_cons _ _ _ _ _ pe_int pa_nil rfl) rfl) (by decide) rfl rfl) (pe_one (@pe_cmpR _ _ _ _ _ _ _ _ op_lt (@pe_op _ _ _ _ _ _ _ _ op_add (@pe_ix _ _ _ _ _ _ _ ix_seq (pv 2) pe_int (fun _ _ => rfl)) (pv 0)) (pv 4) (nomark _))))))) pss_nil)) (by intro _; rfl)) (@pss_one _ _ _ (@ps_ret _ _ _ _ pe_bl)))),?_⟩
  refine ⟨_,rfl,sp,_,4,_,rfl,rfl,SqT.of hsp,rfl,?_⟩
  refine ⟨wa, rfl, ⟨_, Z.wq H⟩, for_tup (xs := [.str "down", .str "across"]) (fun i σ H' => (∃ v3 v4, σ = [some (.int b), some (.ref sp), some v, v3, v4]) ∧ Same H H' ∧ (1 ≤ i → bw d "down" 4 = false) ∧ (2 ≤ i → bw d "across" 4 = false)) ⟨⟨_, _, rfl⟩, Same.refl _, fun z => absurd z (by decide), fun z => absurd z (by decide)⟩ (fun i σ H' _ _ => Z.wq H') ?_ ?_⟩
  · rintro i y σ H1 hi ⟨⟨v3,v4,rfl⟩,s1,g1,g2⟩
    match i,hi with
    | 0,hi =>
      cases hi
      refine ⟨_,rfl,_,rfl,pp,v,d,"down",4,rfl,by decide,hd.same s1,fun H2 s12 => ⟨_,rfl,?_⟩⟩
      have s2 := s1.trans s12
      refine ite2 (fun hb => ?_) (fun hb => ⟨⟨_,_,rfl⟩,s2,fun _ => by simpa using hb,fun z => absurd z (by decide)⟩)
      obtain ⟨r0,er,rl⟩ := bw_row hb
      obtain ⟨a,xs,rfl,hx,dx⟩ := hd.ref_row er
      cases dx with
      | @cons x0 _ xs0 _ hd0 dx =>
      match r0,rl,dx with
      | [d1,d2,d3],_,.cons (x := x1) hd1 (.cons (x := x2) hd2 (.cons (x := x3) hd3 .nil)) =>
      have sp2 := s2 _ _ hsp
      have co : cutOk b w1 d = cutP b w1 d1 := by
        unfold cutOk
        rw [er]
      refine ⟨_,rfl,rfl,_,rfl,iteT ⟨_,rfl,sp,_,2,_,rfl,rfl,SqT.of sp2,rfl,?_⟩⟩
      have at1 : atI [x0,x1,x2,x3] 1 = some x1 := atI_int (by decide) rfl
      obtain ⟨T1,t1⟩ := (hd1.same s2).ty (K := K)
      refine ⟨_,rfl,ixR s2 hx at1 ⟨x1,T1,1,rfl,t1,_,rfl,?_⟩⟩
      have q1 := q H2 s2
      unfold isC at q1
      rw [if_pos hb,co] at q1
      cases hd1 with
      | int p =>
        have q1 : Q (.bl (decide (1 ≤ p) && decide (p + b < w1))) H2 := q1
        refine ite2 (fun cc => ?_) (fun cc => ?_)
        · have cc : decide (1 ≤ p) = true := cc
          refine ⟨_,rfl,ixR s2 hx at1 ⟨_,rfl,_,_,rfl,rfl,_,rfl,_,_,rfl,rfl,?_⟩⟩
          rw [cc,Bool.true_and] at q1
          exact q1
        · have cc : ¬ decide (1 ≤ p) = true := cc
          rw [show decide (1 ≤ p) = false by simpa using cc,Bool.false_and] at q1
          exact q1
      | _ => exact iteF q1
    | 1,hi =>
      cases hi
      have hb0 := g1 (by decide)
      refine ⟨_,rfl,_,rfl,pp,v,d,"across",4,rfl,by decide,hd.same s1,fun H2 s12 => ⟨_,rfl,?_⟩⟩
      have s2 := s1.trans s12
      refine ite2 (fun hb => ?_) (fun hb => ⟨⟨_,_,rfl⟩,s2,fun _ => hb0,fun _ => by simpa using hb⟩)
      obtain ⟨r0,er,rl⟩ := bw_row hb
      obtain ⟨a,xs,rfl,hx,dx⟩ := hd.ref_row er
      cases dx with
      | @cons x0 _ xs0 _ hd0 dx =>
      match r0,rl,dx with
      | [d1,d2,d3],_,.cons (x := x1) hd1 (.cons (x := x2) hd2 (.cons (x := x3) hd3 .nil)) =>
      have sp2 := s2 _ _ hsp
      have co : cutOk b h1 d = cutP b h1 d1 := by
        unfold cutOk
        rw [er]
      refine ⟨_,rfl,rfl,_,rfl,iteF ⟨_,rfl,sp,_,3,_,rfl,rfl,SqT.of sp2,rfl,?_⟩⟩
      have at1 : atI [x0,x1,x2,x3] 1 = some x1 := atI_int (by decide) rfl
      obtain ⟨T1,t1⟩ := (hd1.same s2).ty (K := K)
      refine ⟨_,rfl,ixR s2 hx at1 ⟨x1,T1,1,rfl,t1,_,rfl,?_⟩⟩
      have q1 := q H2 s2
      unfold isC at q1
      rw [if_neg (by rw [hb0]; decide),if_pos hb,co] at q1
      cases hd1 with
      | int p =>
        have q1 : Q (.bl (decide (1 ≤ p) && decide (p + b < h1))) H2 := q1
        refine ite2 (fun cc => ?_) (fun cc => ?_)
        · have cc : decide (1 ≤ p) = true := cc
          refine ⟨_,rfl,ixR s2 hx at1 ⟨_,rfl,_,_,rfl,rfl,_,rfl,_,_,rfl,rfl,?_⟩⟩
          rw [cc,Bool.true_and] at q1
          exact q1
        · have cc : ¬ decide (1 ≤ p) = true := cc
          rw [show decide (1 ≤ p) = false by simpa using cc,Bool.false_and] at q1
          exact q1
      | _ => exact iteF q1
  · rintro σ H1 ⟨⟨v3,v4,rfl⟩,s1,g1,g2⟩
    have q1 := q H1 s1
    unfold isC at q1
    rw [if_neg (by rw [g1 (by decide)]; decide),if_neg (by rw [g2 (by decide)]; decide)] at q1
    exact q1
theorem shopS {C : Addr} {H H' : Hp} {s : Addr} {b : Int} {ks : List Kd} (k : Same H H') (S : ShopAt C H s b ks) : ShopAt C H' s b ks := S.keep (fun c o e => k _ _ e) (fun c C' d fs e => k _ _ e)
theorem scleaf : FnScope ["shop","spot","x","y","wide","high","tree"] ["shop","spot"] (defScope sIsLeaf) := ⟨rfl,rfl,rfl,by decide +kernel,rfl,by decide +kernel,by decide +kernel⟩
theorem ok_leaf {f wa C : Addr} {fd : FuncData} (F : Fun K "is_leaf" "is_leaf" sIsLeaf f fd) (Z : TrC K mg wa) (DB : Dn P w K mg base "begins_with" ["thing","word","many"] 2 spBegins) (DL : Dn P w K mg base "lies_in" ["shop","wide","high","kind","turned","x","y"] 4 (spLiesG K C)) : FnOk P w K mg base CX0 5 f fd ["shop","spot"] (spLeaf C) := by
  refine F.ok scleaf (fun vs H Q E h => ?_) (fun cdv A outer s H vs Q E hr h => ?_)
  · obtain ⟨pp,b',x1,y1,w1,h1,s,sp,ks,v,d,rfl,_⟩ := h
    rfl
  obtain ⟨pp,b',x0',y0',w1,h1,s,sp,ks,v,d,rfl,S,hsp,hd,q⟩ := h
  have nd := scleaf.nd
  obtain ⟨tdn,hdn⟩ := Z.dn
  obtain ⟨trs,hrs⟩ := Z.rs
  obtain ⟨tpc,hpc⟩ := Z.pc
  obtain ⟨tn1,hn1⟩ := Z.n1
  obtain ⟨tn5,hn5⟩ := Z.n5
  obtain ⟨tn4,hn4⟩ := Z.n4
  have hr2 := hr.mono (show 2 ≤ 4 by decide)
  refine ⟨_,(@pss_cons _ _ _ _ _ (@ps_asg _ _ _ _ _ _ (pv 1) (pg_tup rfl (pgs_cons (pg_name (i := 2) nd rfl (Or.inl rfl)) (pgs_cons (pg_name (i := 3) nd rfl (Or.inl rfl)) (pgs_cons (pg_name (i := 4) nd rfl (Or.inl rfl)) (pgs_cons (pg_name (i := 5) nd rfl (Or.inl rfl)) (pgs_cons (pg_name (i := 6) nd rfl (Or.inl rfl)) pgs_nil)))))) rfl rfl rfl) (@pss_cons _ _ _ _ _ (@ps_if _ _ _ _ _ _ _ _ (@pt_val _ _ _ (@pe_cD _ _ _ _ _ _ _ _ _ _ DB hr2 rfl (@pa_cons _ _ _ _ _ (pv 6) (@pa_cons _ _ _ _ _ (pe_glob (v := .str "piece") rfl hpc ⟨tpc,rfl⟩) (@pa_cons _ _ _ _ _ (pe_glob (v := .int 5) rfl hn5 ⟨tn5,rfl⟩) pa_nil rfl) rfl) rfl) (by decide) rfl rfl) (by intro _; rfl)) (@pss_one _ _ _ (@ps_ret _ _ _ _ (@pe_cD _ _ _ _ _ _ _ _ _ _ DL hr rfl (@pa_cons _ _ _ _ _ (pv 0) (@pa_cons _ _ _ _ _ (pv 4) (@pa_cons _ _ _ _ _ (pv 5) (@pa_cons _ _ _ _ _ (@pe_ix _ _ _ _ _ _ _ ix_seq (pv 6) pe_int (fun _ _ => rfl)) (@pa_cons _ _ _ _ _ (@pe_ix _ _ _ _ _ _ _ ix_seq (pv 6) pe_int (fun _ _ => rfl)) (@pa_cons _ _ _ _ _ (@pe_ix _ _ _ _ _ _ _ ix_seq (pv 6) pe_int (fun _ _ => rfl)) (@pa_cons _ _ _ _ _ (@pe_ix _ _ _ _ _ _ _ ix_seq (pv 6) pe_int (fun _ _ => rfl)) pa_nil rfl) rfl) rfl) rfl) rfl) rfl) rfl) (by decide) rfl rfl))) pss_nil) (@pss_one _ _ _ (@ps_ret _ _ _ _ (@pe_cD _ _ _ _ _ _ _ _ _ _ DB hr2 rfl (@pa_cons _ _ _ _ _ (pv 6) (@pa_cons _ _ _ _ _ (pe_glob (v := .str "rest") rfl hrs ⟨trs,rfl⟩) (@pa_cons _ _ _ _ _ (pe_glob (v := .int 1) rfl hn1 ⟨tn1,rfl⟩) pa_nil rfl) rfl) rfl) (by decide) rfl rfl))))),?_⟩
  refine ⟨_,rfl,sp,_,rfl,SqT.of hsp,rfl,_,_,rfl,_,_,rfl,_,_,rfl,_,_,rfl,_,_,rfl,rfl,?_⟩
  refine ⟨_,rfl,pp,v,d,"piece",5,rfl,by decide,hd,fun H1 s1 => ⟨_,rfl,?_⟩⟩
  refine ite2 (fun hb => ?_) (fun hb => ?_)
  · obtain ⟨r0,er,rl⟩ := bw_row hb
    obtain ⟨a,xs,rfl,hx,dx⟩ := hd.ref_row er
    cases dx with
    | @cons x0 _ xs0 _ hd0 dx =>
    match r0,rl,dx with
    | [d1,d2,d3,d4],_,.cons (x := x1) hd1 (.cons (x := x2) hd2 (.cons (x := x3) hd3 (.cons (x := x4) hd4 .nil))) =>
    have a1 : atI [x0,x1,x2,x3,x4] 1 = some x1 := atI_int (by decide) rfl
    have a2 : atI [x0,x1,x2,x3,x4] 2 = some x2 := atI_int (by decide) rfl
    have a3 : atI [x0,x1,x2,x3,x4] 3 = some x3 := atI_int (by decide) rfl
    have a4 : atI [x0,x1,x2,x3,x4] 4 = some x4 := atI_int (by decide) rfl
    obtain ⟨T1,t1⟩ := (hd1.same s1).ty (K := K)
    obtain ⟨T2,t2⟩ := (hd2.same s1).ty (K := K)
    obtain ⟨T3,t3⟩ := (hd3.same s1).ty (K := K)
    obtain ⟨T4,t4⟩ := (hd4.same s1).ty (K := K)
    refine ⟨_,rfl,_,rfl,_,rfl,_,rfl,ixR s1 hx a1 ⟨_,rfl,ixR s1 hx a2 ⟨_,rfl,ixR s1 hx a3 ⟨_,rfl,ixR s1 hx a4 ?_⟩⟩⟩⟩
    refine ⟨s,b',ks,w1,h1,x1,x2,x3,x4,T1,T2,T3,T4,rfl,shopS s1 S,t1,t2,t3,t4,fun H2 s2 => ?_⟩
    have q1 := q H2 (s1.trans s2)
    unfold isL at q1
    rw [if_pos hb,er] at q1
    have e : lieD ks w1 h1 d1 d2 d3 d4 = lieV ks w1 h1 x1 x2 x3 x4 := by
      cases hd1 with
      | int i => cases hd2 with
        | bl c => cases hd3 with
          | int x => cases hd4 with
            | int y => rfl
            | _ => simp [lieD,lieV,whole]
          | _ => simp [lieD,lieV,whole]
        | _ => simp [lieD,lieV,isLy]
      | _ => simp [lieD,lieV,isLy]
    have q1 : Q (.bl (lieD ks w1 h1 d1 d2 d3 d4)) H2 := q1
    rw [e] at q1
    exact q1
  · refine ⟨_,rfl,pp,v,d,"rest",1,rfl,by decide,hd.same s1,fun H2 s2 => ?_⟩
    have q1 := q H2 (s1.trans s2)
    unfold isL at q1
    rw [if_neg hb] at q1
    exact q1
theorem scbehind : FnScope ["blade","spot","x","y","wide","high","tree","way","p","first","second","wide_ahead","high_ahead","wide_behind","high_behind","step","far_x","far_y"] ["blade","spot"] (defScope sSpotsBehind) := ⟨rfl,rfl,rfl,by decide +kernel,rfl,by decide +kernel,by decide +kernel⟩
set_option maxHeartbeats 1000000 in
theorem ok_behind {f wa : Addr} {fd : FuncData} (F : Fun K "spots_behind" "spots_behind" sSpotsBehind f fd) (Z : TrC K mg wa) (DP : Dn P w K mg base "cut_parts" ["blade","part","way","p"] 1 spParts2) : FnOk P w K mg base CX0 2 f fd ["blade","spot"] (spBehind) := by
  refine F.ok scbehind (fun vs H Q E h => ?_) (fun cdv A outer s H vs Q E hr h => ?_)
  · obtain ⟨b,x1,y1,w1,h1,p1,sp,a,dn,l,r,rfl,_⟩ := h
    rfl
  obtain ⟨b,x1,y1,w1,h1,p1,sp,a,dn,l,r,rfl,hsp,ha,q⟩ := h
  have nd := scbehind.nd
  obtain ⟨tdn,hdn⟩ := Z.dn
  obtain ⟨trs,hrs⟩ := Z.rs
  obtain ⟨tpc,hpc⟩ := Z.pc
  obtain ⟨tn1,hn1⟩ := Z.n1
  obtain ⟨tn5,hn5⟩ := Z.n5
  obtain ⟨tn4,hn4⟩ := Z.n4
  refine ⟨_,(@pss_cons _ _ _ _ _ (@ps_asg _ _ _ _ _ _ (pv 1) (pg_tup rfl (pgs_cons (pg_name (i := 2) nd rfl (Or.inl rfl)) (pgs_cons (pg_name (i := 3) nd rfl (Or.inl rfl)) (pgs_cons (pg_name (i := 4) nd rfl (Or.inl rfl)) (pgs_cons (pg_name (i := 5) nd rfl (Or.inl rfl)) (pgs_cons (pg_name (i := 6) nd rfl (Or.inl rfl)) pgs_nil)))))) rfl rfl rfl) (@pss_cons _ _ _ _ _ (@ps_asg _ _ _ _ _ _ (pv 6) (pg_seq rfl (pgs_cons (pg_name (i := 7) nd rfl (Or.inl rfl)) (pgs_cons (pg_name (i := 8) nd rfl (Or.inl rfl)) (pgs_cons (pg_name (i := 9) nd rfl (Or.inl rfl)) (pgs_cons (pg_name (i := 10) nd rfl (Or.inl rfl)) pgs_nil))))) rfl rfl rfl) (@pss_cons _ _ _ _ _ (@ps_asg _ _ _ _ _ _ (@pe_cD _ _ _ _ _ _ _ _ _ _ DP hr rfl (@pa_cons _ _ _ _ _ (pv 0) (@pa_cons _ _ _ _ _ (@pe_tup _ _ _ _ _ (@pa_cons _ _ _ _ _ (pv 4) (@pa_cons _ _ _ _ _ (pv 5) pa_nil rfl) rfl)) (@pa_cons _ _ _ _ _ (pv 7) (@pa_cons _ _ _ _ _ (pv 8) pa_nil rfl) rfl) rfl) rfl) (by decide) rfl rfl) (pg_tup rfl (pgs_cons (pg_tup rfl (pgs_cons (pg_name (i := 11) nd rfl (Or.inl rfl)) (pgs_cons (pg_name (i := 12) nd rfl (Or.inl rfl)) pgs_nil))) (pgs_cons (pg_tup rfl (pgs_cons (pg_name (i := 13) nd rfl (Or.inl rfl)) (pgs_cons (pg_name (i := 14) nd rfl (Or.inl rfl)) pgs_nil))) pgs_nil))) rfl rfl rfl) (@pss_cons _ _ _ _ _ (@ps_set _ _ 15 _ _ _ _ nd rfl (Or.inl rfl) (@pe_op _ _ _ _ _ _ _ _ op_add (pv 8) (pv 0)) rfl (Or.inl rfl)) (@pss_cons _ _ _ _ _ (@ps_asg _ _ _ _ _ _ (pe_ifExp (@pt_cmpR _ _ _ _ _ _ _ _ op_eq (pv 7) (pe_glob (v := .str "down") rfl hdn ⟨tdn,rfl⟩) (nomark _)) (@pe_tup _ _ _ _ _ (@pa_cons _ _ _ _ _ (@pe_op _ _ _ _ _ _ _ _ op_add (pv 2) (pv 15)) (@pa_cons _ _ _ _ _ (pv 3) pa_nil rfl) rfl)) (@pe_tup _ _ _ _ _ (@pa_cons _ _ _ _ _ (pv 2) (@pa_cons _ _ _ _ _ (@pe_op _ _ _ _ _ _ _ _ op_add (pv 3) (pv 15)) pa_nil rfl) rfl))) (pg_tup rfl (pgs_cons (pg_name (i := 16) nd rfl (Or.inl rfl)) (pgs_cons (pg_name (i := 17) nd rfl (Or.inl rfl)) pgs_nil))) rfl rfl rfl) (@pss_one _ _ _ (@ps_ret _ _ _ _ (@pe_lst _ _ _ _ (@pa_cons _ _ _ _ _ (@pe_tup _ _ _ _ _ (@pa_cons _ _ _ _ _ (pv 2) (@pa_cons _ _ _ _ _ (pv 3) (@pa_cons _ _ _ _ _ (pv 11) (@pa_cons _ _ _ _ _ (pv 12) (@pa_cons _ _ _ _ _ (pv 9) pa_nil rfl) rfl) rfl) rfl) rfl)) (@pa_cons _ _ _ _ _ (@pe_tup _ _ _ _ _ (@pa_cons _ _ _ _ _ (pv 16) (@pa_cons _ _ _ _ _ (pv 17) (@pa_cons _ _ _ _ _ (pv 13) (@pa_cons _ _ _ _ _ (pv 14) (@pa_cons _ _ _ _ _ (pv 10) pa_nil rfl) rfl) rfl) rfl) rfl)) pa_nil rfl) rfl))))))))),?_⟩
  refine ⟨_,rfl,sp,_,rfl,SqT.of hsp,rfl,_,_,rfl,_,_,rfl,_,_,rfl,_,_,rfl,_,_,rfl,rfl,?_⟩
  have sq : SqL K H a [.str (if dn = true then "down" else "across"),.int p1,l,r] ∨ SqT K H a [.str (if dn = true then "down" else "across"),.int p1,l,r] := ha.imp (fun z => SqL.of z) fun z => SqT.of z
  refine ⟨_,rfl,a,_,rfl,sq,rfl,_,_,rfl,_,_,rfl,_,_,rfl,_,_,rfl,rfl,?_⟩
  clear sq
  cases dn with
  | true =>
    refine ⟨_,rfl,_,rfl,_,rfl,(by show 2 ≤ sizeLine; decide),fun tp htp => ?_⟩
    have sa : Same H (upd H tp (.tup [.int w1,.int h1])) := Same.new htp
    have ka : (upd H tp (.tup [.int w1,.int h1])) tp = some (.tup [.int w1,.int h1]) := upd_same
    generalize upd H tp (.tup [.int w1,.int h1]) = Ha at sa ka ⊢
    refine ⟨_,rfl,_,rfl,b,w1,h1,p1,tp,true,rfl,ka,fun u t1 t2 Hb ku k1 k2 sb => ?_⟩
    refine ⟨u,_,rfl,SqT.of ku,rfl,_,_,rfl,t1,_,rfl,SqT.of k1,rfl,_,_,rfl,_,_,rfl,rfl,_,_,rfl,t2,_,rfl,SqT.of k2,rfl,_,_,rfl,_,_,rfl,rfl,rfl,?_⟩
    refine seqCut (fun σ' H' => σ' = [some (.int b), some (.ref sp), some (.int x1), some (.int y1), some (.int w1), some (.int h1), some (.ref a), some (.str "down"), some (.int p1), some l, some r, some (.int p1), some (.int h1), some (.int (w1 - p1 - b)), some (.int h1), none, none, none] ∧ Hb = H') (fun R hR => hR _ _ ⟨rfl, rfl⟩) ?_
    rintro _ _ ⟨rfl,rfl⟩
    refine ⟨_,rfl,_,rfl,_,_,rfl,rfl,?_⟩
    refine ⟨_,rfl,rfl,_,rfl,iteT ⟨_,rfl,_,rfl,_,_,rfl,rfl,_,rfl,(by show 2 ≤ sizeLine; decide),fun tf hf => ?_⟩⟩
    have sd : Same Hb (upd Hb tf (.tup [.int (x1 + (p1 + b)),.int y1])) := Same.new hf
    have kd : (upd Hb tf (.tup [.int (x1 + (p1 + b)),.int y1])) tf = some (.tup [.int (x1 + (p1 + b)),.int y1]) := upd_same
    generalize upd Hb tf (.tup [.int (x1 + (p1 + b)),.int y1]) = Hd at sd kd ⊢
    refine ⟨tf,_,rfl,SqT.of kd,rfl,_,_,rfl,_,_,rfl,rfl,?_⟩
    refine ⟨_,rfl,_,rfl,_,rfl,_,rfl,_,rfl,(by show 5 ≤ sizeLine; decide),fun g1 hg1 => ?_⟩
    have se : Same Hd (upd Hd g1 (.tup [.int x1,.int y1,.int p1,.int h1,l])) := Same.new hg1
    have ke : (upd Hd g1 (.tup [.int x1,.int y1,.int p1,.int h1,l])) g1 = some (.tup [.int x1,.int y1,.int p1,.int h1,l]) := upd_same
    generalize upd Hd g1 (.tup [.int x1,.int y1,.int p1,.int h1,l]) = He at se ke ⊢
    refine ⟨_,rfl,_,rfl,_,rfl,_,rfl,_,rfl,(by show 5 ≤ sizeLine; decide),fun g2 hg2 => ?_⟩
    have sf : Same He (upd He g2 (.tup [.int (x1 + (p1 + b)),.int y1,.int (w1 - p1 - b),.int h1,r])) := Same.new hg2
    have kf : (upd He g2 (.tup [.int (x1 + (p1 + b)),.int y1,.int (w1 - p1 - b),.int h1,r])) g2 = some (.tup [.int (x1 + (p1 + b)),.int y1,.int (w1 - p1 - b),.int h1,r]) := upd_same
    generalize upd He g2 (.tup [.int (x1 + (p1 + b)),.int y1,.int (w1 - p1 - b),.int h1,r]) = Hf at sf kf ⊢
    refine ⟨(by show 2 ≤ sizeLine; decide),fun lu hlu => ?_⟩
    have sg : Same Hf (upd Hf lu (.lst [.ref g1,.ref g2])) := Same.new hlu
    have kg : (upd Hf lu (.lst [.ref g1,.ref g2])) lu = some (.lst [.ref g1,.ref g2]) := upd_same
    generalize upd Hf lu (.lst [.ref g1,.ref g2]) = Hg at sg kg ⊢
    have sA := ((((sa.trans sb).trans sd).trans se).trans sf)
    exact q lu g1 g2 Hg (sA.free hlu) kg (sg _ _ (sf _ _ ke)) (sg _ _ kf) (sA.trans sg)
  | false =>
    refine ⟨_,rfl,_,rfl,_,rfl,(by show 2 ≤ sizeLine; decide),fun tp htp => ?_⟩
    have sa : Same H (upd H tp (.tup [.int w1,.int h1])) := Same.new htp
    have ka : (upd H tp (.tup [.int w1,.int h1])) tp = some (.tup [.int w1,.int h1]) := upd_same
    generalize upd H tp (.tup [.int w1,.int h1]) = Ha at sa ka ⊢
    refine ⟨_,rfl,_,rfl,b,w1,h1,p1,tp,false,rfl,ka,fun u t1 t2 Hb ku k1 k2 sb => ?_⟩
    refine ⟨u,_,rfl,SqT.of ku,rfl,_,_,rfl,t1,_,rfl,SqT.of k1,rfl,_,_,rfl,_,_,rfl,rfl,_,_,rfl,t2,_,rfl,SqT.of k2,rfl,_,_,rfl,_,_,rfl,rfl,rfl,?_⟩
    refine seqCut (fun σ' H' => σ' = [some (.int b), some (.ref sp), some (.int x1), some (.int y1), some (.int w1), some (.int h1), some (.ref a), some (.str "across"), some (.int p1), some l, some r, some (.int w1), some (.int p1), some (.int w1), some (.int (h1 - p1 - b)), none, none, none] ∧ Hb = H') (fun R hR => hR _ _ ⟨rfl, rfl⟩) ?_
    rintro _ _ ⟨rfl,rfl⟩
    refine ⟨_,rfl,_,rfl,_,_,rfl,rfl,?_⟩
    refine ⟨_,rfl,rfl,_,rfl,iteF ⟨_,rfl,_,rfl,_,rfl,_,_,rfl,rfl,(by show 2 ≤ sizeLine; decide),fun tf hf => ?_⟩⟩
    have sd : Same Hb (upd Hb tf (.tup [.int x1,.int (y1 + (p1 + b))])) := Same.new hf
    have kd : (upd Hb tf (.tup [.int x1,.int (y1 + (p1 + b))])) tf = some (.tup [.int x1,.int (y1 + (p1 + b))]) := upd_same
    generalize upd Hb tf (.tup [.int x1,.int (y1 + (p1 + b))]) = Hd at sd kd ⊢
    refine ⟨tf,_,rfl,SqT.of kd,rfl,_,_,rfl,_,_,rfl,rfl,?_⟩
    refine ⟨_,rfl,_,rfl,_,rfl,_,rfl,_,rfl,(by show 5 ≤ sizeLine; decide),fun g1 hg1 => ?_⟩
    have se : Same Hd (upd Hd g1 (.tup [.int x1,.int y1,.int w1,.int p1,l])) := Same.new hg1
    have ke : (upd Hd g1 (.tup [.int x1,.int y1,.int w1,.int p1,l])) g1 = some (.tup [.int x1,.int y1,.int w1,.int p1,l]) := upd_same
    generalize upd Hd g1 (.tup [.int x1,.int y1,.int w1,.int p1,l]) = He at se ke ⊢
    refine ⟨_,rfl,_,rfl,_,rfl,_,rfl,_,rfl,(by show 5 ≤ sizeLine; decide),fun g2 hg2 => ?_⟩
    have sf : Same He (upd He g2 (.tup [.int x1,.int (y1 + (p1 + b)),.int w1,.int (h1 - p1 - b),r])) := Same.new hg2
    have kf : (upd He g2 (.tup [.int x1,.int (y1 + (p1 + b)),.int w1,.int (h1 - p1 - b),r])) g2 = some (.tup [.int x1,.int (y1 + (p1 + b)),.int w1,.int (h1 - p1 - b),r]) := upd_same
    generalize upd He g2 (.tup [.int x1,.int (y1 + (p1 + b)),.int w1,.int (h1 - p1 - b),r]) = Hf at sf kf ⊢
    refine ⟨(by show 2 ≤ sizeLine; decide),fun lu hlu => ?_⟩
    have sg : Same Hf (upd Hf lu (.lst [.ref g1,.ref g2])) := Same.new hlu
    have kg : (upd Hf lu (.lst [.ref g1,.ref g2])) lu = some (.lst [.ref g1,.ref g2]) := upd_same
    generalize upd Hf lu (.lst [.ref g1,.ref g2]) = Hg at sg kg ⊢
    have sA := ((((sa.trans sb).trans sd).trans se).trans sf)
    exact q lu g1 g2 Hg (sA.free hlu) kg (sg _ _ (sf _ _ ke)) (sg _ _ kf) (sA.trans sg)
end
def isT (b : Int) (ks : List Kd) (w h : Int) (d : PyData) : Bool :=
  if isC b w h d = true then
    match e : rowOf d with
    | some [_,.int p,l,r] => if bw d "down" 4 = true then isT b ks p h l && isT b ks (w - p - b) h r else isT b ks w p l && isT b ks w (h - p - b) r
    | _ => false
  else isL ks w h d
termination_by sizeOf d
decreasing_by all_goals (apply rowOf_lt e; simp)
theorem isT_leaf {b : Int} {ks : List Kd} {w h : Int} {d : PyData} (hc : isC b w h d = false) : isT b ks w h d = isL ks w h d := by
  rw [isT,if_neg (by rw [hc]; decide)]
theorem isT_cut {b : Int} {ks : List Kd} {w h : Int} {d : PyData} (hc : isC b w h d = true) : ∃ (dn : Bool) (p : Int) (l r : PyData),rowOf d = some [.str (if dn = true then "down" else "across"),.int p,l,r] ∧ 1 ≤ p ∧ (dn = true → p + b < w) ∧ (dn = false → p + b < h) ∧
    isT b ks w h d = (if dn = true then isT b ks p h l && isT b ks (w - p - b) h r else isT b ks w p l && isT b ks w (h - p - b) r) := by
  have key : ∀ side,cutOk b side d = true → ∃ x p l r,rowOf d = some [x,.int p,l,r] ∧ 1 ≤ p ∧ p + b < side := fun side h => by
    unfold cutOk at h
    split at h
    · rename_i x p l r e
      unfold cutP at h
      split at h
      · rename_i p'
        rw [Bool.and_eq_true] at h
        exact ⟨x,p',l,r,e,of_decide_eq_true h.1,of_decide_eq_true h.2⟩
      · cases h
    · cases h
  have hc' := hc
  unfold isC at hc
  by_cases hb : bw d "down" 4 = true
  · rw [if_pos hb] at hc
    obtain ⟨x,p,l,r,e,p1,p2⟩ := key _ hc
    obtain ⟨r',e',_⟩ := bw_row hb
    rw [e] at e'
    cases e'
    refine ⟨true,p,l,r,e,p1,fun _ => p2,fun z => (by cases z),?_⟩
    rw [isT,if_pos hc']
    split
    · rename_i y p' l' r' e2
      rw [e] at e2
      cases e2
      rw [if_pos hb]; rfl
    · rename_i z
      exact absurd e (z _ _ _ _)
  · rw [if_neg hb] at hc
    by_cases hb2 : bw d "across" 4 = true
    · rw [if_pos hb2] at hc
      obtain ⟨x,p,l,r,e,p1,p2⟩ := key _ hc
      obtain ⟨r',e',_⟩ := bw_row hb2
      rw [e] at e'
      cases e'
      refine ⟨false,p,l,r,e,p1,fun z => (by cases z),fun _ => p2,?_⟩
      rw [isT,if_pos hc']
      split
      · rename_i y p' l' r' e2
        rw [e] at e2
        cases e2
        rw [if_neg hb]; rfl
      · rename_i z
        exact absurd e (z _ _ _ _)
    · rw [if_neg hb2] at hc
      cases hc
structure Spot where
  x : Int
  y : Int
  w : Int
  h : Int
  d : PyData
def SpAt (p : Addr) (H0 H : Hp) (v : V) (t : Spot) : Prop := ∃ a u,v = .ref a ∧ H a = some (.tup [.int t.x,.int t.y,.int t.w,.int t.h,u]) ∧ Dt p H0 u t.d
theorem SpAt.keep {p : Addr} {H0 H H' : Hp} (k : ∀ a xs,H a = some (.tup xs) → H' a = some (.tup xs)) {v : V} {t : Spot} (h : SpAt p H0 H v t) : SpAt p H0 H' v t := by
  obtain ⟨a,u,e,h1,h2⟩ := h
  exact ⟨a,u,e,k _ _ h1,h2⟩
def spsz (ts : List Spot) : Nat := (ts.map fun t => wt t.d).sum
theorem spsz_app (a b : List Spot) : spsz (a ++ b) = spsz a + spsz b := by unfold spsz; rw [List.map_append,List.sum_append]
theorem spsz_len : ∀ ts : List Spot,ts.length ≤ spsz ts
  | [] => Nat.le_refl _
  | t :: r => by
    have := spsz_len r
    have := wtpos t.d
    show r.length + 1 ≤ wt t.d + spsz r
    omega
theorem rowOf_two {d x y l r : PyData} (h : rowOf d = some [x,y,l,r]) : wt l + wt r < wt d := by
  cases d <;> simp only [rowOf,Option.some.injEq,reduceCtorEq] at h
  · subst h; simp only [wt,wts]; omega
  · subst h; simp only [wt,wts]; omega
theorem snocP {α β : Type} {R : α → β → Prop} {x : α} : ∀ {xs : List α} {zs : List β},Paired R (xs ++ [x]) zs → ∃ ys y,zs = ys ++ [y] ∧ Paired R xs ys ∧ R x y
  | [],zs,h => by
    cases h with
    | cons a t => cases t; exact ⟨[],_,rfl,.nil,a⟩
  | z :: xs,zs,h => by
    cases h with
    | cons a t =>
      obtain ⟨ys,y,rfl,p,r⟩ := snocP t
      exact ⟨_ :: ys,y,rfl,.cons a p,r⟩
theorem appP {α β : Type} {R : α → β → Prop} : ∀ {xs : List α} {ys : List β} {xs' : List α} {ys' : List β},Paired R xs ys → Paired R xs' ys' → Paired R (xs ++ xs') (ys ++ ys')
  | _,_,_,_,.nil,h => h
  | _,_,_,_,.cons a t,h => .cons a (appP t h)
section
variable {P : Program} {w : World} {K : PySem.W.Frag} {mg : Str → Option Value} {base : Heap}
def spCP : Sp := fun vs H Q _ => ∃ (w h : Int),vs = [.int w,.int h] ∧ 1 ≤ w ∧ 1 ≤ h ∧ Q .non H
def spIsTree (C : Addr) : Sp := fun vs H Q _ => ∃ (pp s : Addr) (b w h : Int) (ks : List Kd) (v : V) (d : PyData),vs = [.ref s,.int w,.int h,v] ∧ ShopAt C H s b ks ∧ 1 ≤ w ∧ 1 ≤ h ∧ Dt pp H v d ∧ wt d ≤ 30000 ∧ ∀ H',Same H H' → Q (.bl (isT b ks w h d)) H'
theorem sccplate : FnScope ["wide","high"] ["wide","high"] (defScope sCheckPlate) := ⟨rfl,rfl,rfl,by decide +kernel,rfl,by decide +kernel,by decide +kernel⟩
theorem ok_cplate {f : Addr} {fd : FuncData} (F : Fun K "check_plate" "check_plate" sCheckPlate f fd) (DW : Dn P w K mg base "is_whole" ["thing","least"] 1 (spWhole K)) : FnOk P w K mg base CX0 2 f fd ["wide","high"] (spCP) := by
  refine F.ok sccplate (fun vs H Q E h => ?_) (fun cdv A outer s H vs Q E hr h => ?_)
  · obtain ⟨w1,h1,rfl,_⟩ := h
    rfl
  obtain ⟨w1,h1,rfl,w0,h0,q⟩ := h
  have nd := sccplate.nd
  refine ⟨_,(@pss_one _ _ _ (@ps_if _ _ _ _ _ _ _ _ (PW.pt (pw_or (@pt_not _ _ _ _ (@pt_val _ _ _ (@pe_cD _ _ _ _ _ _ _ _ _ _ DW hr rfl (@pa_cons _ _ _ _ _ (pv 0) (@pa_cons _ _ _ _ _ pe_int pa_nil rfl) rfl) (by decide) rfl rfl) (by intro _; rfl))) (pw_or1 (@pt_not _ _ _ _ (@pt_val _ _ _ (@pe_cD _ _ _ _ _ _ _ _ _ _ DW hr rfl (@pa_cons _ _ _ _ _ (pv 1) (@pa_cons _ _ _ _ _ pe_int pa_nil rfl) rfl) (by decide) rfl rfl) (by intro _; rfl)))))) (@pss_one _ _ _ ps_never) pss_nil)),?_⟩
  refine ⟨_,rfl,.int w1,"int",1,rfl,Ty.int,_,rfl,?_⟩
  rw [show whole (.int w1) 1 = true from decide_eq_true w0]
  refine iteF ⟨_,rfl,.int h1,"int",1,rfl,Ty.int,_,rfl,?_⟩
  rw [show whole (.int h1) 1 = true from decide_eq_true h0]
  exact iteF q
theorem scistree : FnScope ["shop","wide","high","thing","blade","waiting","spot"] ["shop","wide","high","thing"] (defScope sIsTree) := ⟨rfl,rfl,rfl,by decide +kernel,rfl,by decide +kernel,by decide +kernel⟩
theorem ok_istree {f C : Addr} {fd : FuncData} (F : Fun K "is_tree" "is_tree" sIsTree f fd) (T : ShopTxt K C) (MB : Mn P w K mg base C "blade" ["self"] 1 (spBlade C)) (DCP : Dn P w K mg base "check_plate" ["wide","high"] 2 (spCP)) (DC : Dn P w K mg base "is_cut" ["blade","spot"] 3 (spCut)) (DF : Dn P w K mg base "is_leaf" ["shop","spot"] 5 (spLeaf C)) (DS : Dn P w K mg base "spots_behind" ["blade","spot"] 2 (spBehind)) : FnOk P w K mg base CX0 6 f fd ["shop","wide","high","thing"] (spIsTree C) := by
  refine F.ok scistree (fun vs H Q E h => ?_) (fun cdv A outer s H vs Q E hr h => ?_)
  · obtain ⟨pp,s,b,w1,h1,ks,v,d,rfl,_⟩ := h
    rfl
  obtain ⟨pp,s,b,w1,h1,ks,v,d,rfl,S,w0,h0,hd,dz,q⟩ := h
  have nd := scistree.nd
  have hr1 := hr.mono (show 1 ≤ 5 by decide)
  have hr2 := hr.mono (show 2 ≤ 5 by decide)
  have hr3 := hr.mono (show 3 ≤ 5 by decide)
  refine ⟨_,(@pss_cons _ _ _ _ _ (@ps_expr _ _ _ _ (@pe_cD _ _ _ _ _ _ _ _ _ _ DCP hr2 rfl (@pa_cons _ _ _ _ _ (pv 1) (@pa_cons _ _ _ _ _ (pv 2) pa_nil rfl) rfl) (by decide) rfl rfl) rfl) (@pss_cons _ _ _ _ _ (@ps_set _ _ 4 _ _ _ _ nd rfl (Or.inl rfl) (pe_mD0 (pv 0) T.cl MB hr1) rfl (Or.inl rfl)) (@pss_cons _ _ _ _ _ (@ps_set _ _ 5 _ _ _ _ nd rfl (Or.inl rfl) (@pe_lst _ _ _ _ (@pa_cons _ _ _ _ _ (@pe_tup _ _ _ _ _ (@pa_cons _ _ _ _ _ pe_int (@pa_cons _ _ _ _ _ pe_int (@pa_cons _ _ _ _ _ (pv 1) (@pa_cons _ _ _ _ _ (pv 2) (@pa_cons _ _ _ _ _ (pv 3) pa_nil rfl) rfl) rfl) rfl) rfl)) pa_nil rfl)) rfl (Or.inl rfl)) (@pss_cons _ _ _ _ _ (ps_while PassesOwn.never (pt_truth (pv 5) (fun _ => rfl)) (@pss_cons _ _ _ _ _ (@ps_set _ _ 6 _ _ _ _ nd rfl (Or.inl rfl) (pe_bm0 PySem.F.plainAttrs_list PySem.F.slot_list_pop PySem.F.type_list_pop mt_pop (pv 5)) rfl (Or.inl rfl)) (@pss_one _ _ _ (@ps_if _ _ _ _ _ _ _ _ (@pt_val _ _ _ (@pe_cD _ _ _ _ _ _ _ _ _ _ DC hr3 rfl (@pa_cons _ _ _ _ _ (pv 4) (@pa_cons _ _ _ _ _ (pv 6) pa_nil rfl) rfl) (by decide) rfl rfl) (by intro _; rfl)) (@pss_one _ _ _ (@ps_expr _ _ _ _ (@pe_bm _ _ _ _ _ _ _ _ _ _ _ _ PySem.F.plainAttrs_list PySem.F.slot_list_extend PySem.F.type_list_extend mt_extend (pv 5) (@pa_cons _ _ _ _ _ (@pe_cD _ _ _ _ _ _ _ _ _ _ DS hr2 rfl (@pa_cons _ _ _ _ _ (pv 4) (@pa_cons _ _ _ _ _ (pv 6) pa_nil rfl) rfl) (by decide) rfl rfl) pa_nil rfl) rfl rfl rfl rfl rfl) rfl)) (@pss_one _ _ _ (@ps_if _ _ _ _ _ _ _ _ (@pt_not _ _ _ _ (@pt_val _ _ _ (@pe_cD _ _ _ _ _ _ _ _ _ _ DF hr rfl (@pa_cons _ _ _ _ _ (pv 0) (@pa_cons _ _ _ _ _ (pv 6) pa_nil rfl) rfl) (by decide) rfl rfl) (by intro _; rfl))) (@pss_one _ _ _ (@ps_ret _ _ _ _ pe_bl)) pss_nil)))))) (@pss_one _ _ _ (@ps_ret _ _ _ _ pe_bl)))))),?_⟩
  have sz : (40000 : Nat) ≤ sizeLine := by decide
  refine ⟨_,rfl,_,rfl,w1,h1,rfl,w0,h0,?_⟩
  obtain ⟨dx,r,rs,S1,S2,S3⟩ := id S
  refine ⟨_,rfl,s,dx,_,rfl,S1,(flds_no _ _ (by decide +kernel) (by decide +kernel)),s,b,ks,rfl,S,?_⟩
  refine ⟨_,rfl,_,rfl,_,rfl,(by show 5 ≤ sizeLine; decide),fun t ht => ?_⟩
  have sa : Same H (upd H t (.tup [.int 0,.int 0,.int w1,.int h1,v])) := Same.new ht
  have ka : (upd H t (.tup [.int 0,.int 0,.int w1,.int h1,v])) t = some (.tup [.int 0,.int 0,.int w1,.int h1,v]) := upd_same
  generalize upd H t (.tup [.int 0,.int 0,.int w1,.int h1,v]) = Ha at sa ka ⊢
  refine ⟨(by show 1 ≤ sizeLine; decide),fun wl hwl => ?_⟩
  have sb : Same Ha (upd Ha wl (.lst [.ref t])) := Same.new hwl
  have kb : (upd Ha wl (.lst [.ref t])) wl = some (.lst [.ref t]) := upd_same
  generalize upd Ha wl (.lst [.ref t]) = Hb at sb kb ⊢
  have fw : H wl = none := sa.free hwl
  have sab := sa.trans sb
  refine ⟨fun m σ H' => ∃ (vs : List V) (ts : List Spot) (v6 : Option V),σ = [some (.ref s),some (.int w1),some (.int h1),some v,some (.int b),some (.ref wl),v6] ∧ m = spsz ts ∧ H' wl = some (.lst vs) ∧ Paired (SpAt pp H H') vs ts ∧ spsz ts ≤ 30000 ∧ isT b ks w1 h1 d = ts.all (fun t => isT b ks t.w t.h t.d) ∧ Same H H',⟨_,[.ref t],[⟨0,0,w1,h1,d⟩],none,rfl,rfl,kb,.cons ⟨t,v,rfl,sb _ _ ka,hd⟩ .nil,by show wt d + 0 ≤ 30000; omega,by rw [List.all_cons,List.all_nil,Bool.and_true],sab⟩,?_⟩
  rintro m σ H1 ⟨vs,ts,v6,rfl,rfl,hw,pr,sz1,al,s1⟩
  refine ⟨_,rfl,_,.inl ⟨vs,SqL.of hw,rfl⟩,?_⟩
  rcases List.eq_nil_or_concat vs with rfl | ⟨vs',v0,rfl⟩
  · have ets : ts = [] := by
      have := Paired.length pr
      cases ts with
      | nil => rfl
      | cons _ _ => simp at this
    subst ets
    have q1 := q H1 s1
    rw [al] at q1
    exact iteF q1
  rw [List.concat_eq_append] at pr hw ⊢
  obtain ⟨ts',t0,rfl,prp,⟨sp,u,rfl,hsp,hdu⟩⟩ := snocP pr
  rw [show (!(vs' ++ [V.ref sp]).isEmpty) = true by cases vs' <;> rfl]
  have ssz : spsz (ts' ++ [t0]) = spsz ts' + wt t0.d := by rw [spsz_app]; show _ + (wt t0.d + 0) = _; omega
  rw [ssz] at sz1 ⊢
  refine iteT ⟨fun σ' H' => ∃ (vs : List V) (ts : List Spot) (v6 : Option V),σ' = [some (.ref s),some (.int w1),some (.int h1),some v,some (.int b),some (.ref wl),v6] ∧ spsz ts < spsz ts' + wt t0.d ∧ H' wl = some (.lst vs) ∧ Paired (SpAt pp H H') vs ts ∧ spsz ts ≤ 30000 ∧ isT b ks w1 h1 d = ts.all (fun t => isT b ks t.w t.h t.d) ∧ Same H H',fun σ' H' ⟨vs,ts,v6,e,l,r⟩ => ⟨_,l,vs,ts,v6,e,rfl,r⟩,?_⟩
  rw [List.all_append,List.all_cons,List.all_nil,Bool.and_true] at al
  have ml : (vs' ++ [V.ref sp]).length = vs'.length + 1 := by rw [List.length_append]; rfl
  have keep : ∀ {Hx : Hp} {o : HO},Same H Hx → Same H (upd Hx wl o) := fun {Hx o} sx c oo e => by
    rw [upd_ne (fun z => by rw [z,fw] at e; cases e)]
    exact sx _ _ e
  refine seqCut (fun σ' H' => σ' = [some (.ref s),some (.int w1),some (.int h1),some v,some (.int b),some (.ref wl),some (.ref sp)] ∧ H' wl = some (.lst vs') ∧ Paired (SpAt pp H H') vs' ts' ∧ H' sp = some (.tup [.int t0.x,.int t0.y,.int t0.w,.int t0.h,u]) ∧ Same H H') (fun R hR => ?_) ?_
  · refine ⟨_,rfl,.inl ⟨rfl,_,SqL.of hw⟩,wl,_,.ref sp,rfl,rfl,hw,(by rw [ml]; simp),?_⟩
    rw [List.dropLast_concat]
    have kt : ∀ {c : Addr} {xs : List V},H1 c = some (.tup xs) → (upd H1 wl (.lst vs')) c = some (.tup xs) := fun {c xs} e => by
      rw [upd_ne (fun z => by rw [z,hw] at e; cases e)]; exact e
    exact hR _ _ ⟨rfl,upd_same,Paired.mapP prp fun v t h => h.keep fun a xs e => kt e,kt hsp,keep s1⟩
  rintro _ H2 ⟨rfl,hw2,pr2,hsp2,s2⟩
  refine ⟨_,rfl,_,rfl,pp,b,t0.x,t0.y,t0.w,t0.h,sp,u,t0.d,rfl,hsp2,hdu.same s2,fun H3 s3 => ⟨_,rfl,?_⟩⟩
  have s03 := s2.trans s3
  refine ite2 (fun hc => ?_) (fun hc => ?_)
  · obtain ⟨dn,p,l,r,er,p1,pw,ph,eT⟩ := isT_cut (ks := ks) hc
    obtain ⟨a,xs,rfl,hx,dxs⟩ := hdu.ref_row er
    cases dxs with
    | @cons x0 _ xs0 _ hd0 dxs =>
    cases dxs with
    | @cons x1 _ xs1 _ hd1 dxs =>
    cases dxs with
    | @cons lv _ xs2 _ hdl dxs =>
    cases dxs with
    | @cons rv _ xs3 _ hdr dxs =>
    cases dxs
    cases hd0
    cases hd1
    refine ⟨_,rfl,.inl ⟨rfl,_,SqL.of (s3 _ _ hw2)⟩,_,rfl,_,rfl,?_⟩
    refine ⟨b,t0.x,t0.y,t0.w,t0.h,p,sp,a,dn,lv,rv,rfl,s3 _ _ hsp2,hx.imp (s03 _ _) (s03 _ _),fun lu t1 t2 H4 hlu ku k1 k2 s4 => ?_⟩
    have hw4 := s4 _ _ (s3 _ _ hw2)
    have pl := Paired.length pr2
    have sl := spsz_len ts'
    have two := rowOf_two er
    refine ⟨wl,lu,_,_,rfl,rfl,hw4,ku,by show _ + 2 ≤ _; omega,?_⟩
    have kt : ∀ {c : Addr} {xs : List V},H4 c = some (.tup xs) → (upd H4 wl (.lst (vs' ++ [.ref t1,.ref t2]))) c = some (.tup xs) := fun {c xs} e => by
      rw [upd_ne (fun z => by rw [z,hw4] at e; cases e)]; exact e
    have pr4 : Paired (SpAt pp H (upd H4 wl (.lst (vs' ++ [.ref t1,.ref t2])))) vs' ts' := Paired.mapP pr2 fun v t h => h.keep fun a xs e => kt (s4 _ _ (s3 _ _ e))
    cases dn with
    | true =>
      have k1 : H4 t1 = some (.tup [.int t0.x,.int t0.y,.int p,.int t0.h,lv]) := k1
      have k2 : H4 t2 = some (.tup [.int (t0.x + (p + b)),.int t0.y,.int (t0.w - p - b),.int t0.h,rv]) := k2
      refine ⟨vs' ++ [.ref t1,.ref t2],ts' ++ [⟨t0.x,t0.y,p,t0.h,l⟩,⟨t0.x + (p + b),t0.y,t0.w - p - b,t0.h,r⟩],_,rfl,?_,upd_same,appP pr4 (.cons ⟨t1,lv,rfl,kt k1,hdl⟩ (.cons ⟨t2,rv,rfl,kt k2,hdr⟩ .nil)),?_,?_,keep (s03.trans s4)⟩
      · rw [spsz_app]; show _ + (wt l + (wt r + 0)) < _; omega
      · rw [spsz_app]; show _ + (wt l + (wt r + 0)) ≤ _; omega
      · rw [al,eT,List.all_append]
        simp only [if_true,List.all_cons,List.all_nil,Bool.and_true]
    | false =>
      have k1 : H4 t1 = some (.tup [.int t0.x,.int t0.y,.int t0.w,.int p,lv]) := k1
      have k2 : H4 t2 = some (.tup [.int t0.x,.int (t0.y + (p + b)),.int t0.w,.int (t0.h - p - b),rv]) := k2
      refine ⟨vs' ++ [.ref t1,.ref t2],ts' ++ [⟨t0.x,t0.y,t0.w,p,l⟩,⟨t0.x,t0.y + (p + b),t0.w,t0.h - p - b,r⟩],_,rfl,?_,upd_same,appP pr4 (.cons ⟨t1,lv,rfl,kt k1,hdl⟩ (.cons ⟨t2,rv,rfl,kt k2,hdr⟩ .nil)),?_,?_,keep (s03.trans s4)⟩
      · rw [spsz_app]; show _ + (wt l + (wt r + 0)) < _; omega
      · rw [spsz_app]; show _ + (wt l + (wt r + 0)) ≤ _; omega
      · rw [al,eT,List.all_append]
        simp only [Bool.false_eq_true,if_false,List.all_cons,List.all_nil,Bool.and_true]
  · have hc : isC b t0.w t0.h t0.d = false := by simpa using hc
    have lf := isT_leaf (ks := ks) hc
    refine ⟨_,rfl,_,rfl,pp,b,t0.x,t0.y,t0.w,t0.h,s,sp,ks,u,t0.d,rfl,shopS s03 S,s3 _ _ hsp2,hdu.same s03,fun H4 s4 => ⟨_,rfl,?_⟩⟩
    have s04 := s03.trans s4
    have sp0 := wtpos t0.d
    cases hl : isL ks t0.w t0.h t0.d with
    | true =>
      rw [lf,hl,Bool.and_true] at al
      exact iteF ⟨vs',ts',_,rfl,by omega,s4 _ _ (s3 _ _ hw2),Paired.mapP pr2 fun v t h => h.keep fun a xs e => s4 _ _ (s3 _ _ e),by omega,al,s04⟩
    | false =>
      rw [lf,hl,Bool.and_false] at al
      have q1 := q H4 s04
      rw [al] at q1
      exact iteT q1
end
section
variable {P : Program} {w : World} {K : PySem.W.Frag} {mg : Str → Option Value} {base : Heap}
theorem scPot : FnScope ["_law_script","_law_place","_law_cell"] ["_law_script","_law_place"] (defScope sPot) := ⟨rfl,rfl,rfl,by decide +kernel,rfl,by decide +kernel,by decide +kernel⟩
theorem ok_pot {f : Addr} {fd : FuncData} (F : Fun K "_law_pot" "_law_pot" sPot f fd) (ml : mg "len" = none) (mi : mg "int" = none) : FnOk P w K mg base CX0 1 f fd ["_law_script","_law_place"] (spPot K) := by
  refine F.ok scPot (fun vs H Q E h => ?_) (fun cdv A outer s H vs Q E hr h => ?_)
  · obtain ⟨a,ns,n,rfl,_⟩ := h
    rfl
  obtain ⟨a,ns,n,rfl,hS,n0,n1,h63,q⟩ := h
  refine ⟨_,pss_cons (ps_set (i := 2) scPot.nd rfl (Or.inl rfl) pe_int)
    (pss_cons (ps_if (pt_cmpR op_lt (pv 1) (pe_callB call_len_seq rfl ml PySem.boot_len (pa_cons (pv 0) pa_nil)) (nomark _)) (pss_one (ps_set (i := 2) scPot.nd rfl (Or.inl rfl) (pe_ix ix_list (pv 0) (pv 1) (fun _ _ => rfl)))) pss_nil)
    (pss_one (ps_ret (pe_lst (pa_cons (pe_op op_mul (pv 2) (pe_callTy call_int1 rfl mi PyProof.Rows.boot_int (pa_cons (pe_cmpR op_ge (pv 2) (pe_op op_pow pe_int pe_int) (nomark _)) pa_nil)))
      (pa_cons (pe_op op_mod (pe_op op_add (pe_op op_add (pe_op op_mul (pv 2) pe_int) (pe_op op_mul pe_int (pv 1))) pe_int) pe_int) pa_nil)))))),?_⟩
  have hl : (ns.map V.int).length = ns.length := List.length_map _
  have fin : ∀ c : Int,Pot (c * (if decide ((10 : Int) ^ (18 : Int).toNat ≤ c) = true then 1 else 0)) ((c * 48271 + 7919 * n + 12345) % 2147483629) := fun c => by
    refine ⟨?_,Int.emod_nonneg _ (by decide),Int.emod_lt_of_pos _ (by decide)⟩
    by_cases hc : (10 : Int) ^ (18 : Int).toNat ≤ c
    · rw [decide_eq_true hc,if_pos rfl]
      have : (0 : Int) ≤ (10 : Int) ^ (18 : Int).toNat := by decide
      omega
    · rw [decide_eq_false hc,if_neg Bool.false_ne_true]; omega
  refine ⟨_,rfl,_,rfl,a,_,rfl,.inl hS,_,_,rfl,rfl,_,rfl,?_⟩
  refine ite2 (fun c => ?_) (fun c => ?_)
  · have c' : n < ((ns.map V.int).length : Int) := of_decide_eq_true c
    rw [hl] at c'
    have hk : n.toNat < ns.length := by omega
    have hv : atI (ns.map V.int) n = some (.int ns[n.toNat]) := by
      have e : n = ((n.toNat : Nat) : Int) := by omega
      have z : atI (ns.map V.int) ((n.toNat : Nat) : Int) = some (.int ns[n.toNat]) := atI_nat (by rw [List.getElem?_map,List.getElem?_eq_getElem hk]; rfl)
      rw [← e] at z; exact z
    refine ⟨_,rfl,_,rfl,a,_,_,_,rfl,rfl,hS,hv,?_⟩
    refine ⟨_,rfl,_,rfl,_,_,rfl,rfl,⟨by decide,by decide,by decide⟩,_,_,rfl,rfl,.inr ⟨_,rfl,_,_,rfl,rfl,.inr ⟨by split <;> decide,by split <;> decide⟩,_,rfl,_,_,rfl,rfl,.inr ⟨by decide,by decide⟩,_,rfl,_,_,rfl,rfl,.inl ⟨by decide,by decide⟩,_,_,rfl,rfl,_,_,rfl,rfl,_,_,rfl,rfl,(by show (0 : Int) < 2147483629; decide),(by show 2 ≤ sizeLine; decide),fun p hp => ?_⟩⟩
    exact q p _ hp ⟨_,_,fin _,upd_same⟩ (fun b o e => by rw [upd_ne (ne_of_none e hp)]; exact e)
  · refine ⟨_,rfl,_,rfl,_,_,rfl,rfl,⟨by decide,by decide,by decide⟩,_,_,rfl,rfl,.inr ⟨_,rfl,_,_,rfl,rfl,.inr ⟨by split <;> decide,by split <;> decide⟩,_,rfl,_,_,rfl,rfl,.inr ⟨by decide,by decide⟩,_,rfl,_,_,rfl,rfl,.inl ⟨by decide,by decide⟩,_,_,rfl,rfl,_,_,rfl,rfl,_,_,rfl,rfl,(by show (0 : Int) < 2147483629; decide),(by show 2 ≤ sizeLine; decide),fun p hp => ?_⟩⟩
    exact q p _ hp ⟨_,_,fin _,upd_same⟩ (fun b o e => by rw [upd_ne (ne_of_none e hp)]; exact e)
theorem scDraw : FnScope ["_law_pot_here","_law_many","_law_found"] ["_law_pot_here","_law_many"] (defScope sDraw) := ⟨rfl,rfl,rfl,by decide +kernel,rfl,by decide +kernel,by decide +kernel⟩
theorem ok_draw {f : Addr} {fd : FuncData} (F : Fun K "_law_draw" "_law_draw" sDraw f fd) : FnOk P w K mg base CX0 1 f fd ["_law_pot_here","_law_many"] spDraw := by
  refine F.ok scDraw (fun vs H Q E h => ?_) (fun cdv A outer s H vs Q E hr h => ?_)
  · obtain ⟨p,m,rfl,_⟩ := h
    rfl
  obtain ⟨p,m,rfl,⟨a,b,pt,hp⟩,m0,m1,q⟩ := h
  refine ⟨_,pss_cons (ps_if (pt_cmpR op_gt (pe_ix ix_list (pv 0) pe_int (fun _ _ => rfl)) pe_int (nomark _))
      (pss_cons (ps_set (i := 2) scDraw.nd rfl (Or.inl rfl) (pe_op op_mod (pe_ix ix_list (pv 0) pe_int (fun _ _ => rfl)) (pv 1)))
      (pss_cons (ps_asg (pe_op op_fdivB (pe_ix ix_list (pv 0) pe_int (fun _ _ => rfl)) (pv 1)) (pg_sub (pv 0) pe_int set_list))
      (pss_one (ps_ret (pv 2))))) pss_nil)
    (pss_cons (ps_asg (pe_op op_mod (pe_op op_add (pe_op op_mul (pe_ix ix_list (pv 0) pe_int (fun _ _ => rfl)) pe_int) pe_int) pe_int) (pg_sub (pv 0) pe_int set_list))
    (pss_one (ps_ret (pe_op op_mod (pe_op op_fdiv (pe_op op_mod (pe_op op_mul (pe_ix ix_list (pv 0) pe_int (fun _ _ => rfl)) (pe_ix ix_list (pv 0) pe_int (fun _ _ => rfl))) pe_int) pe_int) (pv 1))))),?_⟩
  have at0 : atI [V.int a,V.int b] 0 = some (.int a) := rfl
  have at1 : atI [V.int a,V.int b] 1 = some (.int b) := rfl
  refine ⟨_,rfl,p,_,_,_,rfl,rfl,SqL.of hp,at0,_,_,rfl,rfl,_,rfl,?_⟩
  refine ite2 (fun c => ?_) (fun c => ?_)
  · have c' : 0 < a := of_decide_eq_true c
    refine ⟨_,rfl,p,_,_,_,rfl,rfl,SqL.of hp,at0,_,rfl,_,_,rfl,rfl,m0,?_⟩
    refine ⟨_,rfl,p,_,_,_,rfl,rfl,SqL.of hp,at0,_,rfl,_,_,rfl,rfl,⟨m0,m1⟩,_,rfl,p,_,_,_,rfl,rfl,hp,rfl,?_⟩
    refine ⟨_,rfl,q _ _ (Int.emod_nonneg _ (by omega)) (Int.emod_lt_of_pos _ m0) ⟨a / m,b,⟨Int.ediv_nonneg pt.a0 (by omega),pt.b0,pt.b1⟩,upd_same⟩ But.upd⟩
  · refine ⟨_,rfl,p,_,_,_,rfl,rfl,SqL.of hp,at1,_,_,rfl,rfl,.inr ⟨by decide,by decide⟩,_,_,rfl,rfl,_,_,rfl,rfl,(by show (0 : Int) < 2147483629; decide),_,rfl,p,_,_,_,rfl,rfl,hp,rfl,?_⟩
    have n0 : 0 ≤ (b * 39373 + 611953) % 2147483629 := Int.emod_nonneg _ (by decide)
    have n1 : (b * 39373 + 611953) % 2147483629 < 2147483629 := Int.emod_lt_of_pos _ (by decide)
    refine ⟨_,rfl,p,_,_,_,rfl,rfl,SqL.of upd_same,rfl,_,rfl,p,_,_,_,rfl,rfl,SqL.of upd_same,rfl,_,_,rfl,rfl,.inl ⟨by omega,by omega⟩,_,_,rfl,rfl,(by show (0 : Int) < 2147483563; decide),_,_,rfl,rfl,⟨by decide,by decide⟩,_,rfl,_,_,rfl,rfl,m0,?_⟩
    exact q _ _ (Int.emod_nonneg _ (by omega)) (Int.emod_lt_of_pos _ m0) ⟨a,_,⟨pt.a0,n0,n1⟩,upd_same⟩ But.upd
theorem scNumber : FnScope ["_law_pot_here","_law_least","_law_way"] ["_law_pot_here","_law_least"] (defScope sNumber) := ⟨rfl,rfl,rfl,by decide +kernel,rfl,by decide +kernel,by decide +kernel⟩
theorem ok_number {f : Addr} {fd : FuncData} (F : Fun K "_law_number" "_law_number" sNumber f fd) (D : Dn P w K mg base "_law_draw" ["_law_pot_here","_law_many"] 1 spDraw) : FnOk P w K mg base CX0 2 f fd ["_law_pot_here","_law_least"] spNumber := by
  refine F.ok scNumber (fun vs H Q E h => ?_) (fun cdv A outer s H vs Q E hr h => ?_)
  · obtain ⟨p,l,rfl,_⟩ := h
    rfl
  obtain ⟨p,l,rfl,pt,l0,l1,q⟩ := h
  refine ⟨_,pss_cons (ps_set (i := 2) scNumber.nd rfl (Or.inl rfl) (pe_cD D hr rfl (pa_cons (pv 0) (pa_cons pe_int pa_nil))))
    (pss_cons (ps_if (pt_cmpR op_lt (pv 2) pe_int (nomark _)) (pss_one (ps_ret (pe_op op_add (pv 1) (pe_cD D hr rfl (pa_cons (pv 0) (pa_cons pe_int pa_nil)))))) pss_nil)
    (pss_cons (ps_if (pt_cmpR op_eq (pv 2) pe_int (nomark _)) (pss_one (ps_ret (pe_op op_add (pv 1) (pe_cD D hr rfl (pa_cons (pv 0) (pa_cons (pe_op op_sub (pe_op op_pow pe_int pe_int) (pv 1)) pa_nil)))))) pss_nil)
    (pss_one (ps_ret (pe_op op_add (pe_op op_add (pe_op op_pow pe_int pe_int) (pe_op op_mul (pe_cD D hr rfl (pa_cons (pv 0) (pa_cons (pe_op op_pow pe_int pe_int) pa_nil))) (pe_op op_pow pe_int pe_int)))
      (pe_cD D hr rfl (pa_cons (pv 0) (pa_cons (pe_op op_pow pe_int pe_int) pa_nil)))))))),?_⟩
  have pw : ∀ {i j : Int},i = 10 → 0 ≤ j → j ≤ 60 → CPow i j := fun {i j} a b c => ⟨b,by omega,by subst a; decide⟩
  refine ⟨_,rfl,p,4,rfl,pt,by decide,by decide,fun y H1 y0 y1 pt1 b1 => ?_⟩
  refine ⟨_,rfl,_,_,rfl,rfl,_,rfl,?_⟩
  refine ite2 (fun c => ?_) (fun c => ?_)
  · refine ⟨_,rfl,_,rfl,p,12,rfl,pt1,by decide,by decide,fun r H2 r0 r1 pt2 b2 => ⟨_,_,rfl,rfl,?_⟩⟩
    exact q _ _ (by omega) (by omega) pt2 (b1.trans b2)
  · refine ⟨_,rfl,rfl,_,rfl,?_⟩
    refine ite2 (fun c2 => ?_) (fun c2 => ?_)
    · refine ⟨_,rfl,_,rfl,_,_,rfl,rfl,pw rfl (by decide) (by decide),_,rfl,_,_,rfl,rfl,p,_,rfl,pt1,?_,?_,fun r H2 r0 r1 pt2 b2 => ⟨_,_,rfl,rfl,?_⟩⟩
      · show (0 : Int) < 10 ^ 60 - l
        omega
      · show (10 ^ 60 : Int) - l ≤ 10 ^ 60
        omega
      · have r1' : r < 10 ^ 60 - l := r1
        exact q _ _ (by omega) (by omega) pt2 (b1.trans b2)
    · refine ⟨_,_,rfl,rfl,pw rfl (by decide) (by decide),_,rfl,_,_,rfl,rfl,pw rfl (by decide) (by decide),p,_,rfl,pt1,by decide,by decide,fun r H2 r0 r1 pt2 b2 => ?_⟩
      have r1' : r < 10 ^ 9 := r1
      refine ⟨_,_,rfl,rfl,pw rfl (by decide) (by decide),_,_,rfl,rfl,.inl ⟨by omega,by omega⟩,_,_,rfl,rfl,_,rfl,_,_,rfl,rfl,pw rfl (by decide) (by decide),p,_,rfl,pt2,by decide,by decide,fun r' H3 r0' r1'' pt3 b3 => ⟨_,_,rfl,rfl,?_⟩⟩
      have r2' : r' < 10 ^ 9 := r1''
      refine q _ _ ?_ ?_ pt3 (b1.trans (b2.trans b3))
      · show l ≤ 10 ^ 59 + r * 10 ^ 40 + r'
        omega
      · show 10 ^ 59 + r * 10 ^ 40 + r' < 10 ^ 60
        omega
end
theorem PotAt.ne {p q : Addr} {H : Hp} (x : PotAt H p) (h : H q = none) : p ≠ q := fun z => x.some (z ▸ h)
theorem PotAt.same {p : Addr} {H H' : Hp} (x : PotAt H p) (s : Same H H') : PotAt H' p := by
  obtain ⟨a,b,h,e⟩ := x
  exact ⟨a,b,h,s _ _ e⟩
theorem potLst {H : Hp} {p : Addr} (h : PotAt H p) : ∃ xs,H p = some (.lst xs) := by
  obtain ⟨_,_,_,e⟩ := h
  exact ⟨_,e⟩
theorem putA {p c : Addr} {H0 H : Hp} {o : HO} (b : But p H0 H) (pt : PotAt H p) (h : H c = none) : ∃ H',upd H c o = H' ∧ H' c = some o ∧ c ≠ p ∧ Same H H' ∧ But p H0 H' ∧ PotAt H' p :=
  ⟨_,rfl,upd_same,Ne.symm (pt.ne h),Same.new h,b.trans (But.new h),pt.new h⟩
theorem tupsButA {p : Addr} {rs : List V} {ks : List Kd} {H H' : Hp} (b : But p H H') (pt : PotAt H p) (h : Tups H rs ks) : Tups H' rs ks := by
  obtain ⟨_,hp⟩ := potLst pt
  exact Tups.keep (fun x xs e => b _ _ (fun z => by rw [z,hp] at e; cases e) e) h
def fits (k : Kd) (c : Bool) (w h : Int) : Bool := decide (sd1 k c ≤ w) && decide (sd2 k c ≤ h)
def lainB (k : Kd) : List Bool := if turnable k = true then [false,true] else [false]
section
variable {P : Program} {w : World} {K : PySem.W.Frag} {mg : Str → Option Value} {base : Heap}
def spShopL : Sp := fun vs H Q _ => ∃ (p : Addr),vs = [.ref p] ∧ PotAt H p ∧ ∀ (t l : Addr) (b : Int) (rs : List V) (ks : List Kd) (H' : Hp),H' t = some (.tup [.int b,.ref l]) → H' l = some (.lst rs) → l ≠ p → Tups H' rs ks → (∀ k ∈ ks,Good k) → 1 ≤ rs.length → rs.length ≤ 8 → 0 ≤ b → PotAt H' p → But p H H' → Q (.ref t) H'
end
def fq1 (ks : List Kd) (w h : Int) (i : Nat) : List (Nat × Bool) := match ks[i]? with
  | some k => ((lainB k).filter fun c => fits k c w h).map fun c => (i,c)
  | none => []
def fq (ks : List Kd) (w h : Int) (n : Nat) : List (Nat × Bool) := (List.range n).flatMap (fq1 ks w h)
theorem fq_succ (ks : List Kd) (w h : Int) (n : Nat) : fq ks w h (n + 1) = fq ks w h n ++ fq1 ks w h n := by
  unfold fq
  rw [List.range_succ,List.flatMap_append,List.flatMap_cons,List.flatMap_nil,List.append_nil]
theorem fq_mem {ks : List Kd} {w h : Int} {n i : Nat} {c : Bool} (hm : (i,c) ∈ fq ks w h n) : ∃ k,ks[i]? = some k ∧ c ∈ lainB k ∧ fits k c w h = true := by
  unfold fq at hm
  rw [List.mem_flatMap] at hm
  obtain ⟨j,_,hj⟩ := hm
  unfold fq1 at hj
  cases e : ks[j]? with
  | none => rw [e] at hj; cases hj
  | some k =>
    rw [e] at hj
    obtain ⟨c',hc',e2⟩ := List.mem_map.mp hj
    cases e2
    rw [List.mem_filter] at hc'
    exact ⟨k,e,hc'.1,hc'.2⟩
theorem fq1_len (ks : List Kd) (w h : Int) (i : Nat) : (fq1 ks w h i).length ≤ 2 := by
  unfold fq1
  split
  · rw [List.length_map]
    refine Nat.le_trans (List.length_filter_le _ _) ?_
    unfold lainB
    split <;> decide
  · decide
theorem fq_len (ks : List Kd) (w h : Int) : ∀ n,(fq ks w h n).length ≤ 2 * n
  | 0 => Nat.le_refl _
  | n + 1 => by
    rw [fq_succ,List.length_append]
    have := fq_len ks w h n
    have := fq1_len ks w h n
    omega
theorem leS2 {a b c : St} (h1 : leS a b) (h2 : leS b c) : leS a c := ⟨h2.1.trans h1.1,fun i v e => h2.2 i v (h1.2 i v e)⟩
def QAt (ks : List Kd) (H : Hp) (v : V) (q : Nat × Bool) : Prop := ∃ a k,v = .ref a ∧ ks[q.1]? = some k ∧ H a = some (.tup [.int q.1,.bl q.2,.int (sd1 k q.2),.int (sd2 k q.2)])
theorem QAt.keep {ks : List Kd} {H H' : Hp} (k : ∀ a xs,H a = some (.tup xs) → H' a = some (.tup xs)) {v : V} {q : Nat × Bool} (h : QAt ks H v q) : QAt ks H' v q := by
  obtain ⟨a,kk,e,e2,h⟩ := h
  exact ⟨a,kk,e,e2,k _ _ h⟩
def SdAt (k : Kd) (H : Hp) (v : V) (c : Bool) : Prop := ∃ a,v = .ref a ∧ H a = some (.tup [.int (sd1 k c),.int (sd2 k c),.bl c])
section
variable {P : Program} {w : World} {K : PySem.W.Frag} {mg : Str → Option Value} {base : Heap}
def spFitQ : Sp := fun vs H Q _ => ∃ (kl : Addr) (rs : List V) (ks : List Kd) (w h : Int),vs = [.ref kl,.int w,.int h] ∧ H kl = some (.lst rs) ∧ Tups H rs ks ∧ rs.length ≤ 8 ∧
  ∀ (l : Addr) (ys : List V) (H' : Hp),H l = none → H' l = some (.lst ys) → Paired (QAt ks H') ys (fq ks w h ks.length) → Same H H' → Q (.ref l) H'
theorem scfitq : FnScope ["_law_kinds","_law_wide","_law_high","_law_found","_law_number_here","_law_kind","_law_sides"] ["_law_kinds","_law_wide","_law_high"] (defScope sFitting) := ⟨rfl,rfl,rfl,by decide +kernel,rfl,by decide +kernel,by decide +kernel⟩
theorem ok_fitq {f : Addr} {fd : FuncData} (F : Fun K "_law_fitting" "_law_fitting" sFitting f fd) (B : Blt mg) : FnOk P w K mg base CX0 1 f fd ["_law_kinds","_law_wide","_law_high"] (spFitQ) := by
  refine F.ok scfitq (fun vs H Q E h => ?_) (fun cdv A outer s H vs Q E hr h => ?_)
  · obtain ⟨kl,rs,ks,w1,h1,rfl,_⟩ := h
    rfl
  obtain ⟨kl,rs,ks,w1,h1,rfl,hk0,tp,r8,q⟩ := h
  have nd := scfitq.nd
  refine ⟨_,(@pss_cons _ _ _ _ _ (@ps_set _ _ 3 _ _ _ _ nd rfl (Or.inl rfl) (@pe_lst _ _ _ _ pa_nil) rfl (Or.inl rfl)) (@pss_cons _ _ _ _ _ (@ps_for _ _ _ _ _ _ _ _ PassesOwn.never rfl (pi_enum rfl B.enumerate (@pa_cons _ _ _ _ _ (pv 0) pa_nil rfl)) (pg_tup rfl (pgs_cons (pg_name (i := 4) nd rfl (Or.inr rfl)) (pgs_cons (pg_name (i := 5) nd rfl (Or.inl rfl)) pgs_nil))) (@pss_cons _ _ _ _ _ (@ps_set _ _ 6 _ _ _ _ nd rfl (Or.inl rfl) (@pe_lst _ _ _ _ (@pa_cons _ _ _ _ _ (@pe_tup _ _ _ _ _ (@pa_cons _ _ _ _ _ (@pe_ix _ _ _ _ _ _ _ ix_tup (pv 5) pe_int (fun _ _ => rfl)) (@pa_cons _ _ _ _ _ (@pe_ix _ _ _ _ _ _ _ ix_tup (pv 5) pe_int (fun _ _ => rfl)) (@pa_cons _ _ _ _ _ pe_bl pa_nil rfl) rfl) rfl)) pa_nil rfl)) rfl (Or.inl rfl)) (@pss_cons _ _ _ _ _ (@ps_if _ _ _ _ _ _ _ _ (PW.pt (pw_and (@pt_val _ _ _ (@pe_ix _ _ _ _ _ _ _ ix_tup (pv 5) pe_int (fun _ _ => rfl)) (by intro _; rfl)) (pw_and1 (@pt_cmpR _ _ _ _ _ _ _ _ op_ne (@pe_ix _ _ _ _ _ _ _ ix_tup (pv 5) pe_int (fun _ _ => rfl)) (@pe_ix _ _ _ _ _ _ _ ix_tup (pv 5) pe_int (fun _ _ => rfl)) (nomark _))))) (@pss_one _ _ _ (@ps_expr _ _ _ _ (@pe_bm _ _ _ _ _ _ _ _ _ _ _ _ PySem.F.plainAttrs_list PySem.F.slot_list_append PySem.F.type_list_append mt_append (pv 6) (@pa_cons _ _ _ _ _ (@pe_tup _ _ _ _ _ (@pa_cons _ _ _ _ _ (@pe_ix _ _ _ _ _ _ _ ix_tup (pv 5) pe_int (fun _ _ => rfl)) (@pa_cons _ _ _ _ _ (@pe_ix _ _ _ _ _ _ _ ix_tup (pv 5) pe_int (fun _ _ => rfl)) (@pa_cons _ _ _ _ _ pe_bl pa_nil rfl) rfl) rfl)) pa_nil rfl) rfl rfl rfl rfl rfl) rfl)) pss_nil) (@pss_one _ _ _ (@ps_expr _ _ _ _ (@pe_bm _ _ _ _ _ _ _ _ _ _ _ _ PySem.F.plainAttrs_list PySem.F.slot_list_extend PySem.F.type_list_extend mt_extend (pv 3) (@pa_cons _ _ _ _ _ (pe_comp (own := ["_law_a","_law_b","_law_turned"]) (cs := ["_law_wide","_law_high","_law_number_here"]) (cap := [1,2,4]) rfl (pi_list (pv 6)) (compOk_of (sc := defScope sFitting) (N := ["_law_kinds","_law_wide","_law_high","_law_found","_law_number_here","_law_kind","_law_sides"]) rfl rfl (by decide +kernel)) (fun _ _ _ _ _ => pg_three K rfl rfl (by show List.Nodup (["_law_a","_law_b","_law_turned","_law_wide","_law_high","_law_number_here"] : List Str) ; decide +kernel) rfl rfl rfl rfl rfl rfl) (fun _ _ _ _ _ => (pifs_one (PW.pt (pw_and (@pt_cmpR _ _ _ _ _ _ _ _ op_le (pv 0) (pv 3) (nomark _)) (pw_and1 (@pt_cmpR _ _ _ _ _ _ _ _ op_le (pv 1) (pv 4) (nomark _))))))) (fun _ _ _ _ _ => (@pe_tup _ _ _ _ _ (@pa_cons _ _ _ _ _ (pv 5) (@pa_cons _ _ _ _ _ (pv 2) (@pa_cons _ _ _ _ _ (pv 0) (@pa_cons _ _ _ _ _ (pv 1) pa_nil rfl) rfl) rfl) rfl)))) pa_nil rfl) rfl rfl rfl rfl rfl) rfl)))) (by intro _; rfl)) (@pss_one _ _ _ (@ps_ret _ _ _ _ (pv 3))))),?_⟩
  have sz : (100 : Nat) < sizeLine := by decide
  refine ⟨by decide,fun l hl => ?_⟩
  have s1 : Same H (upd H l (.lst [])) := Same.new hl
  have l1 : (upd H l (.lst ([] : List V))) l = some (.lst []) := upd_same
  generalize upd H l (.lst ([] : List V)) = H1 at s1 l1 ⊢
  have kl1 := s1 _ _ hk0
  have nkl : kl ≠ l := fun e => by rw [e,hl] at hk0; cases hk0
  have len := Paired.length tp
  refine ⟨_,rfl,kl,rs,rfl,.inl ⟨kl1,for_enum (f := .lst) (fun _ _ e => by cases e; rfl) (xs := rs) (fun i σ H' => (∃ v4 v5 v6,σ = [some (.ref kl),some (.int w1),some (.int h1),some (.ref l),v4,v5,v6]) ∧ (∃ ys,H' l = some (.lst ys) ∧ Paired (QAt ks H') ys (fq ks w1 h1 i)) ∧ But l H1 H') ⟨⟨_,_,_,rfl⟩,⟨[],l1,.nil⟩,But.refl⟩ (fun i σ H' ⟨_,_,b4⟩ => b4 _ _ nkl kl1) ?_ ?_⟩⟩
  · rintro i x pp σ H2 hx hp ⟨⟨v4,v5,v6,rfl⟩,⟨ys,l2,py⟩,b2⟩
    obtain ⟨k,hk',ka,rfl,hka⟩ := Paired.getR tp hx
    have hin : i < rs.length := (List.getElem?_eq_some_iff.mp hx).1
    have nka : ka ≠ l := fun e => by rw [e,hl] at hka; cases hka
    have s3 : Same H2 (upd H2 pp (.tup [.int i,.ref ka])) := Same.new hp
    have p3 : (upd H2 pp (.tup [.int i,.ref ka])) pp = some (.tup [.int i,.ref ka]) := upd_same
    generalize upd H2 pp (.tup [.int i,.ref ka]) = H3 at s3 p3 ⊢
    have ka3 : H3 ka = some (.tup (kdV k)) := s3 _ _ (b2 _ _ nka (s1 _ _ hka))
    refine ⟨pp,_,rfl,SqT.of p3,rfl,_,_,rfl,_,_,rfl,rfl,?_⟩
    refine seqCut (fun σ' H' => ∃ sl a,σ' = [some (.ref kl),some (.int w1),some (.int h1),some (.ref l),some (.int i),some (.ref ka),some (.ref sl)] ∧ H3 sl = none ∧ H' sl = some (.lst [.ref a]) ∧ H' a = some (.tup [.int k.w,.int k.h,.bl false]) ∧ Same H3 H') (fun R hR => ?_) ?_
    · refine ⟨_,rfl,ka,_,0,_,rfl,rfl,SqT.of ka3,rfl,_,rfl,ka,_,1,_,rfl,rfl,SqT.of ka3,rfl,(by show 3 ≤ sizeLine; decide),fun a ha => ?_⟩
      have s4 : Same H3 (upd H3 a (.tup [.int k.w,.int k.h,.bl false])) := Same.new ha
      have k4 : (upd H3 a (.tup [.int k.w,.int k.h,.bl false])) a = some (.tup [.int k.w,.int k.h,.bl false]) := upd_same
      generalize upd H3 a (.tup [.int k.w,.int k.h,.bl false]) = H4 at s4 k4 ⊢
      exact ⟨(by show 1 ≤ sizeLine; decide),fun sl hsl => hR _ _ ⟨sl,a,rfl,s4.free hsl,upd_same,Same.new hsl _ _ k4,s4.trans (Same.new hsl)⟩⟩
    rintro _ H4 ⟨sl,a0,rfl,fsl,hs4,ha4,s34⟩
    have nsl : sl ≠ l := fun e => by rw [e,s3 _ _ l2] at fsl; cases fsl
    have ka4 := s34 _ _ ka3
    refine seqCut (fun σ' H' => ∃ zs,σ' = [some (.ref kl),some (.int w1),some (.int h1),some (.ref l),some (.int i),some (.ref ka),some (.ref sl)] ∧ H' sl = some (.lst zs) ∧ Paired (SdAt k H') zs (lainB k) ∧ But sl H4 H') (fun R hR => ?_) ?_
    · have no : turnable k = false → R [some (.ref kl),some (.int w1),some (.int h1),some (.ref l),some (.int i),some (.ref ka),some (.ref sl)] H4 := fun ht => hR _ _ ⟨_,rfl,hs4,by unfold lainB; rw [ht]; exact .cons ⟨a0,rfl,ha4⟩ .nil,But.refl⟩
      refine ⟨_,rfl,ka,_,4,_,rfl,rfl,SqT.of ka4,rfl,_,rfl,?_⟩
      cases htu : k.tu with
      | false => exact iteF (no (by unfold turnable; rw [htu]; rfl))
      | true =>
        refine iteT ⟨_,rfl,ka,_,0,_,rfl,rfl,SqT.of ka4,rfl,_,rfl,ka,_,1,_,rfl,rfl,SqT.of ka4,rfl,rfl,_,rfl,?_⟩
        by_cases hwh : k.w = k.h
        · rw [show decide (V.int k.w = V.int k.h) = true from decide_eq_true (by rw [hwh])]
          exact iteF (no (by unfold turnable; rw [decide_eq_true hwh]; simp))
        · rw [show decide (V.int k.w = V.int k.h) = false from decide_eq_false (fun z => hwh (V.int.inj z))]
          refine iteT ⟨_,rfl,.inl ⟨rfl,_,SqL.of hs4⟩,_,rfl,ka,_,1,_,rfl,rfl,SqT.of ka4,rfl,_,rfl,ka,_,0,_,rfl,rfl,SqT.of ka4,rfl,(by show 3 ≤ sizeLine; decide),fun a ha => ?_⟩
          have s5 : Same H4 (upd H4 a (.tup [.int k.h,.int k.w,.bl true])) := Same.new ha
          have k5 : (upd H4 a (.tup [.int k.h,.int k.w,.bl true])) a = some (.tup [.int k.h,.int k.w,.bl true]) := upd_same
          generalize upd H4 a (.tup [.int k.h,.int k.w,.bl true]) = H5 at s5 k5 ⊢
          have hs5 := s5 _ _ hs4
          refine ⟨sl,_,_,rfl,rfl,hs5,(by show 1 < sizeLine; decide),?_⟩
          have kt : ∀ {c : Addr} {xs : List V},H5 c = some (.tup xs) → (upd H5 sl (.lst ([.ref a0] ++ [.ref a]))) c = some (.tup xs) := fun {c xs} e => by
            rw [upd_ne (fun z => by rw [z,hs5] at e; cases e)]; exact e
          refine hR _ _ ⟨[.ref a0,.ref a],rfl,upd_same,?_,fun c o n e => by rw [upd_ne n]; exact s5 _ _ e⟩
          have ht : turnable k = true := by unfold turnable; rw [htu,decide_eq_false hwh]; rfl
          unfold lainB
          rw [ht]
          exact .cons ⟨a0,rfl,kt (s5 _ _ ha4)⟩ (.cons ⟨a,rfl,kt k5⟩ .nil)
    rintro _ H5 ⟨zs,rfl,hs5,pz5,b5⟩
    have l5 : H5 l = some (.lst ys) := b5 _ _ (Ne.symm nsl) (s34 _ _ (s3 _ _ l2))
    have zl := Paired.length pz5
    have ll : (lainB k).length ≤ 2 := by unfold lainB; split <;> decide
    have yl := Paired.length py
    have fl := fq_len ks w1 h1 i
    refine ⟨_,rfl,.inl ⟨rfl,_,SqL.of l5⟩,?_⟩
    have fe : fq1 ks w1 h1 i = ((lainB k).filter fun c => fits k c w1 h1).map fun c => (i,c) := by unfold fq1; rw [hk']
    refine ⟨_,rfl,sl,rfl,⟨_,SqL.of hs5⟩,(comp_seq (K := K) (.inl hs5) (fun j us Hx => Same H5 Hx ∧ Paired (QAt ks Hx) us ((((lainB k).take j).filter fun c => fits k c w1 h1).map fun c => (i,c))) (fun j us Hx _ ⟨sx,_⟩ o e => sx _ _ e) ⟨Same.refl _,.nil⟩ ?_ ?_).1 hs5⟩
    · rintro j y us Hx hj ⟨sx,pu⟩
      have hjn : j < zs.length := (List.getElem?_eq_some_iff.mp hj).1
      obtain ⟨cc,hc',t,rfl,ht⟩ := Paired.getR pz5 hj
      have htx := sx _ _ ht
      have pul := Paired.length pu
      have tk : (lainB k).take (j + 1) = (lainB k).take j ++ [cc] := by rw [List.take_add_one,hc']; rfl
      have pl : us.length ≤ 2 := by
        rw [pul,List.length_map]
        exact Nat.le_trans (List.length_filter_le _ _) (by rw [List.length_take]; omega)
      refine ⟨by omega,?_⟩
      refine ⟨t,_,rfl,SqT.of htx,rfl,_,_,rfl,_,_,rfl,_,_,rfl,rfl,leS2 (leS2 (leS.set rfl) (leS.set rfl)) (leS.set rfl),?_⟩
      refine ⟨_,rfl,_,rfl,_,_,rfl,rfl,_,rfl,?_⟩
      have pn := List.filter_append (p := fun c => fits k c w1 h1) ((lainB k).take j) [cc]
      rw [← tk] at pn
      refine ite2 (fun c1 => ?_) (fun c1 => ?_)
      · refine ⟨_,rfl,_,rfl,_,_,rfl,rfl,_,rfl,?_⟩
        refine ite2 (fun c2 => ?_) (fun c2 => ?_)
        · have ff : fits k cc w1 h1 = true := by unfold fits; rw [c1,c2]; rfl
          refine ⟨_,rfl,_,rfl,_,rfl,_,rfl,(by show 4 ≤ sizeLine; decide),fun z hz => ?_⟩
          refine Nx.of hjn ⟨sx.trans (Same.new hz),?_⟩
          rw [pn,List.filter_cons,if_pos ff,List.filter_nil,List.map_append]
          exact appP (Paired.mapP pu fun v q h => h.keep fun a xs e => Same.new hz _ _ e) (.cons ⟨z,k,rfl,hk',upd_same⟩ .nil)
        · have ff : ¬ fits k cc w1 h1 = true := fun z => c2 (by unfold fits at z; exact (Bool.and_eq_true_iff.mp z).2)
          refine Nx.of hjn ⟨sx,?_⟩
          rw [pn,List.filter_cons,if_neg ff,List.filter_nil,List.append_nil]
          exact pu
      · have ff : ¬ fits k cc w1 h1 = true := fun z => c1 (by unfold fits at z; exact (Bool.and_eq_true_iff.mp z).1)
        refine iteF (Nx.of hjn ⟨sx,?_⟩)
        rw [pn,List.filter_cons,if_neg ff,List.filter_nil,List.append_nil]
        exact pu
    · rintro us Hx ⟨sx,pu⟩
      rw [zl,List.take_length,← fe] at pu
      have pul := Paired.length pu
      have f1 := fq1_len ks w1 h1 i
      refine ⟨by omega,fun xl hxl => ?_⟩
      have sy : Same Hx (upd Hx xl (.lst us)) := Same.new hxl
      have ky : (upd Hx xl (.lst us)) xl = some (.lst us) := upd_same
      generalize upd Hx xl (.lst us) = Hy at sy ky ⊢
      have ly := sy _ _ (sx _ _ l5)
      refine ⟨l,xl,_,_,rfl,rfl,ly,ky,by omega,?_⟩
      have kt : ∀ {c : Addr} {xs : List V},Hy c = some (.tup xs) → (upd Hy l (.lst (ys ++ us))) c = some (.tup xs) := fun {c xs} e => by
        rw [upd_ne (fun z => by rw [z,ly] at e; cases e)]; exact e
      have up : ∀ {c : Addr} {xs : List V},H2 c = some (.tup xs) → Hy c = some (.tup xs) := fun {c xs} e => sy _ _ (sx _ _ (b5 _ _ (fun z => by rw [z] at e; rw [s34 _ _ (s3 _ _ e)] at hs4; cases hs4) (s34 _ _ (s3 _ _ e))))
      refine ⟨⟨_,_,_,rfl⟩,⟨ys ++ us,upd_same,?_⟩,fun c o n e => ?_⟩
      · rw [fq_succ]
        exact appP (Paired.mapP py fun v q h => h.keep fun a xs e => kt (up e)) (Paired.mapP pu fun v q h => h.keep fun a xs e => kt (sy _ _ e))
      · rw [upd_ne n]
        have e4 := s34 _ _ (s3 _ _ (b2 _ _ n e))
        refine sy _ _ (sx _ _ (b5 _ _ (fun z => ?_) e4))
        rw [z] at e
        have := s3 _ _ (b2 _ _ nsl e)
        rw [fsl] at this
        cases this
  · rintro σ H3 ⟨⟨v4,v5,v6,rfl⟩,⟨ys,l3,py⟩,b3⟩
    rw [len] at py
    exact ⟨_,rfl,q l ys H3 hl l3 py (fun x o e => b3 _ _ (fun z => by rw [z,hl] at e; cases e) (s1 _ _ e))⟩
end
inductive Tr where
  | rest
  | piece (i : Nat) (c : Bool) (x y : Int)
  | cut (dn : Bool) (p : Int) (l r : Tr)
def toD : Tr → PyData
  | .rest => .tuple [.str "rest"]
  | .piece i c x y => .tuple [.str "piece",.int i,.bool c,.int x,.int y]
  | .cut dn p l r => .tuple [.str (if dn = true then "down" else "across"),.int p,toD l,toD r]
def lvN : Tr → Nat
  | .cut _ _ l r => lvN l + lvN r
  | _ => 1
theorem toD_dep : ∀ t : Tr,1 ≤ (toD t).depth
  | .rest => by decide +kernel
  | .piece .. => by show 1 ≤ PyData.depthAll _ + 1; omega
  | .cut .. => by show 1 ≤ PyData.depthAll _ + 1; omega
theorem lvN_of_depth : ∀ t : Tr,(toD t).depth ≤ 1 → lvN t = 1
  | .rest,_ => rfl
  | .piece ..,_ => rfl
  | .cut dn p l r,h => by
    exfalso
    have h : PyData.depthAll [.str (if dn = true then "down" else "across"),.int p,toD l,toD r] + 1 ≤ 1 := h
    have := toD_dep l
    simp only [PyData.depthAll,PyData.depth] at h
    omega
def TrV (H : Hp) : Tr → V → Prop
  | .rest,v => ∃ a,v = .ref a ∧ H a = some (.tup [.str "rest"])
  | .piece i c x y,v => ∃ a,v = .ref a ∧ H a = some (.tup [.str "piece",.int i,.bl c,.int x,.int y])
  | .cut dn p l r,v => ∃ a x y,v = .ref a ∧ H a = some (.tup [.str (if dn = true then "down" else "across"),.int p,x,y]) ∧ TrV H l x ∧ TrV H r y
theorem TrV.keep {H H' : Hp} (k : ∀ a xs,H a = some (.tup xs) → H' a = some (.tup xs)) : ∀ (t : Tr) {v : V},TrV H t v → TrV H' t v
  | .rest,_,⟨a,e,h⟩ => ⟨a,e,k _ _ h⟩
  | .piece ..,_,⟨a,e,h⟩ => ⟨a,e,k _ _ h⟩
  | .cut _ _ l r,_,⟨a,x,y,e,h,h1,h2⟩ => ⟨a,x,y,e,k _ _ h,TrV.keep k l h1,TrV.keep k r h2⟩
theorem TrV.dt {p : Addr} {H : Hp} : ∀ (t : Tr) {v : V},TrV H t v → Dt p H v (toD t)
  | .rest,_,⟨a,e,h⟩ => by subst e; exact .tup h (.cons (.str _) .nil)
  | .piece ..,_,⟨a,e,h⟩ => by subst e; exact .tup h (.cons (.str _) (.cons (.int _) (.cons (.bl _) (.cons (.int _) (.cons (.int _) .nil)))))
  | .cut _ _ l r,_,⟨a,x,y,e,h,h1,h2⟩ => by subst e; exact .tup h (.cons (.str _) (.cons (.int _) (.cons (TrV.dt l h1) (.cons (TrV.dt r h2) .nil))))
def okT (b : Int) (ks : List Kd) : Int → Int → Tr → Prop
  | _,_,.rest => True
  | w,h,.piece i c x y => ∃ k,ks[i]? = some k ∧ c ∈ lainB k ∧ 0 ≤ x ∧ 0 ≤ y ∧ x + sd1 k c ≤ w ∧ y + sd2 k c ≤ h
  | w,h,.cut dn p l r => 1 ≤ p ∧ (if dn = true then p + b < w ∧ okT b ks p h l ∧ okT b ks (w - p - b) h r else p + b < h ∧ okT b ks w p l ∧ okT b ks w (h - p - b) r)
theorem lain_ly {ks : List Kd} {i : Nat} {c : Bool} {k : Kd} (hk : ks[i]? = some k) (hc : c ∈ lainB k) : isLy ks (.int i) (.bl c) = true := by
  unfold isLy
  simp only [Int.toNat_natCast,hk]
  rw [decide_eq_true (show (0 : Int) ≤ i by omega),Bool.true_and]
  cases c with
  | false => rfl
  | true =>
    unfold lainB at hc
    cases t : turnable k with
    | true => rfl
    | false => rw [t] at hc; simp at hc
def But2 (p q : Addr) (H H' : Hp) : Prop := ∀ c o,c ≠ p → c ≠ q → H c = some o → H' c = some o
theorem But2.trans {p q : Addr} {H H' H'' : Hp} (a : But2 p q H H') (b : But2 p q H' H'') : But2 p q H H'' := fun c o n1 n2 e => b c o n1 n2 (a c o n1 n2 e)
theorem But2.but {p q : Addr} {H H' : Hp} (a : But p H H') : But2 p q H H' := fun c o n1 _ e => a c o n1 e
section
variable {P : Program} {w : World} {K : PySem.W.Frag} {mg : Str → Option Value} {base : Heap}
def spLeafL : Sp := fun vs H Q _ => ∃ (p kl : Addr) (rs : List V) (ks : List Kd) (w h : Int),vs = [.ref p,.ref kl,.int w,.int h] ∧ kl ≠ p ∧ H kl = some (.lst rs) ∧ Tups H rs ks ∧ rs.length ≤ 8 ∧ (∀ k ∈ ks,Good k) ∧ 1 ≤ w ∧ w < 10 ^ 60 ∧ 1 ≤ h ∧ h < 10 ^ 60 ∧ PotAt H p ∧
  ∀ (v : V) (t : Tr) (H' : Hp),TrV H' t v → (∀ b,okT b ks w h t) → wt (toD t) ≤ 11 → (toD t).depth ≤ 1 → PotAt H' p → But p H H' → Q v H'
def spTreeL (n : Nat) : Sp := fun vs H Q _ => ∃ (p st l lf : Addr) (b : Int) (rs : List V) (ks : List Kd) (w h left : Int) (deep : Nat),vs = [.ref p,.ref st,.int w,.int h,.ref lf,.int deep] ∧ H st = some (.tup [.int b,.ref l]) ∧ H l = some (.lst rs) ∧ l ≠ p ∧ l ≠ lf ∧ lf ≠ p ∧ Tups H rs ks ∧ rs.length ≤ 8 ∧ (∀ k ∈ ks,Good k) ∧ 0 ≤ b ∧ 1 ≤ w ∧ w < 10 ^ 60 ∧ 1 ≤ h ∧ h < 10 ^ 60 ∧ H lf = some (.lst [.int left]) ∧ 0 ≤ left ∧ deep < n ∧ PotAt H p ∧
  ∀ (v : V) (t : Tr) (left' : Int) (H' : Hp),TrV H' t v → okT b ks w h t → 0 ≤ left' → left' ≤ left → (wt (toD t) : Int) ≤ 20 * (left - left') + 11 → (toD t).depth ≤ deep + 1 → (lvN t : Int) ≤ left - left' + 1 → H' lf = some (.lst [.int left']) → PotAt H' p → But2 p lf H H' → Q v H'
theorem datQ {ks : List Kd} {H : Hp} : ∀ {ys : List V} {qs : List (Nat × Bool)},Paired (QAt ks H) ys qs → ∃ ds,DatVs K H ys ds ∧ ds.length = qs.length ∧ PyData.canLayAll0 ds = true ∧ PyData.depthAll ds ≤ 1
  | _,_,.nil => ⟨[],.nil,rfl,rfl,Nat.zero_le _⟩
  | _,_,.cons ⟨a,k,e,e2,h⟩ r => by
    subst e
    obtain ⟨ds,d1,d2,d3,d4⟩ := datQ r
    refine ⟨_ :: ds,.cons (.tup (SqT.of h) (.cons (.int _) (.cons (.bl _) (.cons (.int _) (.cons (.int _) .nil))))) d1,by rw [List.length_cons,List.length_cons,d2],?_,?_⟩
    · simp [PyData.canLayAll0,PyData.canLay0,d3]
    · simp only [PyData.depthAll,PyData.depth]; omega
theorem scleafl : FnScope ["_law_pot_here","_law_kinds","_law_wide","_law_high","_law_some","_law_number_here","_law_turned","_law_a","_law_b"] ["_law_pot_here","_law_kinds","_law_wide","_law_high"] (defScope sLeaf) := ⟨rfl,rfl,rfl,by decide +kernel,rfl,by decide +kernel,by decide +kernel⟩
theorem ok_leafl {f : Addr} {fd : FuncData} (F : Fun K "_law_leaf" "_law_leaf" sLeaf f fd) (B : Blt mg) (DD : Dn P w K mg base "_law_draw" ["_law_pot_here","_law_many"] 1 (spDraw)) (DF : Dn P w K mg base "_law_fitting" ["_law_kinds","_law_wide","_law_high"] 1 (spFitQ)) : FnOk P w K mg base CX0 2 f fd ["_law_pot_here","_law_kinds","_law_wide","_law_high"] (spLeafL) := by
  refine F.ok scleafl (fun vs H Q E h => ?_) (fun cdv A outer s H vs Q E hr h => ?_)
  · obtain ⟨p,kl,rs,ks,w1,h1,rfl,_⟩ := h
    rfl
  obtain ⟨p,kl,rs,ks,w1,h1,rfl,nkp,hk0,tp,r8,gk,w0,w60,h0,h60,pt,q⟩ := h
  have nd := scleafl.nd
  have hu := hr.units
  refine ⟨_,(@pss_cons _ _ _ _ _ (@ps_set _ _ 4 _ _ _ _ nd rfl (Or.inl rfl) (@pe_cD _ _ _ _ _ _ _ _ _ _ DF hr rfl (@pa_cons _ _ _ _ _ (pv 1) (@pa_cons _ _ _ _ _ (pv 2) (@pa_cons _ _ _ _ _ (pv 3) pa_nil rfl) rfl) rfl) (by decide) rfl rfl) rfl (Or.inl rfl)) (@pss_cons _ _ _ _ _ (@ps_if _ _ _ _ _ _ _ _ (PW.pt (pw_or (@pt_cmpR _ _ _ _ _ _ _ _ (op_eqD hu) (pv 4) (@pe_lst _ _ _ _ pa_nil) (nomark _)) (pw_or1 (@pt_cmpR _ _ _ _ _ _ _ _ op_eq (@pe_cD _ _ _ _ _ _ _ _ _ _ DD hr rfl (@pa_cons _ _ _ _ _ (pv 0) (@pa_cons _ _ _ _ _ pe_int pa_nil rfl) rfl) (by decide) rfl rfl) pe_int (nomark _))))) (@pss_one _ _ _ (@ps_ret _ _ _ _ (@pe_tup _ _ _ _ _ (@pa_cons _ _ _ _ _ pe_str pa_nil rfl)))) pss_nil) (@pss_cons _ _ _ _ _ (@ps_asg _ _ _ _ _ _ (@pe_ix _ _ _ _ _ _ _ ix_list (pv 4) (@pe_cD _ _ _ _ _ _ _ _ _ _ DD hr rfl (@pa_cons _ _ _ _ _ (pv 0) (@pa_cons _ _ _ _ _ (@pe_callB _ _ _ _ _ _ _ _ _ call_len_seq rfl B.len PySem.boot_len (@pa_cons _ _ _ _ _ (pv 4) pa_nil rfl) (by decide) (by decide) rfl rfl) pa_nil rfl) rfl) (by decide) rfl rfl) (fun _ _ => rfl)) (pg_tup rfl (pgs_cons (pg_name (i := 5) nd rfl (Or.inl rfl)) (pgs_cons (pg_name (i := 6) nd rfl (Or.inl rfl)) (pgs_cons (pg_name (i := 7) nd rfl (Or.inl rfl)) (pgs_cons (pg_name (i := 8) nd rfl (Or.inl rfl)) pgs_nil))))) rfl rfl rfl) (@pss_one _ _ _ (@ps_ret _ _ _ _ (@pe_tup _ _ _ _ _ (@pa_cons _ _ _ _ _ pe_str (@pa_cons _ _ _ _ _ (pv 5) (@pa_cons _ _ _ _ _ (pv 6) (@pa_cons _ _ _ _ _ (@pe_cD _ _ _ _ _ _ _ _ _ _ DD hr rfl (@pa_cons _ _ _ _ _ (pv 0) (@pa_cons _ _ _ _ _ (@pe_op _ _ _ _ _ _ _ _ op_add (@pe_op _ _ _ _ _ _ _ _ op_sub (pv 2) (pv 7)) pe_int) pa_nil rfl) rfl) (by decide) rfl rfl) (@pa_cons _ _ _ _ _ (@pe_cD _ _ _ _ _ _ _ _ _ _ DD hr rfl (@pa_cons _ _ _ _ _ (pv 0) (@pa_cons _ _ _ _ _ (@pe_op _ _ _ _ _ _ _ _ op_add (@pe_op _ _ _ _ _ _ _ _ op_sub (pv 3) (pv 8)) pe_int) pa_nil rfl) rfl) (by decide) rfl rfl) pa_nil rfl) rfl) rfl) rfl) rfl))))))),?_⟩
  have e60 : (100 : Int) < 10 ^ 60 := by decide
  have sz : (100 : Nat) < sizeLine := by decide
  have len := Paired.length tp
  refine ⟨_,rfl,_,rfl,_,rfl,kl,rs,ks,w1,h1,rfl,hk0,tp,r8,fun l ys H1 hl l1 py s1 => ?_⟩
  have pt1 := pt.same s1
  have nlp : l ≠ p := Ne.symm (pt.ne hl)
  have yl := Paired.length py
  have fl := fq_len ks w1 h1 ks.length
  have rest : ∀ Hx, But p H Hx → PotAt Hx p → tRet (tTup (tCons (tC (.str "rest")) tNil)) { nx := fun x H' => Q V.non H', rt := Q } [some (.ref p), some (.ref kl), some (.int w1), some (.int h1), some (.ref l), none, none, none, none] Hx := fun Hx bx ptx => by
    refine ⟨(by show 1 ≤ sizeLine; decide),fun t ht => ?_⟩
    obtain ⟨Hy, ey, ky, ny, sy, by', pty⟩ := putA (o := .tup [.str "rest"]) bx ptx ht
    rw [ey]
    exact q _ .rest Hy ⟨t,rfl,ky⟩ (fun b => trivial) (by decide +kernel) (by decide +kernel) pty by'
  refine seqCut (fun σ' H' => σ' = [some (.ref p),some (.ref kl),some (.int w1),some (.int h1),some (.ref l),none,none,none,none] ∧ H1 = H') (fun R hR => hR _ _ ⟨rfl,rfl⟩) ?_
  rintro _ _ ⟨rfl,rfl⟩
  refine seqCut (fun σ' H' => σ' = [some (.ref p),some (.ref kl),some (.int w1),some (.int h1),some (.ref l),none,none,none,none] ∧ ys ≠ [] ∧ H' l = some (.lst ys) ∧ Paired (QAt ks H') ys (fq ks w1 h1 ks.length) ∧ PotAt H' p ∧ But p H H') (fun R hR => ?_) ?_
  · refine ⟨_,rfl,by decide,fun e0 he0 => ?_⟩
    obtain ⟨H2,e2,k2,n2,s2,b2,pt2⟩ := putA (o := .lst []) (But.refl (p := p) (H := H1)) pt1 he0
    rw [e2]; clear e2
    have s12 := s1.trans s2
    have py2 : Paired (QAt ks H2) ys (fq ks w1 h1 ks.length) := Paired.mapP py fun v q h => h.keep fun a xs e => s2 _ _ e
    obtain ⟨ds,d1,d2,d3,d4⟩ := datQ (K := K) py2
    refine ⟨.list ds,.list [],.lst (SqL.of (s2 _ _ l1)) d1,.lst (SqL.of k2) .nil,?_,by decide +kernel,_,rfl,?_⟩
    · simp [SeqAt.shaped,PyData.canLay0,PyData.depth,d3]
      omega
    cases ys with
    | nil =>
      have : ds = [] := by cases ds with
        | nil => rfl
        | cons _ _ => simp at d2; rw [← yl] at d2; simp at d2
      subst this
      exact iteT (iteT (rest _ (sBut s12) pt2))
    | cons y0 yr =>
      have hne : PyData.eqv (.list ds) (.list []) = false := by
        cases ds with
        | nil => rw [← yl] at d2; simp at d2
        | cons _ _ => rfl
      rw [hne]
      refine iteF ⟨_,rfl,p,5,rfl,pt2,by decide,by decide,fun z H3 z0 z1 pt3 b3 => ⟨rfl,_,rfl,?_⟩⟩
      refine ite2 (fun cc => ?_) (fun cc => ?_)
      · exact rest _ ((sBut s12).trans b3) pt3
      · refine hR _ _ ⟨rfl,List.cons_ne_nil _ _,b3 _ _ nlp (s2 _ _ l1),?_,pt3,(sBut s12).trans b3⟩
        obtain ⟨_,hp⟩ := potLst pt2
        exact Paired.mapP py2 fun v q h => h.keep fun a xs e => b3 _ _ (fun z => by rw [z,hp] at e; cases e) e
  rintro _ H2 ⟨rfl,ne,l2,py2,pt2,b2⟩
  have y1 : 1 ≤ ys.length := by cases ys with
    | nil => exact absurd rfl ne
    | cons _ _ => rw [List.length_cons]; omega
  refine ⟨_,rfl,_,rfl,_,rfl,l,_,rfl,.inl (SqL.of l2),p,_,rfl,pt2,by omega,by omega,fun r H3 r0 r1 pt3 b3 => ?_⟩
  have l3 := b3 _ _ nlp l2
  obtain ⟨x,hx,hm⟩ := at_mem (xs := ys) r0 r1
  obtain ⟨j,hj⟩ := List.mem_iff_getElem?.mp hm
  obtain ⟨⟨i,c⟩,hq,a,k,rfl,hk',ha⟩ := Paired.getR py2 hj
  obtain ⟨k',hk2,hcl,hf⟩ := fq_mem (List.mem_of_getElem? hq)
  rw [show ks[i]? = some k from hk'] at hk2
  cases hk2
  have ha3 : H3 a = some (.tup [.int i,.bl c,.int (sd1 k c),.int (sd2 k c)]) := by
    obtain ⟨_,hp⟩ := potLst pt2
    exact b3 _ _ (fun z => by rw [z,hp] at ha; cases ha) ha
  have fits' : sd1 k c ≤ w1 ∧ sd2 k c ≤ h1 := by
    unfold fits at hf
    rw [Bool.and_eq_true] at hf
    exact ⟨of_decide_eq_true hf.1,of_decide_eq_true hf.2⟩
  have g := gk k (List.mem_of_getElem? hk')
  have sp : 1 ≤ sd1 k c ∧ 1 ≤ sd2 k c := by have := g.w; have := g.h; cases c <;> exact ⟨by assumption,by assumption⟩
  refine ⟨l,_,_,_,rfl,rfl,SqL.of l3,hx,a,_,rfl,SqT.of ha3,rfl,_,_,rfl,_,_,rfl,_,_,rfl,_,_,rfl,rfl,?_⟩
  refine ⟨_,rfl,_,rfl,_,rfl,_,rfl,_,rfl,_,_,rfl,rfl,_,_,rfl,rfl,p,_,rfl,pt3,(by show 0 < w1 - sd1 k c + 1; omega),(by show w1 - sd1 k c + 1 ≤ _; omega),fun x1 H4 x0 x1' pt4 b4 => ?_⟩
  refine ⟨_,rfl,_,rfl,_,rfl,_,_,rfl,rfl,_,_,rfl,rfl,p,_,rfl,pt4,(by show 0 < h1 - sd2 k c + 1; omega),(by show h1 - sd2 k c + 1 ≤ _; omega),fun y1' H5 y0 y1'' pt5 b5 => ?_⟩
  refine ⟨(by show 5 ≤ sizeLine; decide),fun t ht => ?_⟩
  obtain ⟨H6, e6, k6, n6, s6, b6, pt6⟩ := putA (o := .tup [.str "piece", .int i, .bl c, .int x1, .int y1']) (((b2.trans b3).trans b4).trans b5) pt5 ht
  rw [show upd H5 t _ = H6 from e6]
  refine q _ (.piece i c x1 y1') H6 ⟨t, rfl, k6⟩ (fun b => ⟨k, hk', hcl, x0, y0, by omega, by omega⟩) (by show wt (.str "piece") + (1 + (1 + (1 + (1 + 0)))) + 1 ≤ 11; decide +kernel) (by simp [toD, PyData.depth, PyData.depthAll]) pt6 b6
theorem sctreel : FnScope ["_law_pot_here","_law_shop","_law_wide","_law_high","_law_left","_law_deep","_law_down","_law_room","_law_place","_law_behind","_law_first"] ["_law_pot_here","_law_shop","_law_wide","_law_high","_law_left","_law_deep"] (defScope sTree) := ⟨rfl,rfl,rfl,by decide +kernel,rfl,by decide +kernel,by decide +kernel⟩
theorem ok_treel {f : Addr} {fd : FuncData} (F : Fun K "_law_tree" "_law_tree" sTree f fd) (B : Blt mg) (n : Nat) (DD : Dn P w K mg base "_law_draw" ["_law_pot_here","_law_many"] 1 (spDraw)) (DL : Dn P w K mg base "_law_leaf" ["_law_pot_here","_law_kinds","_law_wide","_law_high"] 2 (spLeafL)) (DT : Dn P w K mg base "_law_tree" ["_law_pot_here","_law_shop","_law_wide","_law_high","_law_left","_law_deep"] (3 + n) (spTreeL n)) : FnOk P w K mg base CX0 (3 + (n + 1)) f fd ["_law_pot_here","_law_shop","_law_wide","_law_high","_law_left","_law_deep"] (spTreeL (n + 1)) := by
  refine F.ok sctreel (fun vs H Q E h => ?_) (fun cdv A outer s H vs Q E hr h => ?_)
  · obtain ⟨p,st,l,lf,b,rs,ks,w1,h1,left,deep,rfl,_⟩ := h
    rfl
  obtain ⟨p,st,l,lf,b,rs,ks,w1,h1,left,deep,rfl,hst,hl0,nlp,nll,nfp,tp,r8,gk,b0,w0,w60,h0,h60,hlf,lf0,dn0,pt,q⟩ := h
  have nd := sctreel.nd
  refine ⟨_,(@pss_cons _ _ _ _ _ (@ps_set _ _ 6 _ _ _ _ nd rfl (Or.inl rfl) (@pe_cmpR _ _ _ _ _ _ _ _ op_eq (@pe_cD _ _ _ _ _ _ _ _ _ _ DD (hr.mono (show 1 ≤ 3 + n by omega)) rfl (@pa_cons _ _ _ _ _ (pv 0) (@pa_cons _ _ _ _ _ pe_int pa_nil rfl) rfl) (by decide) rfl rfl) pe_int (nomark _)) rfl (Or.inl rfl)) (@pss_cons _ _ _ _ _ (@ps_set _ _ 7 _ _ _ _ nd rfl (Or.inl rfl) (@pe_op _ _ _ _ _ _ _ _ op_sub (@pe_op _ _ _ _ _ _ _ _ op_sub (@pe_ix _ _ _ _ _ _ _ ix_list (@pe_lst _ _ _ _ (@pa_cons _ _ _ _ _ (pv 3) (@pa_cons _ _ _ _ _ (pv 2) pa_nil rfl) rfl)) (@pe_callTy _ _ _ _ _ _ _ _ _ call_int1 rfl B.int PyProof.Rows.boot_int (@pa_cons _ _ _ _ _ (pv 6) pa_nil rfl) (by decide) (by decide) rfl rfl) (fun _ _ => rfl)) (@pe_ix _ _ _ _ _ _ _ ix_tup (pv 1) pe_int (fun _ _ => rfl))) pe_int) rfl (Or.inl rfl)) (@pss_cons _ _ _ _ _ (@ps_if _ _ _ _ _ _ _ _ (PW.pt (pw_or (@pt_cmpR _ _ _ _ _ _ _ _ op_eq (@pe_ix _ _ _ _ _ _ _ ix_list (pv 4) pe_int (fun _ _ => rfl)) pe_int (nomark _)) (pw_or (@pt_cmpR _ _ _ _ _ _ _ _ op_eq (pv 5) pe_int (nomark _)) (pw_or (@pt_cmpR _ _ _ _ _ _ _ _ op_lt (pv 7) pe_int (nomark _)) (pw_or1 (@pt_cmpR _ _ _ _ _ _ _ _ op_eq (@pe_cD _ _ _ _ _ _ _ _ _ _ DD (hr.mono (show 1 ≤ 3 + n by omega)) rfl (@pa_cons _ _ _ _ _ (pv 0) (@pa_cons _ _ _ _ _ pe_int pa_nil rfl) rfl) (by decide) rfl rfl) pe_int (nomark _))))))) (@pss_one _ _ _ (@ps_ret _ _ _ _ (@pe_cD _ _ _ _ _ _ _ _ _ _ DL (hr.mono (show 2 ≤ 3 + n by omega)) rfl (@pa_cons _ _ _ _ _ (pv 0) (@pa_cons _ _ _ _ _ (@pe_ix _ _ _ _ _ _ _ ix_tup (pv 1) pe_int (fun _ _ => rfl)) (@pa_cons _ _ _ _ _ (pv 2) (@pa_cons _ _ _ _ _ (pv 3) pa_nil rfl) rfl) rfl) rfl) (by decide) rfl rfl))) pss_nil) (@pss_cons _ _ _ _ _ (@ps_asg _ _ _ _ _ _ (@pe_op _ _ _ _ _ _ _ _ op_sub (@pe_ix _ _ _ _ _ _ _ ix_list (pv 4) pe_int (fun _ _ => rfl)) pe_int) (pg_sub (pv 4) pe_int set_list) rfl rfl rfl) (@pss_cons _ _ _ _ _ (@ps_set _ _ 8 _ _ _ _ nd rfl (Or.inl rfl) (@pe_op _ _ _ _ _ _ _ _ op_add pe_int (@pe_cD _ _ _ _ _ _ _ _ _ _ DD (hr.mono (show 1 ≤ 3 + n by omega)) rfl (@pa_cons _ _ _ _ _ (pv 0) (@pa_cons _ _ _ _ _ (pv 7) pa_nil rfl) rfl) (by decide) rfl rfl)) rfl (Or.inl rfl)) (@pss_cons _ _ _ _ _ (@ps_set _ _ 9 _ _ _ _ nd rfl (Or.inl rfl) (@pe_op _ _ _ _ _ _ _ _ op_add (pv 8) (@pe_ix _ _ _ _ _ _ _ ix_tup (pv 1) pe_int (fun _ _ => rfl))) rfl (Or.inl rfl)) (@pss_cons _ _ _ _ _ (@ps_if _ _ _ _ _ _ _ _ (@pt_val _ _ _ (pv 6) (by intro _; rfl)) (@pss_cons _ _ _ _ _ (@ps_set _ _ 10 _ _ _ _ nd rfl (Or.inl rfl) (@pe_cD _ _ _ _ _ _ _ _ _ _ DT hr rfl (@pa_cons _ _ _ _ _ (pv 0) (@pa_cons _ _ _ _ _ (pv 1) (@pa_cons _ _ _ _ _ (pv 8) (@pa_cons _ _ _ _ _ (pv 3) (@pa_cons _ _ _ _ _ (pv 4) (@pa_cons _ _ _ _ _ (@pe_op _ _ _ _ _ _ _ _ op_sub (pv 5) pe_int) pa_nil rfl) rfl) rfl) rfl) rfl) rfl) (by decide) rfl rfl) rfl (Or.inl rfl)) (@pss_one _ _ _ (@ps_ret _ _ _ _ (@pe_tup _ _ _ _ _ (@pa_cons _ _ _ _ _ pe_str (@pa_cons _ _ _ _ _ (pv 8) (@pa_cons _ _ _ _ _ (pv 10) (@pa_cons _ _ _ _ _ (@pe_cD _ _ _ _ _ _ _ _ _ _ DT hr rfl (@pa_cons _ _ _ _ _ (pv 0) (@pa_cons _ _ _ _ _ (pv 1) (@pa_cons _ _ _ _ _ (@pe_op _ _ _ _ _ _ _ _ op_sub (pv 2) (pv 9)) (@pa_cons _ _ _ _ _ (pv 3) (@pa_cons _ _ _ _ _ (pv 4) (@pa_cons _ _ _ _ _ (@pe_op _ _ _ _ _ _ _ _ op_sub (pv 5) pe_int) pa_nil rfl) rfl) rfl) rfl) rfl) rfl) (by decide) rfl rfl) pa_nil rfl) rfl) rfl) rfl))))) pss_nil) (@pss_cons _ _ _ _ _ (@ps_set _ _ 10 _ _ _ _ nd rfl (Or.inl rfl) (@pe_cD _ _ _ _ _ _ _ _ _ _ DT hr rfl (@pa_cons _ _ _ _ _ (pv 0) (@pa_cons _ _ _ _ _ (pv 1) (@pa_cons _ _ _ _ _ (pv 2) (@pa_cons _ _ _ _ _ (pv 8) (@pa_cons _ _ _ _ _ (pv 4) (@pa_cons _ _ _ _ _ (@pe_op _ _ _ _ _ _ _ _ op_sub (pv 5) pe_int) pa_nil rfl) rfl) rfl) rfl) rfl) rfl) (by decide) rfl rfl) rfl (Or.inl rfl)) (@pss_one _ _ _ (@ps_ret _ _ _ _ (@pe_tup _ _ _ _ _ (@pa_cons _ _ _ _ _ pe_str (@pa_cons _ _ _ _ _ (pv 8) (@pa_cons _ _ _ _ _ (pv 10) (@pa_cons _ _ _ _ _ (@pe_cD _ _ _ _ _ _ _ _ _ _ DT hr rfl (@pa_cons _ _ _ _ _ (pv 0) (@pa_cons _ _ _ _ _ (pv 1) (@pa_cons _ _ _ _ _ (pv 2) (@pa_cons _ _ _ _ _ (@pe_op _ _ _ _ _ _ _ _ op_sub (pv 3) (pv 9)) (@pa_cons _ _ _ _ _ (pv 4) (@pa_cons _ _ _ _ _ (@pe_op _ _ _ _ _ _ _ _ op_sub (pv 5) pe_int) pa_nil rfl) rfl) rfl) rfl) rfl) rfl) (by decide) rfl rfl) pa_nil rfl) rfl) rfl) rfl)))))))))))),?_⟩
  have e60 : (100 : Int) < 10 ^ 60 := by decide
  have hr1 := hr.mono (show 1 ≤ 3 + n by omega)
  have hr2 := hr.mono (show 2 ≤ 3 + n by omega)
  have keepT : ∀ {Ha Hb : Hp} {x : Int},But2 p lf Ha Hb → PotAt Ha p → Ha lf = some (.lst [.int x]) → ∀ a xs,Ha a = some (.tup xs) → Hb a = some (.tup xs) := fun {Ha Hb x} bb pp hh a xs e => by
    obtain ⟨_,hp⟩ := potLst pp
    exact bb _ _ (fun z => by rw [z,hp] at e; cases e) (fun z => by rw [z,hh] at e; cases e) e
  refine seqCut (fun σ' H' => ∃ dn : Bool,σ' = [some (.ref p),some (.ref st),some (.int w1),some (.int h1),some (.ref lf),some (.int deep),some (.bl dn),none,none,none,none] ∧ PotAt H' p ∧ But p H H') (fun R hR => ?_) ?_
  · exact ⟨_,rfl,p,2,rfl,pt,by decide,by decide,fun z H1 z0 z1 pt1 b1 => ⟨rfl,hR _ _ ⟨_,rfl,pt1,b1⟩⟩⟩
  rintro _ H1 ⟨dn,rfl,pt1,b1⟩
  have hst1 : H1 st = some (.tup [.int b,.ref l]) := keepT (But2.but b1) pt hlf _ _ hst
  refine seqCut (fun σ' H' => σ' = [some (.ref p),some (.ref st),some (.int w1),some (.int h1),some (.ref lf),some (.int deep),some (.bl dn),some (.int ((if dn = true then w1 else h1) - b - 1)),none,none,none] ∧ Same H1 H') (fun R hR => ?_) ?_
  · refine ⟨_,rfl,_,rfl,(by show 2 ≤ sizeLine; decide),fun rl hrl => ?_⟩
    have s2 : Same H1 (upd H1 rl (.lst [.int h1,.int w1])) := Same.new hrl
    have k2 : (upd H1 rl (.lst [.int h1,.int w1])) rl = some (.lst [.int h1,.int w1]) := upd_same
    generalize upd H1 rl (.lst [.int h1,.int w1]) = H2 at s2 k2 ⊢
    refine ⟨_,rfl,.inr ⟨dn,rfl,rl,_,_,.int (if dn = true then w1 else h1),rfl,rfl,SqL.of k2,(by cases dn <;> rfl),?_⟩⟩
    exact ⟨_,rfl,st,_,0,_,rfl,rfl,SqT.of (s2 _ _ hst1),rfl,_,_,rfl,rfl,_,_,rfl,rfl,hR _ _ ⟨rfl,s2⟩⟩
  rintro _ H2 ⟨rfl,s12⟩
  have pt2 := pt1.same s12
  have b2 := b1.trans (sBut s12)
  have hst2 := s12 _ _ hst1
  have lf2 := b2 _ _ nfp hlf
  have l2 := b2 _ _ nlp hl0
  have tp2 : Tups H2 rs ks := tupsButA b2 pt tp
  obtain ⟨room,hroom⟩ : ∃ room,(if dn = true then w1 else h1) - b - 1 = room := ⟨_,rfl⟩
  rw [hroom]
  have leaf : ∀ Hx,But p H2 Hx → PotAt Hx p → tRet (tCall spLeafL [] E0 (tCons (tVar 0) (tCons (tOp (rIxT K) (tVar 1) (tC (.int 1))) (tCons (tVar 2) (tCons (tVar 3) tNil))))) { nx := fun x H' => Q V.non H',rt := Q } [some (.ref p),some (.ref st),some (.int w1),some (.int h1),some (.ref lf),some (.int deep),some (.bl dn),some (.int room),none,none,none] Hx := fun Hx bx ptx => by
    have stx := keepT (But2.but bx) pt2 lf2 _ _ hst2
    refine ⟨_,rfl,_,rfl,st,_,1,_,rfl,rfl,SqT.of stx,rfl,_,rfl,_,rfl,p,l,rs,ks,w1,h1,rfl,nlp,bx _ _ nlp l2,tupsButA bx pt2 tp2,r8,gk,w0,w60,h0,h60,ptx,fun v t H' tv ok wl dl pt' b' => ?_⟩
    exact q v t left H' tv (ok b) lf0 (Int.le_refl _) (by omega) (by omega) (by have := lvN_of_depth t dl; omega) (b' _ _ nfp (bx _ _ nfp lf2)) pt' (But2.but ((b2.trans bx).trans b'))
  refine seqCut (fun σ' H' => σ' = [some (.ref p),some (.ref st),some (.int w1),some (.int h1),some (.ref lf),some (.int deep),some (.bl dn),some (.int room),none,none,none] ∧ 1 ≤ left ∧ 1 ≤ deep ∧ 1 ≤ room ∧ PotAt H' p ∧ But p H2 H') (fun R hR => ?_) ?_
  · refine ⟨_,rfl,lf,_,0,_,rfl,rfl,SqL.of lf2,rfl,rfl,_,rfl,?_⟩
    by_cases c1 : left = 0
    · rw [show decide (V.int left = V.int 0) = true from decide_eq_true (by rw [c1])]
      exact iteT (iteT (leaf _ But.refl pt2))
    rw [show decide (V.int left = V.int 0) = false from decide_eq_false (fun z => c1 (V.int.inj z))]
    refine iteF ⟨_,rfl,rfl,_,rfl,?_⟩
    by_cases c2 : deep = 0
    · rw [show decide (V.int (deep : Int) = V.int 0) = true from decide_eq_true (by rw [c2]; rfl)]
      exact iteT (iteT (leaf _ But.refl pt2))
    rw [show decide (V.int (deep : Int) = V.int 0) = false from decide_eq_false (fun z => c2 (by have := V.int.inj z; omega))]
    refine iteF ⟨_,rfl,_,_,rfl,rfl,_,rfl,?_⟩
    by_cases c3 : room < 1
    · rw [decide_eq_true c3]
      exact iteT (iteT (leaf _ But.refl pt2))
    rw [decide_eq_false c3]
    refine iteF ⟨_,rfl,p,6,rfl,pt2,by decide,by decide,fun z H3 z0 z1 pt3 b3 => ⟨rfl,_,rfl,?_⟩⟩
    refine ite2 (fun cc => ?_) (fun cc => ?_)
    · exact leaf _ b3 pt3
    · exact hR _ _ ⟨rfl,by omega,by omega,by omega,pt3,b3⟩
  rintro _ H3 ⟨rfl,left1,deep1,room1,pt3,b3⟩
  have lf3 := b3 _ _ nfp lf2
  obtain ⟨d',hd'⟩ : ∃ d',deep = d' + 1 := ⟨deep - 1,by omega⟩
  have ed : ((deep : Int) - 1) = (d' : Int) := by omega
  refine seqCut (fun σ' H' => σ' = [some (.ref p),some (.ref st),some (.int w1),some (.int h1),some (.ref lf),some (.int deep),some (.bl dn),some (.int room),none,none,none] ∧ H' lf = some (.lst [.int (left - 1)]) ∧ PotAt H' p ∧ But2 p lf H H') (fun R hR => ?_) ?_
  · refine ⟨_,rfl,lf,_,0,_,rfl,rfl,SqL.of lf3,rfl,_,_,rfl,rfl,_,rfl,lf,_,0,0,rfl,rfl,lf3,rfl,hR _ _ ⟨rfl,upd_same,?_,fun c o n1 n2 e => ?_⟩⟩
    · obtain ⟨x,y,hxy,e⟩ := pt3
      exact ⟨x,y,hxy,by rw [upd_ne (Ne.symm nfp)]; exact e⟩
    · rw [upd_ne n2]
      exact b3 _ _ n1 (b2 _ _ n1 e)
  rintro _ H4 ⟨rfl,lf4,pt4,b14⟩
  have rmost : room < 10 ^ 60 := by rw [← hroom]; cases dn <;> simp only [if_true,Bool.false_eq_true,if_false] <;> omega
  refine seqCut (fun σ' H' => ∃ pl : Int,σ' = [some (.ref p),some (.ref st),some (.int w1),some (.int h1),some (.ref lf),some (.int deep),some (.bl dn),some (.int room),some (.int (1 + pl)),none,none] ∧ 0 ≤ pl ∧ pl < room ∧ PotAt H' p ∧ But p H4 H') (fun R hR => ?_) ?_
  · exact ⟨_,rfl,_,rfl,p,room,rfl,pt4,by omega,by omega,fun pl H5 pl0 pl1 pt5 b5 => ⟨_,_,rfl,rfl,hR _ _ ⟨pl,rfl,pl0,pl1,pt5,b5⟩⟩⟩
  rintro _ H5 ⟨pl,rfl,pl0,pl1,pt5,b45⟩
  have b15 := b14.trans (But2.but b45)
  have lf5 := b45 _ _ nfp lf4
  have st5 := keepT b15 pt hlf _ _ hst
  have l5 := b15 _ _ nlp nll hl0
  have tp5 : Tups H5 rs ks := Tups.keep (keepT b15 pt hlf) tp
  refine seqCut (fun σ' H' => σ' = [some (.ref p),some (.ref st),some (.int w1),some (.int h1),some (.ref lf),some (.int deep),some (.bl dn),some (.int room),some (.int (1 + pl)),some (.int (1 + pl + b)),none] ∧ H5 = H') (fun R hR => ?_) ?_
  · exact ⟨_,rfl,_,rfl,st,_,0,_,rfl,rfl,SqT.of st5,rfl,_,_,rfl,rfl,hR _ _ ⟨rfl,rfl⟩⟩
  rintro _ _ ⟨rfl,rfl⟩
  cases dn with
  | true =>
    have hroom : w1 - b - 1 = room := hroom
    refine ⟨_,rfl,_,rfl,iteT ?_⟩
    refine ⟨_,rfl,_,rfl,_,rfl,_,rfl,_,rfl,_,rfl,_,_,rfl,rfl,p,st,l,lf,b,rs,ks,_,_,left - 1,d',(by rw [← ed]; rfl),st5,l5,nlp,nll,nfp,tp5,r8,gk,b0,(by omega),(by omega),(by omega),(by omega),lf5,(by omega),(by omega),pt5,fun v1 t1 lt1 H6 tv1 ok1 a1 a2 wt1 dp1 ln1 lf6 pt6 b56 => ?_⟩
    have st6 := keepT b56 pt5 lf5 _ _ st5
    have tp6 : Tups H6 rs ks := Tups.keep (keepT b56 pt5 lf5) tp5
    refine ⟨_,rfl,_,rfl,_,rfl,_,rfl,_,rfl,_,rfl,_,_,rfl,rfl,_,rfl,_,rfl,_,rfl,_,_,rfl,rfl,p,st,l,lf,b,rs,ks,_,_,lt1,d',(by rw [← ed]; rfl),st6,b56 _ _ nlp nll l5,nlp,nll,nfp,tp6,r8,gk,b0,(by omega),(by omega),(by omega),(by omega),lf6,a1,(by omega),pt6,fun v2 t2 lt2 H7 tv2 ok2 c1 c2 wt2 dp2 ln2 lf7 pt7 b67 => ?_⟩
    refine ⟨(by show 4 ≤ sizeLine; decide),fun t ht => ?_⟩
    have s8 : Same H7 (upd H7 t (.tup [.str "down",.int (1 + pl),v1,v2])) := Same.new ht
    have k8 : (upd H7 t (.tup [.str "down",.int (1 + pl),v1,v2])) t = some (.tup [.str "down",.int (1 + pl),v1,v2]) := upd_same
    rw [show upd H7 t _ = upd H7 t (.tup [.str "down",.int (1 + pl),v1,v2]) from rfl]
    generalize upd H7 t (.tup [.str "down",.int (1 + pl),v1,v2]) = H8 at s8 k8 ⊢
    have e8 : w1 - (1 + pl + b) = w1 - (1 + pl) - b := by omega
    refine q _ (.cut true (1 + pl) t1 t2) lt2 H8 ⟨t,v1,v2,rfl,k8,TrV.keep (fun a xs e => s8 _ _ (keepT b67 pt6 lf6 _ _ e)) t1 tv1,TrV.keep (fun a xs e => s8 _ _ e) t2 tv2⟩ ⟨by omega,?_⟩ c1 (by omega) ?_ ?_ (by show ((lvN t1 + lvN t2 : Nat) : Int) ≤ _; omega) (s8 _ _ lf7) (pt7.same s8) (b15.trans (b56.trans (b67.trans (fun c o _ _ e => s8 _ _ e))))
    · rw [e8] at ok2
      exact ⟨by omega,ok1,ok2⟩
    · have : wt (.str "down") ≤ 7 := by decide +kernel
      show ((wt (.str "down") + (1 + (wt (toD t1) + (wt (toD t2) + 0))) + 1 : Nat) : Int) ≤ _
      omega
    · show PyData.depthAll [.str "down",.int (1 + pl),toD t1,toD t2] + 1 ≤ _
      simp only [PyData.depthAll,PyData.depth]
      omega
  | false =>
    have hroom : h1 - b - 1 = room := hroom
    refine ⟨_,rfl,_,rfl,iteF ?_⟩
    refine ⟨_,rfl,_,rfl,_,rfl,_,rfl,_,rfl,_,rfl,_,_,rfl,rfl,p,st,l,lf,b,rs,ks,_,_,left - 1,d',(by rw [← ed]; rfl),st5,l5,nlp,nll,nfp,tp5,r8,gk,b0,(by omega),(by omega),(by omega),(by omega),lf5,(by omega),(by omega),pt5,fun v1 t1 lt1 H6 tv1 ok1 a1 a2 wt1 dp1 ln1 lf6 pt6 b56 => ?_⟩
    have st6 := keepT b56 pt5 lf5 _ _ st5
    have tp6 : Tups H6 rs ks := Tups.keep (keepT b56 pt5 lf5) tp5
    refine ⟨_,rfl,_,rfl,_,rfl,_,rfl,_,rfl,_,rfl,_,rfl,_,_,rfl,rfl,_,rfl,_,rfl,_,_,rfl,rfl,p,st,l,lf,b,rs,ks,_,_,lt1,d',(by rw [← ed]; rfl),st6,b56 _ _ nlp nll l5,nlp,nll,nfp,tp6,r8,gk,b0,(by omega),(by omega),(by omega),(by omega),lf6,a1,(by omega),pt6,fun v2 t2 lt2 H7 tv2 ok2 c1 c2 wt2 dp2 ln2 lf7 pt7 b67 => ?_⟩
    refine ⟨(by show 4 ≤ sizeLine; decide),fun t ht => ?_⟩
    have s8 : Same H7 (upd H7 t (.tup [.str "across",.int (1 + pl),v1,v2])) := Same.new ht
    have k8 : (upd H7 t (.tup [.str "across",.int (1 + pl),v1,v2])) t = some (.tup [.str "across",.int (1 + pl),v1,v2]) := upd_same
    rw [show upd H7 t _ = upd H7 t (.tup [.str "across",.int (1 + pl),v1,v2]) from rfl]
    generalize upd H7 t (.tup [.str "across",.int (1 + pl),v1,v2]) = H8 at s8 k8 ⊢
    have e8 : h1 - (1 + pl + b) = h1 - (1 + pl) - b := by omega
    refine q _ (.cut false (1 + pl) t1 t2) lt2 H8 ⟨t,v1,v2,rfl,k8,TrV.keep (fun a xs e => s8 _ _ (keepT b67 pt6 lf6 _ _ e)) t1 tv1,TrV.keep (fun a xs e => s8 _ _ e) t2 tv2⟩ ⟨by omega,?_⟩ c1 (by omega) ?_ ?_ (by show ((lvN t1 + lvN t2 : Nat) : Int) ≤ _; omega) (s8 _ _ lf7) (pt7.same s8) (b15.trans (b56.trans (b67.trans (fun c o _ _ e => s8 _ _ e))))
    · rw [e8] at ok2
      exact ⟨by omega,ok1,ok2⟩
    · have : wt (.str "across") ≤ 7 := by decide +kernel
      show ((wt (.str "across") + (1 + (wt (toD t1) + (wt (toD t2) + 0))) + 1 : Nat) : Int) ≤ _
      omega
    · show PyData.depthAll [.str "across",.int (1 + pl),toD t1,toD t2] + 1 ≤ _
      simp only [PyData.depthAll,PyData.depth]
      omega
theorem ok_tree0 {f : Addr} {fd : FuncData} (F : Fun K "_law_tree" "_law_tree" sTree f fd) : FnOk P w K mg base CX0 3 f fd ["_law_pot_here","_law_shop","_law_wide","_law_high","_law_left","_law_deep"] (spTreeL 0) := by
  refine F.ok sctreel (fun vs H Q E h => ?_) (fun cdv A outer s H vs Q E hr h => ?_)
  · obtain ⟨p,st,l,lf,b,rs,ks,w1,h1,left,deep,rfl,_⟩ := h
    rfl
  · obtain ⟨p,st,l,lf,b,rs,ks,w1,h1,left,deep,_,_,_,_,_,_,_,_,_,_,_,_,_,_,_,_,z,_⟩ := h
    exact absurd z (Nat.not_lt_zero _)
theorem ok_treeN {f : Addr} {fd : FuncData} (F : Fun K "_law_tree" "_law_tree" sTree f fd) (B : Blt mg) (DD : Dn P w K mg base "_law_draw" ["_law_pot_here","_law_many"] 1 (spDraw)) (DL : Dn P w K mg base "_law_leaf" ["_law_pot_here","_law_kinds","_law_wide","_law_high"] 2 (spLeafL)) (mk : ∀ n,FnOk P w K mg base CX0 (3 + n) f fd ["_law_pot_here","_law_shop","_law_wide","_law_high","_law_left","_law_deep"] (spTreeL n) → Dn P w K mg base "_law_tree" ["_law_pot_here","_law_shop","_law_wide","_law_high","_law_left","_law_deep"] (3 + n) (spTreeL n)) : ∀ n,FnOk P w K mg base CX0 (3 + n) f fd ["_law_pot_here","_law_shop","_law_wide","_law_high","_law_left","_law_deep"] (spTreeL n)
  | 0 => ok_tree0 F
  | n + 1 => ok_treel F B n DD DL (mk n (ok_treeN F B DD DL mk n))
end
theorem bw_eq {d : PyData} {y : Str} {r : List PyData} (e : rowOf d = some (.str y :: r)) (z : Str) (n : Nat) : bw d z n = (decide (r.length + 1 = n) && decide (y = z)) := by
  unfold bw
  rw [e]
def pcD (ks : List Kd) (w h : Int) : List PyData → Bool
  | [k,t,x,y] => lieD ks w h k t x y
  | _ => false
theorem isT_other {b : Int} {ks : List Kd} {w h : Int} {d : PyData} {y : Str} {r : List PyData} (e : rowOf d = some (.str y :: r)) (h1 : (decide (y = "down")) = false) (h2 : (decide (y = "across")) = false) : isT b ks w h d = (if decide (y = "rest") = true then decide (r.length + 1 = 1) else if decide (y = "piece") = true then pcD ks w h r else false) := by
  have hc : isC b w h d = false := by
    unfold isC
    rw [bw_eq e,bw_eq e,h1,h2]
    simp only [Bool.and_false]
    rfl
  rw [isT_leaf hc]
  unfold isL
  rw [bw_eq e,bw_eq e,e]
  by_cases hr : y = "rest"
  · subst hr
    rw [show decide ((Str.ofString "rest") = (Str.ofString "piece")) = false by decide +kernel,Bool.and_false,if_neg Bool.false_ne_true,decide_eq_true (rfl : (Str.ofString "rest") = Str.ofString "rest"),if_pos rfl,Bool.and_true]
  · rw [decide_eq_false hr,if_neg Bool.false_ne_true]
    by_cases hp : y = "piece"
    · subst hp
      rw [decide_eq_true (rfl : (Str.ofString "piece") = Str.ofString "piece"),Bool.and_true,if_pos (rfl : true = true),Bool.and_false]
      match r with
      | [] => rfl
      | [_] => rfl
      | [_,_] => rfl
      | [_,_,_] => rfl
      | [_,_,_,_] => rfl
      | _ :: _ :: _ :: _ :: _ :: r => simp [pcD]
    · rw [decide_eq_false hp,Bool.and_false,Bool.and_false,if_neg Bool.false_ne_true,if_neg Bool.false_ne_true]
theorem isT_way {b : Int} {ks : List Kd} {w h : Int} {d : PyData} {dn : Bool} {r : List PyData} (e : rowOf d = some (.str (if dn = true then "down" else "across") :: r)) : isT b ks w h d = (match r with
    | [.int p,l,r'] => decide (1 ≤ p) && (if dn = true then decide (p + b < w) && (isT b ks p h l && isT b ks (w - p - b) h r') else decide (p + b < h) && (isT b ks w p l && isT b ks w (h - p - b) r'))
    | _ => false) := by
  have leafF : isC b w h d = false → isT b ks w h d = false := fun hc => by
    rw [isT_leaf hc]
    unfold isL
    rw [bw_eq e,bw_eq e]
    cases dn
    · rw [show decide ((if false = true then (Str.ofString "down") else Str.ofString "across") = Str.ofString "piece") = false by decide +kernel,show decide ((if false = true then (Str.ofString "down") else Str.ofString "across") = Str.ofString "rest") = false by decide +kernel,Bool.and_false,Bool.and_false,if_neg Bool.false_ne_true]
    · rw [show decide ((if true = true then (Str.ofString "down") else Str.ofString "across") = Str.ofString "piece") = false by decide +kernel,show decide ((if true = true then (Str.ofString "down") else Str.ofString "across") = Str.ofString "rest") = false by decide +kernel,Bool.and_false,Bool.and_false,if_neg Bool.false_ne_true]
  cases hc : isC b w h d with
  | false =>
    rw [leafF hc]
    split
    · rename_i p l r' e
      unfold isC at hc
      rw [bw_eq e,bw_eq e] at hc
      cases dn
      · rw [show decide ((if false = true then (Str.ofString "down") else Str.ofString "across") = Str.ofString "down") = false by decide +kernel,show decide ((if false = true then (Str.ofString "down") else Str.ofString "across") = Str.ofString "across") = true by decide +kernel] at hc
        unfold cutOk at hc
        rw [e] at hc
        have hc : (decide (1 ≤ p) && decide (p + b < h)) = false := hc
        rw [if_neg Bool.false_ne_true,← Bool.and_assoc,hc,Bool.false_and]
      · rw [show decide ((if true = true then (Str.ofString "down") else Str.ofString "across") = Str.ofString "down") = true by decide +kernel] at hc
        unfold cutOk at hc
        rw [e] at hc
        have hc : (decide (1 ≤ p) && decide (p + b < w)) = false := hc
        rw [if_pos rfl,← Bool.and_assoc,hc,Bool.false_and]
    · rfl
  | true =>
    obtain ⟨dn',p,l,r',e',p1,pw,ph,eT⟩ := isT_cut (ks := ks) hc
    rw [e] at e'
    have hdn : dn = dn' := by
      have := PyData.str.inj (List.cons.inj (Option.some.inj e')).1
      cases dn <;> cases dn' <;> first | rfl | exact absurd this (by decide +kernel)
    subst hdn
    cases e'
    rw [eT]
    cases dn
    · simp only [Bool.false_eq_true,if_false]
      rw [decide_eq_true p1,decide_eq_true (ph rfl)]; rfl
    · simp only [if_true]
      rw [decide_eq_true p1,decide_eq_true (pw rfl)]; rfl
def TrD : Tr → PyData → Prop
  | .rest,d => rowOf d = some [.str "rest"]
  | .piece i c x y,d => rowOf d = some [.str "piece",.int i,.bool c,.int x,.int y]
  | .cut dn p l r,d => ∃ dl dr,rowOf d = some [.str (if dn = true then "down" else "across"),.int p,dl,dr] ∧ TrD l dl ∧ TrD r dr
theorem TrD.to : ∀ t : Tr,TrD t (toD t)
  | .rest => rfl
  | .piece .. => rfl
  | .cut _ _ l r => ⟨toD l,toD r,rfl,TrD.to l,TrD.to r⟩
theorem TrD.good {b : Int} {ks : List Kd} : ∀ (t : Tr) (d : PyData) (w h : Int),TrD t d → okT b ks w h t → isT b ks w h d = true
  | .rest,d,w,h,e,_ => by
    have e : rowOf d = some (.str "rest" :: []) := e
    rw [isT_other e (by decide +kernel) (by decide +kernel),if_pos (by decide +kernel)]; rfl
  | .piece i c x y,d,w,h,e,⟨k,hk,hc,x0,y0,hx,hy⟩ => by
    have e : rowOf d = some (.str "piece" :: [.int i,.bool c,.int x,.int y]) := e
    rw [isT_other e (by decide +kernel) (by decide +kernel),if_neg (by decide +kernel),if_pos (by decide +kernel)]
    show lieV ks w h (.int i) (.bl c) (.int x) (.int y) = true
    unfold lieV
    rw [lain_ly hk hc]
    simp only [Int.toNat_natCast,hk]
    rw [show whole (.int x) 0 = true from decide_eq_true x0,show whole (.int y) 0 = true from decide_eq_true y0,decide_eq_true hx,decide_eq_true hy]
    rfl
  | .cut true p l r,d,w,h,⟨dl,dr,e,tl,tr⟩,⟨p1,hp,hl,hr⟩ => by
    have eT : isT b ks w h d = (decide (1 ≤ p) && (decide (p + b < w) && (isT b ks p h dl && isT b ks (w - p - b) h dr))) := isT_way (dn := true) (r := [.int p,dl,dr]) e
    rw [eT,decide_eq_true p1,decide_eq_true hp,TrD.good l dl p h tl hl,TrD.good r dr _ h tr hr]; rfl
  | .cut false p l r,d,w,h,⟨dl,dr,e,tl,tr⟩,⟨p1,hp,hl,hr⟩ => by
    have eT : isT b ks w h d = (decide (1 ≤ p) && (decide (p + b < h) && (isT b ks w p dl && isT b ks w (h - p - b) dr))) := isT_way (dn := false) (r := [.int p,dl,dr]) e
    rw [eT,decide_eq_true p1,decide_eq_true hp,TrD.good l dl w p tl hl,TrD.good r dr w _ tr hr]; rfl
structure Lf where
  x : Int
  y : Int
  w : Int
  h : Int
  t : Tr
def lvs (b : Int) : Tr → Int → Int → Int → Int → List Lf
  | .cut true p l r,x,y,w,h => lvs b r (x + (p + b)) y (w - p - b) h ++ lvs b l x y p h
  | .cut false p l r,x,y,w,h => lvs b r x (y + (p + b)) w (h - p - b) ++ lvs b l x y w p
  | .rest,x,y,w,h => [⟨x,y,w,h,.rest⟩]
  | .piece i c u v,x,y,w,h => [⟨x,y,w,h,.piece i c u v⟩]
def szT : Tr → Nat
  | .cut _ _ l r => szT l + szT r + 1
  | _ => 1
def LfAt (p : Addr) (H0 H : Hp) (v : V) (t : Lf) : Prop := ∃ a u d,v = .ref a ∧ H a = some (.tup [.int t.x,.int t.y,.int t.w,.int t.h,u]) ∧ Dt p H0 u d ∧ TrD t.t d
theorem LfAt.keep {p : Addr} {H0 H H' : Hp} (k : ∀ a xs,H a = some (.tup xs) → H' a = some (.tup xs)) {v : V} {t : Lf} (h : LfAt p H0 H v t) : LfAt p H0 H' v t := by
  obtain ⟨a,u,d,e,h1,h2,h3⟩ := h
  exact ⟨a,u,d,e,k _ _ h1,h2,h3⟩
def lsz (ts : List Lf) : Nat := (ts.map fun t => szT t.t).sum
theorem lsz_app (a b : List Lf) : lsz (a ++ b) = lsz a + lsz b := by unfold lsz; rw [List.map_append,List.sum_append]
theorem szpos (t : Tr) : 1 ≤ szT t := by cases t <;> simp only [szT] <;> omega
theorem lsz_len : ∀ ts : List Lf,ts.length ≤ lsz ts
  | [] => Nat.le_refl _
  | t :: r => by
    have := lsz_len r
    have := szpos t.t
    show r.length + 1 ≤ szT t.t + lsz r
    omega
def allL (b : Int) (ts : List Lf) : List Lf := ts.reverse.flatMap fun t => lvs b t.t t.x t.y t.w t.h
theorem allL_snoc (b : Int) (ts : List Lf) (t : Lf) : allL b (ts ++ [t]) = lvs b t.t t.x t.y t.w t.h ++ allL b ts := by
  unfold allL
  rw [List.reverse_append]
  rfl
section
variable {P : Program} {w : World} {K : PySem.W.Frag} {mg : Str → Option Value} {base : Heap}
def spLeaves (C : Addr) : Sp := fun vs H Q _ => ∃ (HB : Hp) (pp s : Addr) (b w h : Int) (ks : List Kd) (v : V) (d : PyData) (t : Tr),vs = [.ref s,.int w,.int h,v] ∧ ShopAt C H s b ks ∧ Same HB H ∧ Dt pp HB v d ∧ TrD t d ∧ szT t ≤ 10000 ∧
  ∀ (l : Addr) (us : List V) (H' : Hp),H l = none → H' l = some (.lst us) → Paired (LfAt pp HB H') us (lvs b t 0 0 w h) → Same H H' → Q (.ref l) H'
def spCheckT (C : Addr) : Sp := fun vs H Q _ => ∃ (pp s : Addr) (b w h : Int) (ks : List Kd) (v : V) (d : PyData),vs = [.ref s,.int w,.int h,v] ∧ ShopAt C H s b ks ∧ 1 ≤ w ∧ 1 ≤ h ∧ Dt pp H v d ∧ wt d ≤ 30000 ∧ isT b ks w h d = true ∧ ∀ H',Same H H' → Q .non H'
theorem scleaves : FnScope ["shop","wide","high","tree","leaves","waiting","spot"] ["shop","wide","high","tree"] (defScope sLeavesOf) := ⟨rfl,rfl,rfl,by decide +kernel,rfl,by decide +kernel,by decide +kernel⟩
set_option maxHeartbeats 1000000 in
theorem ok_leaves {f C wa : Addr} {fd : FuncData} (F : Fun K "leaves_of" "leaves_of" sLeavesOf f fd) (T : ShopTxt K C) (Z : TrC K mg wa) (MB : Mn P w K mg base C "blade" ["self"] 1 (spBlade C)) (DS : Dn P w K mg base "spots_behind" ["blade","spot"] 2 (spBehind)) : FnOk P w K mg base CX0 3 f fd ["shop","wide","high","tree"] (spLeaves C) := by
  refine F.ok scleaves (fun vs H Q E h => ?_) (fun cdv A outer s H vs Q E hr h => ?_)
  · obtain ⟨HB,pp,s,b,w1,h1,ks,v,d,t,rfl,_⟩ := h
    rfl
  obtain ⟨HB,pp,s,b,w1,h1,ks,v,d,t,rfl,SH,sB,hd,td,tz,q⟩ := h
  have nd := scleaves.nd
  refine ⟨_,(@pss_cons _ _ _ _ _ (@ps_set _ _ 4 _ _ _ _ nd rfl (Or.inl rfl) (@pe_lst _ _ _ _ pa_nil) rfl (Or.inl rfl)) (@pss_cons _ _ _ _ _ (@ps_set _ _ 5 _ _ _ _ nd rfl (Or.inl rfl) (@pe_lst _ _ _ _ (@pa_cons _ _ _ _ _ (@pe_tup _ _ _ _ _ (@pa_cons _ _ _ _ _ pe_int (@pa_cons _ _ _ _ _ pe_int (@pa_cons _ _ _ _ _ (pv 1) (@pa_cons _ _ _ _ _ (pv 2) (@pa_cons _ _ _ _ _ (pv 3) pa_nil rfl) rfl) rfl) rfl) rfl)) pa_nil rfl)) rfl (Or.inl rfl)) (@pss_cons _ _ _ _ _ (ps_while PassesOwn.never (pt_truth (pv 5) (fun _ => rfl)) (@pss_cons _ _ _ _ _ (@ps_set _ _ 6 _ _ _ _ nd rfl (Or.inl rfl) (pe_bm0 PySem.F.plainAttrs_list PySem.F.slot_list_pop PySem.F.type_list_pop mt_pop (pv 5)) rfl (Or.inl rfl)) (@pss_one _ _ _ (@ps_if _ _ _ _ _ _ _ _ (@pt_cmpR _ _ _ _ _ _ _ _ op_in_seq (@pe_ix _ _ _ _ _ _ _ ix_seq (@pe_ix _ _ _ _ _ _ _ ix_tup (pv 6) pe_int (fun _ _ => rfl)) pe_int (fun _ _ => rfl)) (pe_glob (v := .ref wa) rfl Z.wy rfl) rfl) (@pss_one _ _ _ (@ps_expr _ _ _ _ (@pe_bm _ _ _ _ _ _ _ _ _ _ _ _ PySem.F.plainAttrs_list PySem.F.slot_list_extend PySem.F.type_list_extend mt_extend (pv 5) (@pa_cons _ _ _ _ _ (@pe_cD _ _ _ _ _ _ _ _ _ _ DS hr rfl (@pa_cons _ _ _ _ _ (pe_mD0 (pv 0) T.cl MB (hr.mono (by decide))) (@pa_cons _ _ _ _ _ (pv 6) pa_nil rfl) rfl) (by decide) rfl rfl) pa_nil rfl) rfl rfl rfl rfl rfl) rfl)) (@pss_one _ _ _ (@ps_expr _ _ _ _ (@pe_bm _ _ _ _ _ _ _ _ _ _ _ _ PySem.F.plainAttrs_list PySem.F.slot_list_append PySem.F.type_list_append mt_append (pv 4) (@pa_cons _ _ _ _ _ (pv 6) pa_nil rfl) rfl rfl rfl rfl rfl) rfl)))))) (@pss_one _ _ _ (@ps_ret _ _ _ _ (pv 4)))))),?_⟩
  have sz : (40000 : Nat) ≤ sizeLine := by decide
  obtain ⟨dx,r,rs,S1,S2,S3⟩ := id SH
  refine ⟨by decide,fun ll hll => ?_⟩
  have s0 : Same H (upd H ll (.lst [])) := Same.new hll
  have k0 : (upd H ll (.lst [])) ll = some (.lst []) := upd_same
  generalize upd H ll (.lst []) = H0 at s0 k0 ⊢
  refine ⟨_,rfl,_,rfl,_,rfl,(by show 5 ≤ sizeLine; decide),fun t' ht => ?_⟩
  have sa : Same H0 (upd H0 t' (.tup [.int 0,.int 0,.int w1,.int h1,v])) := Same.new ht
  have ka : (upd H0 t' (.tup [.int 0,.int 0,.int w1,.int h1,v])) t' = some (.tup [.int 0,.int 0,.int w1,.int h1,v]) := upd_same
  generalize upd H0 t' (.tup [.int 0,.int 0,.int w1,.int h1,v]) = Ha at sa ka ⊢
  refine ⟨(by show 1 ≤ sizeLine; decide),fun wl hwl => ?_⟩
  have sb : Same Ha (upd Ha wl (.lst [.ref t'])) := Same.new hwl
  have kb : (upd Ha wl (.lst [.ref t'])) wl = some (.lst [.ref t']) := upd_same
  generalize upd Ha wl (.lst [.ref t']) = Hb at sb kb ⊢
  have fw : H wl = none := (s0.trans sa).free hwl
  have nlw : ll ≠ wl := fun z => by rw [← z,sa _ _ k0] at hwl; cases hwl
  have sab := (s0.trans sa).trans sb
  refine ⟨fun m σ H' => ∃ (vs us : List V) (ts L : List Lf) (v6 : Option V),σ = [some (.ref s),some (.int w1),some (.int h1),some v,some (.ref ll),some (.ref wl),v6] ∧ m = lsz ts ∧ H' wl = some (.lst vs) ∧ H' ll = some (.lst us) ∧ Paired (LfAt pp HB H') vs ts ∧ Paired (LfAt pp HB H') us L ∧ lsz ts + L.length ≤ 10000 ∧ L ++ allL b ts = lvs b t 0 0 w1 h1 ∧ Same H H',⟨_,[.ref t'],[],[⟨0,0,w1,h1,t⟩],[],none,rfl,rfl,kb,sb _ _ (sa _ _ k0),.cons ⟨t',v,d,rfl,sb _ _ ka,hd,td⟩ .nil,.nil,(by show szT t + 0 + 0 ≤ 10000; omega),(by show [] ++ (lvs b t 0 0 w1 h1 ++ []) = _; rw [List.append_nil]; rfl),sab⟩,?_⟩
  rintro m σ H1 ⟨vs,us,ts,L,v6,rfl,rfl,hw,hl,pr,pu,sz1,al,s1⟩
  refine ⟨_,rfl,_,.inl ⟨vs,SqL.of hw,rfl⟩,?_⟩
  rcases List.eq_nil_or_concat vs with rfl | ⟨vs',v0,rfl⟩
  · have ets : ts = [] := by
      have := Paired.length pr
      cases ts with
      | nil => rfl
      | cons _ _ => simp at this
    subst ets
    rw [show allL b [] = [] from rfl,List.append_nil] at al
    rw [al] at pu
    exact iteF ⟨_,rfl,q ll us H1 hll hl pu s1⟩
  rw [List.concat_eq_append] at pr hw ⊢
  obtain ⟨ts',t0,rfl,prp,⟨sp,u,du,rfl,hsp,hdu,tdu⟩⟩ := snocP pr
  rw [show (!(vs' ++ [V.ref sp]).isEmpty) = true by cases vs' <;> rfl]
  have ssz : lsz (ts' ++ [t0]) = lsz ts' + szT t0.t := by rw [lsz_app]; show _ + (szT t0.t + 0) = _; omega
  rw [ssz] at sz1 ⊢
  refine iteT ⟨fun σ' H' => ∃ (vs us : List V) (ts L : List Lf) (v6 : Option V),σ' = [some (.ref s),some (.int w1),some (.int h1),some v,some (.ref ll),some (.ref wl),v6] ∧ lsz ts < lsz ts' + szT t0.t ∧ H' wl = some (.lst vs) ∧ H' ll = some (.lst us) ∧ Paired (LfAt pp HB H') vs ts ∧ Paired (LfAt pp HB H') us L ∧ lsz ts + L.length ≤ 10000 ∧ L ++ allL b ts = lvs b t 0 0 w1 h1 ∧ Same H H',fun σ' H' ⟨vs,us,ts,L,v6,e,l,r⟩ => ⟨_,l,vs,us,ts,L,v6,e,rfl,r⟩,?_⟩
  rw [allL_snoc] at al
  have ml : (vs' ++ [V.ref sp]).length = vs'.length + 1 := by rw [List.length_append]; rfl
  have keep : ∀ {Hx : Hp} {o : HO},Same H Hx → Same H (upd Hx wl o) := fun {Hx o} sx c oo e => by
    rw [upd_ne (fun z => by rw [z,fw] at e; cases e)]
    exact sx _ _ e
  have keepL : ∀ {Hx : Hp} {o : HO},Same H Hx → Same H (upd Hx ll o) := fun {Hx o} sx c oo e => by
    rw [upd_ne (fun z => by rw [z,hll] at e; cases e)]
    exact sx _ _ e
  refine seqCut (fun σ' H' => σ' = [some (.ref s),some (.int w1),some (.int h1),some v,some (.ref ll),some (.ref wl),some (.ref sp)] ∧ H' wl = some (.lst vs') ∧ H' ll = some (.lst us) ∧ Paired (LfAt pp HB H') vs' ts' ∧ Paired (LfAt pp HB H') us L ∧ H' sp = some (.tup [.int t0.x,.int t0.y,.int t0.w,.int t0.h,u]) ∧ Same H H') (fun R hR => ?_) ?_
  · refine ⟨_,rfl,.inl ⟨rfl,_,SqL.of hw⟩,wl,_,.ref sp,rfl,rfl,hw,(by rw [ml]; simp),?_⟩
    rw [List.dropLast_concat]
    have kt : ∀ {c : Addr} {xs : List V},H1 c = some (.tup xs) → (upd H1 wl (.lst vs')) c = some (.tup xs) := fun {c xs} e => by
      rw [upd_ne (fun z => by rw [z,hw] at e; cases e)]; exact e
    exact hR _ _ ⟨rfl,upd_same,by rw [upd_ne nlw]; exact hl,Paired.mapP prp fun v t h => h.keep fun a xs e => kt e,Paired.mapP pu fun v t h => h.keep fun a xs e => kt e,kt hsp,keep s1⟩
  rintro _ H2 ⟨rfl,hw2,hl2,pr2,pu2,hsp2,s02⟩
  have a4 : atI [.int t0.x,.int t0.y,.int t0.w,.int t0.h,u] 4 = some u := atI_int (by decide) rfl
  have inT : ∀ z : Str,(z = "down" ∨ z = "across") → inV (V.str z) [V.str "down",V.str "across"] = true := fun z hz => by
    rcases hz with e | e <;> subst e <;> decide +kernel
  have go : ∀ (y : Str) (ys : List PyData),rowOf du = some (.str y :: ys) → ∃ a xs,u = .ref a ∧ (HB a = some (.lst (.str y :: xs)) ∨ HB a = some (.tup (.str y :: xs))) ∧ Dts pp HB xs ys := fun y ys er => by
    obtain ⟨a,xs,e,hx,dxs⟩ := hdu.ref_row er
    cases dxs with
    | cons hd0 dxs =>
      cases hd0
      exact ⟨a,_,e,hx,dxs⟩
  refine ⟨_,rfl,sp,_,4,_,rfl,rfl,SqT.of hsp2,a4,?_⟩
  obtain ⟨tt,et⟩ : ∃ tt,t0.t = tt := ⟨_,rfl⟩
  cases tt with
  | cut dn p l r =>
    rw [et] at tdu
    obtain ⟨dl,dr,er,tl,tr⟩ := tdu
    obtain ⟨a,xs,eu,hx,dxs⟩ := go _ _ er
    have hx0 := hx
    cases dxs with
    | @cons x1 _ xs1 _ hd1 dxs =>
    cases dxs with
    | @cons lv _ xs2 _ hdl dxs =>
    cases dxs with
    | @cons rv _ xs3 _ hdr dxs =>
    cases dxs
    cases hd1
    subst eu
    show rIx K (.ref a) (.int 0) H2 _
    refine ixR (sB.trans s02) hx (atI_int (Int.le_refl _) rfl) ?_
    refine ⟨wa,_,rfl,.inr (Z.wq _),rfl,rfl,_,rfl,?_⟩
    show (if (inV (V.str (if dn = true then "down" else "across")) [V.str "down",V.str "across"]) = true then _ else _)
    rw [inT _ (by cases dn <;> first | exact .inl rfl | exact .inr rfl)]
    have SH2 := shopS s02 SH
    obtain ⟨dx',r',rs',S1',S2',S3'⟩ := id SH2
    refine iteT ⟨_,rfl,.inl ⟨rfl,_,SqL.of hw2⟩,_,rfl,s,dx',_,rfl,S1',(flds_no _ _ (by decide +kernel) (by decide +kernel)),s,b,ks,rfl,SH2,_,rfl,?_⟩
    refine ⟨b,t0.x,t0.y,t0.w,t0.h,p,sp,a,dn,lv,rv,rfl,hsp2,hx.imp ((sB.trans s02) _ _) ((sB.trans s02) _ _),fun lu t1 t2 H4 hlu ku k1 k2 s4 => ?_⟩
    have hw4 := s4 _ _ hw2
    have pl := Paired.length pr2
    have sl := lsz_len ts'
    have sz0 : szT t0.t = szT l + szT r + 1 := by rw [et]; rfl
    refine ⟨wl,lu,_,_,rfl,rfl,hw4,ku,by show _ + 2 ≤ _; omega,?_⟩
    have kt : ∀ {c : Addr} {xs : List V},H4 c = some (.tup xs) → (upd H4 wl (.lst (vs' ++ [.ref t1,.ref t2]))) c = some (.tup xs) := fun {c xs} e => by
      rw [upd_ne (fun z => by rw [z,hw4] at e; cases e)]; exact e
    have kl4 : (upd H4 wl (.lst (vs' ++ [.ref t1,.ref t2]))) ll = some (.lst us) := by rw [upd_ne nlw]; exact s4 _ _ hl2
    have pr4 : Paired (LfAt pp HB (upd H4 wl (.lst (vs' ++ [.ref t1,.ref t2])))) vs' ts' := Paired.mapP pr2 fun v t h => h.keep fun a xs e => kt (s4 _ _ e)
    have pu4 : Paired (LfAt pp HB (upd H4 wl (.lst (vs' ++ [.ref t1,.ref t2])))) us L := Paired.mapP pu2 fun v t h => h.keep fun a xs e => kt (s4 _ _ e)
    cases dn with
    | true =>
      have k1 : H4 t1 = some (.tup [.int t0.x,.int t0.y,.int p,.int t0.h,lv]) := k1
      have k2 : H4 t2 = some (.tup [.int (t0.x + (p + b)),.int t0.y,.int (t0.w - p - b),.int t0.h,rv]) := k2
      refine ⟨vs' ++ [.ref t1,.ref t2],us,ts' ++ [⟨t0.x,t0.y,p,t0.h,l⟩] ++ [⟨t0.x + (p + b),t0.y,t0.w - p - b,t0.h,r⟩],L,_,rfl,?_,upd_same,kl4,?_,pu4,?_,?_,keep (s02.trans s4)⟩
      · rw [lsz_app,lsz_app]; show _ + (szT l + 0) + (szT r + 0) < _; rw [sz0]; omega
      · rw [List.append_assoc]; exact appP pr4 (.cons ⟨t1,lv,dl,rfl,kt k1,hdl,tl⟩ (.cons ⟨t2,rv,dr,rfl,kt k2,hdr,tr⟩ .nil))
      · rw [lsz_app,lsz_app]; show _ + (szT l + 0) + (szT r + 0) + _ ≤ _; rw [sz0] at sz1; omega
      · rw [allL_snoc,allL_snoc,← al,et,lvs,List.append_assoc]
    | false =>
      have k1 : H4 t1 = some (.tup [.int t0.x,.int t0.y,.int t0.w,.int p,lv]) := k1
      have k2 : H4 t2 = some (.tup [.int t0.x,.int (t0.y + (p + b)),.int t0.w,.int (t0.h - p - b),rv]) := k2
      refine ⟨vs' ++ [.ref t1,.ref t2],us,ts' ++ [⟨t0.x,t0.y,t0.w,p,l⟩] ++ [⟨t0.x,t0.y + (p + b),t0.w,t0.h - p - b,r⟩],L,_,rfl,?_,upd_same,kl4,?_,pu4,?_,?_,keep (s02.trans s4)⟩
      · rw [lsz_app,lsz_app]; show _ + (szT l + 0) + (szT r + 0) < _; rw [sz0]; omega
      · rw [List.append_assoc]; exact appP pr4 (.cons ⟨t1,lv,dl,rfl,kt k1,hdl,tl⟩ (.cons ⟨t2,rv,dr,rfl,kt k2,hdr,tr⟩ .nil))
      · rw [lsz_app,lsz_app]; show _ + (szT l + 0) + (szT r + 0) + _ ≤ _; rw [sz0] at sz1; omega
      · rw [allL_snoc,allL_snoc,← al,et,lvs,List.append_assoc]
  | rest =>
    rw [et] at tdu
    obtain ⟨a,xs,eu,hx,dxs⟩ := go _ _ tdu
    subst eu
    show rIx K (.ref a) (.int 0) H2 _
    refine ixR (sB.trans s02) hx (atI_int (Int.le_refl _) rfl) ?_
    refine ⟨wa,_,rfl,.inr (Z.wq _),rfl,rfl,_,rfl,?_⟩
    show (if (inV (V.str "rest") [V.str "down",V.str "across"]) = true then _ else _)
    rw [show inV (V.str "rest") [V.str "down",V.str "across"] = false by decide +kernel]
    have sl := lsz_len ts'
    have ul := Paired.length pu2
    have SZ : szT t0.t = 1 := by rw [et]; rfl
    refine iteF ⟨_,rfl,.inl ⟨rfl,_,SqL.of hl2⟩,_,rfl,ll,us,_,rfl,rfl,hl2,by omega,?_⟩
    have kt : ∀ {c : Addr} {xs : List V},H2 c = some (.tup xs) → (upd H2 ll (.lst (us ++ [.ref sp]))) c = some (.tup xs) := fun {c xs} e => by
      rw [upd_ne (fun z => by rw [z,hl2] at e; cases e)]; exact e
    refine ⟨vs',us ++ [.ref sp],ts',L ++ [t0],_,rfl,by omega,by rw [upd_ne (Ne.symm nlw)]; exact hw2,upd_same,Paired.mapP pr2 fun v t h => h.keep fun a xs e => kt e,appP (Paired.mapP pu2 fun v t h => h.keep fun a xs e => kt e) (.cons ⟨sp,.ref a,du,rfl,kt hsp2,hdu,by rw [et]; exact tdu⟩ .nil),?_,?_,keepL s02⟩
    · rw [List.length_append]; show _ + (_ + 1) ≤ _; omega
    · rw [← al,List.append_assoc]
      congr 2
      rw [et]
      cases t0
      cases et
      rfl
  | piece i c x y =>
    rw [et] at tdu
    obtain ⟨a,xs,eu,hx,dxs⟩ := go _ _ tdu
    subst eu
    show rIx K (.ref a) (.int 0) H2 _
    refine ixR (sB.trans s02) hx (atI_int (Int.le_refl _) rfl) ?_
    refine ⟨wa,_,rfl,.inr (Z.wq _),rfl,rfl,_,rfl,?_⟩
    show (if (inV (V.str "piece") [V.str "down",V.str "across"]) = true then _ else _)
    rw [show inV (V.str "piece") [V.str "down",V.str "across"] = false by decide +kernel]
    have sl := lsz_len ts'
    have ul := Paired.length pu2
    have SZ : szT t0.t = 1 := by rw [et]; rfl
    refine iteF ⟨_,rfl,.inl ⟨rfl,_,SqL.of hl2⟩,_,rfl,ll,us,_,rfl,rfl,hl2,by omega,?_⟩
    have kt : ∀ {c : Addr} {xs : List V},H2 c = some (.tup xs) → (upd H2 ll (.lst (us ++ [.ref sp]))) c = some (.tup xs) := fun {c xs} e => by
      rw [upd_ne (fun z => by rw [z,hl2] at e; cases e)]; exact e
    refine ⟨vs',us ++ [.ref sp],ts',L ++ [t0],_,rfl,by omega,by rw [upd_ne (Ne.symm nlw)]; exact hw2,upd_same,Paired.mapP pr2 fun v t h => h.keep fun a xs e => kt e,appP (Paired.mapP pu2 fun v t h => h.keep fun a xs e => kt e) (.cons ⟨sp,.ref a,du,rfl,kt hsp2,hdu,by rw [et]; exact tdu⟩ .nil),?_,?_,keepL s02⟩
    · rw [List.length_append]; show _ + (_ + 1) ≤ _; omega
    · rw [← al,List.append_assoc]
      congr 2
      rw [et]
      cases t0
      cases et
      rfl
theorem sccheckt : FnScope ["shop","wide","high","thing"] ["shop","wide","high","thing"] (defScope sCheckTree) := ⟨rfl,rfl,rfl,by decide +kernel,rfl,by decide +kernel,by decide +kernel⟩
set_option maxHeartbeats 1000000 in
theorem ok_checkt {f C : Addr} {fd : FuncData} (F : Fun K "check_tree" "check_tree" sCheckTree f fd) (DI : Dn P w K mg base "is_tree" ["shop","wide","high","thing"] 6 (spIsTree C)) : FnOk P w K mg base CX0 7 f fd ["shop","wide","high","thing"] (spCheckT C) := by
  refine F.ok sccheckt (fun vs H Q E h => ?_) (fun cdv A outer s H vs Q E hr h => ?_)
  · obtain ⟨pp,s,b,w1,h1,ks,v,d,rfl,_⟩ := h
    rfl
  obtain ⟨pp,s,b,w1,h1,ks,v,d,rfl,SH,w0,h0,hd,dz,ht,q⟩ := h
  have nd := sccheckt.nd
  refine ⟨_,(@pss_one _ _ _ (@ps_if _ _ _ _ _ _ _ _ (@pt_not _ _ _ _ (@pt_val _ _ _ (@pe_cD _ _ _ _ _ _ _ _ _ _ DI hr rfl (@pa_cons _ _ _ _ _ (pv 0) (@pa_cons _ _ _ _ _ (pv 1) (@pa_cons _ _ _ _ _ (pv 2) (@pa_cons _ _ _ _ _ (pv 3) pa_nil rfl) rfl) rfl) rfl) (by decide) rfl rfl) (by intro _; rfl))) (@pss_one _ _ _ ps_never) pss_nil)),?_⟩
  refine ⟨_,rfl,_,rfl,_,rfl,_,rfl,pp,s,b,w1,h1,ks,v,d,rfl,SH,w0,h0,hd,dz,fun H1 s1 => ⟨_,rfl,?_⟩⟩
  rw [ht]
  exact iteF (q _ s1)
end
theorem rowOf_wt {d : PyData} {ds : List PyData} (h : rowOf d = some ds) : wt d = wts ds + 1 := by
  cases d <;> simp only [rowOf,Option.some.injEq,reduceCtorEq] at h
  · subst h; rw [wt]
  · subst h; rw [wt]
theorem TrD.many {b : Int} : ∀ (t : Tr) (d : PyData) (x y w h : Int),TrD t d → (lvs b t x y w h).length = lvN t ∧ szT t ≤ wt d
  | .rest,d,_,_,_,_,e => by
    have := rowOf_wt (show rowOf d = some [.str "rest"] from e)
    have w1 : wts [.str "rest"] = 5 := by decide +kernel
    refine ⟨rfl,?_⟩
    show 1 ≤ wt d
    omega
  | .piece i c u v,d,_,_,_,_,e => by
    have := rowOf_wt (show rowOf d = some [.str "piece",.int i,.bool c,.int u,.int v] from e)
    have w1 : wts [.str "piece",.int i,.bool c,.int u,.int v] = 10 := by
      show wt (.str "piece") + (1 + (1 + (1 + (1 + 0)))) = 10
      decide +kernel
    refine ⟨rfl,?_⟩
    show 1 ≤ wt d
    omega
  | .cut true p l r,d,x,y,w,h,⟨dl,dr,e,tl,tr⟩ => by
    have h0 := rowOf_wt e
    have w1 : wts [.str (if true = true then "down" else "across"),.int p,dl,dr] = 5 + (1 + (wt dl + (wt dr + 0))) := by
      show wt (.str "down") + (1 + (wt dl + (wt dr + 0))) = _
      rw [show wt (.str "down") = 5 by decide +kernel]
    have h1 := TrD.many (b := b) r dr (x + (p + b)) y (w - p - b) h tr
    have h2 := TrD.many (b := b) l dl x y p h tl
    rw [lvs,List.length_append,szT,lvN]
    omega
  | .cut false p l r,d,x,y,w,h,⟨dl,dr,e,tl,tr⟩ => by
    have h0 := rowOf_wt e
    have w1 : wts [.str (if false = true then "down" else "across"),.int p,dl,dr] = 7 + (1 + (wt dl + (wt dr + 0))) := by
      show wt (.str "across") + (1 + (wt dl + (wt dr + 0))) = _
      rw [show wt (.str "across") = 7 by decide +kernel]
    have h1 := TrD.many (b := b) r dr x (y + (p + b)) w (h - p - b) tr
    have h2 := TrD.many (b := b) l dl x y w p tl
    rw [lvs,List.length_append,szT,lvN]
    omega
theorem lvs_leaf (b : Int) : ∀ (t : Tr) (x y w h : Int),∀ f ∈ lvs b t x y w h,f.t = .rest ∨ ∃ i c u v,f.t = .piece i c u v
  | .rest,_,_,_,_,f,hf => by cases List.mem_singleton.mp hf; exact .inl rfl
  | .piece i c u v,_,_,_,_,f,hf => by cases List.mem_singleton.mp hf; exact .inr ⟨i,c,u,v,rfl⟩
  | .cut true p l r,x,y,w,h,f,hf => by
    rw [lvs] at hf
    exact (List.mem_append.mp hf).elim (lvs_leaf b r _ _ _ _ f) (lvs_leaf b l _ _ _ _ f)
  | .cut false p l r,x,y,w,h,f,hf => by
    rw [lvs] at hf
    exact (List.mem_append.mp hf).elim (lvs_leaf b r _ _ _ _ f) (lvs_leaf b l _ _ _ _ f)
mutual
theorem Dt.fresh {p q : Addr} {H : Hp} (hq : H q = none) : ∀ {v : V} {d : PyData},Dt p H v d → Dt q H v d
  | _,_,.non => .non
  | _,_,.bl b => .bl b
  | _,_,.int i => .int i
  | _,_,.str z => .str z
  | _,_,.lst n h r => .lst (ne_of_none h hq) h (r.fresh hq)
  | _,_,.tup h r => .tup h (r.fresh hq)
  | _,_,.emp h => .emp h
theorem Dts.fresh {p q : Addr} {H : Hp} (hq : H q = none) : ∀ {vs : List V} {ds : List PyData},Dts p H vs ds → Dts q H vs ds
  | _,_,.nil => .nil
  | _,_,.cons a r => .cons (a.fresh hq) (r.fresh hq)
end
structure TrH (C pp s : Addr) (b w h : Int) (ks : List Kd) (v : V) (d : PyData) (t : Tr) (H : Hp) : Prop where
  sh : ShopAt C H s b ks
  w1 : 1 ≤ w
  h1 : 1 ≤ h
  dt : Dt pp H v d
  td : TrD t d
  ok : okT b ks w h t
  wd : wt d ≤ 2000
  ln : lvN t ≤ 63
section
variable {P : Program} {w : World} {K : PySem.W.Frag} {mg : Str → Option Value} {base : Heap}
def spCS : Sp := fun vs H Q _ => ∃ (w h m : Int),vs = [.int w,.int h,.int m] ∧ w ≤ m ∧ h ≤ m ∧ Q .non H
theorem sccsides : FnScope ["wide","high","most"] ["wide","high","most"] (defScope sCheckSides) := ⟨rfl,rfl,rfl,by decide +kernel,rfl,by decide +kernel,by decide +kernel⟩
theorem ok_csides {f : Addr} {fd : FuncData} (F : Fun K "check_sides" "check_sides" sCheckSides f fd)  : FnOk P w K mg base CX0 1 f fd ["wide","high","most"] (spCS) := by
  refine F.ok sccsides (fun vs H Q E h => ?_) (fun cdv A outer s H vs Q E hr h => ?_)
  · obtain ⟨w1,h1,m,rfl,_⟩ := h
    rfl
  obtain ⟨w1,h1,m,rfl,hw,hh,q⟩ := h
  have nd := sccsides.nd
  refine ⟨_,(@pss_one _ _ _ (@ps_if _ _ _ _ _ _ _ _ (PW.pt (pw_or (@pt_cmpR _ _ _ _ _ _ _ _ op_gt (pv 0) (pv 2) (nomark _)) (pw_or1 (@pt_cmpR _ _ _ _ _ _ _ _ op_gt (pv 1) (pv 2) (nomark _))))) (@pss_one _ _ _ ps_never) pss_nil)),?_⟩
  refine ⟨_,rfl,_,rfl,_,_,rfl,rfl,_,rfl,?_⟩
  rw [decide_eq_false (show ¬ m < w1 by omega)]
  refine iteF ⟨_,rfl,_,rfl,_,_,rfl,rfl,_,rfl,?_⟩
  rw [decide_eq_false (show ¬ m < h1 by omega)]
  exact iteF q
end
theorem depth_mem {x : PyData} : ∀ {ds : List PyData},x ∈ ds → x.depth ≤ PyData.depthAll ds
  | d :: r,h => by
    rw [PyData.depthAll]
    rcases List.mem_cons.mp h with h | h
    · rw [h]; omega
    · have := depth_mem h; omega
mutual
def lsD : PyData → PyData
  | .tuple ds => .list (lsDs ds)
  | .none => .none
  | .bool b => .bool b
  | .int i => .int i
  | .str z => .str z
  | .list ds => .list ds
  | .dict k => .dict k
def lsDs : List PyData → List PyData
  | [] => []
  | d :: r => lsD d :: lsDs r
end
mutual
theorem lsD_depth : ∀ d : PyData,(lsD d).depth = d.depth
  | .tuple ds => by rw [lsD,PyData.depth,PyData.depth,lsDs_depth ds]
  | .none => rfl
  | .bool _ => rfl
  | .int _ => rfl
  | .str _ => rfl
  | .list _ => rfl
  | .dict _ => rfl
theorem lsDs_depth : ∀ ds : List PyData,PyData.depthAll (lsDs ds) = PyData.depthAll ds
  | [] => rfl
  | d :: r => by rw [lsDs,PyData.depthAll,PyData.depthAll,lsD_depth d,lsDs_depth r]
end
mutual
theorem lsD_wt : ∀ d : PyData,wt (lsD d) = wt d
  | .tuple ds => by rw [lsD,wt,wt,lsDs_wt ds]
  | .none => rfl
  | .bool _ => rfl
  | .int _ => rfl
  | .str _ => rfl
  | .list _ => rfl
  | .dict _ => rfl
theorem lsDs_wt : ∀ ds : List PyData,wts (lsDs ds) = wts ds
  | [] => rfl
  | d :: r => by rw [lsDs,wts,wts,lsD_wt d,lsDs_wt r]
end
mutual
theorem lsD_lay : ∀ d : PyData,(lsD d).canLay0 = d.canLay0
  | .tuple ds => by rw [lsD,PyData.canLay0,PyData.canLay0,lsDs_lay ds]
  | .none => rfl
  | .bool _ => rfl
  | .int _ => rfl
  | .str _ => rfl
  | .list _ => rfl
  | .dict _ => rfl
theorem lsDs_lay : ∀ ds : List PyData,PyData.canLayAll0 (lsDs ds) = PyData.canLayAll0 ds
  | [] => rfl
  | d :: r => by rw [lsDs,PyData.canLayAll0,PyData.canLayAll0,lsD_lay d,lsDs_lay r]
end
theorem lsDs_app : ∀ a b : List PyData,lsDs (a ++ b) = lsDs a ++ lsDs b
  | [],_ => rfl
  | d :: r,b => by rw [List.cons_append,lsDs,lsDs,lsDs_app r b]; rfl
theorem lsDs_len : ∀ a : List PyData,(lsDs a).length = a.length
  | [] => rfl
  | d :: r => by rw [lsDs,List.length_cons,List.length_cons,lsDs_len r]
theorem wts_len : ∀ ds : List PyData,ds.length ≤ wts ds
  | [] => Nat.le_refl _
  | d :: r => by have := wts_len r; have := wtpos d; rw [List.length_cons,wts]; omega
theorem wts_mem {x : PyData} : ∀ {ds : List PyData},x ∈ ds → wt x ≤ wts ds
  | d :: r,h => by
    rw [wts]
    rcases List.mem_cons.mp h with h | h
    · rw [h]; omega
    · have := wts_mem h; omega
mutual
theorem Dt.dat {K : PySem.W.Frag} {p : Addr} {H : Hp} : ∀ {v : V} {d : PyData},Dt p H v d → d.canLay0 = true → DatV K H v d
  | _,_,.non,_ => .non
  | _,_,.bl b,_ => .bl b
  | _,_,.int i,_ => .int i
  | _,_,.str z,_ => .str z
  | _,_,.lst n h r,c => .lst (SqL.of h) (r.dat c)
  | _,_,.tup h r,c => .tup (SqT.of h) (r.dat c)
  | _,_,.emp h,c => nomatch c
theorem Dts.dat {K : PySem.W.Frag} {p : Addr} {H : Hp} : ∀ {vs : List V} {ds : List PyData},Dts p H vs ds → PyData.canLayAll0 ds = true → DatVs K H vs ds
  | _,_,.nil,_ => .nil
  | _,_,.cons a r,c => .cons (a.dat (Bool.and_eq_true_iff.mp c).1) (r.dat (Bool.and_eq_true_iff.mp c).2)
end
theorem Dts.get {p : Addr} {H : Hp} : ∀ {vs : List V} {ds : List PyData} {i : Nat} {x : V},Dts p H vs ds → vs[i]? = some x → ∃ d,ds[i]? = some d ∧ Dt p H x d
  | _,_,0,_,.cons a _,e => ⟨_,rfl,by cases e; exact a⟩
  | _,_,i + 1,_,.cons _ r,e => by
    obtain ⟨d,h1,h2⟩ := r.get (i := i) (by simpa using e)
    exact ⟨d,by simpa using h1,h2⟩
theorem Dts.app {p : Addr} {H : Hp} : ∀ {vs us : List V} {ds es : List PyData},Dts p H vs ds → Dts p H us es → Dts p H (vs ++ us) (ds ++ es)
  | _,_,_,_,.nil,h => h
  | _,_,_,_,.cons a r,h => .cons a (r.app h)
section
variable {P : Program} {w : World} {K : PySem.W.Frag} {mg : Str → Option Value} {base : Heap}
def spListed (n : Nat) : Sp := fun vs H Q _ => ∃ (pp : Addr) (v : V) (d : PyData),vs = [v] ∧ Dt pp H v d ∧ d.depth < n ∧ wt d ≤ 40000 ∧ (∃ xs,H pp = some (.lst xs)) ∧ ∀ v' H',Dt pp H' v' (lsD d) → Same H H' → Q v' H'
theorem sclisted : FnScope ["_law_thing"] ["_law_thing"] (defScope sListed) := ⟨rfl,rfl,rfl,by decide +kernel,rfl,by decide +kernel,by decide +kernel⟩
theorem ok_listed {f : Addr} {fd : FuncData} (F : Fun K "_law_listed" "_law_listed" sListed f fd) (B : Blt mg) (n : Nat) (DLs : Dn P w K mg base "_law_listed" ["_law_thing"] (1 + n) (spListed n)) : FnOk P w K mg base CX0 (1 + (n + 1)) f fd ["_law_thing"] (spListed (n + 1)) := by
  refine F.ok sclisted (fun vs H Q E h => ?_) (fun cdv A outer s H vs Q E hr h => ?_)
  · obtain ⟨pp,v,d,rfl,_⟩ := h
    rfl
  obtain ⟨pp,v,d,rfl,hd,hn,wd,hpp,q⟩ := h
  have nd := sclisted.nd
  refine ⟨_,(@pss_cons _ _ _ _ _ (@ps_if _ _ _ _ _ _ _ _ (@pt_val _ _ _ (@pe_callB _ _ _ _ _ _ _ _ _ call_isinst rfl B.isi PyProof.Rows.boot_isinstance (@pa_cons _ _ _ _ _ (pv 0) (@pa_cons _ _ _ _ _ (pe_bltn (v := .ty "tuple") rfl B.tuple PyProof.Rows.boot_tuple rfl) pa_nil rfl) rfl) (by decide) (by decide) rfl rfl) (by intro _; rfl)) (@pss_one _ _ _ (@ps_ret _ _ _ _ (pe_comp (own := ["_law_one"]) (cs := []) (cap := []) rfl (pi_tup (pv 0)) (compOk_of (sc := defScope sListed) (N := ["_law_thing"]) rfl rfl (by decide +kernel)) (fun _ _ _ _ _ => pg_name (i := 0) (by show List.Nodup (["_law_one"] : List Str) ; decide +kernel) rfl (Or.inl rfl) (Or.inr rfl)) (fun _ _ _ _ _ => pifs_nil) (fun _ _ _ _ _ => (@pe_cD _ _ _ _ _ _ _ _ _ _ DLs hr rfl (@pa_cons _ _ _ _ _ (pv 0) pa_nil rfl) (by decide) rfl rfl))))) pss_nil) (@pss_one _ _ _ (@ps_ret _ _ _ _ (pv 0)))),?_⟩
  cases hd with
  | @tup a xs ds h r =>
    have hl := r.length
    have wl := wts_len ds
    have wd' : wts ds + 1 ≤ 40000 := wd
    have sz : 40000 < sizeLine := by decide
    refine ⟨_,rfl,_,_,_,_,_,rfl,(Ty.tup h (K := K)).2,rfl,kit_tuple "tuple" (by simp [tyNames]),_,rfl,iteT ?_⟩
    refine ⟨_,rfl,a,rfl,⟨_,SqT.of h⟩,(comp_seq (K := K) (.inr h) (fun i ys Hx => Same H Hx ∧ Dts pp Hx ys (lsDs (ds.take i))) (fun i ys Hx _ ⟨sx,_⟩ o e => sx _ _ e) ⟨Same.refl _,.nil⟩ ?_ ?_).2 h⟩
    · rintro i x ys H1 hi ⟨s1,py⟩
      have hin : i < xs.length := (List.getElem?_eq_some_iff.mp hi).1
      obtain ⟨d,hd,hx⟩ := r.get hi
      have yl := py.length
      rw [lsDs_len,List.length_take] at yl
      have dm := List.mem_of_getElem? hd
      have d1 := depth_mem dm
      have w1 := wts_mem dm
      have hn : PyData.depthAll ds + 1 < n + 1 := hn
      obtain ⟨us,hu⟩ := hpp
      refine ⟨by omega,leS.set rfl,tYes_ite ?_⟩
      refine ⟨_,rfl,pp,x,d,rfl,hx.same s1,by omega,by omega,⟨us,s1 _ _ hu⟩,fun v' H2 hv s2 => Nx.of hin ⟨s1.trans s2,?_⟩⟩
      rw [List.take_add_one,hd,lsDs_app]
      exact (py.same s2).app (.cons hv .nil)
    · rintro ys H1 ⟨s1,py⟩
      have yl := py.length
      rw [lsDs_len,List.length_take] at yl
      obtain ⟨us,hu⟩ := hpp
      refine ⟨by omega,fun t ht => ?_⟩
      rw [hl,List.take_length] at py
      refine q _ _ (.lst (Ne.symm (ne_of_none (s1 _ _ hu) ht)) upd_same (py.same (Same.new ht))) (s1.trans (Same.new ht))
  | non => exact ⟨_,rfl,_,_,_,_,_,rfl,(Ty.non (K := K)).2,rfl,kit_tuple "NoneType" (by simp [tyNames]),_,rfl,iteF ⟨_,rfl,q _ _ (.non) (Same.refl _)⟩⟩
  | bl b => exact ⟨_,rfl,_,_,_,_,_,rfl,(Ty.bl (K := K)).2,rfl,kit_tuple "bool" (by simp [tyNames]),_,rfl,iteF ⟨_,rfl,q _ _ (.bl b) (Same.refl _)⟩⟩
  | int i => exact ⟨_,rfl,_,_,_,_,_,rfl,(Ty.int (K := K)).2,rfl,kit_tuple "int" (by simp [tyNames]),_,rfl,iteF ⟨_,rfl,q _ _ (.int i) (Same.refl _)⟩⟩
  | str z => exact ⟨_,rfl,_,_,_,_,_,rfl,(Ty.str (K := K)).2,rfl,kit_tuple "str" (by simp [tyNames]),_,rfl,iteF ⟨_,rfl,q _ _ (.str z) (Same.refl _)⟩⟩
  | lst n h r => exact ⟨_,rfl,_,_,_,_,_,rfl,(Ty.lst h (K := K)).2,rfl,kit_tuple "list" (by simp [tyNames]),_,rfl,iteF ⟨_,rfl,q _ _ (.lst n h r) (Same.refl _)⟩⟩
  | emp h => exact ⟨_,rfl,_,_,_,_,_,rfl,(Ty.dK h (K := K)).2,rfl,kit_tuple "dict" (by simp [tyNames]),_,rfl,iteF ⟨_,rfl,q _ _ (.emp h) (Same.refl _)⟩⟩
theorem ok_listed0 {f : Addr} {fd : FuncData} (F : Fun K "_law_listed" "_law_listed" sListed f fd) : FnOk P w K mg base CX0 1 f fd ["_law_thing"] (spListed 0) := by
  refine F.ok sclisted (fun vs H Q E h => ?_) (fun cdv A outer s H vs Q E hr h => ?_)
  · obtain ⟨pp,v,d,rfl,_⟩ := h
    rfl
  · obtain ⟨pp,v,d,_,_,z,_⟩ := h
    exact absurd z (Nat.not_lt_zero _)
theorem ok_listedN {f : Addr} {fd : FuncData} (F : Fun K "_law_listed" "_law_listed" sListed f fd) (B : Blt mg) (mk : ∀ n,FnOk P w K mg base CX0 (1 + n) f fd ["_law_thing"] (spListed n) → Dn P w K mg base "_law_listed" ["_law_thing"] (1 + n) (spListed n)) : ∀ n,FnOk P w K mg base CX0 (1 + n) f fd ["_law_thing"] (spListed n)
  | 0 => ok_listed0 F
  | n + 1 => ok_listed F B n (mk n (ok_listedN F B mk n))
end
def letS (i : Nat) : Str := ⟨#[(Str.ofString "abcdefgh").cps.toList.getD i (Str.ofString "a").cps.toList.head!]⟩
abbrev inB (x y w h c r : Int) : Prop := x ≤ c ∧ c < x + w ∧ y ≤ r ∧ r < y + h
abbrev Fn := Nat → Nat → Str
def fillF (f : Fn) (x y w h : Int) (z : Str) : Fn := fun u r => if inB x y w h r u then z else f u r
def setF (f : Fn) (U R : Nat) (z : Str) : Fn := fun u r => if u = U ∧ r = R then z else f u r
def pF (f : Fn) (x y a : Int) (i j : Nat) (z : Str) : Fn := fun u r => if (y ≤ (u : Int) ∧ (u : Int) < y + i ∧ x ≤ (r : Int) ∧ (r : Int) < x + a) ∨ ((u : Int) = y + i ∧ x ≤ (r : Int) ∧ (r : Int) < x + j) then z else f u r
theorem pF_0 (f : Fn) (x y a : Int) (z : Str) : pF f x y a 0 0 z = f := by
  funext u r
  unfold pF
  rw [if_neg (by omega)]
theorem pF_row (f : Fn) (x y a : Int) (i : Nat) (z : Str) (a0 : 0 ≤ a) : pF f x y a i a.toNat z = pF f x y a (i + 1) 0 z := by
  funext u r
  unfold pF
  have e : (((a.toNat : Nat) : Int)) = a := Int.toNat_of_nonneg a0
  rw [e]
  by_cases h : (y ≤ (u : Int) ∧ (u : Int) < y + i ∧ x ≤ (r : Int) ∧ (r : Int) < x + a) ∨ ((u : Int) = y + i ∧ x ≤ (r : Int) ∧ (r : Int) < x + a)
  · rw [if_pos h,if_pos (by omega)]
  · rw [if_neg h,if_neg (by omega)]
theorem pF_all (f : Fn) (x y a b : Int) (z : Str) (b0 : 0 ≤ b) : pF f x y a b.toNat 0 z = fillF f x y a b z := by
  funext u r
  unfold pF fillF inB
  have e : (((b.toNat : Nat) : Int)) = b := Int.toNat_of_nonneg b0
  rw [e]
  by_cases h : x ≤ (r : Int) ∧ (r : Int) < x + a ∧ y ≤ (u : Int) ∧ (u : Int) < y + b
  · rw [if_pos h,if_pos (by omega)]
  · rw [if_neg h,if_neg (by omega)]
theorem pF_step (f : Fn) (x y a : Int) (i j : Nat) (z : Str) (x0 : 0 ≤ x) (y0 : 0 ≤ y) : setF (pF f x y a i j z) (y + i).toNat (x + j).toNat z = pF f x y a i (j + 1) z := by
  funext u r
  unfold setF
  by_cases h : u = (y + i).toNat ∧ r = (x + j).toNat
  · rw [if_pos h]
    unfold pF
    rw [if_pos (by omega)]
  · rw [if_neg h]
    unfold pF
    by_cases h2 : (y ≤ (u : Int) ∧ (u : Int) < y + i ∧ x ≤ (r : Int) ∧ (r : Int) < x + a) ∨ ((u : Int) = y + i ∧ x ≤ (r : Int) ∧ (r : Int) < x + j)
    · rw [if_pos h2,if_pos (by omega)]
    · rw [if_neg h2,if_neg (by omega)]
def rowV (f : Fn) (W u : Nat) : List V := (List.range W).map fun r => V.str (f u r)
theorem rowV_set (f : Fn) (W U R : Nat) (z : Str) (h : R < W) : (rowV f W U).set R (.str z) = rowV (setF f U R z) W U := by
  unfold rowV setF
  apply List.ext_getElem?
  intro j
  rw [List.getElem?_set,List.getElem?_map,List.getElem?_map,List.length_map,List.length_range]
  by_cases e : R = j
  · subst e
    rw [if_pos rfl,if_pos h,List.getElem?_range h]
    show some (V.str z) = some (V.str (if U = U ∧ R = R then z else f U R))
    rw [if_pos ⟨rfl,rfl⟩]
  · rw [if_neg e]
    cases he : (List.range W)[j]? with
    | none => rfl
    | some k =>
      have hk : k = j := by
        have := List.getElem?_eq_some_iff.mp he
        obtain ⟨h1,h2⟩ := this
        rw [List.getElem_range] at h2
        exact h2.symm
      show some (V.str (f U k)) = some (V.str (if U = U ∧ k = R then z else f U k))
      rw [if_neg (by omega)]
theorem rowV_other (f : Fn) (W U R u : Nat) (z : Str) (h : u ≠ U) : rowV (setF f U R z) W u = rowV f W u := by
  unfold rowV setF
  apply List.map_congr_left
  intro r _
  rw [if_neg (fun q => h q.1)]
structure Grid (H : Hp) (rl : Addr) (ras : List Addr) (W h : Nat) (f : Fn) : Prop where
  l : H rl = some (.lst (ras.map V.ref))
  n : ras.length = h
  nd : ras.Nodup
  nr : rl ∉ ras
  r : ∀ (u : Nat) (a : Addr),ras[u]? = some a → H a = some (.lst (rowV f W u))
theorem Grid.nin {H : Hp} {rl : Addr} {ras : List Addr} {W h : Nat} {f : Fn} (g : Grid H rl ras W h f) {a : Addr} {xs : List V} (e : H a = some (.tup xs)) : a ∉ ras := fun z => by
  obtain ⟨i,hi,rfl⟩ := List.getElem_of_mem z
  rw [g.r i _ (List.getElem?_eq_getElem hi)] at e
  cases e
def ButR (ras : List Addr) (H H' : Hp) : Prop := ∀ c o,c ∉ ras → H c = some o → H' c = some o
theorem ButR.trans {ras : List Addr} {H H' H'' : Hp} (a : ButR ras H H') (b : ButR ras H' H'') : ButR ras H H'' := fun c o n e => b c o n (a c o n e)
theorem ButR.same {ras : List Addr} {H H' H0 : Hp} (s : Same H0 H) (b : ButR ras H H') (f : ∀ a ∈ ras,H0 a = none) : Same H0 H' := fun c o e => b c o (fun z => by rw [f c z] at e; cases e) (s _ _ e)
theorem Grid.same {H H' : Hp} {rl : Addr} {ras : List Addr} {W h : Nat} {f : Fn} (g : Grid H rl ras W h f) (s : Same H H') : Grid H' rl ras W h f := ⟨s _ _ g.l,g.n,g.nd,g.nr,fun u a e => s _ _ (g.r u a e)⟩
theorem Grid.set {H : Hp} {rl : Addr} {ras : List Addr} {W h : Nat} {f : Fn} (g : Grid H rl ras W h f) {U R : Nat} {ra : Addr} {z : Str} (hU : ras[U]? = some ra) (hR : R < W) :
    Grid (upd H ra (.lst ((rowV f W U).set R (.str z)))) rl ras W h (setF f U R z) ∧ ButR ras H (upd H ra (.lst ((rowV f W U).set R (.str z)))) := by
  have hm := List.mem_of_getElem? hU
  have ne1 : rl ≠ ra := fun q => g.nr (by rw [q]; exact hm)
  refine ⟨⟨by rw [upd_ne ne1]; exact g.l,g.n,g.nd,g.nr,fun u a e => ?_⟩,fun c o n e => by
    have ne2 : c ≠ ra := fun q => n (by rw [q]; exact hm)
    rw [upd_ne ne2]; exact e⟩
  by_cases hu : u = U
  · subst hu
    rw [hU] at e
    cases e
    rw [upd_same,rowV_set f W u R z hR]
  · have na : a ≠ ra := fun q => by
      subst q
      obtain ⟨h1,e1⟩ := List.getElem?_eq_some_iff.mp e
      obtain ⟨h2,e2⟩ := List.getElem?_eq_some_iff.mp hU
      have pw := List.pairwise_iff_getElem.mp g.nd
      rcases Nat.lt_or_gt_of_ne hu with z | z
      · exact pw u U h1 h2 z (e1.trans e2.symm)
      · exact pw U u h2 h1 z (e2.trans e1.symm)
    rw [upd_ne na,rowV_other f W U R u z hu]
    exact g.r u a e
def colT (b : Int) (ks : List Kd) : Tr → Int → Int → Int → Int → Int → Int → Str
  | .rest,_,_,_,_,_,_ => "."
  | .piece i c u v,x,y,w,h,cc,rr => (match ks[i]? with
    | some k => if inB (x + u) (y + v) (sd1 k c) (sd2 k c) cc rr then letS i else ","
    | none => "+")
  | .cut true p l r,x,y,w,h,cc,rr => if cc < x + p then colT b ks l x y p h cc rr else if x + (p + b) ≤ cc then colT b ks r (x + (p + b)) y (w - (p + b)) h cc rr else "+"
  | .cut false p l r,x,y,w,h,cc,rr => if rr < y + p then colT b ks l x y w p cc rr else if y + (p + b) ≤ rr then colT b ks r x (y + (p + b)) w (h - (p + b)) cc rr else "+"
def leafF (ks : List Kd) (f : Fn) (l : Lf) : Fn := match l.t with
  | .rest => fillF f l.x l.y l.w l.h "."
  | .piece i c u v => (match ks[i]? with
    | some k => fillF (fillF f l.x l.y l.w l.h ",") (l.x + u) (l.y + v) (sd1 k c) (sd2 k c) (letS i)
    | none => f)
  | _ => f
theorem letS_ne : ∀ i : Nat,i < 8 → letS i ≠ ("+" : Str) := by
  intro i hi
  have : i = 0 ∨ i = 1 ∨ i = 2 ∨ i = 3 ∨ i = 4 ∨ i = 5 ∨ i = 6 ∨ i = 7 := by omega
  rcases this with rfl | rfl | rfl | rfl | rfl | rfl | rfl | rfl <;> decide +kernel
theorem letS_at (i : Nat) (hi : i < 8) : atI (Str.ofString "abcdefgh").cps.toList (i : Int) = some ((Str.ofString "abcdefgh").cps.toList.getD i (Str.ofString "a").cps.toList.head!) := by
  have hl : (Str.ofString "abcdefgh").cps.toList.length = 8 := by decide +kernel
  refine atI_int (by omega) ?_
  rw [Int.toNat_natCast,List.getD_eq_getElem?_getD,List.getElem?_eq_getElem (by omega)]
  rfl
theorem pick {P P1 P2 c1 c2 : Prop} [Decidable P] [Decidable P1] [Decidable P2] [Decidable c1] [Decidable c2] {A B F z : Str} (h1 : P1 ↔ P ∧ c1) (h2 : P2 ↔ P ∧ c2) (hx : ¬ (c1 ∧ c2)) :
    (if P1 ∧ A ≠ z then A else if P2 ∧ B ≠ z then B else F) = if P ∧ (if c1 then A else if c2 then B else z) ≠ z then (if c1 then A else if c2 then B else z) else F := by
  by_cases hP : P <;> by_cases a1 : c1 <;> by_cases a2 : c2 <;> simp_all
theorem fold_col {b : Int} {ks : List Kd} (b0 : 0 ≤ b) (k8 : ks.length ≤ 8) : ∀ (t : Tr) (x y w h : Int),1 ≤ w → 1 ≤ h → okT b ks w h t → ∀ (f : Fn) (u r : Nat),
    ((lvs b t x y w h).foldl (leafF ks) f) u r = if inB x y w h r u ∧ colT b ks t x y w h r u ≠ "+" then colT b ks t x y w h r u else f u r
  | .rest,x,y,w,h,w0,h0,_,f,u,r => by
    show fillF f x y w h "." u r = _
    unfold fillF colT
    by_cases c : inB x y w h r u
    · rw [if_pos c,if_pos ⟨c,by decide +kernel⟩]
    · rw [if_neg c,if_neg (fun q => c q.1)]
  | .piece i c a e,x,y,w,h,w0,h0,⟨k,hk,hc,u0,v0,hx,hy⟩,f,u,r => by
    have hi : i < 8 := Nat.lt_of_lt_of_le (List.getElem?_eq_some_iff.mp hk).1 k8
    have e1 : leafF ks f ⟨x,y,w,h,.piece i c a e⟩ = fillF (fillF f x y w h ",") (x + a) (y + e) (sd1 k c) (sd2 k c) (letS i) := by
      unfold leafF
      dsimp only
      rw [hk]
    have e2 : colT b ks (.piece i c a e) x y w h r u = if inB (x + a) (y + e) (sd1 k c) (sd2 k c) r u then letS i else "," := by
      unfold colT
      rw [hk]
    show leafF ks f ⟨x,y,w,h,.piece i c a e⟩ u r = _
    rw [e1,e2]
    unfold fillF
    by_cases c1 : inB (x + a) (y + e) (sd1 k c) (sd2 k c) r u
    · have c2 : inB x y w h r u := by unfold inB at c1 ⊢; omega
      rw [if_pos c1,if_pos c1,if_pos ⟨c2,letS_ne i hi⟩]
    · rw [if_neg c1,if_neg c1]
      by_cases c2 : inB x y w h r u
      · rw [if_pos c2,if_pos ⟨c2,by decide +kernel⟩]
      · rw [if_neg c2,if_neg (fun q => c2 q.1)]
  | .cut true p l r',x,y,w,h,w0,h0,⟨p1,hp,hl,hr⟩,f,u,r => by
    have hp : p + b < w := hp
    have i1 := fold_col b0 k8 r' (x + (p + b)) y (w - p - b) h (by omega) h0 hr f u r
    have i2 := fold_col b0 k8 l x y p h p1 h0 hl ((lvs b r' (x + (p + b)) y (w - p - b) h).foldl (leafF ks) f) u r
    rw [lvs,List.foldl_append,i2,i1,colT,show w - (p + b) = w - p - b by omega]
    exact pick (by constructor <;> intro q <;> omega) (by constructor <;> intro q <;> omega) (by omega)
  | .cut false p l r',x,y,w,h,w0,h0,⟨p1,hp,hl,hr⟩,f,u,r => by
    have hp : p + b < h := hp
    have i1 := fold_col b0 k8 r' x (y + (p + b)) w (h - p - b) w0 (by omega) hr f u r
    have i2 := fold_col b0 k8 l x y w p w0 p1 hl ((lvs b r' x (y + (p + b)) w (h - p - b)).foldl (leafF ks) f) u r
    rw [lvs,List.foldl_append,i2,i1,colT,show h - (p + b) = h - p - b by omega]
    exact pick (by constructor <;> intro q <;> omega) (by constructor <;> intro q <;> omega) (by omega)
def picR (b : Int) (ks : List Kd) (t : Tr) (w h : Nat) : List Str := (List.range h).map fun k => Txt.join "" ((List.range w).map fun (c : Nat) => colT b ks t 0 0 w h (c : Int) ((h - 1 - k : Nat) : Int))
theorem fold_all {b : Int} {ks : List Kd} (b0 : 0 ≤ b) (k8 : ks.length ≤ 8) {t : Tr} {w h : Nat} (w0 : 1 ≤ w) (h0 : 1 ≤ h) (ok : okT b ks w h t) {u r : Nat} (hu : u < h) (hr : r < w) :
    ((lvs b t 0 0 w h).foldl (leafF ks) fun _ _ => "+") u r = colT b ks t 0 0 w h r u := by
  rw [fold_col b0 k8 t 0 0 w h (by omega) (by omega) ok]
  have c : inB 0 0 w h r u := by unfold inB; omega
  by_cases z : colT b ks t 0 0 w h r u ≠ "+"
  · rw [if_pos ⟨c,z⟩]
  · rw [if_neg (fun q => z q.2)]
    exact (Classical.not_not.mp z).symm
structure PiC (mg : Str → Option Value) : Prop where
  lt : ∃ t,mg "LETTERS" = some (.str "abcdefgh" t)
  rs : ∃ t,mg "REST_SIGN" = some (.str "." t)
  ms : ∃ t,mg "MARGIN_SIGN" = some (.str "," t)
  bs : ∃ t,mg "BLADE_SIGN" = some (.str "+" t)
  mo : ∃ t,mg "MOST_SIDE" = some (.int 60 t)
  rv : mg "reversed" = none
section
variable {P : Program} {w : World} {K : PySem.W.Frag} {mg : Str → Option Value} {base : Heap}
def spFill : Sp := fun vs H Q _ => ∃ (rl ct sd : Addr) (ras : List Addr) (W h : Nat) (f : Fn) (x y a b : Int) (z : Str),vs = [.ref rl,.ref ct,.ref sd,.str z] ∧ Grid H rl ras W h f ∧ H ct = some (.tup [.int x,.int y]) ∧ H sd = some (.tup [.int a,.int b]) ∧ 0 ≤ x ∧ 0 ≤ y ∧ 0 ≤ a ∧ 0 ≤ b ∧ x + a ≤ W ∧ y + b ≤ h ∧ W ≤ 60 ∧ h ≤ 60 ∧
  ∀ H',Grid H' rl ras W h (fillF f x y a b z) → ButR ras H H' → Q .non H'
def spFillLeaf (C : Addr) : Sp := fun vs H Q _ => ∃ (H0 : Hp) (pp s rl : Addr) (ras : List Addr) (W h : Nat) (f : Fn) (b : Int) (ks : List Kd) (v : V) (l : Lf),vs = [.ref s,.ref rl,v] ∧ ShopAt C H0 s b ks ∧ Same H0 H ∧ (∀ a ∈ ras,H0 a = none) ∧ Grid H rl ras W h f ∧ LfAt pp H0 H v l ∧ (l.t = .rest ∨ ∃ i c u v,l.t = .piece i c u v) ∧ okT b ks l.w l.h l.t ∧ (∀ k ∈ ks,Good k) ∧ ks.length ≤ 8 ∧ 0 ≤ l.x ∧ 0 ≤ l.y ∧ 1 ≤ l.w ∧ 1 ≤ l.h ∧ l.x + l.w ≤ W ∧ l.y + l.h ≤ h ∧ W ≤ 60 ∧ h ≤ 60 ∧
  ∀ H',Grid H' rl ras W h (leafF ks f l) → ButR ras H H' → Q .non H'
def spPicture (C : Addr) : Sp := fun vs H Q _ => ∃ (pp s : Addr) (b : Int) (w h : Nat) (ks : List Kd) (v : V) (d : PyData) (t : Tr),vs = [.ref s,.int w,.int h,v] ∧ TrH C pp s b w h ks v d t H ∧ 0 ≤ b ∧ w ≤ 60 ∧ h ≤ 60 ∧ (∀ k ∈ ks,Good k) ∧ ks.length ≤ 8 ∧
  ∀ (l : Addr) (H' : Hp),H l = none → H' l = some (.lst ((picR b ks t w h).map V.str)) → Same H H' → Q (.ref l) H'
theorem scfill : FnScope ["rows","corner","sides","sign","x","y","wide","high","up","right"] ["rows","corner","sides","sign"] (defScope sFill) := ⟨rfl,rfl,rfl,by decide +kernel,rfl,by decide +kernel,by decide +kernel⟩
theorem ok_fill {f : Addr} {fd : FuncData} (F : Fun K "fill" "fill" sFill f fd) (B : Blt mg) : FnOk P w K mg base CX0 1 f fd ["rows","corner","sides","sign"] (spFill) := by
  refine F.ok scfill (fun vs H Q E h => ?_) (fun cdv A outer s H vs Q E hr h => ?_)
  · obtain ⟨rl,ct,sd,ras,W,h,f,x,y,a,b,z,rfl,_⟩ := h
    rfl
  obtain ⟨rl,ct,sd,ras,W,h,f,x,y,a,b,z,rfl,g,hct,hsd,x0,y0,a0,b0,xa,yb,W60,h60,q⟩ := h
  have nd := scfill.nd
  refine ⟨_,(@pss_cons _ _ _ _ _ (@ps_asg _ _ _ _ _ _ (pv 1) (pg_tup rfl (pgs_cons (pg_name (i := 4) nd rfl (Or.inl rfl)) (pgs_cons (pg_name (i := 5) nd rfl (Or.inl rfl)) pgs_nil))) rfl rfl rfl) (@pss_cons _ _ _ _ _ (@ps_asg _ _ _ _ _ _ (pv 2) (pg_tup rfl (pgs_cons (pg_name (i := 6) nd rfl (Or.inl rfl)) (pgs_cons (pg_name (i := 7) nd rfl (Or.inl rfl)) pgs_nil))) rfl rfl rfl) (@pss_one _ _ _ (@ps_for _ _ _ _ _ _ _ _ PassesOwn.never rfl (pi_range2 rfl B.range (@pa_cons _ _ _ _ _ (pv 5) (@pa_cons _ _ _ _ _ (@pe_op _ _ _ _ _ _ _ _ op_add (pv 5) (pv 7)) pa_nil rfl) rfl)) (pg_name (i := 8) nd rfl (Or.inl rfl)) (@pss_one _ _ _ (@ps_for _ _ _ _ _ _ _ _ PassesOwn.never rfl (pi_range2 rfl B.range (@pa_cons _ _ _ _ _ (pv 4) (@pa_cons _ _ _ _ _ (@pe_op _ _ _ _ _ _ _ _ op_add (pv 4) (pv 6)) pa_nil rfl) rfl)) (pg_name (i := 9) nd rfl (Or.inl rfl)) (@pss_one _ _ _ (@ps_asg _ _ _ _ _ _ (pv 3) (pg_sub (@pe_ix _ _ _ _ _ _ _ ix_list (pv 0) (pv 8) (fun _ _ => rfl)) (pv 9) set_list) rfl rfl rfl)) (by intro _; rfl))) (by intro _; rfl))))),?_⟩
  have sz : (40000 : Nat) ≤ sizeLine := by decide
  refine seqCut (fun σ' H' => σ' = [some (.ref rl),some (.ref ct),some (.ref sd),some (.str z),some (.int x),some (.int y),none,none,none,none] ∧ H = H') (fun R hR => ?_) ?_
  · exact ⟨_,rfl,ct,_,rfl,SqT.of hct,rfl,_,_,rfl,_,_,rfl,rfl,hR _ _ ⟨rfl,rfl⟩⟩
  rintro _ _ ⟨rfl,rfl⟩
  refine seqCut (fun σ' H' => σ' = [some (.ref rl),some (.ref ct),some (.ref sd),some (.str z),some (.int x),some (.int y),some (.int a),some (.int b),none,none] ∧ H = H') (fun R hR => ?_) ?_
  · exact ⟨_,rfl,sd,_,rfl,SqT.of hsd,rfl,_,_,rfl,_,_,rfl,rfl,hR _ _ ⟨rfl,rfl⟩⟩
  rintro _ _ ⟨rfl,rfl⟩
  have e1 : (y + b - y).toNat = b.toNat := by congr 1; omega
  have e2 : (x + a - x).toNat = a.toNat := by congr 1; omega
  refine ⟨_,rfl,_,rfl,_,rfl,_,_,rfl,rfl,_,_,rfl,⟨by omega,by omega,by omega,by omega⟩,?_⟩
  rw [e1]
  refine for_range (lo := y) (n := b.toNat) (fun i σ' H' => (∃ v8 v9,σ' = [some (.ref rl),some (.ref ct),some (.ref sd),some (.str z),some (.int x),some (.int y),some (.int a),some (.int b),v8,v9]) ∧ Grid H' rl ras W h (pF f x y a i 0 z) ∧ ButR ras H H') ⟨⟨_,_,rfl⟩,by rw [pF_0]; exact g,fun _ _ _ e => e⟩ ?_ ?_
  · rintro i σ H1 hi ⟨⟨v8,v9,rfl⟩,g1,b1⟩
    refine ⟨_,rfl,_,rfl,_,rfl,_,_,rfl,rfl,_,_,rfl,⟨by omega,by omega,by omega,by omega⟩,?_⟩
    rw [e2]
    have hU : (y + (i : Int)).toNat < ras.length := by rw [g.n]; omega
    refine for_range (lo := x) (n := a.toNat) (fun j σ' H' => (∃ v9,σ' = [some (.ref rl),some (.ref ct),some (.ref sd),some (.str z),some (.int x),some (.int y),some (.int a),some (.int b),some (.int (y + i)),v9]) ∧ Grid H' rl ras W h (pF f x y a i j z) ∧ ButR ras H H') ⟨⟨_,rfl⟩,g1,b1⟩ ?_ ?_
    · rintro j σ H2 hj ⟨⟨v9,rfl⟩,g2,b2⟩
      have hat : atI (ras.map V.ref) (y + (i : Int)) = some (.ref ras[(y + (i : Int)).toNat]) := atI_int (by omega) (by rw [List.getElem?_map,List.getElem?_eq_getElem hU]; rfl)
      have hrow := g2.r _ _ (List.getElem?_eq_getElem hU)
      have hR : (x + (j : Int)).toNat < W := by omega
      have hix : ixN (rowV (pF f x y a i j z) W (y + (i : Int)).toNat).length (x + (j : Int)) = some (x + (j : Int)).toNat := by
        unfold ixN rowV
        rw [if_pos (by omega),List.length_map,List.length_range,if_pos (by omega)]
      refine ⟨_,rfl,_,rfl,_,rfl,rl,_,_,_,rfl,rfl,SqL.of g2.l,hat,_,rfl,_,_,_,_,rfl,rfl,hrow,hix,?_⟩
      obtain ⟨g3,b3⟩ := g2.set (z := z) (List.getElem?_eq_getElem hU) hR
      rw [pF_step f x y a i j z x0 y0] at g3
      exact ⟨⟨_,rfl⟩,g3,b2.trans b3⟩
    · rintro σ H2 ⟨⟨v9,rfl⟩,g2,b2⟩
      rw [pF_row f x y a i z a0] at g2
      exact ⟨⟨_,_,rfl⟩,g2,b2⟩
  · rintro σ H1 ⟨⟨v8,v9,rfl⟩,g1,b1⟩
    rw [pF_all f x y a b z b0] at g1
    exact q H1 g1 b1
theorem scfillleaf : FnScope ["shop","rows","spot","x","y","wide","high","leaf","word","kind","turned","piece_x","piece_y"] ["shop","rows","spot"] (defScope sFillLeaf) := ⟨rfl,rfl,rfl,by decide +kernel,rfl,by decide +kernel,by decide +kernel⟩
theorem ok_fillleaf {f C wa NL : Addr} {fd : FuncData} (F : Fun K "fill_leaf" "fill_leaf" sFillLeaf f fd) (B : Blt mg) (T : ShopTxt K C) (Z : TrC K mg wa) (PC : PiC mg) (DF : Dn P w K mg base "fill" ["rows","corner","sides","sign"] 1 (spFill)) (MS : MnX P w K mg base C "sides" ["self","kind","turned"] 3 (spSides K C NL)) : FnOk P w K mg base CX0 4 f fd ["shop","rows","spot"] (spFillLeaf C) := by
  refine F.ok scfillleaf (fun vs H Q E h => ?_) (fun cdv A outer s H vs Q E hr h => ?_)
  · obtain ⟨H0,pp,s,rl,ras,W,h,f,b,ks,v,l,rfl,_⟩ := h
    rfl
  obtain ⟨H0,pp,s,rl,ras,W,h,f,b,ks,v,l,rfl,SH,s0,fr,g,la,lf,okl,gk,k8,x0,y0,lw0,lh0,xw,yh,W60,h60,q⟩ := h
  have nd := scfillleaf.nd
  obtain ⟨trs,hrs⟩ := Z.rs
  obtain ⟨tlt,hlt⟩ := PC.lt
  obtain ⟨tsr,hsr⟩ := PC.rs
  obtain ⟨tsm,hsm⟩ := PC.ms
  refine ⟨_,(@pss_cons _ _ _ _ _ (@ps_asg _ _ _ _ _ _ (pv 2) (pg_tup rfl (pgs_cons (pg_name (i := 3) nd rfl (Or.inl rfl)) (pgs_cons (pg_name (i := 4) nd rfl (Or.inl rfl)) (pgs_cons (pg_name (i := 5) nd rfl (Or.inl rfl)) (pgs_cons (pg_name (i := 6) nd rfl (Or.inl rfl)) (pgs_cons (pg_name (i := 7) nd rfl (Or.inl rfl)) pgs_nil)))))) rfl rfl rfl) (@pss_one _ _ _ (@ps_if _ _ _ _ _ _ _ _ (@pt_cmpR _ _ _ _ _ _ _ _ op_eq (@pe_ix _ _ _ _ _ _ _ ix_seq (pv 7) pe_int (fun _ _ => rfl)) (pe_glob (v := .str "rest") rfl hrs ⟨trs,rfl⟩) (nomark _)) (@pss_one _ _ _ (@ps_expr _ _ _ _ (@pe_cD _ _ _ _ _ _ _ _ _ _ DF (hr.mono (by decide)) rfl (@pa_cons _ _ _ _ _ (pv 1) (@pa_cons _ _ _ _ _ (@pe_tup _ _ _ _ _ (@pa_cons _ _ _ _ _ (pv 3) (@pa_cons _ _ _ _ _ (pv 4) pa_nil rfl) rfl)) (@pa_cons _ _ _ _ _ (@pe_tup _ _ _ _ _ (@pa_cons _ _ _ _ _ (pv 5) (@pa_cons _ _ _ _ _ (pv 6) pa_nil rfl) rfl)) (@pa_cons _ _ _ _ _ (pe_glob (v := .str ".") rfl hsr ⟨tsr,rfl⟩) pa_nil rfl) rfl) rfl) rfl) (by decide) rfl rfl) rfl)) (@pss_cons _ _ _ _ _ (@ps_asg _ _ _ _ _ _ (pv 7) (pg_seq rfl (pgs_cons (pg_name (i := 8) nd rfl (Or.inl rfl)) (pgs_cons (pg_name (i := 9) nd rfl (Or.inl rfl)) (pgs_cons (pg_name (i := 10) nd rfl (Or.inl rfl)) (pgs_cons (pg_name (i := 11) nd rfl (Or.inl rfl)) (pgs_cons (pg_name (i := 12) nd rfl (Or.inl rfl)) pgs_nil)))))) rfl rfl rfl) (@pss_cons _ _ _ _ _ (@ps_expr _ _ _ _ (@pe_cD _ _ _ _ _ _ _ _ _ _ DF (hr.mono (by decide)) rfl (@pa_cons _ _ _ _ _ (pv 1) (@pa_cons _ _ _ _ _ (@pe_tup _ _ _ _ _ (@pa_cons _ _ _ _ _ (pv 3) (@pa_cons _ _ _ _ _ (pv 4) pa_nil rfl) rfl)) (@pa_cons _ _ _ _ _ (@pe_tup _ _ _ _ _ (@pa_cons _ _ _ _ _ (pv 5) (@pa_cons _ _ _ _ _ (pv 6) pa_nil rfl) rfl)) (@pa_cons _ _ _ _ _ (pe_glob (v := .str ",") rfl hsm ⟨tsm,rfl⟩) pa_nil rfl) rfl) rfl) rfl) (by decide) rfl rfl) rfl) (@pss_one _ _ _ (@ps_expr _ _ _ _ (@pe_cD _ _ _ _ _ _ _ _ _ _ DF (hr.mono (by decide)) rfl (@pa_cons _ _ _ _ _ (pv 1) (@pa_cons _ _ _ _ _ (@pe_tup _ _ _ _ _ (@pa_cons _ _ _ _ _ (@pe_op _ _ _ _ _ _ _ _ op_add (pv 3) (pv 11)) (@pa_cons _ _ _ _ _ (@pe_op _ _ _ _ _ _ _ _ op_add (pv 4) (pv 12)) pa_nil rfl) rfl)) (@pa_cons _ _ _ _ _ (pe_mDX (pv 0) T.cl MS hr (@pa_cons _ _ _ _ _ (pv 9) (@pa_cons _ _ _ _ _ (pv 10) pa_nil rfl) rfl)) (@pa_cons _ _ _ _ _ (@pe_ix _ _ _ _ _ _ _ ix_str (pe_glob (v := .str "abcdefgh") rfl hlt ⟨tlt,rfl⟩) (pv 9) (fun _ _ => rfl)) pa_nil rfl) rfl) rfl) rfl) (by decide) rfl rfl) rfl))))))),?_⟩
  have sz : (40000 : Nat) ≤ sizeLine := by decide
  obtain ⟨a,u,du,rfl,ha,hdu,tdu⟩ := la
  have nsame : ∀ {H1 : Hp},ButR ras H H1 → Same H0 H1 := fun bb => ButR.same s0 bb fr
  have tstay : ∀ {H1 : Hp} {c : Addr} {xs : List V},ButR ras H H1 → H c = some (.tup xs) → H1 c = some (.tup xs) := fun bb e => bb _ _ (g.nin e) e
  refine seqCut (fun σ' H' => σ' = [some (.ref s),some (.ref rl),some (.ref a),some (.int l.x),some (.int l.y),some (.int l.w),some (.int l.h),some u,none,none,none,none,none] ∧ H = H') (fun R hR => ?_) ?_
  · exact ⟨_,rfl,a,_,rfl,SqT.of ha,rfl,_,_,rfl,_,_,rfl,_,_,rfl,_,_,rfl,_,_,rfl,rfl,hR _ _ ⟨rfl,rfl⟩⟩
  rintro _ _ ⟨rfl,rfl⟩
  rcases lf with et | ⟨i,c,px,py,et⟩
  · rw [et] at tdu
    obtain ⟨a', xs, rfl, hx, dxs⟩ := hdu.ref_row (show rowOf du = some [.str "rest"] from tdu)
    cases dxs with
    | cons hd0 dxs =>
    cases hd0
    cases dxs
    have el : leafF ks f l = fillF f l.x l.y l.w l.h "." := by unfold leafF; rw [et]
    refine ⟨_,rfl,ixR s0 hx (atI_int (Int.le_refl _) rfl) ⟨rfl,_,rfl,iteT ?_⟩⟩
    refine ⟨_,rfl,_,rfl,_,rfl,(by show 2 ≤ sizeLine; decide),fun t1 ht1 => ?_⟩
    generalize hH1 : upd H t1 _ = H1
    have s1 : Same H H1 := by subst hH1; exact Same.new ht1
    have k1 : H1 t1 = some (.tup [.int l.x,.int l.y]) := by subst hH1; exact upd_same
    refine ⟨_,rfl,_,rfl,(by show 2 ≤ sizeLine; decide),fun t2 ht2 => ?_⟩
    generalize hH2 : upd H1 t2 _ = H2
    have s2 : Same H1 H2 := by subst hH2; exact Same.new ht2
    have k2 : H2 t2 = some (.tup [.int l.w,.int l.h]) := by subst hH2; exact upd_same
    have s12 := s1.trans s2
    refine ⟨rl,t1,t2,ras,W,h,f,l.x,l.y,l.w,l.h,".",rfl,g.same s12,s2 _ _ k1,k2,x0,y0,by omega,by omega,xw,yh,W60,h60,fun H3 g3 b3 => ?_⟩
    rw [← el] at g3
    exact q H3 g3 (fun cc o n e => b3 _ _ n (s12 _ _ e))
  · rw [et] at tdu okl
    obtain ⟨k,hk,hc,u0,v0,hxw,hyh⟩ := okl
    have gk1 := gk k (List.mem_of_getElem? hk)
    have sw := gk1.w
    have sh := gk1.h
    have sb : 1 ≤ sd1 k c ∧ 1 ≤ sd2 k c := by cases c <;> exact ⟨by assumption,by assumption⟩
    have i8 : i < 8 := Nat.lt_of_lt_of_le (List.getElem?_eq_some_iff.mp hk).1 k8
    obtain ⟨a', xs, rfl, hx, dxs⟩ := hdu.ref_row (show rowOf du = some [.str "piece", .int i, .bool c, .int px, .int py] from tdu)
    cases dxs with
    | cons hd0 dxs =>
    cases dxs with
    | cons hd1 dxs =>
    cases dxs with
    | cons hd2 dxs =>
    cases dxs with
    | cons hd3 dxs =>
    cases dxs with
    | cons hd4 dxs =>
    cases dxs
    cases hd0; cases hd1; cases hd2; cases hd3; cases hd4
    have el : leafF ks f l = fillF (fillF f l.x l.y l.w l.h ",") (l.x + px) (l.y + py) (sd1 k c) (sd2 k c) (letS i) := by unfold leafF; rw [et]; dsimp only; rw [hk]
    refine ⟨_,rfl,ixR s0 hx (atI_int (Int.le_refl _) rfl) ⟨rfl,_,rfl,iteF ?_⟩⟩
    refine ⟨_,rfl,a',_,rfl,(hx.imp (s0 _ _) (s0 _ _)).imp (fun z => SqL.of z) (fun z => SqT.of z),rfl,_,_,rfl,_,_,rfl,_,_,rfl,_,_,rfl,_,_,rfl,rfl,?_⟩
    refine ⟨_,rfl,_,rfl,_,rfl,(by show 2 ≤ sizeLine; decide),fun t1 ht1 => ?_⟩
    generalize hH1 : upd H t1 _ = H1
    have s1 : Same H H1 := by subst hH1; exact Same.new ht1
    have k1 : H1 t1 = some (.tup [.int l.x,.int l.y]) := by subst hH1; exact upd_same
    refine ⟨_,rfl,_,rfl,(by show 2 ≤ sizeLine; decide),fun t2 ht2 => ?_⟩
    generalize hH2 : upd H1 t2 _ = H2
    have s2 : Same H1 H2 := by subst hH2; exact Same.new ht2
    have k2 : H2 t2 = some (.tup [.int l.w,.int l.h]) := by subst hH2; exact upd_same
    have s12 := s1.trans s2
    refine ⟨rl,t1,t2,ras,W,h,f,l.x,l.y,l.w,l.h,",",rfl,g.same s12,s2 _ _ k1,k2,x0,y0,by omega,by omega,xw,yh,W60,h60,fun H3 g3 b3 => ?_⟩
    have bb3 : ButR ras H H3 := fun cc o n e => b3 _ _ n (s12 _ _ e)
    have SH3 := shopS (nsame bb3) SH
    obtain ⟨dx,r,rs,S1,S2,S3⟩ := id SH3
    refine ⟨_,rfl,_,rfl,_,rfl,_,_,rfl,rfl,_,rfl,_,rfl,_,_,rfl,rfl,(by show 2 ≤ sizeLine; decide),fun t4 ht4 => ?_⟩
    generalize hH4 : upd H3 t4 _ = H4
    have s4 : Same H3 H4 := by subst hH4; exact Same.new ht4
    have k4 : H4 t4 = some (.tup [.int (l.x + px),.int (l.y + py)]) := by subst hH4; exact upd_same
    have SH4 := shopS s4 SH3
    obtain ⟨dx,r,rs,S1,S2,S3⟩ := id SH4
    refine ⟨_,rfl,s,dx,_,rfl,S1,(flds_no _ _ (by decide +kernel) (by decide +kernel)),_,rfl,_,rfl,s,b,ks,.int i,.bl c,_,_,rfl,SH4,Ty.int,Ty.bl,fun z => absurd z (by rw [lain_ly hk hc]; decide),fun i' c' k' p e1' e2' hk' _ hp => ?_⟩
    cases e1'
    cases e2'
    rw [Int.toNat_natCast,hk] at hk'
    cases hk'
    rw [sides_eq]
    have s5 := Same.new hp (o := .tup [.int (sd1 k c),.int (sd2 k c)])
    have k5 : (upd H4 p (.tup [.int (sd1 k c),.int (sd2 k c)])) p = some (.tup [.int (sd1 k c),.int (sd2 k c)]) := upd_same
    generalize upd H4 p (.tup [.int (sd1 k c),.int (sd2 k c)]) = H5 at s5 k5 ⊢
    have s45 := s4.trans s5
    refine ⟨_,rfl,_,_,_,rfl,rfl,(by decide),letS_at i i8,?_⟩
    refine ⟨rl,t4,p,ras,W,h,_,l.x + px,l.y + py,sd1 k c,sd2 k c,letS i,rfl,g3.same s45,s5 _ _ k4,k5,by omega,by omega,by omega,by omega,by omega,by omega,W60,h60,fun H6 g6 b6 => ?_⟩
    rw [← el] at g6
    exact q H6 g6 (fun cc o n e => b6 _ _ n (s45 _ _ (bb3 _ _ n e)))
end
theorem lvs_pos {b : Int} {ks : List Kd} (b0 : 0 ≤ b) : ∀ (t : Tr) (x y w h : Int),1 ≤ w → 1 ≤ h → okT b ks w h t → ∀ f ∈ lvs b t x y w h,x ≤ f.x ∧ y ≤ f.y ∧ 1 ≤ f.w ∧ 1 ≤ f.h ∧ f.x + f.w ≤ x + w ∧ f.y + f.h ≤ y + h ∧ okT b ks f.w f.h f.t
  | .rest,x,y,w,h,w0,h0,ok,f,hf => by cases List.mem_singleton.mp hf; exact ⟨Int.le_refl _,Int.le_refl _,w0,h0,Int.le_refl _,Int.le_refl _,ok⟩
  | .piece ..,x,y,w,h,w0,h0,ok,f,hf => by cases List.mem_singleton.mp hf; exact ⟨Int.le_refl _,Int.le_refl _,w0,h0,Int.le_refl _,Int.le_refl _,ok⟩
  | .cut true p l r,x,y,w,h,w0,h0,⟨p1,hp,hl,hr⟩,f,hf => by
    have hp : p + b < w := hp
    rw [lvs] at hf
    rcases List.mem_append.mp hf with z | z
    · obtain ⟨a1,a2,a3,a4,a5,a6,a7⟩ := lvs_pos b0 r _ _ _ _ (by omega) h0 hr f z
      exact ⟨by omega,by omega,a3,a4,by omega,by omega,a7⟩
    · obtain ⟨a1,a2,a3,a4,a5,a6,a7⟩ := lvs_pos b0 l _ _ _ _ p1 h0 hl f z
      exact ⟨by omega,by omega,a3,a4,by omega,by omega,a7⟩
  | .cut false p l r,x,y,w,h,w0,h0,⟨p1,hp,hl,hr⟩,f,hf => by
    have hp : p + b < h := hp
    rw [lvs] at hf
    rcases List.mem_append.mp hf with z | z
    · obtain ⟨a1,a2,a3,a4,a5,a6,a7⟩ := lvs_pos b0 r _ _ _ _ w0 (by omega) hr f z
      exact ⟨by omega,by omega,a3,a4,by omega,by omega,a7⟩
    · obtain ⟨a1,a2,a3,a4,a5,a6,a7⟩ := lvs_pos b0 l _ _ _ _ w0 p1 hl f z
      exact ⟨by omega,by omega,a3,a4,by omega,by omega,a7⟩
theorem col_len (b : Int) (ks : List Kd) : ∀ (t : Tr) (x y w h c r : Int),(colT b ks t x y w h c r).length = 1
  | .rest,_,_,_,_,_,_ => by unfold colT; decide +kernel
  | .piece i c u v,x,y,w,h,cc,rr => by
    unfold colT
    cases ks[i]? with
    | none =>
      show (Str.ofString "+").length = 1
      decide +kernel
    | some k =>
      dsimp only
      split
      · rfl
      · decide +kernel
  | .cut true p l r,x,y,w,h,cc,rr => by
    rw [colT]
    split
    · exact col_len b ks l _ _ _ _ _ _
    · split
      · exact col_len b ks r _ _ _ _ _ _
      · decide +kernel
  | .cut false p l r,x,y,w,h,cc,rr => by
    rw [colT]
    split
    · exact col_len b ks l _ _ _ _ _ _
    · split
      · exact col_len b ks r _ _ _ _ _ _
      · decide +kernel
theorem sum_ones {α : Type} (f : α → Nat) : ∀ l : List α,(∀ x ∈ l,f x = 1) → (l.map f).sum = l.length
  | [],_ => rfl
  | a :: r,h => by rw [List.map_cons,List.sum_cons,h a List.mem_cons_self,sum_ones f r fun x hx => h x (List.mem_cons_of_mem _ hx),List.length_cons,Nat.add_comm]
abbrev pluF : Fn := fun _ _ => "+"
section
variable {P : Program} {w : World} {K : PySem.W.Frag} {mg : Str → Option Value} {base : Heap}
theorem scpicture : FnScope ["shop","wide","high","tree","rows","spot"] ["shop","wide","high","tree"] (defScope sPicture) := ⟨rfl,rfl,rfl,by decide +kernel,rfl,by decide +kernel,by decide +kernel⟩
theorem ok_picture {f C : Addr} {fd : FuncData} (F : Fun K "picture" "picture" sPicture f fd) (B : Blt mg) (PC : PiC mg) (DCP : Dn P w K mg base "check_plate" ["wide","high"] 2 (spCP)) (DCS : Dn P w K mg base "check_sides" ["wide","high","most"] 1 (spCS)) (DC : Dn P w K mg base "check_tree" ["shop","wide","high","thing"] 7 (spCheckT C)) (DL : Dn P w K mg base "leaves_of" ["shop","wide","high","tree"] 3 (spLeaves C)) (DFL : Dn P w K mg base "fill_leaf" ["shop","rows","spot"] 4 (spFillLeaf C)) : FnOk P w K mg base CX0 8 f fd ["shop","wide","high","tree"] (spPicture C) := by
  refine F.ok scpicture (fun vs H Q E h => ?_) (fun cdv A outer s H vs Q E hr h => ?_)
  · obtain ⟨pp,s,b,W,h,ks,v,d,t,rfl,_⟩ := h
    rfl
  obtain ⟨pp,s,b,W,h,ks,v,d,t,rfl,th,b0,W60,h60,gk,k8,q⟩ := h
  have nd := scpicture.nd
  obtain ⟨tmo,hmo⟩ := PC.mo
  obtain ⟨tbs,hbs⟩ := PC.bs
  have rv := PC.rv
  refine ⟨_,(@pss_cons _ _ _ _ _ (@ps_expr _ _ _ _ (@pe_cD _ _ _ _ _ _ _ _ _ _ DCP (hr.mono (by decide)) rfl (@pa_cons _ _ _ _ _ (pv 1) (@pa_cons _ _ _ _ _ (pv 2) pa_nil rfl) rfl) (by decide) rfl rfl) rfl) (@pss_cons _ _ _ _ _ (@ps_expr _ _ _ _ (@pe_cD _ _ _ _ _ _ _ _ _ _ DCS (hr.mono (by decide)) rfl (@pa_cons _ _ _ _ _ (pv 1) (@pa_cons _ _ _ _ _ (pv 2) (@pa_cons _ _ _ _ _ (pe_glob (v := .int 60) rfl hmo ⟨tmo,rfl⟩) pa_nil rfl) rfl) rfl) (by decide) rfl rfl) rfl) (@pss_cons _ _ _ _ _ (@ps_expr _ _ _ _ (@pe_cD _ _ _ _ _ _ _ _ _ _ DC hr rfl (@pa_cons _ _ _ _ _ (pv 0) (@pa_cons _ _ _ _ _ (pv 1) (@pa_cons _ _ _ _ _ (pv 2) (@pa_cons _ _ _ _ _ (pv 3) pa_nil rfl) rfl) rfl) rfl) (by decide) rfl rfl) rfl) (@pss_cons _ _ _ _ _ (ps_comp (i := 4) (own := ["up"]) (cs := ["wide"]) (cap := [1]) rfl nd rfl rfl rfl (pi_range1 rfl B.range (@pa_cons _ _ _ _ _ (pv 2) pa_nil rfl)) (compOk_of (sc := defScope sPicture) (N := ["shop","wide","high","tree","rows","spot"]) rfl rfl (by decide +kernel)) (fun _ _ _ _ _ => pg_name (i := 0) (by show List.Nodup (["up","wide"] : List Str) ; decide +kernel) rfl (Or.inl rfl) (Or.inr rfl)) (fun _ _ _ _ _ => pifs_nil) (fun _ _ _ _ _ => (pe_comp (own := ["right"]) (cs := []) (cap := []) rfl (pi_range1 rfl B.range (@pa_cons _ _ _ _ _ (pv 1) pa_nil rfl)) (compOk_of (N := ["up","wide"]) rfl rfl (by rfl)) (fun _ _ _ _ _ => pg_name (i := 0) (by show List.Nodup (["right"] : List Str) ; decide +kernel) rfl (Or.inl rfl) (Or.inr rfl)) (fun _ _ _ _ _ => pifs_nil) (fun _ _ _ _ _ => (pe_glob (v := .str "+") rfl hbs ⟨tbs,rfl⟩))))) (@pss_cons _ _ _ _ _ (@ps_for _ _ _ _ _ _ _ _ PassesOwn.never rfl (pi_list (@pe_cD _ _ _ _ _ _ _ _ _ _ DL (hr.mono (by decide)) rfl (@pa_cons _ _ _ _ _ (pv 0) (@pa_cons _ _ _ _ _ (pv 1) (@pa_cons _ _ _ _ _ (pv 2) (@pa_cons _ _ _ _ _ (pv 3) pa_nil rfl) rfl) rfl) rfl) (by decide) rfl rfl)) (pg_name (i := 5) nd rfl (Or.inl rfl)) (@pss_one _ _ _ (@ps_expr _ _ _ _ (@pe_cD _ _ _ _ _ _ _ _ _ _ DFL (hr.mono (by decide)) rfl (@pa_cons _ _ _ _ _ (pv 0) (@pa_cons _ _ _ _ _ (pv 4) (@pa_cons _ _ _ _ _ (pv 5) pa_nil rfl) rfl) rfl) (by decide) rfl rfl) rfl)) (by intro _; rfl)) (@pss_one _ _ _ (@ps_ret _ _ _ _ (pe_comp (own := ["row"]) (cs := []) (cap := []) rfl (pi_rev rfl rv (@pa_cons _ _ _ _ _ (pv 4) pa_nil rfl)) (compOk_of (sc := defScope sPicture) (N := ["shop","wide","high","tree","rows","spot"]) rfl rfl (by decide +kernel)) (fun _ _ _ _ _ => pg_name (i := 0) (by show List.Nodup (["row"] : List Str) ; decide +kernel) rfl (Or.inl rfl) (Or.inr rfl)) (fun _ _ _ _ _ => pifs_nil) (fun _ _ _ _ _ => (pe_joinK K rfl pe_str (@pa_cons _ _ _ _ _ (pv 0) pa_nil rfl))))))))))),?_⟩
  have sz : (40000 : Nat) ≤ sizeLine := by decide
  obtain ⟨m1,m2⟩ := TrD.many (b := b) t d 0 0 (W : Int) (h : Int) th.td
  have wd := th.wd
  have w0 := th.w1
  have h0 := th.h1
  refine ⟨_,rfl,_,rfl,W,h,rfl,w0,h0,?_⟩
  refine seqCut (fun σ' H' => σ' = [some (.ref s),some (.int W),some (.int h),some v,none,none] ∧ H = H') (fun R hR => hR _ _ ⟨rfl,rfl⟩) ?_
  rintro _ _ ⟨rfl,rfl⟩
  refine seqCut (fun σ' H' => σ' = [some (.ref s),some (.int W),some (.int h),some v,none,none] ∧ H = H') (fun R hR => ?_) ?_
  · exact ⟨_,rfl,_,rfl,W,h,60,rfl,by omega,by omega,hR _ _ ⟨rfl,rfl⟩⟩
  rintro _ _ ⟨rfl,rfl⟩
  refine seqCut (fun σ' H' => σ' = [some (.ref s),some (.int W),some (.int h),some v,none,none] ∧ Same H H') (fun R hR => ?_) ?_
  · exact ⟨_,rfl,_,rfl,_,rfl,_,rfl,pp,s,b,W,h,ks,v,d,rfl,th.sh,w0,h0,th.dt,by omega,TrD.good t d W h th.td th.ok,fun H1 s1 => hR _ _ ⟨rfl,s1⟩⟩
  rintro _ H1 ⟨rfl,s1⟩
  refine seqCut (fun σ' H' => ∃ (rl : Addr) (ras : List Addr),σ' = [some (.ref s),some (.int W),some (.int h),some v,some (.ref rl),none] ∧ Grid H' rl ras W h pluF ∧ (∀ a ∈ ras,H1 a = none) ∧ H1 rl = none ∧ Same H1 H') (fun R hR => ?_) ?_
  · refine ⟨_,rfl,_,rfl,by omega,by omega,comp_rng (lo := 0) (n := Int.toNat (h : Int)) (fun i ys Hx => ∃ ras : List Addr,ys = ras.map V.ref ∧ ras.length = i ∧ ras.Nodup ∧ (∀ a ∈ ras,H1 a = none) ∧ (∀ (u : Nat) (a : Addr),ras[u]? = some a → Hx a = some (.lst (rowV pluF W u))) ∧ Same H1 Hx) ⟨[],rfl,rfl,List.Pairwise.nil,fun a ha => by simp at ha,fun u a e => by simp at e,Same.refl _⟩ ?_ ?_⟩
    · rintro i ys Hx hi ⟨ras,rfl,rn,nd1,fr,rr,sx⟩
      refine ⟨by rw [List.length_map]; omega,leS.set rfl,tYes_ite ?_⟩
      refine ⟨_,rfl,_,rfl,by omega,by omega,comp_rng (lo := 0) (n := Int.toNat (W : Int)) (fun j zs Hy => Hx = Hy ∧ zs = List.replicate j (.str "+")) ⟨rfl,rfl⟩ ?_ ?_⟩
      · rintro j zs Hy hj ⟨rfl,rfl⟩
        refine ⟨by rw [List.length_replicate]; omega,leS.set rfl,tYes_ite ?_⟩
        show Nx (Int.toNat (W : Int)) (fun j zs Hy => Hx = Hy ∧ zs = List.replicate j (.str "+")) j (List.replicate j (.str "+") ++ [.str "+"]) Hx
        exact Nx.of hj ⟨rfl,(List.replicate_succ' ..).symm⟩
      · rintro zs Hy ⟨rfl,rfl⟩
        refine ⟨by rw [List.length_replicate]; omega,fun ra hra => ?_⟩
        have nin : ra ∉ ras := fun z => by
          obtain ⟨k,hk,rfl⟩ := List.getElem_of_mem z
          rw [rr k _ (List.getElem?_eq_getElem hk)] at hra
          cases hra
        have s2 := Same.new hra (o := .lst (List.replicate (Int.toNat (W : Int)) (.str "+")))
        have er : List.replicate (Int.toNat (W : Int)) (V.str "+") = rowV pluF W i := by
          unfold rowV
          rw [Int.toNat_natCast, show (fun r => V.str (pluF i r)) = fun _ : Nat => V.str "+" from rfl, List.map_const', List.length_range]
        refine Nx.of hi ⟨ras ++ [ra],by rw [List.map_append]; rfl,by rw [List.length_append,rn]; rfl,?_,fun a ha => ?_,fun u a e => ?_,sx.trans s2⟩
        · exact List.pairwise_append.mpr ⟨nd1,List.pairwise_singleton _ _,fun x hx y hy e => nin (by rw [← List.mem_singleton.mp hy,← e]; exact hx)⟩
        · rcases List.mem_append.mp ha with ha | ha
          · exact fr a ha
          · rw [List.mem_singleton.mp ha]; exact sx.free hra
        · by_cases hu : u < ras.length
          · rw [List.getElem?_append_left hu] at e
            exact s2 _ _ (rr u a e)
          · rw [List.getElem?_append_right (by omega)] at e
            have hu2 : u - ras.length = 0 := by
              have := (List.getElem?_eq_some_iff.mp e).1
              simp at this
              omega
            rw [hu2] at e
            have ea : ra = a := by simpa using e
            have eu : u = i := by omega
            subst ea eu
            rw [upd_same,er]
    · rintro ys Hx ⟨ras,rfl,rn,nd1,fr,rr,sx⟩
      rw [Int.toNat_natCast] at rn
      refine ⟨by rw [List.length_map]; omega,fun rl hrl => ?_⟩
      have s2 := Same.new hrl (o := .lst (ras.map V.ref))
      refine hR _ _ ⟨rl,ras,rfl,⟨upd_same,rn,nd1,fun z => ?_,fun u a e => s2 _ _ (rr u a e)⟩,fr,sx.free hrl,sx.trans s2⟩
      obtain ⟨k,hk,rfl⟩ := List.getElem_of_mem z
      rw [rr k _ (List.getElem?_eq_getElem hk)] at hrl
      cases hrl
  rintro _ H2 ⟨rl,ras,rfl,g2,fr,frl,s12⟩
  have s02 := s1.trans s12
  refine seqCut (fun σ' H' => (∃ v5,σ' = [some (.ref s),some (.int W),some (.int h),some v,some (.ref rl),v5]) ∧ Grid H' rl ras W h ((lvs b t 0 0 W h).foldl (leafF ks) pluF) ∧ Same H1 H') (fun R hR => ?_) ?_
  · refine ⟨_,rfl,_,rfl,_,rfl,_,rfl,H1,pp,s,b,W,h,ks,v,d,t,rfl,shopS s02 th.sh,s12,th.dt.same s1,th.td,by omega,fun ll us H3 hll l3 pu s23 => ?_⟩
    have ul := Paired.length pu
    have nll : ll ∉ ras := fun z => by
      obtain ⟨k,hk,rfl⟩ := List.getElem_of_mem z
      rw [g2.r k _ (List.getElem?_eq_getElem hk)] at hll
      cases hll
    refine ⟨ll,rfl,⟨_,SqL.of l3⟩,for_list (xs := us) (fun i σ' H' => (∃ v5,σ' = [some (.ref s),some (.int W),some (.int h),some v,some (.ref rl),v5]) ∧ Grid H' rl ras W h (((lvs b t 0 0 W h).take i).foldl (leafF ks) pluF) ∧ H' ll = some (.lst us) ∧ Paired (LfAt pp H1 H') us (lvs b t 0 0 W h) ∧ Same H1 H') ⟨⟨_,rfl⟩,g2.same s23,l3,pu,s12.trans s23⟩ (fun i σ H' _ h => SqL.of h.2.2.1) ?_ ?_⟩
    · rintro i x σ H4 hi ⟨⟨v5,rfl⟩,g4,l4,pu4,s4⟩
      obtain ⟨f,hf,lat⟩ := Paired.getR pu4 hi
      have fm := List.mem_of_getElem? hf
      obtain ⟨a1,a2,a3,a4,a5,a6,a7⟩ := lvs_pos b0 t 0 0 W h w0 h0 th.ok f fm
      refine ⟨_,rfl,_,rfl,_,rfl,H1,pp,s,rl,ras,W,h,_,b,ks,x,f,rfl,shopS s1 th.sh,s4,fr,g4,lat,lvs_leaf b t 0 0 W h f fm,a7,gk,k8,a1,a2,a3,a4,by omega,by omega,W60,h60,fun H5 g5 b5 => ?_⟩
      refine ⟨⟨_,rfl⟩,?_,b5 _ _ nll l4,Paired.mapP pu4 fun v' f' h' => h'.keep fun a xs e => b5 _ _ (g4.nin e) e,ButR.same s4 b5 fr⟩
      rw [List.take_add_one,hf,List.foldl_append]
      exact g5
    · rintro σ H4 ⟨⟨v5,rfl⟩,g4,l4,pu4,s4⟩
      rw [ul,List.take_length] at g4
      exact hR _ _ ⟨⟨_,rfl⟩,g4,s4⟩
  rintro _ H3 ⟨⟨v5,rfl⟩,g3,s13⟩
  have rln : (ras.map V.ref).length = h := by rw [List.length_map]; exact g3.n
  refine ⟨_,rfl,rl,_,rfl,SqL.of g3.l,comp_rev (xs := ras.map V.ref) (fun i ys Hx => H3 = Hx ∧ ys = ((picR b ks t W h).take i).map V.str) (fun i ys Hx _ e => e.1 ▸ g3.l) ⟨rfl,rfl⟩ ?_ ?_⟩
  · rintro i x ys Hx hi hx ⟨rfl,rfl⟩
    rw [rln] at hi hx
    have hu : h - 1 - i < ras.length := by rw [g3.n]; omega
    rw [List.getElem?_map,List.getElem?_eq_getElem hu] at hx
    cases hx
    have hrow := g3.r _ _ (List.getElem?_eq_getElem hu)
    have er : rowV ((lvs b t 0 0 W h).foldl (leafF ks) pluF) W (h - 1 - i) = ((List.range W).map fun (c : Nat) => colT b ks t 0 0 W h (c : Int) ((h - 1 - i : Nat) : Int)).map V.str := by
      unfold rowV
      rw [List.map_map]
      apply List.map_congr_left
      intro c hc
      show V.str _ = V.str _
      rw [fold_all b0 k8 (by omega) (by omega) th.ok (by omega) (List.mem_range.mp hc)]
    rw [er] at hrow
    refine ⟨by rw [List.length_map]; exact Nat.lt_of_le_of_lt (List.length_take_le _ _) (by omega),leS.set rfl,tYes_ite ?_⟩
    refine ⟨rfl,_,rfl,"",_,_,rfl,rfl,hrow,by decide +kernel,?_,?_⟩
    · rw [sum_ones _ _ (fun x hx => by obtain ⟨c,_,rfl⟩ := List.mem_map.mp hx; exact col_len b ks t _ _ _ _ _ _),List.length_map,List.length_range]
      omega
    · rw [rln]
      refine Nx.of hi ⟨rfl,?_⟩
      have hp : (picR b ks t W h)[i]? = some (Txt.join "" ((List.range W).map fun (c : Nat) => colT b ks t 0 0 W h (c : Int) ((h - 1 - i : Nat) : Int))) := by
        unfold picR
        rw [List.getElem?_map,List.getElem?_range hi]
        rfl
      rw [List.take_add_one,hp]
      simp only [Option.toList_some,List.map_append,List.map_cons,List.map_nil]
  · rintro ys Hx ⟨rfl,rfl⟩
    have pl : (picR b ks t W h).length = h := by unfold picR; rw [List.length_map,List.length_range]
    refine ⟨by rw [List.length_map]; exact Nat.le_trans (List.length_take_le _ _) (by omega),fun l hl => ?_⟩
    have s03 := s1.trans s13
    refine q l _ (s03.free hl) ?_ (s03.trans (Same.new hl))
    rw [upd_same,rln,List.take_of_length_le (by omega)]
end
structure ShL (H : Hp) (st l : Addr) (b : Int) (rs : List V) (ks : List Kd) : Prop where
  t : H st = some (.tup [.int b,.ref l])
  l : H l = some (.lst rs)
  k : Tups H rs ks
  n : rs.length ≤ 8
  g : ∀ k ∈ ks,Good k
theorem ShL.same {H H' : Hp} {st l : Addr} {b : Int} {rs : List V} {ks : List Kd} (h : ShL H st l b rs ks) (s : Same H H') : ShL H' st l b rs ks := ⟨s _ _ h.t,s _ _ h.l,Tups.keep (fun c xs e => s _ _ e) h.k,h.n,h.g⟩
theorem made_same {C x dx : Addr} {H : Hp} (hx : H x = none) (hd : H dx = none) : Same H (upd (upd H dx (.own x)) x (.ins C dx [])) := fun c o e => by
  rw [upd_ne (ne_of_none e hx),upd_ne (ne_of_none e hd)]; exact e
def dpT : Tr → Nat
  | .cut _ _ l r => max (dpT l) (dpT r) + 1
  | _ => 0
theorem dpT_le : ∀ t : Tr,dpT t + 1 ≤ (toD t).depth
  | .rest => by decide +kernel
  | .piece .. => by show 0 + 1 ≤ PyData.depthAll _ + 1; omega
  | .cut dn p l r => by
    have h1 := dpT_le l
    have h2 := dpT_le r
    have h3 := depth_mem (x := toD l) (ds := [.str (if dn = true then "down" else "across"),.int p,toD l,toD r]) (by simp)
    have h4 := depth_mem (x := toD r) (ds := [.str (if dn = true then "down" else "across"),.int p,toD l,toD r]) (by simp)
    show max (dpT l) (dpT r) + 1 + 1 ≤ PyData.depthAll _ + 1
    omega
mutual
theorem Dt.butD {p c : Addr} {H H' : Hp} {kvs : List (List Key × V)} (hc : H c = some (.dT kvs)) (b : But c H H') : ∀ {v : V} {d : PyData},Dt p H v d → Dt p H' v d
  | _,_,.non => .non
  | _,_,.bl b => .bl b
  | _,_,.int i => .int i
  | _,_,.str z => .str z
  | _,_,.lst n h r => .lst n (b _ _ (fun z => by rw [z,hc] at h; cases h) h) (r.butD hc b)
  | _,_,.tup h r => .tup (b _ _ (fun z => by rw [z,hc] at h; cases h) h) (r.butD hc b)
  | _,_,.emp h => .emp (b _ _ (fun z => by rw [z,hc] at h; cases h) h)
theorem Dts.butD {p c : Addr} {H H' : Hp} {kvs : List (List Key × V)} (hc : H c = some (.dT kvs)) (b : But c H H') : ∀ {vs : List V} {ds : List PyData},Dts p H vs ds → Dts p H' vs ds
  | _,_,.nil => .nil
  | _,_,.cons a r => .cons (a.butD hc b) (r.butD hc b)
end
theorem ShL.butD {c : Addr} {H H' : Hp} {kvs : List (List Key × V)} (hc : H c = some (.dT kvs)) (bb : But c H H') {st l : Addr} {b : Int} {rs : List V} {ks : List Kd} (h : ShL H st l b rs ks) : ShL H' st l b rs ks :=
  ⟨bb _ _ (fun z => by have := h.t; rw [z,hc] at this; cases this) h.t,bb _ _ (fun z => by have := h.l; rw [z,hc] at this; cases this) h.l,Tups.keep (fun a xs e => bb _ _ (fun z => by rw [z,hc] at e; cases e) e) h.k,h.n,h.g⟩
abbrev kC (c r : Int) : List Key := [.inl c,.inl r]
theorem kC_eq {a b c d : Int} : kC a b = kC c d ↔ a = c ∧ b = d := by
  constructor
  · intro e
    simp only [List.cons.injEq,Sum.inl.injEq,and_true] at e
    exact e
  · rintro ⟨rfl,rfl⟩; rfl
def CelS (kvs kvs0 : List (List Key × V)) (p : Int → Int → Prop) [∀ c r,Decidable (p c r)] (z : Int → Int → Str) : Prop := ∀ c r,valV kvs (kC c r) = if p c r then some (.str (z c r)) else valV kvs0 (kC c r)
section
variable {P : Program} {w : World} {K : PySem.W.Frag} {mg : Str → Option Value} {base : Heap}
def spSmallM : Sp := fun vs H Q _ => ∃ (p : Addr) (m : Int),vs = [.ref p,.int m] ∧ 1 ≤ m ∧ m ≤ 24 ∧ PotAt H p ∧ ∀ (t l : Addr) (b : Int) (rs : List V) (ks : List Kd) (H' : Hp),H' t = some (.tup [.int b,.ref l]) → H' l = some (.lst rs) → l ≠ p → Tups H' rs ks → (∀ k ∈ ks,Good k) → 1 ≤ rs.length → rs.length ≤ 8 → 0 ≤ b → PotAt H' p → But p H H' → Q (.ref t) H'
def spBox : Sp := fun vs H Q _ => ∃ (c : Addr) (x y a b : Int) (z : Str) (kvs : List (List Key × V)),vs = [.ref c,.int x,.int y,.int a,.int b,.str z] ∧ H c = some (.dT kvs) ∧ 0 ≤ x ∧ 0 ≤ y ∧ 0 ≤ a ∧ 0 ≤ b ∧ x + a ≤ 60 ∧ y + b ≤ 60 ∧ kvs.length + 3600 ≤ 1000000 ∧
  ∀ (kvs' : List (List Key × V)) (H' : Hp),H' c = some (.dT kvs') → CelS kvs' kvs (fun cc rr => inB x y a b cc rr) (fun _ _ => z) → kvs'.length ≤ kvs.length + 3600 → But c H H' → Q .non H'
def spPaintL (n : Nat) : Sp := fun vs H Q _ => ∃ (pp c st kl : Addr) (b x y w h : Int) (rs : List V) (ks : List Kd) (v : V) (d : PyData) (t : Tr) (kvs : List (List Key × V)),vs = [.ref st,.ref c,.int x,.int y,.int w,.int h,v] ∧ ShL H st kl b rs ks ∧ Dt pp H v d ∧ TrD t d ∧ okT b ks w h t ∧ 0 ≤ b ∧ 1 ≤ w ∧ 1 ≤ h ∧ 0 ≤ x ∧ 0 ≤ y ∧ x + w ≤ 60 ∧ y + h ≤ 60 ∧ dpT t < n ∧ H c = some (.dT kvs) ∧ kvs.length + 7200 * szT t ≤ 1000000 ∧
  ∀ (kvs' : List (List Key × V)) (H' : Hp),H' c = some (.dT kvs') → CelS kvs' kvs (fun cc rr => inB x y w h cc rr) (colT b ks t x y w h) → kvs'.length ≤ kvs.length + 7200 * szT t → But c H H' → Q .non H'
def spRowsL : Sp := fun vs H Q _ => ∃ (pp st kl : Addr) (b : Int) (w h : Nat) (rs : List V) (ks : List Kd) (v : V) (d : PyData) (t : Tr),vs = [.ref st,.int w,.int h,v] ∧ ShL H st kl b rs ks ∧ Dt pp H v d ∧ TrD t d ∧ okT b ks w h t ∧ 0 ≤ b ∧ 1 ≤ w ∧ 1 ≤ h ∧ w ≤ 60 ∧ h ≤ 60 ∧ dpT t < 11 ∧ szT t ≤ 100 ∧
  ∀ (l : Addr) (H' : Hp),H l = none → H' l = some (.lst ((picR b ks t w h).map V.str)) → Same H H' → Q (.ref l) H'
theorem scsmallm : FnScope ["_law_pot_here","_law_most","_law_kinds","_law_k","_law_wide","_law_high"] ["_law_pot_here","_law_most"] (defScope sSmall) := ⟨rfl,rfl,rfl,by decide +kernel,rfl,by decide +kernel,by decide +kernel⟩
theorem ok_smallm {f : Addr} {fd : FuncData} (F : Fun K "_law_small" "_law_small" sSmall f fd) (B : Blt mg) (DD : Dn P w K mg base "_law_draw" ["_law_pot_here","_law_many"] 1 (spDraw)) (DN : Dn P w K mg base "_law_number" ["_law_pot_here","_law_least"] 2 (spNumber)) : FnOk P w K mg base CX0 3 f fd ["_law_pot_here","_law_most"] (spSmallM) := by
  refine F.ok scsmallm (fun vs H Q E h => ?_) (fun cdv A outer s H vs Q E hr h => ?_)
  · obtain ⟨p,m,rfl,_⟩ := h
    rfl
  obtain ⟨p,m,rfl,m0',m24,pt,q⟩ := h
  have nd := scsmallm.nd
  have hr1 := hr.mono (show 1 ≤ 2 by decide)
  refine ⟨_,(@pss_cons _ _ _ _ _ (@ps_set _ _ 2 _ _ _ _ nd rfl (Or.inl rfl) (@pe_lst _ _ _ _ pa_nil) rfl (Or.inl rfl)) (@pss_cons _ _ _ _ _ (@ps_for _ _ _ _ _ _ _ _ PassesOwn.never rfl (pi_range1 rfl B.range (@pa_cons _ _ _ _ _ (@pe_op _ _ _ _ _ _ _ _ op_add pe_int (@pe_cD _ _ _ _ _ _ _ _ _ _ DD hr1 rfl (@pa_cons _ _ _ _ _ (pv 0) (@pa_cons _ _ _ _ _ pe_int pa_nil rfl) rfl) (by decide) rfl rfl)) pa_nil rfl)) (pg_name (i := 3) nd rfl (Or.inl rfl)) (@pss_cons _ _ _ _ _ (@ps_set _ _ 4 _ _ _ _ nd rfl (Or.inl rfl) (@pe_op _ _ _ _ _ _ _ _ op_add pe_int (@pe_cD _ _ _ _ _ _ _ _ _ _ DD hr1 rfl (@pa_cons _ _ _ _ _ (pv 0) (@pa_cons _ _ _ _ _ (pv 1) pa_nil rfl) rfl) (by decide) rfl rfl)) rfl (Or.inl rfl)) (@pss_cons _ _ _ _ _ (@ps_set _ _ 5 _ _ _ _ nd rfl (Or.inl rfl) (@pe_op _ _ _ _ _ _ _ _ op_add pe_int (@pe_cD _ _ _ _ _ _ _ _ _ _ DD hr1 rfl (@pa_cons _ _ _ _ _ (pv 0) (@pa_cons _ _ _ _ _ (pv 1) pa_nil rfl) rfl) (by decide) rfl rfl)) rfl (Or.inl rfl)) (@pss_one _ _ _ (@ps_expr _ _ _ _ (@pe_bm _ _ _ _ _ _ _ _ _ _ _ _ PySem.F.plainAttrs_list PySem.F.slot_list_append PySem.F.type_list_append mt_append (pv 2) (@pa_cons _ _ _ _ _ (@pe_tup _ _ _ _ _ (@pa_cons _ _ _ _ _ (pv 4) (@pa_cons _ _ _ _ _ (pv 5) (@pa_cons _ _ _ _ _ (@pe_cD _ _ _ _ _ _ _ _ _ _ DN hr rfl (@pa_cons _ _ _ _ _ (pv 0) (@pa_cons _ _ _ _ _ pe_int pa_nil rfl) rfl) (by decide) rfl rfl) (@pa_cons _ _ _ _ _ (@pe_cD _ _ _ _ _ _ _ _ _ _ DD hr1 rfl (@pa_cons _ _ _ _ _ (pv 0) (@pa_cons _ _ _ _ _ pe_int pa_nil rfl) rfl) (by decide) rfl rfl) (@pa_cons _ _ _ _ _ (@pe_cmpR _ _ _ _ _ _ _ _ op_eq (@pe_cD _ _ _ _ _ _ _ _ _ _ DD hr1 rfl (@pa_cons _ _ _ _ _ (pv 0) (@pa_cons _ _ _ _ _ pe_int pa_nil rfl) rfl) (by decide) rfl rfl) pe_int (nomark _)) pa_nil rfl) rfl) rfl) rfl) rfl)) pa_nil rfl) rfl rfl rfl rfl rfl) rfl)))) (by intro _; rfl)) (@pss_one _ _ _ (@ps_ret _ _ _ _ (@pe_tup _ _ _ _ _ (@pa_cons _ _ _ _ _ (@pe_cD _ _ _ _ _ _ _ _ _ _ DD hr1 rfl (@pa_cons _ _ _ _ _ (pv 0) (@pa_cons _ _ _ _ _ pe_int pa_nil rfl) rfl) (by decide) rfl rfl) (@pa_cons _ _ _ _ _ (pv 2) pa_nil rfl) rfl)))))),?_⟩
  have e60 : (100 : Int) < 10 ^ 60 := by decide
  have sz : (100 : Nat) < sizeLine := by decide
  refine ⟨by decide,fun l hl => ?_⟩
  obtain ⟨H2,e2,k2,n2,s2,bt2,pt2⟩ := putA (o := .lst []) (fun _ _ _ e => e : But p H H) pt hl
  rw [e2]; clear e2
  refine seqCut (fun σ' H' => σ' = [some (.ref p),some (.int m),some (.ref l),none,none,none] ∧ H2 = H') (fun R hR => hR _ _ ⟨rfl,rfl⟩) ?_
  rintro _ _ ⟨rfl,rfl⟩
  refine seqCut (fun σ' H' => ∃ (v3 v4 v5 : Option V) (rs : List V) (ks : List Kd),σ' = [some (.ref p),some (.int m),some (.ref l),v3,v4,v5] ∧ H' l = some (.lst rs) ∧ Tups H' rs ks ∧ (∀ k ∈ ks,Good k) ∧ 1 ≤ rs.length ∧ rs.length ≤ 8 ∧ PotAt H' p ∧ But p H H') (fun R hR => ?_) ?_
  · refine ⟨_,rfl,p,8,rfl,pt2,by decide,by decide,fun mm H3 m0 m1 pt3 bt3 => ⟨_,_,rfl,rfl,_,rfl,by omega,by omega,?_⟩⟩
    refine for_range (n := (1 + mm).toNat) (fun i σ' H' => ∃ (v3 v4 v5 : Option V) (rs : List V) (ks : List Kd),σ' = [some (.ref p),some (.int m),some (.ref l),v3,v4,v5] ∧ H' l = some (.lst rs) ∧ Tups H' rs ks ∧ (∀ k ∈ ks,Good k) ∧ rs.length = i ∧ PotAt H' p ∧ But p H H') ⟨_,_,_,[],[],rfl,bt3 _ _ n2 k2,.nil,fun k hk => by simp at hk,rfl,pt3,bt2.trans bt3⟩ ?_ ?_
    · rintro i _ H4 hi ⟨v3,v4,v5,rs,ks,rfl,hl4,tp4,gk4,rl4,pt4,bt4⟩
      refine ⟨_,rfl,_,rfl,p,m,rfl,pt4,by omega,by omega,fun w1 H5 w0 w1' pt5 b5 => ⟨_,_,rfl,rfl,?_⟩⟩
      refine ⟨_,rfl,_,rfl,p,m,rfl,pt5,by omega,by omega,fun h1 H6 h0 h1' pt6 b6 => ⟨_,_,rfl,rfl,?_⟩⟩
      have hl6 := b6 _ _ n2 (b5 _ _ n2 hl4)
      refine ⟨_,rfl,.inl ⟨rfl,_,SqL.of hl6⟩,_,rfl,_,rfl,_,rfl,p,0,rfl,pt6,by decide,by decide,fun wo H7 wo0 wo1 pt7 b7 => ?_⟩
      refine ⟨_,rfl,p,3,rfl,pt7,by decide,by decide,fun wa H8 wa0 wa1' pt8 b8 => ?_⟩
      have wa1 : wa < 10 ^ 60 := by omega
      refine ⟨_,rfl,p,2,rfl,pt8,by decide,by decide,fun tu H9 tu0 tu1 pt9 b9 => ⟨rfl,(by show 5 ≤ sizeLine; decide),fun t ht => ?_⟩⟩
      have b49 := (((b5.trans b6).trans b7).trans b8).trans b9
      obtain ⟨Ha,ea,ka,na,sa,ba,pta⟩ := putA (o := .tup [.int (1 + w1),.int (1 + h1),.int wo,.int wa,.bl (decide (V.int tu = V.int 1))]) (bt4.trans b49) pt9 ht
      rw [show upd H9 t _ = Ha from ea]; clear ea
      have ka : Ha t = some (.tup (kdV ⟨1 + w1,1 + h1,wo,wa,decide (V.int tu = V.int 1)⟩)) := ka
      have hla := sa _ _ (b49 _ _ n2 hl4)
      refine ⟨l,_,_,rfl,rfl,hla,(by have : i < (1 + mm).toNat := hi; omega),?_⟩
      have kt : ∀ {c : Addr} {xs : List V},Ha c = some (.tup xs) → (upd Ha l (.lst (rs ++ [.ref t]))) c = some (.tup xs) := fun {c xs} e => by
        rw [upd_ne (fun z => by rw [z,hla] at e; cases e)]; exact e
      refine ⟨_,_,_,rs ++ [.ref t],ks ++ [⟨1 + w1,1 + h1,wo,wa,decide (V.int tu = V.int 1)⟩],rfl,upd_same,?_,fun k hk => ?_,by rw [List.length_append,rl4]; rfl,?_,fun c o n e => ?_⟩
      · refine appP (Tups.keep (fun c xs e => kt (sa _ _ e)) (tupsButA b49 pt4 tp4)) (.cons ⟨t,rfl,kt ka⟩ .nil)
      · rcases List.mem_append.mp hk with hk | hk
        · exact gk4 k hk
        · rw [List.mem_singleton.mp hk]
          exact ⟨by show (1 : Int) ≤ 1 + w1; omega,by show (1 : Int) ≤ 1 + h1; omega,wo0,wa0,by show 1 + w1 < _; omega,by show 1 + h1 < _; omega,wo1,wa1⟩
      · obtain ⟨x,y,hxy,e⟩ := pta
        exact ⟨x,y,hxy,by rw [upd_ne (Ne.symm n2)]; exact e⟩
      · rw [upd_ne (fun z => by rw [z,hl] at e; cases e)]
        exact ba _ _ n e
    · rintro _ H4 ⟨v3,v4,v5,rs,ks,rfl,hl4,tp4,gk4,rl4,pt4,bt4⟩
      exact hR _ _ ⟨_,_,_,rs,ks,rfl,hl4,tp4,gk4,by omega,by omega,pt4,bt4⟩
  rintro _ H3 ⟨v3,v4,v5,rs,ks,rfl,hl3,tp3,gk3,r1,r8,pt3,bt3⟩
  refine ⟨_,rfl,p,4,rfl,pt3,by decide,by decide,fun b H5 b0 b1 pt5 b35 => ⟨_,rfl,(by show 2 ≤ sizeLine; decide),fun t ht => ?_⟩⟩
  obtain ⟨H6,e6,k6,n6,s6,b6,pt6⟩ := putA (o := .tup [.int b,.ref l]) (bt3.trans b35) pt5 ht
  rw [e6]
  exact q t l b rs ks H6 k6 (s6 _ _ (b35 _ _ n2 hl3)) n2 (Tups.keep (fun c xs e => s6 _ _ e) (tupsButA b35 pt3 tp3)) gk3 r1 r8 b0 pt6 b6
theorem scbox : FnScope ["_law_cells","_law_x","_law_y","_law_wide","_law_high","_law_sign","_law_column","_law_row"] ["_law_cells","_law_x","_law_y","_law_wide","_law_high","_law_sign"] (defScope sBox) := ⟨rfl,rfl,rfl,by decide +kernel,rfl,by decide +kernel,by decide +kernel⟩
theorem ok_box {f : Addr} {fd : FuncData} (F : Fun K "_law_box" "_law_box" sBox f fd) (B : Blt mg) : FnOk P w K mg base CX0 1 f fd ["_law_cells","_law_x","_law_y","_law_wide","_law_high","_law_sign"] (spBox) := by
  refine F.ok scbox (fun vs H Q E h => ?_) (fun cdv A outer s H vs Q E hr h => ?_)
  · obtain ⟨c,x,y,a,b,z,kvs,rfl,_⟩ := h
    rfl
  obtain ⟨c,x,y,a,b,z,kvs,rfl,hc,x0,y0,a0,b0,xa,yb,kl,q⟩ := h
  have nd := scbox.nd
  have hu := hr.units
  have hu1 := Nat.lt_of_le_of_lt (Nat.add_le_add_left (show 1 ≤ 64 by decide) _) hu
  refine ⟨_,(@pss_one _ _ _ (@ps_for _ _ _ _ _ _ _ _ PassesOwn.never rfl (pi_range2 rfl B.range (@pa_cons _ _ _ _ _ (pv 1) (@pa_cons _ _ _ _ _ (@pe_op _ _ _ _ _ _ _ _ op_add (pv 1) (pv 3)) pa_nil rfl) rfl)) (pg_name (i := 6) nd rfl (Or.inl rfl)) (@pss_one _ _ _ (@ps_for _ _ _ _ _ _ _ _ PassesOwn.never rfl (pi_range2 rfl B.range (@pa_cons _ _ _ _ _ (pv 2) (@pa_cons _ _ _ _ _ (@pe_op _ _ _ _ _ _ _ _ op_add (pv 2) (pv 4)) pa_nil rfl) rfl)) (pg_name (i := 7) nd rfl (Or.inl rfl)) (@pss_one _ _ _ (ps_dput hu1 (pv 0) (@pe_tup _ _ _ _ _ (@pa_cons _ _ _ _ _ (pv 6) (@pa_cons _ _ _ _ _ (pv 7) pa_nil rfl) rfl)) (pv 5) rfl)) (by intro _; rfl))) (by intro _; rfl))),?_⟩
  have sz : (1000000 : Nat) ≤ sizeLine := by decide
  have e1 : (y + b - y).toNat = b.toNat := by congr 1; omega
  have e2 : (x + a - x).toNat = a.toNat := by congr 1; omega
  have ab : a.toNat * b.toNat ≤ 3600 := Nat.le_trans (Nat.mul_le_mul (show a.toNat ≤ 60 by omega) (show b.toNat ≤ 60 by omega)) (by decide)
  refine ⟨_,rfl,_,rfl,_,rfl,_,_,rfl,rfl,_,_,rfl,⟨by omega,by omega,by omega,by omega⟩,?_⟩
  rw [e2]
  refine for_range (lo := x) (n := a.toNat) (fun i σ' H' => (∃ v6 v7,σ' = [some (.ref c),some (.int x),some (.int y),some (.int a),some (.int b),some (.str z),v6,v7]) ∧ (∃ kv,H' c = some (.dT kv) ∧ CelS kv kvs (fun cc rr => x ≤ cc ∧ cc < x + i ∧ y ≤ rr ∧ rr < y + b) (fun _ _ => z) ∧ kv.length ≤ kvs.length + i * b.toNat) ∧ But c H H') ⟨⟨_,_,rfl⟩,⟨kvs,hc,fun cc rr => by rw [if_neg (by omega)],by omega⟩,fun _ _ _ e => e⟩ ?_ ?_
  · rintro i σ H1 hi ⟨⟨v6,v7,rfl⟩,⟨kv1,hc1,cl1,ln1⟩,b1⟩
    have ib : (i + 1) * b.toNat ≤ a.toNat * b.toNat := Nat.mul_le_mul_right _ hi
    rw [Nat.succ_mul] at ib
    refine ⟨_,rfl,_,rfl,_,rfl,_,_,rfl,rfl,_,_,rfl,⟨by omega,by omega,by omega,by omega⟩,?_⟩
    rw [e1]
    refine for_range (lo := y) (n := b.toNat) (fun j σ' H' => (∃ v7,σ' = [some (.ref c),some (.int x),some (.int y),some (.int a),some (.int b),some (.str z),some (.int (x + i)),v7]) ∧ (∃ kv,H' c = some (.dT kv) ∧ CelS kv kvs (fun cc rr => (x ≤ cc ∧ cc < x + i ∧ y ≤ rr ∧ rr < y + b) ∨ (cc = x + i ∧ y ≤ rr ∧ rr < y + j)) (fun _ _ => z) ∧ kv.length ≤ kvs.length + i * b.toNat + j) ∧ But c H H') ⟨⟨_,rfl⟩,⟨kv1,hc1,fun cc rr => ?_,by omega⟩,b1⟩ ?_ ?_
    · rw [cl1 cc rr]
      by_cases q1 : x ≤ cc ∧ cc < x + i ∧ y ≤ rr ∧ rr < y + b
      · rw [if_pos q1,if_pos (.inl q1)]
      · rw [if_neg q1,if_neg (by omega)]
    · rintro j σ H2 hj ⟨⟨v7,rfl⟩,⟨kv2,hc2,cl2,ln2⟩,b2⟩
      refine ⟨_,rfl,_,rfl,_,rfl,_,rfl,(by show 2 ≤ sizeLine; decide),fun tq htq => ?_⟩
      generalize hH5 : upd H2 tq _ = H5
      have s5 : Same H2 H5 := by subst hH5; exact Same.new htq
      have k5 : H5 tq = some (.tup ((kC (x + (i : Int)) (y + (j : Int))).map kV)) := by subst hH5; exact upd_same
      have hc5 := s5 _ _ hc2
      refine ⟨c,_,rfl,DPut.t hc5 k5 (by omega),?_⟩
      refine ⟨⟨_,rfl⟩,⟨_,upd_same,fun cc rr => ?_,Nat.le_trans (length_putK _ _ _) (by omega)⟩,fun a' o n e => by rw [upd_ne n]; exact s5 _ _ (b2 _ _ n e)⟩
      rw [valV_put]
      by_cases q1 : kC cc rr = kC (x + (i : Int)) (y + (j : Int))
      · rw [if_pos q1]
        have := kC_eq.mp q1
        rw [if_pos (by omega)]
      · rw [if_neg q1,cl2 cc rr]
        have q2 : ¬ (cc = x + (i : Int) ∧ rr = y + (j : Int)) := fun e => q1 (kC_eq.mpr e)
        by_cases q3 : (x ≤ cc ∧ cc < x + i ∧ y ≤ rr ∧ rr < y + b) ∨ (cc = x + i ∧ y ≤ rr ∧ rr < y + j)
        · rw [if_pos q3,if_pos (by omega)]
        · rw [if_neg q3,if_neg (by omega)]
    · rintro σ H2 ⟨⟨v7,rfl⟩,⟨kv2,hc2,cl2,ln2⟩,b2⟩
      refine ⟨⟨_,_,rfl⟩,⟨kv2,hc2,fun cc rr => ?_,by rw [Nat.succ_mul]; omega⟩,b2⟩
      rw [cl2 cc rr]
      by_cases q3 : (x ≤ cc ∧ cc < x + i ∧ y ≤ rr ∧ rr < y + b) ∨ (cc = x + i ∧ y ≤ rr ∧ rr < y + (b.toNat : Int))
      · rw [if_pos q3,if_pos (by omega)]
      · rw [if_neg q3,if_neg (by omega)]
  · rintro σ H1 ⟨⟨v6,v7,rfl⟩,⟨kv1,hc1,cl1,ln1⟩,b1⟩
    refine q kv1 H1 hc1 (fun cc rr => ?_) (by omega) b1
    rw [cl1 cc rr]
    by_cases q3 : x ≤ cc ∧ cc < x + (a.toNat : Int) ∧ y ≤ rr ∧ rr < y + b
    · rw [if_pos q3,if_pos (by omega)]
    · rw [if_neg q3,if_neg (by omega)]
end
theorem pick2 {P P1 P2 c1 c2 : Prop} [Decidable P] [Decidable P1] [Decidable P2] [Decidable c1] [Decidable c2] {A B z : Str} {F : Option V} (h1 : P1 ↔ P ∧ c1) (h2 : P2 ↔ P ∧ c2) (hx : ¬ (c1 ∧ c2)) :
    (if P2 then some (V.str B) else if P1 then some (V.str A) else if P then some (V.str z) else F) = if P then some (V.str (if c1 then A else if c2 then B else z)) else F := by
  by_cases hP : P <;> by_cases a1 : c1 <;> by_cases a2 : c2 <;> simp_all
section
variable {P : Program} {w : World} {K : PySem.W.Frag} {mg : Str → Option Value} {base : Heap}
theorem scpaintl : FnScope ["_law_told","_law_cells","_law_x","_law_y","_law_wide","_law_high","_law_tree_here","_law_a","_law_b","_law_behind"] ["_law_told","_law_cells","_law_x","_law_y","_law_wide","_law_high","_law_tree_here"] (defScope sPainted) := ⟨rfl,rfl,rfl,by decide +kernel,rfl,by decide +kernel,by decide +kernel⟩
theorem ok_paintl {f : Addr} {fd : FuncData} (F : Fun K "_law_painted" "_law_painted" sPainted f fd) (B : Blt mg) (n : Nat) (DB : Dn P w K mg base "_law_box" ["_law_cells","_law_x","_law_y","_law_wide","_law_high","_law_sign"] 1 (spBox)) (DPa : Dn P w K mg base "_law_painted" ["_law_told","_law_cells","_law_x","_law_y","_law_wide","_law_high","_law_tree_here"] (2 + n) (spPaintL n)) : FnOk P w K mg base CX0 (2 + (n + 1)) f fd ["_law_told","_law_cells","_law_x","_law_y","_law_wide","_law_high","_law_tree_here"] (spPaintL (n + 1)) := by
  refine F.ok scpaintl (fun vs H Q E h => ?_) (fun cdv A outer s H vs Q E hr h => ?_)
  · obtain ⟨pp,c,st,kl,b,x,y,w1,h1,rs,ks,v,d,t,kvs,rfl,_⟩ := h
    rfl
  obtain ⟨pp,c,st,kl,b,x,y,w1,h1,rs,ks,v,d,t,kvs,rfl,sh,hd,td,okt,b0,w0,h0,x0,y0,xw,yh,hn,hc,kln,q⟩ := h
  have nd := scpaintl.nd
  refine ⟨_,(@pss_cons _ _ _ _ _ (@ps_if _ _ _ _ _ _ _ _ (@pt_cmpR _ _ _ _ _ _ _ _ op_eq (@pe_ix _ _ _ _ _ _ _ ix_seq (pv 6) pe_int (fun _ _ => rfl)) pe_str (nomark _)) (@pss_cons _ _ _ _ _ (@ps_expr _ _ _ _ (@pe_cD _ _ _ _ _ _ _ _ _ _ DB (hr.mono (show 1 ≤ 2 + n by omega)) rfl (@pa_cons _ _ _ _ _ (pv 1) (@pa_cons _ _ _ _ _ (pv 2) (@pa_cons _ _ _ _ _ (pv 3) (@pa_cons _ _ _ _ _ (pv 4) (@pa_cons _ _ _ _ _ (pv 5) (@pa_cons _ _ _ _ _ pe_str pa_nil rfl) rfl) rfl) rfl) rfl) rfl) (by decide) rfl rfl) rfl) (@pss_one _ _ _ ps_retN)) pss_nil) (@pss_cons _ _ _ _ _ (@ps_if _ _ _ _ _ _ _ _ (@pt_cmpR _ _ _ _ _ _ _ _ op_eq (@pe_ix _ _ _ _ _ _ _ ix_seq (pv 6) pe_int (fun _ _ => rfl)) pe_str (nomark _)) (@pss_cons _ _ _ _ _ (@ps_asg _ _ _ _ _ _ (@pe_slice _ _ _ _ _ _ _ _ _ _ sl_tup (@pe_ix _ _ _ _ _ _ _ ix_list (@pe_ix _ _ _ _ _ _ _ ix_tup (pv 0) pe_int (fun _ _ => rfl)) (@pe_ix _ _ _ _ _ _ _ ix_seq (pv 6) pe_int (fun _ _ => rfl)) (fun _ _ => rfl)) po_none (po_some pe_int)) (pg_tup rfl (pgs_cons (pg_name (i := 7) nd rfl (Or.inl rfl)) (pgs_cons (pg_name (i := 8) nd rfl (Or.inl rfl)) pgs_nil))) rfl rfl rfl) (@pss_cons _ _ _ _ _ (@ps_if _ _ _ _ _ _ _ _ (@pt_val _ _ _ (@pe_ix _ _ _ _ _ _ _ ix_seq (pv 6) pe_int (fun _ _ => rfl)) (by intro _; rfl)) (@pss_one _ _ _ (ps_par rfl nd rfl rfl (i := 7) (j := 8) (by decide) rfl rfl (@pa_cons _ _ _ _ _ (pv 8) (@pa_cons _ _ _ _ _ (pv 7) pa_nil rfl) rfl) rfl)) pss_nil) (@pss_cons _ _ _ _ _ (@ps_expr _ _ _ _ (@pe_cD _ _ _ _ _ _ _ _ _ _ DB (hr.mono (show 1 ≤ 2 + n by omega)) rfl (@pa_cons _ _ _ _ _ (pv 1) (@pa_cons _ _ _ _ _ (pv 2) (@pa_cons _ _ _ _ _ (pv 3) (@pa_cons _ _ _ _ _ (pv 4) (@pa_cons _ _ _ _ _ (pv 5) (@pa_cons _ _ _ _ _ pe_str pa_nil rfl) rfl) rfl) rfl) rfl) rfl) (by decide) rfl rfl) rfl) (@pss_cons _ _ _ _ _ (@ps_expr _ _ _ _ (@pe_cD _ _ _ _ _ _ _ _ _ _ DB (hr.mono (show 1 ≤ 2 + n by omega)) rfl (@pa_cons _ _ _ _ _ (pv 1) (@pa_cons _ _ _ _ _ (@pe_op _ _ _ _ _ _ _ _ op_add (pv 2) (@pe_ix _ _ _ _ _ _ _ ix_seq (pv 6) pe_int (fun _ _ => rfl))) (@pa_cons _ _ _ _ _ (@pe_op _ _ _ _ _ _ _ _ op_add (pv 3) (@pe_ix _ _ _ _ _ _ _ ix_seq (pv 6) pe_int (fun _ _ => rfl))) (@pa_cons _ _ _ _ _ (pv 7) (@pa_cons _ _ _ _ _ (pv 8) (@pa_cons _ _ _ _ _ (@pe_ix _ _ _ _ _ _ _ ix_str pe_str (@pe_ix _ _ _ _ _ _ _ ix_seq (pv 6) pe_int (fun _ _ => rfl)) (fun _ _ => rfl)) pa_nil rfl) rfl) rfl) rfl) rfl) rfl) (by decide) rfl rfl) rfl) (@pss_one _ _ _ ps_retN))))) pss_nil) (@pss_cons _ _ _ _ _ (@ps_expr _ _ _ _ (@pe_cD _ _ _ _ _ _ _ _ _ _ DB (hr.mono (show 1 ≤ 2 + n by omega)) rfl (@pa_cons _ _ _ _ _ (pv 1) (@pa_cons _ _ _ _ _ (pv 2) (@pa_cons _ _ _ _ _ (pv 3) (@pa_cons _ _ _ _ _ (pv 4) (@pa_cons _ _ _ _ _ (pv 5) (@pa_cons _ _ _ _ _ pe_str pa_nil rfl) rfl) rfl) rfl) rfl) rfl) (by decide) rfl rfl) rfl) (@pss_cons _ _ _ _ _ (@ps_set _ _ 9 _ _ _ _ nd rfl (Or.inl rfl) (@pe_op _ _ _ _ _ _ _ _ op_add (@pe_ix _ _ _ _ _ _ _ ix_seq (pv 6) pe_int (fun _ _ => rfl)) (@pe_ix _ _ _ _ _ _ _ ix_tup (pv 0) pe_int (fun _ _ => rfl))) rfl (Or.inl rfl)) (@pss_one _ _ _ (@ps_if _ _ _ _ _ _ _ _ (@pt_cmpR _ _ _ _ _ _ _ _ op_eq (@pe_ix _ _ _ _ _ _ _ ix_seq (pv 6) pe_int (fun _ _ => rfl)) pe_str (nomark _)) (@pss_cons _ _ _ _ _ (@ps_expr _ _ _ _ (@pe_cD _ _ _ _ _ _ _ _ _ _ DPa hr rfl (@pa_cons _ _ _ _ _ (pv 0) (@pa_cons _ _ _ _ _ (pv 1) (@pa_cons _ _ _ _ _ (pv 2) (@pa_cons _ _ _ _ _ (pv 3) (@pa_cons _ _ _ _ _ (@pe_ix _ _ _ _ _ _ _ ix_seq (pv 6) pe_int (fun _ _ => rfl)) (@pa_cons _ _ _ _ _ (pv 5) (@pa_cons _ _ _ _ _ (@pe_ix _ _ _ _ _ _ _ ix_seq (pv 6) pe_int (fun _ _ => rfl)) pa_nil rfl) rfl) rfl) rfl) rfl) rfl) rfl) (by decide) rfl rfl) rfl) (@pss_one _ _ _ (@ps_expr _ _ _ _ (@pe_cD _ _ _ _ _ _ _ _ _ _ DPa hr rfl (@pa_cons _ _ _ _ _ (pv 0) (@pa_cons _ _ _ _ _ (pv 1) (@pa_cons _ _ _ _ _ (@pe_op _ _ _ _ _ _ _ _ op_add (pv 2) (pv 9)) (@pa_cons _ _ _ _ _ (pv 3) (@pa_cons _ _ _ _ _ (@pe_op _ _ _ _ _ _ _ _ op_sub (pv 4) (pv 9)) (@pa_cons _ _ _ _ _ (pv 5) (@pa_cons _ _ _ _ _ (@pe_ix _ _ _ _ _ _ _ ix_seq (pv 6) pe_int (fun _ _ => rfl)) pa_nil rfl) rfl) rfl) rfl) rfl) rfl) rfl) (by decide) rfl rfl) rfl))) (@pss_cons _ _ _ _ _ (@ps_expr _ _ _ _ (@pe_cD _ _ _ _ _ _ _ _ _ _ DPa hr rfl (@pa_cons _ _ _ _ _ (pv 0) (@pa_cons _ _ _ _ _ (pv 1) (@pa_cons _ _ _ _ _ (pv 2) (@pa_cons _ _ _ _ _ (pv 3) (@pa_cons _ _ _ _ _ (pv 4) (@pa_cons _ _ _ _ _ (@pe_ix _ _ _ _ _ _ _ ix_seq (pv 6) pe_int (fun _ _ => rfl)) (@pa_cons _ _ _ _ _ (@pe_ix _ _ _ _ _ _ _ ix_seq (pv 6) pe_int (fun _ _ => rfl)) pa_nil rfl) rfl) rfl) rfl) rfl) rfl) rfl) (by decide) rfl rfl) rfl) (@pss_one _ _ _ (@ps_expr _ _ _ _ (@pe_cD _ _ _ _ _ _ _ _ _ _ DPa hr rfl (@pa_cons _ _ _ _ _ (pv 0) (@pa_cons _ _ _ _ _ (pv 1) (@pa_cons _ _ _ _ _ (pv 2) (@pa_cons _ _ _ _ _ (@pe_op _ _ _ _ _ _ _ _ op_add (pv 3) (pv 9)) (@pa_cons _ _ _ _ _ (pv 4) (@pa_cons _ _ _ _ _ (@pe_op _ _ _ _ _ _ _ _ op_sub (pv 5) (pv 9)) (@pa_cons _ _ _ _ _ (@pe_ix _ _ _ _ _ _ _ ix_seq (pv 6) pe_int (fun _ _ => rfl)) pa_nil rfl) rfl) rfl) rfl) rfl) rfl) rfl) (by decide) rfl rfl) rfl))))))))),?_⟩
  have sz : (1000000 : Nat) ≤ sizeLine := by decide
  cases t with
  | rest =>
    have kln : kvs.length + 7200 * 1 ≤ 1000000 := kln
    obtain ⟨a', xs, rfl, hx, dxs⟩ := hd.ref_row (show rowOf d = some [.str "rest"] from td)
    cases dxs with
    | cons hd0 dxs =>
    cases hd0
    cases dxs
    refine ⟨_,rfl,ixR (Same.refl _) hx (atI_int (Int.le_refl _) rfl) ⟨rfl,_,rfl,iteT ?_⟩⟩
    refine ⟨_,rfl,_,rfl,_,rfl,_,rfl,_,rfl,c,x,y,w1,h1,".",kvs,rfl,hc,x0,y0,by omega,by omega,xw,yh,by omega,fun k1 H1 hc1 cl1 ln1 bb1 => ?_⟩
    exact q k1 H1 hc1 (fun cc rr => by rw [cl1 cc rr,colT]) (by show k1.length ≤ kvs.length + 7200 * 1; omega) bb1
  | piece i cc' u v' =>
    have kln : kvs.length + 7200 * 1 ≤ 1000000 := kln
    obtain ⟨k,hk,hcl,u0,v0,hxw,hyh⟩ := okt
    have gk := sh.g k (List.mem_of_getElem? hk)
    have g1 := gk.w
    have g2 := gk.h
    have sb : 1 ≤ sd1 k cc' ∧ 1 ≤ sd2 k cc' := by cases cc' <;> exact ⟨by assumption,by assumption⟩
    have i8 : i < 8 := Nat.lt_of_lt_of_le (List.getElem?_eq_some_iff.mp hk).1 (by have := Paired.length sh.k; have := sh.n; omega)
    obtain ⟨a', xs, rfl, hx, dxs⟩ := hd.ref_row (show rowOf d = some [.str "piece", .int i, .bool cc', .int u, .int v'] from td)
    cases dxs with
    | cons hd0 dxs =>
    cases dxs with
    | cons hd1 dxs =>
    cases dxs with
    | cons hd2 dxs =>
    cases dxs with
    | cons hd3 dxs =>
    cases dxs with
    | cons hd4 dxs =>
    cases dxs
    cases hd0; cases hd1; cases hd2; cases hd3; cases hd4
    obtain ⟨kv,hkv,ak,rfl,hak⟩ := Paired.getL sh.k hk
    have hak : H ak = some (.tup [.int k.w,.int k.h,.int k.wo,.int k.wa,.bl k.tu]) := hak
    have hat : atI rs (i : Int) = some (.ref ak) := atI_int (by omega) (by rw [Int.toNat_natCast]; exact hkv)
    refine ⟨_,rfl,ixR (Same.refl _) hx (atI_int (Int.le_refl _) rfl) ⟨rfl,_,rfl,iteF ?_⟩⟩
    refine ⟨_,rfl,ixR (Same.refl _) hx (atI_int (Int.le_refl _) rfl) ⟨rfl,_,rfl,iteT ?_⟩⟩
    refine seqCut (fun σ' H' => σ' = [some (.ref st),some (.ref c),some (.int x),some (.int y),some (.int w1),some (.int h1),some (.ref a'),some (.int k.w),some (.int k.h),none] ∧ Same H H') (fun R hR => ?_) ?_
    · refine ⟨_,rfl,st,_,1,_,rfl,rfl,SqT.of sh.t,rfl,_,rfl,ixR (Same.refl _) hx (atI_int (by decide) rfl) ⟨kl,_,_,_,rfl,rfl,SqL.of sh.l,hat,2,rfl,ak,_,rfl,SqT.of hak,(by show ¬ (HT.sIx 5 0 none = 0 ∧ HT.sIx 5 5 (some 2) = 5); decide),fun tp htp => ?_⟩⟩
      have ec : cutV [.int k.w,.int k.h,.int k.wo,.int k.wa,.bl k.tu] none (some 2) = [.int k.w,.int k.h] := rfl
      rw [ec]
      exact ⟨tp,_,rfl,SqT.of upd_same,rfl,_,_,rfl,_,_,rfl,rfl,hR _ _ ⟨rfl,Same.new htp⟩⟩
    rintro _ H1 ⟨rfl,s1⟩
    refine seqCut (fun σ' H' => σ' = [some (.ref st),some (.ref c),some (.int x),some (.int y),some (.int w1),some (.int h1),some (.ref a'),some (.int (sd1 k cc')),some (.int (sd2 k cc')),none] ∧ H1 = H') (fun R hR => ?_) ?_
    · refine ⟨_,rfl,ixR s1 hx (atI_int (by decide) rfl) ⟨_,rfl,?_⟩⟩
      cases cc' with
      | true => exact iteT ⟨_,rfl,_,rfl,_,_,rfl,hR _ _ ⟨rfl,rfl⟩⟩
      | false => exact iteF (hR _ _ ⟨rfl,rfl⟩)
    rintro _ _ ⟨rfl,rfl⟩
    have hc1 := s1 _ _ hc
    refine ⟨_,rfl,_,rfl,_,rfl,_,rfl,_,rfl,c,x,y,w1,h1,",",kvs,rfl,hc1,x0,y0,by omega,by omega,xw,yh,by omega,fun k1 H2 hc2 cl1 ln1 bb1 => ?_⟩
    have nca : a' ≠ c := fun z => by rcases hx with e | e <;> (rw [z,hc] at e; cases e)
    have hx2 := (hx.imp (s1 _ _) (s1 _ _)).imp (bb1 _ _ nca) (bb1 _ _ nca)
    refine ⟨_,rfl,_,rfl,_,rfl,ixR (Same.refl _) hx2 (atI_int (by decide) rfl) ⟨_,_,rfl,rfl,_,rfl,_,rfl,ixR (Same.refl _) hx2 (atI_int (by decide) rfl) ⟨_,_,rfl,rfl,_,rfl,_,rfl,_,rfl,ixR (Same.refl _) hx2 (atI_int (by decide) rfl) ⟨_,_,_,rfl,rfl,(by decide),letS_at i i8,c,x + u,y + v',sd1 k cc',sd2 k cc',letS i,k1,rfl,hc2,by omega,by omega,by omega,by omega,by omega,by omega,by omega,fun k2 H3 hc3 cl2 ln2 bb2 => ?_⟩⟩⟩⟩
    refine q k2 H3 hc3 (fun cc rr => ?_) (by show k2.length ≤ kvs.length + 7200 * 1; omega) (fun a o n e => bb2 _ _ n (bb1 _ _ n (s1 _ _ e)))
    rw [cl2 cc rr,cl1 cc rr]
    have e2 : colT b ks (.piece i cc' u v') x y w1 h1 cc rr = if inB (x + u) (y + v') (sd1 k cc') (sd2 k cc') cc rr then letS i else "," := by
      unfold colT
      rw [hk]
    rw [e2]
    by_cases z1 : inB (x + u) (y + v') (sd1 k cc') (sd2 k cc') cc rr
    · rw [if_pos z1,if_pos z1,if_pos (by omega)]
    · rw [if_neg z1,if_neg z1]
  | cut dn p l r =>
    have kln : kvs.length + 7200 * (szT l + szT r + 1) ≤ 1000000 := kln
    obtain ⟨dl,dr,er,tl,tr⟩ := td
    obtain ⟨a',xs,rfl,hx,dxs⟩ := hd.ref_row er
    have hn' : max (dpT l) (dpT r) + 1 < n + 1 := hn
    cases dxs with
    | cons hd0 dxs =>
    cases dxs with
    | cons hd1 dxs =>
    cases dxs with
    | @cons lv _ _ _ hdl dxs =>
    cases dxs with
    | @cons rv _ _ _ hdr dxs =>
    cases dxs
    cases hd0; cases hd1
    cases dn with
    | true =>
      obtain ⟨p1,hp,hl,hrr⟩ := okt
      have hr : okT b ks (w1 - p - b) h1 r := hrr
      have hl : okT b ks p h1 l := hl
      have hp : p + b < w1 := hp
      refine ⟨_,rfl,ixR (Same.refl _) hx (atI_int (Int.le_refl _) rfl) ⟨rfl,_,rfl,iteF ?_⟩⟩
      refine ⟨_,rfl,ixR (Same.refl _) hx (atI_int (Int.le_refl _) rfl) ⟨rfl,_,rfl,iteF ?_⟩⟩
      refine ⟨_,rfl,_,rfl,_,rfl,_,rfl,_,rfl,c,x,y,w1,h1,"+",kvs,rfl,hc,x0,y0,by omega,by omega,xw,yh,by omega,fun k1 H1 hc1 cl1 ln1 bb1 => ?_⟩
      have nca : a' ≠ c := fun z => by rcases hx with e | e <;> (rw [z,hc] at e; cases e)
      have hx1 : H1 a' = some (.lst (V.str "down" :: V.int p :: [lv, rv])) ∨ H1 a' = some (.tup (V.str "down" :: V.int p :: [lv, rv])) := hx.imp (bb1 _ _ nca) (bb1 _ _ nca)
      have sh1 := sh.butD hc bb1
      have bs1 := Same.refl H1
      refine ⟨_,rfl,ixR bs1 hx1 (atI_int (by decide) rfl) ⟨_,rfl,st,_,0,_,rfl,rfl,SqT.of sh1.t,rfl,_,_,rfl,rfl,?_⟩⟩
      refine ⟨_,rfl,ixR bs1 hx1 (atI_int (Int.le_refl _) rfl) ⟨rfl,_,rfl,iteT ?_⟩⟩
      refine ⟨_,rfl,_,rfl,_,rfl,_,rfl,_,rfl,ixR bs1 hx1 (atI_int (by decide) rfl) ⟨_,rfl,_,rfl,ixR bs1 hx1 (atI_int (by decide) rfl) ⟨pp,c,st,kl,b,x,y,p,h1,rs,ks,lv,dl,l,k1,rfl,sh1,hdl.butD hc bb1,tl,hl,b0,by omega,by omega,x0,y0,by omega,by omega,by omega,hc1,by omega,fun k2 H2 hc2 cl2 ln2 bb2 => ?_⟩⟩⟩
      have hx2 := hx1.imp (bb2 _ _ nca) (bb2 _ _ nca)
      have sh2 := sh1.butD hc1 bb2
      have bs2 := Same.refl H2
      refine ⟨_,rfl,_,rfl,_,rfl,_,rfl,_,_,rfl,rfl,_,rfl,_,rfl,_,rfl,_,_,rfl,rfl,_,rfl,_,rfl,ixR bs2 hx2 (atI_int (by decide) rfl) ⟨pp,c,st,kl,b,x + (p + b),y,w1 - (p + b),h1,rs,ks,rv,dr,r,k2,rfl,sh2,(hdr.butD hc bb1).butD hc1 bb2,tr,(show w1 - (p + b) = w1 - p - b by omega) ▸ hr,b0,by omega,by omega,by omega,by omega,by omega,by omega,by omega,hc2,by omega,fun k3 H3 hc3 cl3 ln3 bb3 => ?_⟩⟩
      refine q k3 H3 hc3 (fun cc rr => ?_) (by show k3.length ≤ kvs.length + 7200 * (szT l + szT r + 1); omega) ((bb1.trans bb2).trans bb3)
      rw [cl3 cc rr,cl2 cc rr,cl1 cc rr,colT]
      exact pick2 (by constructor <;> intro z <;> omega) (by constructor <;> intro z <;> omega) (by omega)
    | false =>
      obtain ⟨p1,hp,hl,hrr⟩ := okt
      have hr : okT b ks w1 (h1 - p - b) r := hrr
      have hl : okT b ks w1 p l := hl
      have hp : p + b < h1 := hp
      refine ⟨_,rfl,ixR (Same.refl _) hx (atI_int (Int.le_refl _) rfl) ⟨rfl,_,rfl,iteF ?_⟩⟩
      refine ⟨_,rfl,ixR (Same.refl _) hx (atI_int (Int.le_refl _) rfl) ⟨rfl,_,rfl,iteF ?_⟩⟩
      refine ⟨_,rfl,_,rfl,_,rfl,_,rfl,_,rfl,c,x,y,w1,h1,"+",kvs,rfl,hc,x0,y0,by omega,by omega,xw,yh,by omega,fun k1 H1 hc1 cl1 ln1 bb1 => ?_⟩
      have nca : a' ≠ c := fun z => by rcases hx with e | e <;> (rw [z,hc] at e; cases e)
      have hx1 : H1 a' = some (.lst (V.str "across" :: V.int p :: [lv, rv])) ∨ H1 a' = some (.tup (V.str "across" :: V.int p :: [lv, rv])) := hx.imp (bb1 _ _ nca) (bb1 _ _ nca)
      have sh1 := sh.butD hc bb1
      have bs1 := Same.refl H1
      refine ⟨_,rfl,ixR bs1 hx1 (atI_int (by decide) rfl) ⟨_,rfl,st,_,0,_,rfl,rfl,SqT.of sh1.t,rfl,_,_,rfl,rfl,?_⟩⟩
      refine ⟨_,rfl,ixR bs1 hx1 (atI_int (Int.le_refl _) rfl) ⟨rfl,_,rfl,iteF ?_⟩⟩
      refine ⟨_,rfl,_,rfl,_,rfl,_,rfl,_,rfl,_,rfl,ixR bs1 hx1 (atI_int (by decide) rfl) ⟨_,rfl,ixR bs1 hx1 (atI_int (by decide) rfl) ⟨pp,c,st,kl,b,x,y,w1,p,rs,ks,lv,dl,l,k1,rfl,sh1,hdl.butD hc bb1,tl,hl,b0,by omega,by omega,x0,y0,by omega,by omega,by omega,hc1,by omega,fun k2 H2 hc2 cl2 ln2 bb2 => ?_⟩⟩⟩
      have hx2 := hx1.imp (bb2 _ _ nca) (bb2 _ _ nca)
      have sh2 := sh1.butD hc1 bb2
      have bs2 := Same.refl H2
      refine ⟨_,rfl,_,rfl,_,rfl,_,rfl,_,rfl,_,_,rfl,rfl,_,rfl,_,rfl,_,rfl,_,_,rfl,rfl,_,rfl,ixR bs2 hx2 (atI_int (by decide) rfl) ⟨pp,c,st,kl,b,x,y + (p + b),w1,h1 - (p + b),rs,ks,rv,dr,r,k2,rfl,sh2,(hdr.butD hc bb1).butD hc1 bb2,tr,(show h1 - (p + b) = h1 - p - b by omega) ▸ hr,b0,by omega,by omega,by omega,by omega,by omega,by omega,by omega,hc2,by omega,fun k3 H3 hc3 cl3 ln3 bb3 => ?_⟩⟩
      refine q k3 H3 hc3 (fun cc rr => ?_) (by show k3.length ≤ kvs.length + 7200 * (szT l + szT r + 1); omega) ((bb1.trans bb2).trans bb3)
      rw [cl3 cc rr,cl2 cc rr,cl1 cc rr,colT]
      exact pick2 (by constructor <;> intro z <;> omega) (by constructor <;> intro z <;> omega) (by omega)
theorem ok_paintl0 {f : Addr} {fd : FuncData} (F : Fun K "_law_painted" "_law_painted" sPainted f fd) : FnOk P w K mg base CX0 2 f fd ["_law_told","_law_cells","_law_x","_law_y","_law_wide","_law_high","_law_tree_here"] (spPaintL 0) := by
  refine F.ok scpaintl (fun vs H Q E h => ?_) (fun cdv A outer s H vs Q E hr h => ?_)
  · obtain ⟨pp,c,st,kl,b,x,y,w1,h1,rs,ks,v,d,t,kvs,rfl,_⟩ := h
    rfl
  · obtain ⟨_,_,_,_,_,_,_,_,_,_,_,_,_,_,_,_,_,_,_,_,_,_,_,_,_,_,_,z,_⟩ := h
    exact absurd z (Nat.not_lt_zero _)
theorem ok_paintlN {f : Addr} {fd : FuncData} (F : Fun K "_law_painted" "_law_painted" sPainted f fd) (B : Blt mg) (DB : Dn P w K mg base "_law_box" ["_law_cells","_law_x","_law_y","_law_wide","_law_high","_law_sign"] 1 (spBox)) (mk : ∀ n,FnOk P w K mg base CX0 (2 + n) f fd ["_law_told","_law_cells","_law_x","_law_y","_law_wide","_law_high","_law_tree_here"] (spPaintL n) → Dn P w K mg base "_law_painted" ["_law_told","_law_cells","_law_x","_law_y","_law_wide","_law_high","_law_tree_here"] (2 + n) (spPaintL n)) : ∀ n,FnOk P w K mg base CX0 (2 + n) f fd ["_law_told","_law_cells","_law_x","_law_y","_law_wide","_law_high","_law_tree_here"] (spPaintL n)
  | 0 => ok_paintl0 F
  | n + 1 => ok_paintl F B n DB (mk n (ok_paintlN F B DB mk n))
end
theorem toD_lay : ∀ t : Tr,(toD t).canLay0 = true
  | .rest => by decide +kernel
  | .piece i c x y => by
    show (PyData.canLay0 (.str "piece") && true) = true
    decide +kernel
  | .cut dn p l r => by
    show (PyData.canLay0 (.str (if dn = true then "down" else "across")) && (true && ((toD l).canLay0 && ((toD r).canLay0 && true)))) = true
    rw [toD_lay l,toD_lay r]
    cases dn <;> decide +kernel
theorem TrD.ls : ∀ t : Tr,TrD t (lsD (toD t))
  | .rest => rfl
  | .piece .. => rfl
  | .cut _ _ l r => ⟨lsD (toD l),lsD (toD r),rfl,TrD.ls l,TrD.ls r⟩
theorem szT_lv : ∀ t : Tr,szT t + 1 = 2 * lvN t
  | .rest => rfl
  | .piece .. => rfl
  | .cut _ _ l r => by
    have h1 := szT_lv l
    have h2 := szT_lv r
    rw [szT,lvN]
    omega
def okS (x : Str) : Prop := ∀ c ∈ x.cps.toList,c < 0x110000
theorem okS_of {x : Str} (h : okS x) : PyData.strOk x = true := by
  unfold PyData.strOk
  rw [Array.all_eq_true_iff_forall_mem]
  intro c hc
  exact decide_eq_true (h c (Array.mem_toList_iff.mpr hc))
theorem okS_let (i : Nat) : okS (letS i) := by
  intro c hc
  have hc : c = (Str.ofString "abcdefgh").cps.toList.getD i (Str.ofString "a").cps.toList.head! := by
    unfold letS at hc
    simpa using hc
  rw [hc,List.getD_eq_getElem?_getD]
  have hall : ∀ d ∈ (Str.ofString "abcdefgh").cps.toList,d < 0x110000 := by decide +kernel
  cases h : (Str.ofString "abcdefgh").cps.toList[i]? with
  | none => decide +kernel
  | some d => exact hall d (List.mem_of_getElem? h)
theorem okS_c : okS "." ∧ okS "," ∧ okS "+" := by unfold okS; decide +kernel
theorem col_ok (b : Int) (ks : List Kd) : ∀ (t : Tr) (x y w h c r : Int),okS (colT b ks t x y w h c r)
  | .rest,_,_,_,_,_,_ => by rw [colT]; exact okS_c.1
  | .piece i c u v,x,y,w,h,cc,rr => by
    unfold colT
    cases ks[i]? with
    | none => exact okS_c.2.2
    | some k =>
      dsimp only
      split
      · exact okS_let i
      · exact okS_c.2.1
  | .cut true p l r,x,y,w,h,cc,rr => by
    rw [colT]
    split
    · exact col_ok b ks l _ _ _ _ _ _
    · split
      · exact col_ok b ks r _ _ _ _ _ _
      · exact okS_c.2.2
  | .cut false p l r,x,y,w,h,cc,rr => by
    rw [colT]
    split
    · exact col_ok b ks l _ _ _ _ _ _
    · split
      · exact col_ok b ks r _ _ _ _ _ _
      · exact okS_c.2.2
theorem pic_ok (b : Int) (ks : List Kd) (t : Tr) (w h : Nat) : ∀ s ∈ picR b ks t w h,PyData.strOk s = true := by
  intro s hs
  unfold picR at hs
  obtain ⟨k,_,rfl⟩ := List.mem_map.mp hs
  refine okS_of fun c hc => ?_
  unfold Txt.join at hc
  rw [StrLaws.glued_eq_join] at hc
  have e : (Str.join "" ((List.range w).map fun (c : Nat) => colT b ks t 0 0 w h (c : Int) ((h - 1 - k : Nat) : Int))).cps.toList = _ := Lp_join0 _
  rw [e] at hc
  obtain ⟨l,hl,hc⟩ := List.mem_flatten.mp hc
  obtain ⟨z,hz,rfl⟩ := List.mem_map.mp hl
  obtain ⟨d,_,rfl⟩ := List.mem_map.mp hz
  exact col_ok b ks t _ _ _ _ _ _ c hc
theorem datS {K : PySem.W.Frag} {H : Hp} : ∀ ss : List Str,DatVs K H (ss.map V.str) (ss.map PyData.str)
  | [] => .nil
  | s :: r => .cons (.str s) (datS r)
theorem layS : ∀ ss : List Str,(∀ s ∈ ss,PyData.strOk s = true) → PyData.canLayAll0 (ss.map PyData.str) = true ∧ PyData.depthAll (ss.map PyData.str) = 0
  | [],_ => ⟨rfl,rfl⟩
  | s :: r,h => by
    obtain ⟨i1,i2⟩ := layS r fun x hx => h x (List.mem_cons_of_mem _ hx)
    refine ⟨?_,?_⟩
    · rw [List.map_cons,PyData.canLayAll0,i1,show PyData.canLay0 (.str s) = PyData.strOk s from rfl,h s List.mem_cons_self]; rfl
    · rw [List.map_cons,PyData.depthAll,i2]; rfl
theorem picS (b : Int) (ks : List Kd) (t : Tr) (w h : Nat) : SeqAt.shaped (.list ((picR b ks t w h).map PyData.str)) = true ∧ PyData.canLay0 (.list ((picR b ks t w h).map PyData.str)) = true := by
  obtain ⟨i1,i2⟩ := layS _ (pic_ok b ks t w h)
  refine ⟨?_,i1⟩
  unfold SeqAt.shaped
  rw [PyData.canLay0,i1,PyData.depth,i2]
  rfl
section
variable {P : Program} {w : World} {K : PySem.W.Frag} {mg : Str → Option Value} {base : Heap}
def spLaw (K : PySem.W.Frag) : Sp := fun vs H Q _ => ∃ (a : Addr) (ns : List Int),vs = [.ref a] ∧ SqL K H a (ns.map V.int) ∧ ns.length ≤ 63 ∧ ∀ H',Q (.bl true) H'
theorem scrowsl : FnScope ["_law_told","_law_wide","_law_high","_law_tree_here","_law_cells","_law_found","_law_row"] ["_law_told","_law_wide","_law_high","_law_tree_here"] (defScope sRows) := ⟨rfl,rfl,rfl,by decide +kernel,rfl,by decide +kernel,by decide +kernel⟩
theorem ok_rowsl {f : Addr} {fd : FuncData} (F : Fun K "_law_rows" "_law_rows" sRows f fd) (B : Blt mg) (DPa : Dn P w K mg base "_law_painted" ["_law_told","_law_cells","_law_x","_law_y","_law_wide","_law_high","_law_tree_here"] 13 (spPaintL 11)) : FnOk P w K mg base CX0 14 f fd ["_law_told","_law_wide","_law_high","_law_tree_here"] (spRowsL) := by
  refine F.ok scrowsl (fun vs H Q E h => ?_) (fun cdv A outer s H vs Q E hr h => ?_)
  · obtain ⟨pp,st,kl,b,W,h,rs,ks,v,d,t,rfl,_⟩ := h
    rfl
  obtain ⟨pp,st,kl,b,W,h,rs,ks,v,d,t,rfl,sh,hd,td,okt,b0,W0,h0,W60,h60,dp,sz100,q⟩ := h
  have nd := scrowsl.nd
  have hu := hr.units
  have hu1 := Nat.lt_of_le_of_lt (Nat.add_le_add_left (show 1 ≤ 64 by decide) _) hu
  refine ⟨_,(@pss_cons _ _ _ _ _ (@ps_set _ _ 4 _ _ _ _ nd rfl (Or.inr rfl) pe_dnewT rfl (Or.inl rfl)) (@pss_cons _ _ _ _ _ (@ps_expr _ _ _ _ (@pe_cD _ _ _ _ _ _ _ _ _ _ DPa hr rfl (@pa_cons _ _ _ _ _ (pv 0) (@pa_cons _ _ _ _ _ (pv 4) (@pa_cons _ _ _ _ _ pe_int (@pa_cons _ _ _ _ _ pe_int (@pa_cons _ _ _ _ _ (pv 1) (@pa_cons _ _ _ _ _ (pv 2) (@pa_cons _ _ _ _ _ (pv 3) pa_nil rfl) rfl) rfl) rfl) rfl) rfl) rfl) (by decide) rfl rfl) rfl) (@pss_cons _ _ _ _ _ (@ps_set _ _ 5 _ _ _ _ nd rfl (Or.inl rfl) (@pe_lst _ _ _ _ pa_nil) rfl (Or.inl rfl)) (@pss_cons _ _ _ _ _ (@ps_for _ _ _ _ _ _ _ _ PassesOwn.never rfl (pi_range1 rfl B.range (@pa_cons _ _ _ _ _ (pv 2) pa_nil rfl)) (pg_name (i := 6) nd rfl (Or.inr rfl)) (@pss_one _ _ _ (@ps_expr _ _ _ _ (@pe_bm _ _ _ _ _ _ _ _ _ _ _ _ PySem.F.plainAttrs_list PySem.F.slot_list_append PySem.F.type_list_append mt_append (pv 5) (@pa_cons _ _ _ _ _ (@pe_bm _ _ _ _ _ _ _ _ _ _ _ _ PySem.F.plainAttrs_str PySem.F.slot_str_join PySem.F.type_str_join mt_join pe_str (@pa_cons _ _ _ _ _ (pe_comp (own := ["_law_column"]) (cs := ["_law_high","_law_cells","_law_row"]) (cap := [2,4,6]) rfl (pi_range1 rfl B.range (@pa_cons _ _ _ _ _ (pv 1) pa_nil rfl)) (compOk_of (sc := defScope sRows) (N := ["_law_told","_law_wide","_law_high","_law_tree_here","_law_cells","_law_found","_law_row"]) rfl rfl (by decide +kernel)) (fun _ _ _ _ _ => pg_name (i := 0) (by show List.Nodup (["_law_column","_law_high","_law_cells","_law_row"] : List Str) ; decide +kernel) rfl (Or.inl rfl) (Or.inr rfl)) (fun _ _ _ _ _ => pifs_nil) (fun _ _ _ _ _ => (pe_dget hu1 (pv 2) (@pe_tup _ _ _ _ _ (@pa_cons _ _ _ _ _ (pv 0) (@pa_cons _ _ _ _ _ (@pe_op _ _ _ _ _ _ _ _ op_sub (@pe_op _ _ _ _ _ _ _ _ op_sub (pv 1) pe_int) (pv 3)) pa_nil rfl) rfl)) (fun _ _ => rfl)))) pa_nil rfl) rfl rfl rfl rfl rfl) pa_nil rfl) rfl rfl rfl rfl rfl) rfl)) (by intro _; rfl)) (@pss_one _ _ _ (@ps_ret _ _ _ _ (pv 5))))))),?_⟩
  have sz : (1000000 : Nat) ≤ sizeLine := by decide
  intro c hc
  have s0 : Same H (upd H c (.dT [])) := Same.new hc
  have k0 : (upd H c (.dT [])) c = some (.dT []) := upd_same
  generalize upd H c (.dT []) = H0 at s0 k0 ⊢
  refine seqCut (fun σ' H' => σ' = [some (.ref st),some (.int W),some (.int h),some v,some (.ref c),none,none] ∧ H0 = H') (fun R hR => hR _ _ ⟨rfl,rfl⟩) ?_
  rintro _ _ ⟨rfl,rfl⟩
  refine seqCut (fun σ' H' => σ' = [some (.ref st),some (.int W),some (.int h),some v,some (.ref c),none,none] ∧ (∃ k1,H' c = some (.dT k1) ∧ CelS k1 [] (fun cc rr => inB 0 0 W h cc rr) (colT b ks t 0 0 W h)) ∧ Same H H') (fun R hR => ?_) ?_
  · refine ⟨_,rfl,_,rfl,_,rfl,_,rfl,_,rfl,pp,c,st,kl,b,0,0,W,h,rs,ks,v,d,t,[],rfl,sh.same s0,hd.same s0,td,okt,b0,by omega,by omega,by omega,by omega,by omega,by omega,dp,k0,by show 0 + _ ≤ _; omega,fun k1 H1 hc1 cl1 ln1 bb1 => hR _ _ ⟨rfl,⟨k1,hc1,cl1⟩,fun a o e => bb1 _ _ (ne_of_none e hc) (s0 _ _ e)⟩⟩
  rintro _ H1 ⟨rfl,⟨k1,hc1,cl1⟩,s1⟩
  refine seqCut (fun σ' H' => ∃ fl : Addr,σ' = [some (.ref st),some (.int W),some (.int h),some v,some (.ref c),some (.ref fl),none] ∧ H1 fl = none ∧ H' fl = some (.lst []) ∧ Same H1 H') (fun R hR => ?_) ?_
  · exact ⟨by decide,fun fl hfl => hR _ _ ⟨fl,rfl,hfl,upd_same,Same.new hfl⟩⟩
  rintro _ H2 ⟨fl,rfl,hfl,kf2,s12⟩
  have pl : (picR b ks t W h).length = h := by unfold picR; rw [List.length_map,List.length_range]
  refine seqCut (fun σ' H' => (∃ v6,σ' = [some (.ref st),some (.int W),some (.int h),some v,some (.ref c),some (.ref fl),v6]) ∧ H' fl = some (.lst ((picR b ks t W h).map V.str)) ∧ Same H1 H') (fun R hR => ?_) ?_
  · refine ⟨_,rfl,_,rfl,by omega,by omega,for_range (lo := 0) (n := Int.toNat (h : Int)) (fun i σ' H' => (∃ v6,σ' = [some (.ref st),some (.int W),some (.int h),some v,some (.ref c),some (.ref fl),v6]) ∧ H' fl = some (.lst (((picR b ks t W h).take i).map V.str)) ∧ Same H1 H') ⟨⟨_,rfl⟩,kf2,s12⟩ ?_ ?_⟩
    · rintro i σ H3 hi ⟨⟨v6,rfl⟩,kf3,s13⟩
      rw [Int.toNat_natCast] at hi
      have hc3 := s13 _ _ hc1
      refine ⟨_,rfl,.inl ⟨rfl,_,SqL.of kf3⟩,rfl,_,rfl,_,rfl,by omega,by omega,comp_rng (lo := 0) (n := Int.toNat (W : Int)) (fun j zs Hy => Same H3 Hy ∧ zs = ((List.range j).map fun (cc : Nat) => colT b ks t 0 0 W h (cc : Int) ((h - 1 - i : Nat) : Int)).map V.str) ⟨Same.refl _,rfl⟩ ?_ ?_⟩
      · rintro j zs Hy hj ⟨sy,rfl⟩
        have hj' : j < W := by rw [Int.toNat_natCast] at hj; exact hj
        refine ⟨by rw [List.length_map,List.length_map,List.length_range]; omega,leS.set rfl,tYes_ite ?_⟩
        refine ⟨_,rfl,_,rfl,_,rfl,_,_,rfl,rfl,_,rfl,_,_,rfl,rfl,(by show 2 ≤ sizeLine; decide),fun tp htp => ?_⟩
        generalize hH5 : upd Hy tp _ = H5
        have s5 : Same Hy H5 := by subst hH5; exact Same.new htp
        have e0 : (h : Int) - 1 - (0 + (i : Int)) = ((h - 1 - i : Nat) : Int) := by omega
        have k5 : H5 tp = some (.tup ((kC (0 + (j : Int)) ((h : Int) - 1 - (0 + (i : Int)))).map kV)) := by subst hH5; exact upd_same
        have hv := cl1 (0 + (j : Int)) ((h : Int) - 1 - (0 + (i : Int)))
        rw [if_pos (by omega)] at hv
        refine ⟨c,_,rfl,hv ▸ DGet.t (s5 _ _ (sy _ _ hc3)) k5,Nx.of hj ⟨sy.trans s5,?_⟩⟩
        rw [List.range_succ,List.map_append,List.map_append]
        simp only [List.map_cons,List.map_nil,Int.zero_add]
        rw [show (h : Int) - 1 - (i : Int) = ((h - 1 - i : Nat) : Int) by omega]
      · rintro zs Hy ⟨sy,rfl⟩
        refine ⟨by rw [List.length_map,List.length_map,List.length_range]; omega,fun nl hnl => ?_⟩
        rw [Int.toNat_natCast]
        have sn := Same.new hnl (o := .lst (((List.range W).map fun (cc : Nat) => colT b ks t 0 0 W h (cc : Int) ((h - 1 - i : Nat) : Int)).map V.str))
        have kn : (upd Hy nl (.lst (((List.range W).map fun (cc : Nat) => colT b ks t 0 0 W h (cc : Int) ((h - 1 - i : Nat) : Int)).map V.str))) nl = some (.lst (((List.range W).map fun (cc : Nat) => colT b ks t 0 0 W h (cc : Int) ((h - 1 - i : Nat) : Int)).map V.str)) := upd_same
        generalize upd Hy nl (.lst (((List.range W).map fun (cc : Nat) => colT b ks t 0 0 W h (cc : Int) ((h - 1 - i : Nat) : Int)).map V.str)) = H6 at sn kn ⊢
        refine ⟨"",nl,_,rfl,rfl,kn,by decide +kernel,?_,?_⟩
        · rw [sum_ones _ _ (fun x hx => by obtain ⟨c,_,rfl⟩ := List.mem_map.mp hx; exact col_len b ks t _ _ _ _ _ _),List.length_map,List.length_range]
          omega
        · have kf6 := sn _ _ (sy _ _ kf3)
          have hp : (picR b ks t W h)[i]? = some (Txt.join "" ((List.range W).map fun (cc : Nat) => colT b ks t 0 0 W h (cc : Int) ((h - 1 - i : Nat) : Int))) := by
            unfold picR
            rw [List.getElem?_map,List.getElem?_range hi]
            rfl
          refine ⟨fl,_,_,rfl,rfl,kf6,by rw [List.length_map]; exact Nat.lt_of_le_of_lt (List.length_take_le _ _) (by omega),⟨_,rfl⟩,?_,fun a o e => by rw [upd_ne (ne_of_none e hfl)]; exact sn _ _ (sy _ _ (s13 _ _ e))⟩
          rw [upd_same,List.take_add_one,hp]
          simp only [Option.toList_some,List.map_append,List.map_cons,List.map_nil]
    · rintro σ H3 ⟨⟨v6,rfl⟩,kf3,s13⟩
      rw [Int.toNat_natCast,List.take_of_length_le (by omega)] at kf3
      exact hR _ _ ⟨⟨_,rfl⟩,kf3,s13⟩
  rintro _ H3 ⟨⟨v6,rfl⟩,kf3,s13⟩
  exact ⟨_,rfl,q fl H3 (s1.free hfl) kf3 (s1.trans s13)⟩
end
section
variable {P : Program} {w : World} {K : PySem.W.Frag} {mg : Str → Option Value} {base : Heap}
theorem sclaw : FnScope ["_law_script","_law_pot_here","_law_told","_law_shop","_law_place","_law_most","_law_wide","_law_high","_law_tree_here","_law_due","_law_found","_law_listed_here"] ["_law_script"] (defScope sLaw) := ⟨rfl,rfl,rfl,by decide +kernel,rfl,by decide +kernel,by decide +kernel⟩
theorem ok_law {f C : Addr} {fd : FuncData} (F : Fun K "law" "law" sLaw f fd) (B : Blt mg) (DP : Dn P w K mg base "_law_pot" ["_law_script","_law_place"] 1 (spPot K)) (DD : Dn P w K mg base "_law_draw" ["_law_pot_here","_law_many"] 1 (spDraw)) (DSm : Dn P w K mg base "_law_small" ["_law_pot_here","_law_most"] 3 (spSmallM)) (DTr : Dn P w K mg base "_law_tree" ["_law_pot_here","_law_shop","_law_wide","_law_high","_law_left","_law_deep"] 14 (spTreeL 11)) (DLs : Dn P w K mg base "_law_listed" ["_law_thing"] 13 (spListed 12)) (DRo : Dn P w K mg base "_law_rows" ["_law_told","_law_wide","_law_high","_law_tree_here"] 14 (spRowsL)) (DPi : Dn P w K mg base "picture" ["shop","wide","high","tree"] 8 (spPicture C)) (DS : Kn P w K mg base "Shop" C ["self","blade","kinds"] 3 (spInit C)) : FnOk P w K mg base CX0 15 f fd ["_law_script"] (spLaw K) := by
  refine F.ok sclaw (fun vs H Q E h => ?_) (fun cdv A outer s H vs Q E hr h => ?_)
  · obtain ⟨a,ns,rfl,_⟩ := h
    rfl
  obtain ⟨a,ns,rfl,hS,h63,q⟩ := h
  have nd := sclaw.nd
  have hu := hr.units
  refine ⟨_,(@pss_cons _ _ _ _ _ (@ps_set _ _ 1 _ _ _ _ nd rfl (Or.inl rfl) (@pe_cD _ _ _ _ _ _ _ _ _ _ DP (hr.mono (by decide)) rfl (@pa_cons _ _ _ _ _ (pv 0) (@pa_cons _ _ _ _ _ pe_int pa_nil rfl) rfl) (by decide) rfl rfl) rfl (Or.inl rfl)) (@pss_cons _ _ _ _ _ (@ps_set _ _ 2 _ _ _ _ nd rfl (Or.inl rfl) (@pe_cD _ _ _ _ _ _ _ _ _ _ DSm (hr.mono (by decide)) rfl (@pa_cons _ _ _ _ _ (pv 1) (@pa_cons _ _ _ _ _ (@pe_ix _ _ _ _ _ _ _ ix_list (@pe_lst _ _ _ _ (@pa_cons _ _ _ _ _ pe_int (@pa_cons _ _ _ _ _ pe_int pa_nil rfl) rfl)) (@pe_cD _ _ _ _ _ _ _ _ _ _ DD (hr.mono (by decide)) rfl (@pa_cons _ _ _ _ _ (pv 1) (@pa_cons _ _ _ _ _ pe_int pa_nil rfl) rfl) (by decide) rfl rfl) (fun _ _ => rfl)) pa_nil rfl) rfl) (by decide) rfl rfl) rfl (Or.inl rfl)) (@pss_cons _ _ _ _ _ (@ps_if _ _ _ _ _ _ _ _ (@pt_cmpR _ _ _ _ _ _ _ _ op_eq (@pe_cD _ _ _ _ _ _ _ _ _ _ DD (hr.mono (by decide)) rfl (@pa_cons _ _ _ _ _ (pv 1) (@pa_cons _ _ _ _ _ pe_int pa_nil rfl) rfl) (by decide) rfl rfl) pe_int (nomark _)) (@pss_one _ _ _ (@ps_set _ _ 2 _ _ _ _ nd rfl (Or.inl rfl) (@pe_tup _ _ _ _ _ (@pa_cons _ _ _ _ _ (@pe_cD _ _ _ _ _ _ _ _ _ _ DD (hr.mono (by decide)) rfl (@pa_cons _ _ _ _ _ (pv 1) (@pa_cons _ _ _ _ _ pe_int pa_nil rfl) rfl) (by decide) rfl rfl) (@pa_cons _ _ _ _ _ (@pe_ix _ _ _ _ _ _ _ ix_tup (pv 2) pe_int (fun _ _ => rfl)) pa_nil rfl) rfl)) rfl (Or.inl rfl))) pss_nil) (@pss_cons _ _ _ _ _ (@ps_set _ _ 3 _ _ _ _ nd rfl (Or.inl rfl) (pe_kD DS (hr.mono (by decide)) rfl (@pa_cons _ _ _ _ _ (@pe_ix _ _ _ _ _ _ _ ix_tup (pv 2) pe_int (fun _ _ => rfl)) (@pa_cons _ _ _ _ _ (@pe_ix _ _ _ _ _ _ _ ix_tup (pv 2) pe_int (fun _ _ => rfl)) pa_nil rfl) rfl)) rfl (Or.inl rfl)) (@pss_cons _ _ _ _ _ (@ps_for _ _ _ _ _ _ _ _ PassesOwn.never rfl (pi_range2 rfl B.range (@pa_cons _ _ _ _ _ pe_int (@pa_cons _ _ _ _ _ (@pe_callB _ _ _ _ _ _ _ _ _ (call_max2 rfl) rfl B.max PyProof.Rows.boot_max (@pa_cons _ _ _ _ _ pe_int (@pa_cons _ _ _ _ _ (@pe_callB _ _ _ _ _ _ _ _ _ (call_min2 rfl) rfl B.min PyProof.Rows.boot_min (@pa_cons _ _ _ _ _ pe_int (@pa_cons _ _ _ _ _ (@pe_callB _ _ _ _ _ _ _ _ _ call_len_seq rfl B.len PySem.boot_len (@pa_cons _ _ _ _ _ (pv 0) pa_nil rfl) (by decide) (by decide) rfl rfl) pa_nil rfl) rfl) (by decide) (by decide) rfl rfl) pa_nil rfl) rfl) (by decide) (by decide) rfl rfl) pa_nil rfl) rfl)) (pg_name (i := 4) nd rfl (Or.inl rfl)) (@pss_cons _ _ _ _ _ (@ps_set _ _ 1 _ _ _ _ nd rfl (Or.inl rfl) (@pe_cD _ _ _ _ _ _ _ _ _ _ DP (hr.mono (by decide)) rfl (@pa_cons _ _ _ _ _ (pv 0) (@pa_cons _ _ _ _ _ (pv 4) pa_nil rfl) rfl) (by decide) rfl rfl) rfl (Or.inl rfl)) (@pss_cons _ _ _ _ _ (@ps_set _ _ 5 _ _ _ _ nd rfl (Or.inl rfl) (@pe_ix _ _ _ _ _ _ _ ix_list (@pe_lst _ _ _ _ (@pa_cons _ _ _ _ _ pe_int (@pa_cons _ _ _ _ _ pe_int (@pa_cons _ _ _ _ _ pe_int (@pa_cons _ _ _ _ _ pe_int pa_nil rfl) rfl) rfl) rfl)) (@pe_cD _ _ _ _ _ _ _ _ _ _ DD (hr.mono (by decide)) rfl (@pa_cons _ _ _ _ _ (pv 1) (@pa_cons _ _ _ _ _ pe_int pa_nil rfl) rfl) (by decide) rfl rfl) (fun _ _ => rfl)) rfl (Or.inl rfl)) (@pss_cons _ _ _ _ _ (@ps_set _ _ 6 _ _ _ _ nd rfl (Or.inl rfl) (@pe_ix _ _ _ _ _ _ _ ix_list (@pe_lst _ _ _ _ (@pa_cons _ _ _ _ _ (@pe_op _ _ _ _ _ _ _ _ op_add pe_int (@pe_cD _ _ _ _ _ _ _ _ _ _ DD (hr.mono (by decide)) rfl (@pa_cons _ _ _ _ _ (pv 1) (@pa_cons _ _ _ _ _ (pv 5) pa_nil rfl) rfl) (by decide) rfl rfl)) (@pa_cons _ _ _ _ _ (pv 5) pa_nil rfl) rfl)) (@pe_callTy _ _ _ _ _ _ _ _ _ call_int1 rfl B.int PyProof.Rows.boot_int (@pa_cons _ _ _ _ _ (@pe_cmpR _ _ _ _ _ _ _ _ op_eq (@pe_cD _ _ _ _ _ _ _ _ _ _ DD (hr.mono (by decide)) rfl (@pa_cons _ _ _ _ _ (pv 1) (@pa_cons _ _ _ _ _ pe_int pa_nil rfl) rfl) (by decide) rfl rfl) pe_int (nomark _)) pa_nil rfl) (by decide) (by decide) rfl rfl) (fun _ _ => rfl)) rfl (Or.inl rfl)) (@pss_cons _ _ _ _ _ (@ps_set _ _ 7 _ _ _ _ nd rfl (Or.inl rfl) (@pe_ix _ _ _ _ _ _ _ ix_list (@pe_lst _ _ _ _ (@pa_cons _ _ _ _ _ (@pe_op _ _ _ _ _ _ _ _ op_add pe_int (@pe_cD _ _ _ _ _ _ _ _ _ _ DD (hr.mono (by decide)) rfl (@pa_cons _ _ _ _ _ (pv 1) (@pa_cons _ _ _ _ _ (pv 5) pa_nil rfl) rfl) (by decide) rfl rfl)) (@pa_cons _ _ _ _ _ (pv 5) pa_nil rfl) rfl)) (@pe_callTy _ _ _ _ _ _ _ _ _ call_int1 rfl B.int PyProof.Rows.boot_int (@pa_cons _ _ _ _ _ (@pe_cmpR _ _ _ _ _ _ _ _ op_eq (@pe_cD _ _ _ _ _ _ _ _ _ _ DD (hr.mono (by decide)) rfl (@pa_cons _ _ _ _ _ (pv 1) (@pa_cons _ _ _ _ _ pe_int pa_nil rfl) rfl) (by decide) rfl rfl) pe_int (nomark _)) pa_nil rfl) (by decide) (by decide) rfl rfl) (fun _ _ => rfl)) rfl (Or.inl rfl)) (@pss_cons _ _ _ _ _ (@ps_set _ _ 8 _ _ _ _ nd rfl (Or.inl rfl) (@pe_cD _ _ _ _ _ _ _ _ _ _ DTr (hr.mono (by decide)) rfl (@pa_cons _ _ _ _ _ (pv 1) (@pa_cons _ _ _ _ _ (pv 2) (@pa_cons _ _ _ _ _ (pv 6) (@pa_cons _ _ _ _ _ (pv 7) (@pa_cons _ _ _ _ _ (@pe_lst _ _ _ _ (@pa_cons _ _ _ _ _ pe_int pa_nil rfl)) (@pa_cons _ _ _ _ _ pe_int pa_nil rfl) rfl) rfl) rfl) rfl) rfl) (by decide) rfl rfl) rfl (Or.inl rfl)) (@pss_cons _ _ _ _ _ (@ps_set _ _ 9 _ _ _ _ nd rfl (Or.inl rfl) (@pe_cD _ _ _ _ _ _ _ _ _ _ DRo (hr.mono (by decide)) rfl (@pa_cons _ _ _ _ _ (pv 2) (@pa_cons _ _ _ _ _ (pv 6) (@pa_cons _ _ _ _ _ (pv 7) (@pa_cons _ _ _ _ _ (pv 8) pa_nil rfl) rfl) rfl) rfl) (by decide) rfl rfl) rfl (Or.inl rfl)) (@pss_cons _ _ _ _ _ (@ps_set _ _ 10 _ _ _ _ nd rfl (Or.inl rfl) (@pe_cD _ _ _ _ _ _ _ _ _ _ DPi (hr.mono (by decide)) rfl (@pa_cons _ _ _ _ _ (pv 3) (@pa_cons _ _ _ _ _ (pv 6) (@pa_cons _ _ _ _ _ (pv 7) (@pa_cons _ _ _ _ _ (pv 8) pa_nil rfl) rfl) rfl) rfl) (by decide) rfl rfl) rfl (Or.inl rfl)) (@pss_cons _ _ _ _ _ (@ps_if _ _ _ _ _ _ _ _ (PW.pt (pw_or (@pt_not _ _ _ _ (@pt_val _ _ _ (@pe_callB _ _ _ _ _ _ _ _ _ call_isinst rfl B.isi PyProof.Rows.boot_isinstance (@pa_cons _ _ _ _ _ (pv 10) (@pa_cons _ _ _ _ _ (pe_bltn (v := .ty "list") rfl B.list PyProof.Rows.boot_list rfl) pa_nil rfl) rfl) (by decide) (by decide) rfl rfl) (by intro _; rfl))) (pw_or1 (@pt_cmpR _ _ _ _ _ _ _ _ (op_neD hu) (pv 10) (pv 9) (nomark _))))) (@pss_one _ _ _ (@ps_ret _ _ _ _ pe_bl)) pss_nil) (@pss_cons _ _ _ _ _ (@ps_expr _ _ _ _ (pe_bm0 PySem.F.plainAttrs_list PySem.F.slot_list_clear PySem.F.type_list_clear mt_clear (pv 10)) rfl) (@pss_cons _ _ _ _ _ (@ps_set _ _ 11 _ _ _ _ nd rfl (Or.inl rfl) (@pe_cD _ _ _ _ _ _ _ _ _ _ DLs (hr.mono (by decide)) rfl (@pa_cons _ _ _ _ _ (pv 8) pa_nil rfl) (by decide) rfl rfl) rfl (Or.inl rfl)) (@pss_one _ _ _ (@ps_if _ _ _ _ _ _ _ _ (PW.pt (pw_or (@pt_cmpR _ _ _ _ _ _ _ _ (op_neD hu) (@pe_cD _ _ _ _ _ _ _ _ _ _ DPi (hr.mono (by decide)) rfl (@pa_cons _ _ _ _ _ (pv 3) (@pa_cons _ _ _ _ _ (pv 6) (@pa_cons _ _ _ _ _ (pv 7) (@pa_cons _ _ _ _ _ (pv 11) pa_nil rfl) rfl) rfl) rfl) (by decide) rfl rfl) (pv 9) (nomark _)) (pw_or1 (@pt_cmpR _ _ _ _ _ _ _ _ (op_neD hu) (pv 11) (@pe_cD _ _ _ _ _ _ _ _ _ _ DLs (hr.mono (by decide)) rfl (@pa_cons _ _ _ _ _ (pv 8) pa_nil rfl) (by decide) rfl rfl) (nomark _))))) (@pss_one _ _ _ (@ps_ret _ _ _ _ pe_bl)) pss_nil)))))))))))) (by intro _; rfl)) (@pss_one _ _ _ (@ps_ret _ _ _ _ pe_bl))))))),?_⟩
  have e60 : (100 : Int) < 10 ^ 60 := by decide
  refine seqCut (fun σ' H' => ∃ p,σ' = [some (.ref a),some (.ref p),none,none,none,none,none,none,none,none,none,none] ∧ H p = none ∧ PotAt H' p ∧ Same H H') (fun R hR => ?_) ?_
  · exact ⟨_,rfl,a,ns,0,rfl,hS,by decide,by decide,h63,fun p H1 hp pt1 s1 => hR _ _ ⟨p,rfl,hp,pt1,s1⟩⟩
  rintro _ H1 ⟨p,rfl,hp,pt1,s1⟩
  refine seqCut (fun σ' H' => ∃ st l b rs ks,σ' = [some (.ref a),some (.ref p),some (.ref st),none,none,none,none,none,none,none,none,none] ∧ l ≠ p ∧ ShL H' st l b rs ks ∧ 1 ≤ rs.length ∧ 0 ≤ b ∧ PotAt H' p ∧ Same H H') (fun R hR => ?_) ?_
  · refine ⟨_,rfl,(by show 2 ≤ sizeLine; decide),fun ll hll => ?_⟩
    refine ⟨_,rfl,p,2,rfl,pt1.new hll,by decide,by decide,fun r H2 r0 r1 pt2 b2 => ?_⟩
    have hlp : ll ≠ p := fun z => by rw [z] at hll; exact pt1.some hll
    have hl2 : H2 ll = some (.lst [.int 6,.int 24]) := b2 ll _ hlp upd_same
    obtain ⟨m,hm,m1,m2⟩ : ∃ m : Int,atI [V.int 6,V.int 24] r = some (.int m) ∧ 1 ≤ m ∧ m ≤ 24 := by
      have : r = 0 ∨ r = 1 := by omega
      rcases this with rfl | rfl
      · exact ⟨6,rfl,by decide,by decide⟩
      · exact ⟨24,rfl,by decide,by decide⟩
    refine ⟨ll,_,_,_,rfl,rfl,SqL.of hl2,hm,p,m,rfl,m1,m2,pt2,fun t l b rs ks H3 ht hl nlp tp gk q1 q8 b0 pt3 b3 => ?_⟩
    exact hR _ _ ⟨t,l,b,rs,ks,rfl,nlp,⟨ht,hl,tp,q8,gk⟩,q1,b0,pt3,But.same ((Pc.Same.but s1).trans (((But.new hll).trans b2).trans b3)) hp⟩
  rintro _ H1 ⟨st,l,b,rs,ks,rfl,nlp,sh,r1,b0,pt1,s01⟩
  refine seqCut (fun σ' H' => ∃ st b,σ' = [some (.ref a),some (.ref p),some (.ref st),none,none,none,none,none,none,none,none,none] ∧ ShL H' st l b rs ks ∧ 0 ≤ b ∧ Same H H') (fun R hR => ?_) ?_
  · refine ⟨_,rfl,p,4,rfl,pt1,by decide,by decide,fun z H2 z0 z1 pt2 b2 => ⟨rfl,_,rfl,?_⟩⟩
    obtain ⟨_,hpl⟩ := potLst pt1
    have nst : st ≠ p := fun q => by have := sh.t; rw [q,hpl] at this; cases this
    have sh2 : ShL H2 st l b rs ks := ⟨b2 _ _ nst sh.t,b2 _ _ nlp sh.l,tupsButA b2 pt1 sh.k,sh.n,sh.g⟩
    have s02 : Same H H2 := But.same ((Pc.Same.but s01).trans b2) hp
    refine ite2 (fun cc => ?_) (fun cc => ?_)
    · refine ⟨_,rfl,p,40,rfl,pt2,by decide,by decide,fun b' H3 b0' b1' pt3 b3 => ?_⟩
      obtain ⟨_,hpl2⟩ := potLst pt2
      have sh3 : ShL H3 st l b rs ks := ⟨b3 _ _ nst sh2.t,b3 _ _ nlp sh2.l,tupsButA b3 pt2 sh2.k,sh2.n,sh2.g⟩
      refine ⟨_,rfl,st,_,1,_,rfl,rfl,SqT.of sh3.t,rfl,(by show 2 ≤ sizeLine; decide),fun t' ht' => ?_⟩
      have s4 := Same.new ht' (o := .tup [.int b',.ref l])
      exact hR _ _ ⟨t',b',rfl,⟨upd_same,s4 _ _ sh3.l,Tups.keep (fun c xs e => s4 _ _ e) sh3.k,sh3.n,sh3.g⟩,b0',(But.same ((Pc.Same.but s02).trans b3) hp).trans s4⟩
    · exact hR _ _ ⟨st,b,rfl,sh2,b0,s02⟩
  rintro _ H1 ⟨st,b,rfl,sh,b0,s01⟩
  refine seqCut (fun σ' H' => ∃ sa,σ' = [some (.ref a),some (.ref p),some (.ref st),some (.ref sa),none,none,none,none,none,none,none,none] ∧ ShopAt C H' sa b ks ∧ Same H1 H') (fun R hR => ?_) ?_
  · refine ⟨_,rfl,st,_,0,_,rfl,rfl,SqT.of sh.t,rfl,_,rfl,st,_,1,_,rfl,rfl,SqT.of sh.t,rfl,fun x dx hx hdx ne0 => ?_⟩
    have sm : Same H1 (upd (upd H1 dx (.own x)) x (.ins C dx [])) := made_same hx hdx
    refine ⟨x,dx,l,b,rs,ks,rfl,upd_same,b0,.inl (sm _ _ sh.l),Paired.mapP (Tups.keep (fun c xs e => sm _ _ e) sh.k) (fun v k h => .inl h),sh.g,r1,sh.n,fun Hb Sb kb => ⟨rfl,hR _ _ ⟨x,rfl,Sb,fun c o e => kb c o (ne_of_none e hx) (sm _ _ e)⟩⟩⟩
  rintro _ H2 ⟨sa,rfl,sA,s12⟩
  have sh := sh.same s12
  have s02 := s01.trans s12
  clear s01 s12 hp pt1 s1
  have k8 : ks.length ≤ 8 := by have := Paired.length sh.k; have := sh.n; omega
  have ln : (ns.map V.int).length = ns.length := List.length_map _
  refine seqCut (fun σ' H' => True) (fun R hR => ?_) (fun σ' H' _ => q _)
  refine ⟨_,rfl,a,_,rfl,.inl (s02.seq hS),_,_,rfl,_,_,rfl,_,_,rfl,⟨by decide,by decide,?_,?_⟩,?_⟩
  · rw [ln]; split <;> split <;> omega
  · rw [ln]; split <;> split <;> omega
  generalize hm : (Int.toNat _) = mm
  have m13 : mm ≤ 20 := by rw [← hm,ln]; split <;> split <;> omega
  refine for_range (n := mm) (fun i σ' H' => (∃ vp v4 v5 v6 v7 v8 v9 v10 v11,σ' = [some (.ref a),vp,some (.ref st),some (.ref sa),v4,v5,v6,v7,v8,v9,v10,v11]) ∧ Same H2 H') ⟨⟨_,_,_,_,_,_,_,_,_,rfl⟩,Same.refl _⟩ ?_ (fun σ' H' _ => hR _ _ trivial)
  rintro i _ H4 hi ⟨⟨vp,v4,v5,v6,v7,v8,v9,v10,v11,rfl⟩,s24⟩
  have sA4 := shopS s24 sA
  have sh4 := sh.same s24
  refine seqCut (fun σ' H' => ∃ p,(∃ v5 v6 v7 v8 v9 v10 v11,σ' = [some (.ref a),some (.ref p),some (.ref st),some (.ref sa),some (.int (1 + i)),v5,v6,v7,v8,v9,v10,v11]) ∧ H4 p = none ∧ PotAt H' p ∧ Same H4 H') (fun R hR => ?_) ?_
  · exact ⟨_,rfl,_,rfl,a,ns,_,rfl,s24.seq (s02.seq hS),by omega,by omega,h63,fun p H5 hp pt5 s5 => hR _ _ ⟨p,⟨_,_,_,_,_,_,_,rfl⟩,hp,pt5,s5⟩⟩
  rintro _ H5 ⟨p,⟨v5,v6,v7,v8,v9,v10,v11,rfl⟩,hp,pt5,s45⟩
  refine seqCut (fun σ' H' => ∃ m : Int,(∃ v6 v7 v8 v9 v10 v11,σ' = [some (.ref a),some (.ref p),some (.ref st),some (.ref sa),some (.int (1 + i)),some (.int m),v6,v7,v8,v9,v10,v11]) ∧ 24 ≤ m ∧ m ≤ 60 ∧ PotAt H' p ∧ Same H4 H') (fun R hR => ?_) ?_
  · refine ⟨(by show 4 ≤ sizeLine; decide),fun ll hll => ?_⟩
    refine ⟨_,rfl,p,4,rfl,pt5.new hll,by decide,by decide,fun r H6 r0 r1 pt6 b6 => ?_⟩
    have hlp : ll ≠ p := fun z => by rw [z] at hll; exact pt5.some hll
    have hl6 : H6 ll = some (.lst [.int 60,.int 24,.int 24,.int 24]) := b6 ll _ hlp upd_same
    obtain ⟨m,hm,m1,m2⟩ : ∃ m : Int,atI [V.int 60,V.int 24,V.int 24,V.int 24] r = some (.int m) ∧ 24 ≤ m ∧ m ≤ 60 := by
      have : r = 0 ∨ r = 1 ∨ r = 2 ∨ r = 3 := by omega
      rcases this with rfl | rfl | rfl | rfl
      · exact ⟨60,rfl,by decide,by decide⟩
      · exact ⟨24,rfl,by decide,by decide⟩
      · exact ⟨24,rfl,by decide,by decide⟩
      · exact ⟨24,rfl,by decide,by decide⟩
    exact ⟨ll,_,_,_,rfl,rfl,SqL.of hl6,hm,hR _ _ ⟨m,⟨_,_,_,_,_,_,rfl⟩,m1,m2,pt6,But.same ((Pc.Same.but s45).trans ((But.new hll).trans b6)) hp⟩⟩
  rintro _ H5 ⟨m,⟨v6,v7,v8,v9,v10,v11,rfl⟩,m24,m60,pt5,s45⟩
  refine seqCut (fun σ' H' => ∃ w1 : Int,(∃ v7 v8 v9 v10 v11,σ' = [some (.ref a),some (.ref p),some (.ref st),some (.ref sa),some (.int (1 + i)),some (.int m),some (.int w1),v7,v8,v9,v10,v11]) ∧ 1 ≤ w1 ∧ w1 ≤ 60 ∧ PotAt H' p ∧ Same H4 H') (fun R hR => ?_) ?_
  · refine ⟨_,rfl,_,rfl,p,m,rfl,pt5,by omega,by omega,fun r Ha r0 r1' pta ba => ⟨_,_,rfl,rfl,_,rfl,(by show 2 ≤ sizeLine; decide),fun ll hll => ?_⟩⟩
    refine ⟨_,rfl,p,8,rfl,pta.new hll,by decide,by decide,fun y Hb y0 y1 ptb bb => ⟨rfl,.inr ⟨_,rfl,?_⟩⟩⟩
    have hlp : ll ≠ p := fun z => by rw [z] at hll; exact pta.some hll
    have hl3 : Hb ll = some (.lst [.int (1 + r),.int m]) := bb ll _ hlp upd_same
    obtain ⟨hh,hv,hh0,hh1⟩ : ∃ hh : Int,atI [V.int (1 + r),V.int m] (if decide (V.int y = V.int 0) = true then (1 : Int) else 0) = some (.int hh) ∧ 1 ≤ hh ∧ hh ≤ 60 := by
      by_cases c : V.int y = V.int 0
      · exact ⟨m,by rw [decide_eq_true c,if_pos rfl]; rfl,by omega,by omega⟩
      · exact ⟨1 + r,by rw [decide_eq_false c,if_neg Bool.false_ne_true]; rfl,by omega,by omega⟩
    refine ⟨ll,_,_,_,rfl,rfl,SqL.of hl3,hv,hR _ _ ⟨hh,⟨_,_,_,_,_,rfl⟩,hh0,hh1,ptb,But.same ((Pc.Same.but s45).trans ((ba.trans (But.new hll)).trans bb)) hp⟩⟩
  rintro _ H5 ⟨w1,⟨v7,v8,v9,v10,v11,rfl⟩,w0,w60,pt5,s45⟩
  refine seqCut (fun σ' H' => ∃ h1 : Int,(∃ v8 v9 v10 v11,σ' = [some (.ref a),some (.ref p),some (.ref st),some (.ref sa),some (.int (1 + i)),some (.int m),some (.int w1),some (.int h1),v8,v9,v10,v11]) ∧ 1 ≤ h1 ∧ h1 ≤ 60 ∧ PotAt H' p ∧ Same H4 H') (fun R hR => ?_) ?_
  · refine ⟨_,rfl,_,rfl,p,m,rfl,pt5,by omega,by omega,fun r Ha r0 r1' pta ba => ⟨_,_,rfl,rfl,_,rfl,(by show 2 ≤ sizeLine; decide),fun ll hll => ?_⟩⟩
    refine ⟨_,rfl,p,8,rfl,pta.new hll,by decide,by decide,fun y Hb y0 y1 ptb bb => ⟨rfl,.inr ⟨_,rfl,?_⟩⟩⟩
    have hlp : ll ≠ p := fun z => by rw [z] at hll; exact pta.some hll
    have hl3 : Hb ll = some (.lst [.int (1 + r),.int m]) := bb ll _ hlp upd_same
    obtain ⟨hh,hv,hh0,hh1⟩ : ∃ hh : Int,atI [V.int (1 + r),V.int m] (if decide (V.int y = V.int 0) = true then (1 : Int) else 0) = some (.int hh) ∧ 1 ≤ hh ∧ hh ≤ 60 := by
      by_cases c : V.int y = V.int 0
      · exact ⟨m,by rw [decide_eq_true c,if_pos rfl]; rfl,by omega,by omega⟩
      · exact ⟨1 + r,by rw [decide_eq_false c,if_neg Bool.false_ne_true]; rfl,by omega,by omega⟩
    refine ⟨ll,_,_,_,rfl,rfl,SqL.of hl3,hv,hR _ _ ⟨hh,⟨_,_,_,_,rfl⟩,hh0,hh1,ptb,But.same ((Pc.Same.but s45).trans ((ba.trans (But.new hll)).trans bb)) hp⟩⟩
  rintro _ H6 ⟨h1,⟨v8,v9,v10,v11,rfl⟩,h0,h60,pt6,s46⟩
  obtain ⟨W,rfl⟩ : ∃ W : Nat,w1 = W := ⟨w1.toNat,by omega⟩
  obtain ⟨hh,rfl⟩ : ∃ hh : Nat,h1 = hh := ⟨h1.toNat,by omega⟩
  refine seqCut (fun σ' H' => ∃ (v1 : V) (t1 : Tr),(∃ v9 v10 v11,σ' = [some (.ref a),some (.ref p),some (.ref st),some (.ref sa),some (.int (1 + i)),some (.int m),some (.int W),some (.int hh),some v1,v9,v10,v11]) ∧ TrV H' t1 v1 ∧ okT b ks W hh t1 ∧ wt (toD t1) ≤ 611 ∧ (toD t1).depth ≤ 11 ∧ lvN t1 ≤ 31 ∧ PotAt H' p ∧ Same H4 H') (fun R hR => ?_) ?_
  · refine ⟨_,rfl,_,rfl,_,rfl,_,rfl,(by show 1 ≤ sizeLine; decide),fun lf hlf => ?_⟩
    have s7 : Same H6 (upd H6 lf (.lst [.int 30])) := Same.new hlf
    have k7 : (upd H6 lf (.lst [.int 30])) lf = some (.lst [.int 30]) := upd_same
    rw [show upd H6 lf _ = upd H6 lf (.lst [.int 30]) from rfl]
    generalize upd H6 lf (.lst [.int 30]) = HH at s7 k7 ⊢
    have s47 := s46.trans s7
    have sh7 := sh4.same s47
    refine ⟨p,st,l,lf,b,rs,ks,W,hh,30,10,rfl,sh7.t,sh7.l,ne_of_none sh4.l hp,ne_of_none (s46 _ _ sh4.l) hlf,Ne.symm (pt6.ne hlf),sh7.k,sh7.n,sh7.g,b0,by omega,by omega,by omega,by omega,k7,by decide,by decide,pt6.same s7,fun v t lt' H8 tv okt l0 l1 wtt dpt lnn lf8 pt8 b78 => ?_⟩
    refine hR _ _ ⟨v,t,⟨_,_,_,rfl⟩,tv,okt,by omega,by omega,by omega,pt8,fun c o e => b78 _ _ (ne_of_none e hp) (ne_of_none (s46 _ _ e) hlf) (s47 _ _ e)⟩
  rintro _ H7 ⟨v1,t1,⟨v9,v10,v11,rfl⟩,tv1,ok1,wt1,dep1,ln1,pt7,s47⟩
  have dp1 := dpT_le t1
  have sz1 := szT_lv t1
  obtain ⟨shp,lay⟩ := picS b ks t1 W hh
  refine seqCut (fun σ' H' => ∃ (dl : Addr),(∃ v10 v11,σ' = [some (.ref a),some (.ref p),some (.ref st),some (.ref sa),some (.int (1 + i)),some (.int m),some (.int W),some (.int hh),some v1,some (.ref dl),v10,v11]) ∧ H' dl = some (.lst ((picR b ks t1 W hh).map V.str)) ∧ Same H7 H') (fun R hR => ?_) ?_
  · exact ⟨_,rfl,_,rfl,_,rfl,_,rfl,p,st,l,b,W,hh,rs,ks,v1,_,t1,rfl,sh4.same s47,TrV.dt t1 tv1,TrD.to t1,ok1,b0,by omega,by omega,by omega,by omega,by omega,by omega,fun l8 H8 hl8 k8' s8 => hR _ _ ⟨l8,⟨_,_,rfl⟩,k8',s8⟩⟩
  rintro _ H8 ⟨dl,⟨v10,v11,rfl⟩,hdl,s78⟩
  have d8 : Dt p H8 v1 (toD t1) := (TrV.dt t1 tv1).same s78
  have s48 := s47.trans s78
  have pt8 := pt7.same s78
  refine seqCut (fun σ' H' => ∃ (fl : Addr),(∃ v11,σ' = [some (.ref a),some (.ref p),some (.ref st),some (.ref sa),some (.int (1 + i)),some (.int m),some (.int W),some (.int hh),some v1,some (.ref dl),some (.ref fl),v11]) ∧ H8 fl = none ∧ H' fl = some (.lst ((picR b ks t1 W hh).map V.str)) ∧ Same H8 H') (fun R hR => ?_) ?_
  · exact ⟨_,rfl,_,rfl,_,rfl,_,rfl,p,sa,b,W,hh,ks,v1,_,t1,rfl,⟨shopS s48 sA4,by omega,by omega,d8,TrD.to t1,ok1,by omega,by omega⟩,b0,by omega,by omega,sh.g,k8,fun l9 H9 hl9 k9 s9 => hR _ _ ⟨l9,⟨_,rfl⟩,hl9,k9,s9⟩⟩
  rintro _ H9 ⟨fl,⟨v11,rfl⟩,hfl,kf9,s89⟩
  have hdl9 := s89 _ _ hdl
  refine seqCut (fun σ' H' => (∃ v11,σ' = [some (.ref a),some (.ref p),some (.ref st),some (.ref sa),some (.int (1 + i)),some (.int m),some (.int W),some (.int hh),some v1,some (.ref dl),some (.ref fl),v11]) ∧ H9 = H') (fun R hR => ?_) ?_
  · refine ⟨_,rfl,_,_,_,_,_,rfl,(Ty.lst kf9 (K := K)).2,rfl,kit_list "list" (by simp [tyNames]),_,rfl,iteF ?_⟩
    refine ⟨_,rfl,_,rfl,.list ((picR b ks t1 W hh).map PyData.str),.list ((picR b ks t1 W hh).map PyData.str),.lst (SqL.of kf9) (datS _),.lst (SqL.of hdl9) (datS _),shp,shp,_,rfl,?_⟩
    rw [PySem.SeqAt.eqv_refl _ lay]
    exact iteF (hR _ _ ⟨⟨_,rfl⟩,rfl⟩)
  rintro _ _ ⟨⟨v11,rfl⟩,rfl⟩
  refine seqCut (fun σ' H' => (∃ v11,σ' = [some (.ref a),some (.ref p),some (.ref st),some (.ref sa),some (.int (1 + i)),some (.int m),some (.int W),some (.int hh),some v1,some (.ref dl),some (.ref fl),v11]) ∧ Same H8 H') (fun R hR => ?_) ?_
  · exact ⟨_,rfl,.inl ⟨rfl,_,SqL.of kf9⟩,fl,_,rfl,rfl,kf9,hR _ _ ⟨⟨_,rfl⟩,fun c o e => by rw [upd_ne (ne_of_none e hfl)]; exact s89 _ _ e⟩⟩
  rintro _ H10 ⟨⟨v11,rfl⟩,s810⟩
  have d10 := d8.same s810
  have pt10 := pt8.same s810
  refine seqCut (fun σ' H' => ∃ v2 : V,(σ' = [some (.ref a),some (.ref p),some (.ref st),some (.ref sa),some (.int (1 + i)),some (.int m),some (.int W),some (.int hh),some v1,some (.ref dl),some (.ref fl),some v2]) ∧ Dt p H' v2 (lsD (toD t1)) ∧ Same H10 H') (fun R hR => ?_) ?_
  · exact ⟨_,rfl,p,v1,toD t1,rfl,d10,by omega,by omega,potLst pt10,fun v' H11 hv s11 => hR _ _ ⟨v',rfl,hv,s11⟩⟩
  rintro _ H11 ⟨v2,rfl,d11,s1011⟩
  have s811 := s810.trans s1011
  have s411 := s48.trans s811
  have lw := lsD_wt (toD t1)
  refine ⟨_,rfl,_,rfl,_,rfl,_,rfl,p,sa,b,W,hh,ks,v2,_,t1,rfl,⟨shopS s411 sA4,by omega,by omega,d11,TrD.ls t1,ok1,(by rw [lw]; omega),by omega⟩,b0,by omega,by omega,sh.g,k8,fun l12 H12 hl12 k12 s12 => ?_⟩
  have hdl12 := s12 _ _ (s811 _ _ hdl)
  refine ⟨_,rfl,.list ((picR b ks t1 W hh).map PyData.str),.list ((picR b ks t1 W hh).map PyData.str),.lst (SqL.of k12) (datS _),.lst (SqL.of hdl12) (datS _),shp,shp,_,rfl,?_⟩
  rw [PySem.SeqAt.eqv_refl _ lay]
  have s1112 := s1011.trans s12
  refine iteF ⟨_,rfl,_,rfl,p,v1,toD t1,rfl,d10.same s1112,by omega,by omega,potLst (pt10.same s1112),fun v' H13 hv s13 => ?_⟩
  have ly : (lsD (toD t1)).canLay0 = true := by rw [lsD_lay]; exact toD_lay t1
  have shq : SeqAt.shaped (lsD (toD t1)) = true := by
    unfold SeqAt.shaped
    rw [ly,lsD_depth,decide_eq_true (show (toD t1).depth ≤ 64 by omega)]; rfl
  refine ⟨lsD (toD t1),lsD (toD t1),(d11.same (s12.trans s13)).dat ly,hv.dat ly,shq,shq,_,rfl,?_⟩
  rw [PySem.SeqAt.eqv_refl _ ly]
  exact iteF ⟨⟨_,_,_,_,_,_,_,_,_,rfl⟩,(s24.trans s411).trans (s12.trans s13)⟩
end
theorem len1 {α : Type} {us : List α} (h : us.length = 1) : ∃ a,us = [a] := by
  match us,h with
  | [a],_ => exact ⟨a,rfl⟩
theorem len2 {α : Type} {us : List α} (h : us.length = 2) : ∃ a b,us = [a,b] := by
  match us,h with
  | [a,b],_ => exact ⟨a,b,rfl⟩
theorem len3 {α : Type} {us : List α} (h : us.length = 3) : ∃ a b c,us = [a,b,c] := by
  match us,h with
  | [a,b,c],_ => exact ⟨a,b,c,rfl⟩
theorem len4 {α : Type} {us : List α} (h : us.length = 4) : ∃ a b c d,us = [a,b,c,d] := by
  match us,h with
  | [a,b,c,d],_ => exact ⟨a,b,c,d,rfl⟩
theorem len5 {α : Type} {us : List α} (h : us.length = 5) : ∃ a b c d e,us = [a,b,c,d,e] := by
  match us,h with
  | [a,b,c,d,e],_ => exact ⟨a,b,c,d,e,rfl⟩
theorem len6 {α : Type} {us : List α} (h : us.length = 6) : ∃ a b c d e f,us = [a,b,c,d,e,f] := by
  match us,h with
  | [a,b,c,d,e,f],_ => exact ⟨a,b,c,d,e,f,rfl⟩
theorem len7 {α : Type} {us : List α} (h : us.length = 7) : ∃ a b c d e f g,us = [a,b,c,d,e,f,g] := by
  match us,h with
  | [a,b,c,d,e,f,g],_ => exact ⟨a,b,c,d,e,f,g,rfl⟩
open PySem.W in
theorem all_mk {l : OpenLaw} {w : World} {K : Frag} {h : Heap} {mg : Str → Option Value} {fa f0 f1 f2 f3 f4 f5 f6 f7 f8 f9 f10 f11 f12 f13 f14 f15 f16 f17 f18 f19 f20 f21 f22 f23 f24 f25 f26 f27 f28 f29 f30 C fm0 fm1 fm2 fm3 fm4 xNoLying xWAYS : Addr} (X : K.In h) (G : h.Ns mainGlobals mg) (hfa : mg "law" = some (.ref fa))
    {od0 an0 : Option Addr} {sl0 : Array (Option Value)} {oc0 kV0 dc0 pm0 cd0 ct0 : Value} {od1 an1 : Option Addr} {sl1 : Array (Option Value)} {oc1 kV1 dc1 pm1 cd1 ct1 : Value} {od2 an2 : Option Addr} {sl2 : Array (Option Value)} {oc2 kV2 dc2 pm2 cd2 ct2 : Value} {od3 an3 : Option Addr} {sl3 : Array (Option Value)} {oc3 kV3 dc3 pm3 cd3 ct3 : Value} {od4 an4 : Option Addr} {sl4 : Array (Option Value)} {oc4 kV4 dc4 pm4 cd4 ct4 : Value} {od5 an5 : Option Addr} {sl5 : Array (Option Value)} {oc5 kV5 dc5 pm5 cd5 ct5 : Value} {od6 an6 : Option Addr} {sl6 : Array (Option Value)} {oc6 kV6 dc6 pm6 cd6 ct6 : Value} {od7 an7 : Option Addr} {sl7 : Array (Option Value)} {oc7 kV7 dc7 pm7 cd7 ct7 : Value} {od8 an8 : Option Addr} {sl8 : Array (Option Value)} {oc8 kV8 dc8 pm8 cd8 ct8 : Value} {od9 an9 : Option Addr} {sl9 : Array (Option Value)} {oc9 kV9 dc9 pm9 cd9 ct9 : Value} {od10 an10 : Option Addr} {sl10 : Array (Option Value)} {oc10 kV10 dc10 pm10 cd10 ct10 : Value} {od11 an11 : Option Addr} {sl11 : Array (Option Value)} {oc11 kV11 dc11 pm11 cd11 ct11 : Value} {od12 an12 : Option Addr} {sl12 : Array (Option Value)} {oc12 kV12 dc12 pm12 cd12 ct12 : Value} {od13 an13 : Option Addr} {sl13 : Array (Option Value)} {oc13 kV13 dc13 pm13 cd13 ct13 : Value} {od14 an14 : Option Addr} {sl14 : Array (Option Value)} {oc14 kV14 dc14 pm14 cd14 ct14 : Value} {od15 an15 : Option Addr} {sl15 : Array (Option Value)} {oc15 kV15 dc15 pm15 cd15 ct15 : Value} {od16 an16 : Option Addr} {sl16 : Array (Option Value)} {oc16 kV16 dc16 pm16 cd16 ct16 : Value} {od17 an17 : Option Addr} {sl17 : Array (Option Value)} {oc17 kV17 dc17 pm17 cd17 ct17 : Value} {od18 an18 : Option Addr} {sl18 : Array (Option Value)} {oc18 kV18 dc18 pm18 cd18 ct18 : Value} {od19 an19 : Option Addr} {sl19 : Array (Option Value)} {oc19 kV19 dc19 pm19 cd19 ct19 : Value} {od20 an20 : Option Addr} {sl20 : Array (Option Value)} {oc20 kV20 dc20 pm20 cd20 ct20 : Value} {od21 an21 : Option Addr} {sl21 : Array (Option Value)} {oc21 kV21 dc21 pm21 cd21 ct21 : Value} {od22 an22 : Option Addr} {sl22 : Array (Option Value)} {oc22 kV22 dc22 pm22 cd22 ct22 : Value} {od23 an23 : Option Addr} {sl23 : Array (Option Value)} {oc23 kV23 dc23 pm23 cd23 ct23 : Value} {od24 an24 : Option Addr} {sl24 : Array (Option Value)} {oc24 kV24 dc24 pm24 cd24 ct24 : Value} {od25 an25 : Option Addr} {sl25 : Array (Option Value)} {oc25 kV25 dc25 pm25 cd25 ct25 : Value} {od26 an26 : Option Addr} {sl26 : Array (Option Value)} {oc26 kV26 dc26 pm26 cd26 ct26 : Value} {od27 an27 : Option Addr} {sl27 : Array (Option Value)} {oc27 kV27 dc27 pm27 cd27 ct27 : Value} {od28 an28 : Option Addr} {sl28 : Array (Option Value)} {oc28 kV28 dc28 pm28 cd28 ct28 : Value} {od29 an29 : Option Addr} {sl29 : Array (Option Value)} {oc29 kV29 dc29 pm29 cd29 ct29 : Value} {od30 an30 : Option Addr} {sl30 : Array (Option Value)} {oc30 kV30 dc30 pm30 cd30 ct30 : Value} {odm0 anm0 : Option Addr} {slm0 : Array (Option Value)} {ocm0 kVm0 dcm0 pmm0 cdm0 ctm0 : Value} {odm1 anm1 : Option Addr} {slm1 : Array (Option Value)} {ocm1 kVm1 dcm1 pmm1 cdm1 ctm1 : Value} {odm2 anm2 : Option Addr} {slm2 : Array (Option Value)} {ocm2 kVm2 dcm2 pmm2 cdm2 ctm2 : Value} {odm3 anm3 : Option Addr} {slm3 : Array (Option Value)} {ocm3 kVm3 dcm3 pmm3 cdm3 ctm3 : Value} {odm4 anm4 : Option Addr} {slm4 : Array (Option Value)} {ocm4 kVm4 dcm4 pmm4 cdm4 ctm4 : Value} {tc0 : Tok} {tc1 : Tok} {tc2 : Tok} {tc3 : Tok} {tc4 : Tok} {tc5 : Tok} {tc6 : Tok} {tc7 : Tok} {tc8 : Tok} {tc9 : Tok} {tc10 : Tok} {tc11 : Tok} {tc12 : Tok}
    (a0 : nsIn K mainGlobals "is_whole" = some (some (.ref f0)))
    (l0 : K.lookup f0 = some ⟨oc0,od0,.func (fnOf "is_whole" "is_whole" (defArgs sWhole) (defBody sWhole) (defScope sWhole) .none kV0 dc0 pm0 an0 cd0 ct0),sl0⟩)
    (c0 : codeIn K cd0 "is_whole" = true)
    (k0 : keepIn K (.ref f0) = true)
    (a1 : nsIn K mainGlobals "is_truth" = some (some (.ref f1)))
    (l1 : K.lookup f1 = some ⟨oc1,od1,.func (fnOf "is_truth" "is_truth" (defArgs sTruth) (defBody sTruth) (defScope sTruth) .none kV1 dc1 pm1 an1 cd1 ct1),sl1⟩)
    (c1 : codeIn K cd1 "is_truth" = true)
    (k1 : keepIn K (.ref f1) = true)
    (a2 : nsIn K mainGlobals "is_row" = some (some (.ref f2)))
    (l2 : K.lookup f2 = some ⟨oc2,od2,.func (fnOf "is_row" "is_row" (defArgs sRow) (defBody sRow) (defScope sRow) .none kV2 dc2 pm2 an2 cd2 ct2),sl2⟩)
    (c2 : codeIn K cd2 "is_row" = true)
    (k2 : keepIn K (.ref f2) = true)
    (a3 : nsIn K mainGlobals "is_kind" = some (some (.ref f3)))
    (l3 : K.lookup f3 = some ⟨oc3,od3,.func (fnOf "is_kind" "is_kind" (defArgs sIsKind) (defBody sIsKind) (defScope sIsKind) .none kV3 dc3 pm3 an3 cd3 ct3),sl3⟩)
    (c3 : codeIn K cd3 "is_kind" = true)
    (k3 : keepIn K (.ref f3) = true)
    (a4 : nsIn K mainGlobals "can_lie_turned" = some (some (.ref f4)))
    (l4 : K.lookup f4 = some ⟨oc4,od4,.func (fnOf "can_lie_turned" "can_lie_turned" (defArgs sTurned) (defBody sTurned) (defScope sTurned) .none kV4 dc4 pm4 an4 cd4 ct4),sl4⟩)
    (c4 : codeIn K cd4 "can_lie_turned" = true)
    (k4 : keepIn K (.ref f4) = true)
    (a5 : nsIn K mainGlobals "check_plate" = some (some (.ref f5)))
    (l5 : K.lookup f5 = some ⟨oc5,od5,.func (fnOf "check_plate" "check_plate" (defArgs sCheckPlate) (defBody sCheckPlate) (defScope sCheckPlate) .none kV5 dc5 pm5 an5 cd5 ct5),sl5⟩)
    (c5 : codeIn K cd5 "check_plate" = true)
    (k5 : keepIn K (.ref f5) = true)
    (a6 : nsIn K mainGlobals "lies_in" = some (some (.ref f6)))
    (l6 : K.lookup f6 = some ⟨oc6,od6,.func (fnOf "lies_in" "lies_in" (defArgs sLiesIn) (defBody sLiesIn) (defScope sLiesIn) .none kV6 dc6 pm6 an6 cd6 ct6),sl6⟩)
    (c6 : codeIn K cd6 "lies_in" = true)
    (k6 : keepIn K (.ref f6) = true)
    (a7 : nsIn K mainGlobals "cut_parts" = some (some (.ref f7)))
    (l7 : K.lookup f7 = some ⟨oc7,od7,.func (fnOf "cut_parts" "cut_parts" (defArgs sCutParts) (defBody sCutParts) (defScope sCutParts) .none kV7 dc7 pm7 an7 cd7 ct7),sl7⟩)
    (c7 : codeIn K cd7 "cut_parts" = true)
    (k7 : keepIn K (.ref f7) = true)
    (a8 : nsIn K mainGlobals "begins_with" = some (some (.ref f8)))
    (l8 : K.lookup f8 = some ⟨oc8,od8,.func (fnOf "begins_with" "begins_with" (defArgs sBeginsWith) (defBody sBeginsWith) (defScope sBeginsWith) .none kV8 dc8 pm8 an8 cd8 ct8),sl8⟩)
    (c8 : codeIn K cd8 "begins_with" = true)
    (k8 : keepIn K (.ref f8) = true)
    (a9 : nsIn K mainGlobals "is_cut" = some (some (.ref f9)))
    (l9 : K.lookup f9 = some ⟨oc9,od9,.func (fnOf "is_cut" "is_cut" (defArgs sIsCut) (defBody sIsCut) (defScope sIsCut) .none kV9 dc9 pm9 an9 cd9 ct9),sl9⟩)
    (c9 : codeIn K cd9 "is_cut" = true)
    (k9 : keepIn K (.ref f9) = true)
    (a10 : nsIn K mainGlobals "is_leaf" = some (some (.ref f10)))
    (l10 : K.lookup f10 = some ⟨oc10,od10,.func (fnOf "is_leaf" "is_leaf" (defArgs sIsLeaf) (defBody sIsLeaf) (defScope sIsLeaf) .none kV10 dc10 pm10 an10 cd10 ct10),sl10⟩)
    (c10 : codeIn K cd10 "is_leaf" = true)
    (k10 : keepIn K (.ref f10) = true)
    (a11 : nsIn K mainGlobals "spots_behind" = some (some (.ref f11)))
    (l11 : K.lookup f11 = some ⟨oc11,od11,.func (fnOf "spots_behind" "spots_behind" (defArgs sSpotsBehind) (defBody sSpotsBehind) (defScope sSpotsBehind) .none kV11 dc11 pm11 an11 cd11 ct11),sl11⟩)
    (c11 : codeIn K cd11 "spots_behind" = true)
    (k11 : keepIn K (.ref f11) = true)
    (a12 : nsIn K mainGlobals "is_tree" = some (some (.ref f12)))
    (l12 : K.lookup f12 = some ⟨oc12,od12,.func (fnOf "is_tree" "is_tree" (defArgs sIsTree) (defBody sIsTree) (defScope sIsTree) .none kV12 dc12 pm12 an12 cd12 ct12),sl12⟩)
    (c12 : codeIn K cd12 "is_tree" = true)
    (k12 : keepIn K (.ref f12) = true)
    (a13 : nsIn K mainGlobals "check_tree" = some (some (.ref f13)))
    (l13 : K.lookup f13 = some ⟨oc13,od13,.func (fnOf "check_tree" "check_tree" (defArgs sCheckTree) (defBody sCheckTree) (defScope sCheckTree) .none kV13 dc13 pm13 an13 cd13 ct13),sl13⟩)
    (c13 : codeIn K cd13 "check_tree" = true)
    (k13 : keepIn K (.ref f13) = true)
    (a14 : nsIn K mainGlobals "leaves_of" = some (some (.ref f14)))
    (l14 : K.lookup f14 = some ⟨oc14,od14,.func (fnOf "leaves_of" "leaves_of" (defArgs sLeavesOf) (defBody sLeavesOf) (defScope sLeavesOf) .none kV14 dc14 pm14 an14 cd14 ct14),sl14⟩)
    (c14 : codeIn K cd14 "leaves_of" = true)
    (k14 : keepIn K (.ref f14) = true)
    (a15 : nsIn K mainGlobals "_law_pot" = some (some (.ref f15)))
    (l15 : K.lookup f15 = some ⟨oc15,od15,.func (fnOf "_law_pot" "_law_pot" (defArgs sPot) (defBody sPot) (defScope sPot) .none kV15 dc15 pm15 an15 cd15 ct15),sl15⟩)
    (c15 : codeIn K cd15 "_law_pot" = true)
    (k15 : keepIn K (.ref f15) = true)
    (a16 : nsIn K mainGlobals "_law_draw" = some (some (.ref f16)))
    (l16 : K.lookup f16 = some ⟨oc16,od16,.func (fnOf "_law_draw" "_law_draw" (defArgs sDraw) (defBody sDraw) (defScope sDraw) .none kV16 dc16 pm16 an16 cd16 ct16),sl16⟩)
    (c16 : codeIn K cd16 "_law_draw" = true)
    (k16 : keepIn K (.ref f16) = true)
    (a17 : nsIn K mainGlobals "_law_number" = some (some (.ref f17)))
    (l17 : K.lookup f17 = some ⟨oc17,od17,.func (fnOf "_law_number" "_law_number" (defArgs sNumber) (defBody sNumber) (defScope sNumber) .none kV17 dc17 pm17 an17 cd17 ct17),sl17⟩)
    (c17 : codeIn K cd17 "_law_number" = true)
    (k17 : keepIn K (.ref f17) = true)
    (a18 : nsIn K mainGlobals "_law_fitting" = some (some (.ref f18)))
    (l18 : K.lookup f18 = some ⟨oc18,od18,.func (fnOf "_law_fitting" "_law_fitting" (defArgs sFitting) (defBody sFitting) (defScope sFitting) .none kV18 dc18 pm18 an18 cd18 ct18),sl18⟩)
    (c18 : codeIn K cd18 "_law_fitting" = true)
    (k18 : keepIn K (.ref f18) = true)
    (a19 : nsIn K mainGlobals "_law_leaf" = some (some (.ref f19)))
    (l19 : K.lookup f19 = some ⟨oc19,od19,.func (fnOf "_law_leaf" "_law_leaf" (defArgs sLeaf) (defBody sLeaf) (defScope sLeaf) .none kV19 dc19 pm19 an19 cd19 ct19),sl19⟩)
    (c19 : codeIn K cd19 "_law_leaf" = true)
    (k19 : keepIn K (.ref f19) = true)
    (a20 : nsIn K mainGlobals "_law_tree" = some (some (.ref f20)))
    (l20 : K.lookup f20 = some ⟨oc20,od20,.func (fnOf "_law_tree" "_law_tree" (defArgs sTree) (defBody sTree) (defScope sTree) .none kV20 dc20 pm20 an20 cd20 ct20),sl20⟩)
    (c20 : codeIn K cd20 "_law_tree" = true)
    (k20 : keepIn K (.ref f20) = true)
    (a21 : nsIn K mainGlobals "check_sides" = some (some (.ref f21)))
    (l21 : K.lookup f21 = some ⟨oc21,od21,.func (fnOf "check_sides" "check_sides" (defArgs sCheckSides) (defBody sCheckSides) (defScope sCheckSides) .none kV21 dc21 pm21 an21 cd21 ct21),sl21⟩)
    (c21 : codeIn K cd21 "check_sides" = true)
    (k21 : keepIn K (.ref f21) = true)
    (a22 : nsIn K mainGlobals "fill" = some (some (.ref f22)))
    (l22 : K.lookup f22 = some ⟨oc22,od22,.func (fnOf "fill" "fill" (defArgs sFill) (defBody sFill) (defScope sFill) .none kV22 dc22 pm22 an22 cd22 ct22),sl22⟩)
    (c22 : codeIn K cd22 "fill" = true)
    (k22 : keepIn K (.ref f22) = true)
    (a23 : nsIn K mainGlobals "fill_leaf" = some (some (.ref f23)))
    (l23 : K.lookup f23 = some ⟨oc23,od23,.func (fnOf "fill_leaf" "fill_leaf" (defArgs sFillLeaf) (defBody sFillLeaf) (defScope sFillLeaf) .none kV23 dc23 pm23 an23 cd23 ct23),sl23⟩)
    (c23 : codeIn K cd23 "fill_leaf" = true)
    (k23 : keepIn K (.ref f23) = true)
    (a24 : nsIn K mainGlobals "picture" = some (some (.ref f24)))
    (l24 : K.lookup f24 = some ⟨oc24,od24,.func (fnOf "picture" "picture" (defArgs sPicture) (defBody sPicture) (defScope sPicture) .none kV24 dc24 pm24 an24 cd24 ct24),sl24⟩)
    (c24 : codeIn K cd24 "picture" = true)
    (k24 : keepIn K (.ref f24) = true)
    (a25 : nsIn K mainGlobals "_law_small" = some (some (.ref f25)))
    (l25 : K.lookup f25 = some ⟨oc25,od25,.func (fnOf "_law_small" "_law_small" (defArgs sSmall) (defBody sSmall) (defScope sSmall) .none kV25 dc25 pm25 an25 cd25 ct25),sl25⟩)
    (c25 : codeIn K cd25 "_law_small" = true)
    (k25 : keepIn K (.ref f25) = true)
    (a26 : nsIn K mainGlobals "_law_box" = some (some (.ref f26)))
    (l26 : K.lookup f26 = some ⟨oc26,od26,.func (fnOf "_law_box" "_law_box" (defArgs sBox) (defBody sBox) (defScope sBox) .none kV26 dc26 pm26 an26 cd26 ct26),sl26⟩)
    (c26 : codeIn K cd26 "_law_box" = true)
    (k26 : keepIn K (.ref f26) = true)
    (a27 : nsIn K mainGlobals "_law_painted" = some (some (.ref f27)))
    (l27 : K.lookup f27 = some ⟨oc27,od27,.func (fnOf "_law_painted" "_law_painted" (defArgs sPainted) (defBody sPainted) (defScope sPainted) .none kV27 dc27 pm27 an27 cd27 ct27),sl27⟩)
    (c27 : codeIn K cd27 "_law_painted" = true)
    (k27 : keepIn K (.ref f27) = true)
    (a28 : nsIn K mainGlobals "_law_rows" = some (some (.ref f28)))
    (l28 : K.lookup f28 = some ⟨oc28,od28,.func (fnOf "_law_rows" "_law_rows" (defArgs sRows) (defBody sRows) (defScope sRows) .none kV28 dc28 pm28 an28 cd28 ct28),sl28⟩)
    (c28 : codeIn K cd28 "_law_rows" = true)
    (k28 : keepIn K (.ref f28) = true)
    (a29 : nsIn K mainGlobals "_law_listed" = some (some (.ref f29)))
    (l29 : K.lookup f29 = some ⟨oc29,od29,.func (fnOf "_law_listed" "_law_listed" (defArgs sListed) (defBody sListed) (defScope sListed) .none kV29 dc29 pm29 an29 cd29 ct29),sl29⟩)
    (c29 : codeIn K cd29 "_law_listed" = true)
    (k29 : keepIn K (.ref f29) = true)
    (a30 : nsIn K mainGlobals "law" = some (some (.ref f30)))
    (l30 : K.lookup f30 = some ⟨oc30,od30,.func (fnOf "law" "law" (defArgs sLaw) (defBody sLaw) (defScope sLaw) .none kV30 dc30 pm30 an30 cd30 ct30),sl30⟩)
    (c30 : codeIn K cd30 "law" = true)
    (k30 : keepIn K (.ref f30) = true)
    (aC : nsIn K mainGlobals "Shop" = some (some (.ref C)))
    (am0 : findIn K (.ref C) "__init__" = some (some (.ref fm0)))
    (im0 : isFn K (.ref fm0) = true)
    (lm0 : K.lookup fm0 = some ⟨ocm0,odm0,.func (fnOf "__init__" "Shop.__init__" (defArgs sShopInit) (defBody sShopInit) (defScope sShopInit) .none kVm0 dcm0 pmm0 anm0 cdm0 ctm0),slm0⟩)
    (cm0 : codeIn K cdm0 "Shop.__init__" = true)
    (km0 : keepIn K (.ref fm0) = true)
    (am1 : findIn K (.ref C) "blade" = some (some (.ref fm1)))
    (im1 : isFn K (.ref fm1) = true)
    (lm1 : K.lookup fm1 = some ⟨ocm1,odm1,.func (fnOf "blade" "Shop.blade" (defArgs sShopBlade) (defBody sShopBlade) (defScope sShopBlade) .none kVm1 dcm1 pmm1 anm1 cdm1 ctm1),slm1⟩)
    (cm1 : codeIn K cdm1 "Shop.blade" = true)
    (km1 : keepIn K (.ref fm1) = true)
    (am2 : findIn K (.ref C) "kinds" = some (some (.ref fm2)))
    (im2 : isFn K (.ref fm2) = true)
    (lm2 : K.lookup fm2 = some ⟨ocm2,odm2,.func (fnOf "kinds" "Shop.kinds" (defArgs sShopKinds) (defBody sShopKinds) (defScope sShopKinds) .none kVm2 dcm2 pmm2 anm2 cdm2 ctm2),slm2⟩)
    (cm2 : codeIn K cdm2 "Shop.kinds" = true)
    (km2 : keepIn K (.ref fm2) = true)
    (am3 : findIn K (.ref C) "is_lying" = some (some (.ref fm3)))
    (im3 : isFn K (.ref fm3) = true)
    (lm3 : K.lookup fm3 = some ⟨ocm3,odm3,.func (fnOf "is_lying" "Shop.is_lying" (defArgs sShopIsLying) (defBody sShopIsLying) (defScope sShopIsLying) .none kVm3 dcm3 pmm3 anm3 cdm3 ctm3),slm3⟩)
    (cm3 : codeIn K cdm3 "Shop.is_lying" = true)
    (km3 : keepIn K (.ref fm3) = true)
    (am4 : findIn K (.ref C) "sides" = some (some (.ref fm4)))
    (im4 : isFn K (.ref fm4) = true)
    (lm4 : K.lookup fm4 = some ⟨ocm4,odm4,.func (fnOf "sides" "Shop.sides" (defArgs sShopSides) (defBody sShopSides) (defScope sShopSides) .none kVm4 dcm4 pmm4 anm4 cdm4 ctm4),slm4⟩)
    (cm4 : codeIn K cdm4 "Shop.sides" = true)
    (km4 : keepIn K (.ref fm4) = true)
    (pg : plainGet K C Str.empty = true)
    (hd : hasDictIn K C = true)
    (po : plainOver K C = true)
    (sa : findIn K (.ref C) "__setattr__" = some (some (.builtin "object.__setattr__")))
    (mk : makesIn K C = true)
    (kc : keepIn K (.ref C) = true)
    (n0 : findIn K (.ref C) "blade_width" = some none)
    (n1 : findIn K (.ref C) "kind_rows" = some none)
    (eNoLying : nsIn K mainGlobals "NoLying" = some (some (.ref xNoLying)))
    (eWAYS : nsIn K mainGlobals "WAYS" = some (some (.ref xWAYS)))
    (cNoLying : excIn K xNoLying L2.bmVE "ValueError.__new__" = true)
    (lWAYS : ∃ (o : Obj) (its : Array Value) (n : Nat),K.lookup xWAYS = some o ∧ o.cls = .type "tuple" ∧ o.data = .seq its n ∧ its.size ≤ sizeLine ∧ Vals [.str "down",.str "across"] its.toList)
    (z0 : nsIn K mainGlobals "isinstance" = some none)
    (z1 : nsIn K mainGlobals "int" = some none)
    (z2 : nsIn K mainGlobals "bool" = some none)
    (z3 : nsIn K mainGlobals "list" = some none)
    (z4 : nsIn K mainGlobals "tuple" = some none)
    (z5 : nsIn K mainGlobals "len" = some none)
    (z6 : nsIn K mainGlobals "range" = some none)
    (z7 : nsIn K mainGlobals "max" = some none)
    (z8 : nsIn K mainGlobals "min" = some none)
    (z9 : nsIn K mainGlobals "abs" = some none)
    (z10 : nsIn K mainGlobals "divmod" = some none)
    (z11 : nsIn K mainGlobals "sum" = some none)
    (z12 : nsIn K mainGlobals "sorted" = some none)
    (z13 : nsIn K mainGlobals "all" = some none)
    (z14 : nsIn K mainGlobals "repr" = some none)
    (z15 : nsIn K mainGlobals "zip" = some none)
    (z16 : nsIn K mainGlobals "enumerate" = some none)
    (z17 : nsIn K mainGlobals "str" = some none)
    (z18 : nsIn K mainGlobals "reversed" = some none)
    (uc0 : nsIn K mainGlobals "MOST_KINDS" = some (some (.int 8 tc0)))
    (uc1 : nsIn K mainGlobals "THINGS_OF_A_KIND" = some (some (.int 5 tc1)))
    (uc2 : nsIn K mainGlobals "DOWN" = some (some (.str "down" tc2)))
    (uc3 : nsIn K mainGlobals "REST" = some (some (.str "rest" tc3)))
    (uc4 : nsIn K mainGlobals "PIECE" = some (some (.str "piece" tc4)))
    (uc5 : nsIn K mainGlobals "THINGS_OF_A_REST" = some (some (.int 1 tc5)))
    (uc6 : nsIn K mainGlobals "THINGS_OF_A_PIECE" = some (some (.int 5 tc6)))
    (uc7 : nsIn K mainGlobals "THINGS_OF_A_CUT" = some (some (.int 4 tc7)))
    (uc8 : nsIn K mainGlobals "LETTERS" = some (some (.str "abcdefgh" tc8)))
    (uc9 : nsIn K mainGlobals "REST_SIGN" = some (some (.str "." tc9)))
    (uc10 : nsIn K mainGlobals "MARGIN_SIGN" = some (some (.str "," tc10)))
    (uc11 : nsIn K mainGlobals "BLADE_SIGN" = some (some (.str "+" tc11)))
    (uc12 : nsIn K mainGlobals "MOST_SIDE" = some (some (.int 60 tc12))) :
    ∃ fd : FuncData,(∀ (s : Shared) (v : Value),BindsTo s fd ⟨[v],[]⟩ [("_law_script",v)]) ∧ ∀ base : Heap,K.In base → base.Ns mainGlobals mg → FnOk l.prog w K mg base CX0 15 fa fd ["_law_script"] (spLaw K) := by
  have e := hfa.symm.trans (mg_of X G a30)
  cases e
  have F0 := fun_mk (st := sWhole) l0 c0 k0
  have b0 := F0.binds (ps := ["thing","least"]) fun _ _ _ _ _ _ us hl => by obtain ⟨_,_,rfl⟩ := len2 hl; rfl
  have F1 := fun_mk (st := sTruth) l1 c1 k1
  have b1 := F1.binds (ps := ["thing"]) fun _ _ _ _ _ _ us hl => by obtain ⟨_,rfl⟩ := len1 hl; rfl
  have F2 := fun_mk (st := sRow) l2 c2 k2
  have b2 := F2.binds (ps := ["thing"]) fun _ _ _ _ _ _ us hl => by obtain ⟨_,rfl⟩ := len1 hl; rfl
  have F3 := fun_mk (st := sIsKind) l3 c3 k3
  have b3 := F3.binds (ps := ["thing"]) fun _ _ _ _ _ _ us hl => by obtain ⟨_,rfl⟩ := len1 hl; rfl
  have F4 := fun_mk (st := sTurned) l4 c4 k4
  have b4 := F4.binds (ps := ["kind"]) fun _ _ _ _ _ _ us hl => by obtain ⟨_,rfl⟩ := len1 hl; rfl
  have F5 := fun_mk (st := sCheckPlate) l5 c5 k5
  have b5 := F5.binds (ps := ["wide","high"]) fun _ _ _ _ _ _ us hl => by obtain ⟨_,_,rfl⟩ := len2 hl; rfl
  have F6 := fun_mk (st := sLiesIn) l6 c6 k6
  have b6 := F6.binds (ps := ["shop","wide","high","kind","turned","x","y"]) fun _ _ _ _ _ _ us hl => by obtain ⟨_,_,_,_,_,_,_,rfl⟩ := len7 hl; rfl
  have F7 := fun_mk (st := sCutParts) l7 c7 k7
  have b7 := F7.binds (ps := ["blade","part","way","p"]) fun _ _ _ _ _ _ us hl => by obtain ⟨_,_,_,_,rfl⟩ := len4 hl; rfl
  have F8 := fun_mk (st := sBeginsWith) l8 c8 k8
  have b8 := F8.binds (ps := ["thing","word","many"]) fun _ _ _ _ _ _ us hl => by obtain ⟨_,_,_,rfl⟩ := len3 hl; rfl
  have F9 := fun_mk (st := sIsCut) l9 c9 k9
  have b9 := F9.binds (ps := ["blade","spot"]) fun _ _ _ _ _ _ us hl => by obtain ⟨_,_,rfl⟩ := len2 hl; rfl
  have F10 := fun_mk (st := sIsLeaf) l10 c10 k10
  have b10 := F10.binds (ps := ["shop","spot"]) fun _ _ _ _ _ _ us hl => by obtain ⟨_,_,rfl⟩ := len2 hl; rfl
  have F11 := fun_mk (st := sSpotsBehind) l11 c11 k11
  have b11 := F11.binds (ps := ["blade","spot"]) fun _ _ _ _ _ _ us hl => by obtain ⟨_,_,rfl⟩ := len2 hl; rfl
  have F12 := fun_mk (st := sIsTree) l12 c12 k12
  have b12 := F12.binds (ps := ["shop","wide","high","thing"]) fun _ _ _ _ _ _ us hl => by obtain ⟨_,_,_,_,rfl⟩ := len4 hl; rfl
  have F13 := fun_mk (st := sCheckTree) l13 c13 k13
  have b13 := F13.binds (ps := ["shop","wide","high","thing"]) fun _ _ _ _ _ _ us hl => by obtain ⟨_,_,_,_,rfl⟩ := len4 hl; rfl
  have F14 := fun_mk (st := sLeavesOf) l14 c14 k14
  have b14 := F14.binds (ps := ["shop","wide","high","tree"]) fun _ _ _ _ _ _ us hl => by obtain ⟨_,_,_,_,rfl⟩ := len4 hl; rfl
  have F15 := fun_mk (st := sPot) l15 c15 k15
  have b15 := F15.binds (ps := ["_law_script","_law_place"]) fun _ _ _ _ _ _ us hl => by obtain ⟨_,_,rfl⟩ := len2 hl; rfl
  have F16 := fun_mk (st := sDraw) l16 c16 k16
  have b16 := F16.binds (ps := ["_law_pot_here","_law_many"]) fun _ _ _ _ _ _ us hl => by obtain ⟨_,_,rfl⟩ := len2 hl; rfl
  have F17 := fun_mk (st := sNumber) l17 c17 k17
  have b17 := F17.binds (ps := ["_law_pot_here","_law_least"]) fun _ _ _ _ _ _ us hl => by obtain ⟨_,_,rfl⟩ := len2 hl; rfl
  have F18 := fun_mk (st := sFitting) l18 c18 k18
  have b18 := F18.binds (ps := ["_law_kinds","_law_wide","_law_high"]) fun _ _ _ _ _ _ us hl => by obtain ⟨_,_,_,rfl⟩ := len3 hl; rfl
  have F19 := fun_mk (st := sLeaf) l19 c19 k19
  have b19 := F19.binds (ps := ["_law_pot_here","_law_kinds","_law_wide","_law_high"]) fun _ _ _ _ _ _ us hl => by obtain ⟨_,_,_,_,rfl⟩ := len4 hl; rfl
  have F20 := fun_mk (st := sTree) l20 c20 k20
  have b20 := F20.binds (ps := ["_law_pot_here","_law_shop","_law_wide","_law_high","_law_left","_law_deep"]) fun _ _ _ _ _ _ us hl => by obtain ⟨_,_,_,_,_,_,rfl⟩ := len6 hl; rfl
  have F21 := fun_mk (st := sCheckSides) l21 c21 k21
  have b21 := F21.binds (ps := ["wide","high","most"]) fun _ _ _ _ _ _ us hl => by obtain ⟨_,_,_,rfl⟩ := len3 hl; rfl
  have F22 := fun_mk (st := sFill) l22 c22 k22
  have b22 := F22.binds (ps := ["rows","corner","sides","sign"]) fun _ _ _ _ _ _ us hl => by obtain ⟨_,_,_,_,rfl⟩ := len4 hl; rfl
  have F23 := fun_mk (st := sFillLeaf) l23 c23 k23
  have b23 := F23.binds (ps := ["shop","rows","spot"]) fun _ _ _ _ _ _ us hl => by obtain ⟨_,_,_,rfl⟩ := len3 hl; rfl
  have F24 := fun_mk (st := sPicture) l24 c24 k24
  have b24 := F24.binds (ps := ["shop","wide","high","tree"]) fun _ _ _ _ _ _ us hl => by obtain ⟨_,_,_,_,rfl⟩ := len4 hl; rfl
  have F25 := fun_mk (st := sSmall) l25 c25 k25
  have b25 := F25.binds (ps := ["_law_pot_here","_law_most"]) fun _ _ _ _ _ _ us hl => by obtain ⟨_,_,rfl⟩ := len2 hl; rfl
  have F26 := fun_mk (st := sBox) l26 c26 k26
  have b26 := F26.binds (ps := ["_law_cells","_law_x","_law_y","_law_wide","_law_high","_law_sign"]) fun _ _ _ _ _ _ us hl => by obtain ⟨_,_,_,_,_,_,rfl⟩ := len6 hl; rfl
  have F27 := fun_mk (st := sPainted) l27 c27 k27
  have b27 := F27.binds (ps := ["_law_told","_law_cells","_law_x","_law_y","_law_wide","_law_high","_law_tree_here"]) fun _ _ _ _ _ _ us hl => by obtain ⟨_,_,_,_,_,_,_,rfl⟩ := len7 hl; rfl
  have F28 := fun_mk (st := sRows) l28 c28 k28
  have b28 := F28.binds (ps := ["_law_told","_law_wide","_law_high","_law_tree_here"]) fun _ _ _ _ _ _ us hl => by obtain ⟨_,_,_,_,rfl⟩ := len4 hl; rfl
  have F29 := fun_mk (st := sListed) l29 c29 k29
  have b29 := F29.binds (ps := ["_law_thing"]) fun _ _ _ _ _ _ us hl => by obtain ⟨_,rfl⟩ := len1 hl; rfl
  have F30 := fun_mk (st := sLaw) l30 c30 k30
  have b30 := F30.binds (ps := ["_law_script"]) fun _ _ _ _ _ _ us hl => by obtain ⟨_,rfl⟩ := len1 hl; rfl
  have Fm0 := fun_mk (st := sShopInit) lm0 cm0 km0
  have bm0 := Fm0.binds (ps := ["self","blade","kinds"]) fun _ _ _ _ _ _ us hl => by obtain ⟨_,_,_,rfl⟩ := len3 hl; rfl
  have Fm1 := fun_mk (st := sShopBlade) lm1 cm1 km1
  have bm1 := Fm1.binds (ps := ["self"]) fun _ _ _ _ _ _ us hl => by obtain ⟨_,rfl⟩ := len1 hl; rfl
  have Fm2 := fun_mk (st := sShopKinds) lm2 cm2 km2
  have bm2 := Fm2.binds (ps := ["self"]) fun _ _ _ _ _ _ us hl => by obtain ⟨_,rfl⟩ := len1 hl; rfl
  have Fm3 := fun_mk (st := sShopIsLying) lm3 cm3 km3
  have bm3 := Fm3.binds (ps := ["self","kind","turned"]) fun _ _ _ _ _ _ us hl => by obtain ⟨_,_,_,rfl⟩ := len3 hl; rfl
  have Fm4 := fun_mk (st := sShopSides) lm4 cm4 km4
  have bm4 := Fm4.binds (ps := ["self","kind","turned"]) fun _ _ _ _ _ _ us hl => by obtain ⟨_,_,_,rfl⟩ := len3 hl; rfl
  have y0 := mg_none_of X G z0
  have y1 := mg_none_of X G z1
  have y2 := mg_none_of X G z2
  have y3 := mg_none_of X G z3
  have y4 := mg_none_of X G z4
  have y5 := mg_none_of X G z5
  have y6 := mg_none_of X G z6
  have y7 := mg_none_of X G z7
  have y8 := mg_none_of X G z8
  have y9 := mg_none_of X G z9
  have y10 := mg_none_of X G z10
  have y11 := mg_none_of X G z11
  have y12 := mg_none_of X G z12
  have y13 := mg_none_of X G z13
  have y14 := mg_none_of X G z14
  have y15 := mg_none_of X G z15
  have y16 := mg_none_of X G z16
  have y17 := mg_none_of X G z17
  have y18 := mg_none_of X G z18
  have gNoLying := mg_of X G eNoLying
  have gWAYS := mg_of X G eWAYS
  have u0 := mg_of X G uc0
  have u1 := mg_of X G uc1
  have u2 := mg_of X G uc2
  have u3 := mg_of X G uc3
  have u4 := mg_of X G uc4
  have u5 := mg_of X G uc5
  have u6 := mg_of X G uc6
  have u7 := mg_of X G uc7
  have u8 := mg_of X G uc8
  have u9 := mg_of X G uc9
  have u10 := mg_of X G uc10
  have u11 := mg_of X G uc11
  have u12 := mg_of X G uc12
  have q0 := mg_of X G a0
  have q1 := mg_of X G a1
  have q2 := mg_of X G a2
  have q3 := mg_of X G a3
  have q4 := mg_of X G a4
  have q5 := mg_of X G a5
  have q6 := mg_of X G a6
  have q7 := mg_of X G a7
  have q8 := mg_of X G a8
  have q9 := mg_of X G a9
  have q10 := mg_of X G a10
  have q11 := mg_of X G a11
  have q12 := mg_of X G a12
  have q13 := mg_of X G a13
  have q14 := mg_of X G a14
  have q15 := mg_of X G a15
  have q16 := mg_of X G a16
  have q17 := mg_of X G a17
  have q18 := mg_of X G a18
  have q19 := mg_of X G a19
  have q20 := mg_of X G a20
  have q21 := mg_of X G a21
  have q22 := mg_of X G a22
  have q23 := mg_of X G a23
  have q24 := mg_of X G a24
  have q25 := mg_of X G a25
  have q26 := mg_of X G a26
  have q27 := mg_of X G a27
  have q28 := mg_of X G a28
  have q29 := mg_of X G a29
  have q30 := mg_of X G a30
  have qC := mg_of X G aC
  refine ⟨fnOf "law" "law" (defArgs sLaw) (defBody sLaw) (defScope sLaw) .none kV30 dc30 pm30 an30 cd30 ct30,fun s v => .of_eq rfl,fun base _ _ => ?_⟩
  have B : Blt mg := ⟨y0,y1,y2,y3,y4,y5,y6,y7,y8,y9,y10,y11,y12,y13,y14,y15,y16,⟨_,u0⟩,⟨_,u1⟩⟩
  have T : ShopTxt K C := ⟨⟨pg,hd,po,sa⟩,n0,n1⟩
  have Z : TrC K mg xWAYS := ⟨⟨_,u2⟩,⟨_,u3⟩,⟨_,u4⟩,⟨_,u5⟩,⟨_,u6⟩,⟨_,u7⟩,gWAYS,fun H => .inr lWAYS⟩
  have D0 : Dn l.prog w K mg base "is_whole" ["thing","least"] 1 (spWhole K) := ⟨_,_,ok_whole F0 B,b0,k0,q0⟩
  have D1 : Dn l.prog w K mg base "is_truth" ["thing"] 1 (spTruth K) := ⟨_,_,ok_truth F1 B,b1,k1,q1⟩
  have D2 : Dn l.prog w K mg base "is_row" ["thing"] 1 (spRow K) := ⟨_,_,ok_row F2 B,b2,k2,q2⟩
  have D3 : Dn l.prog w K mg base "is_kind" ["thing"] 2 (spIsKind K) := ⟨_,_,ok_iskind F3 B D0 D1 D2,b3,k3,q3⟩
  have D4 : Dn l.prog w K mg base "can_lie_turned" ["kind"] 1 (spTurned K) := ⟨_,_,ok_turned F4,b4,k4,q4⟩
  have MB : Mn l.prog w K mg base C "blade" ["self"] 1 (spBlade C) := ⟨_,_,ok_blade Fm1 T,bm1,⟨am1,im1,km1⟩⟩
  have MK : Mn l.prog w K mg base C "kinds" ["self"] 1 (spKinds C) := ⟨_,_,ok_kinds Fm2 T y3,bm2,⟨am2,im2,km2⟩⟩
  have MI : Mn l.prog w K mg base C "is_lying" ["self","kind","turned"] 2 (spIsLying K C) := ⟨_,_,ok_islying Fm3 B T D0 D1 D4,bm3,⟨am3,im3,km3⟩⟩
  have MS : MnX l.prog w K mg base C "sides" ["self","kind","turned"] 3 (spSides K C xNoLying) := ⟨_,_,ok_sides Fm4 T MI gNoLying cNoLying,bm4,⟨am4,im4,km4⟩⟩
  have DS : Kn l.prog w K mg base "Shop" C ["self","blade","kinds"] 3 (spInit C) := ⟨_,_,⟨mk,am0,im0,kc⟩,ok_init Fm0 B T D0 D2 D3,bm0,qC⟩
  have PC : PiC mg := ⟨⟨_,u8⟩,⟨_,u9⟩,⟨_,u10⟩,⟨_,u11⟩,⟨_,u12⟩,y18⟩
  have D5 : Dn l.prog w K mg base "check_plate" ["wide","high"] 2 (spCP) := ⟨_,_,ok_cplate F5 D0,b5,k5,q5⟩
  have D6 : Dn l.prog w K mg base "lies_in" ["shop","wide","high","kind","turned","x","y"] 4 (spLiesG K C) := ⟨_,_,ok_liesG F6 T D0 MI MS,b6,k6,q6⟩
  have D7 : Dn l.prog w K mg base "cut_parts" ["blade","part","way","p"] 1 (spParts2) := ⟨_,_,ok_parts2 F7 Z,b7,k7,q7⟩
  have D8 : Dn l.prog w K mg base "begins_with" ["thing","word","many"] 2 (spBegins) := ⟨_,_,ok_begins F8 B y17 D2,b8,k8,q8⟩
  have D9 : Dn l.prog w K mg base "is_cut" ["blade","spot"] 3 (spCut) := ⟨_,_,ok_cut F9 Z D8 D0,b9,k9,q9⟩
  have D10 : Dn l.prog w K mg base "is_leaf" ["shop","spot"] 5 (spLeaf C) := ⟨_,_,ok_leaf F10 Z D8 D6,b10,k10,q10⟩
  have D11 : Dn l.prog w K mg base "spots_behind" ["blade","spot"] 2 (spBehind) := ⟨_,_,ok_behind F11 Z D7,b11,k11,q11⟩
  have D12 : Dn l.prog w K mg base "is_tree" ["shop","wide","high","thing"] 6 (spIsTree C) := ⟨_,_,ok_istree F12 T MB D5 D9 D10 D11,b12,k12,q12⟩
  have D13 : Dn l.prog w K mg base "check_tree" ["shop","wide","high","thing"] 7 (spCheckT C) := ⟨_,_,ok_checkt F13 D12,b13,k13,q13⟩
  have D14 : Dn l.prog w K mg base "leaves_of" ["shop","wide","high","tree"] 3 (spLeaves C) := ⟨_,_,ok_leaves F14 T Z MB D11,b14,k14,q14⟩
  have D15 : Dn l.prog w K mg base "_law_pot" ["_law_script","_law_place"] 1 (spPot K) := ⟨_,_,ok_pot F15 B.len B.int,b15,k15,q15⟩
  have D16 : Dn l.prog w K mg base "_law_draw" ["_law_pot_here","_law_many"] 1 (spDraw) := ⟨_,_,ok_draw F16,b16,k16,q16⟩
  have D17 : Dn l.prog w K mg base "_law_number" ["_law_pot_here","_law_least"] 2 (spNumber) := ⟨_,_,ok_number F17 D16,b17,k17,q17⟩
  have D18 : Dn l.prog w K mg base "_law_fitting" ["_law_kinds","_law_wide","_law_high"] 1 (spFitQ) := ⟨_,_,ok_fitq F18 B,b18,k18,q18⟩
  have D19 : Dn l.prog w K mg base "_law_leaf" ["_law_pot_here","_law_kinds","_law_wide","_law_high"] 2 (spLeafL) := ⟨_,_,ok_leafl F19 B D16 D18,b19,k19,q19⟩
  have D20 : Dn l.prog w K mg base "_law_tree" ["_law_pot_here","_law_shop","_law_wide","_law_high","_law_left","_law_deep"] 14 (spTreeL 11) := ⟨_,_,ok_treeN F20 B D16 D19 (fun n h => ⟨_,_,h,b20,k20,q20⟩) 11,b20,k20,q20⟩
  have D21 : Dn l.prog w K mg base "check_sides" ["wide","high","most"] 1 (spCS) := ⟨_,_,ok_csides F21,b21,k21,q21⟩
  have D22 : Dn l.prog w K mg base "fill" ["rows","corner","sides","sign"] 1 (spFill) := ⟨_,_,ok_fill F22 B,b22,k22,q22⟩
  have D23 : Dn l.prog w K mg base "fill_leaf" ["shop","rows","spot"] 4 (spFillLeaf C) := ⟨_,_,ok_fillleaf F23 B T Z PC D22 MS,b23,k23,q23⟩
  have D24 : Dn l.prog w K mg base "picture" ["shop","wide","high","tree"] 8 (spPicture C) := ⟨_,_,ok_picture F24 B PC D5 D21 D13 D14 D23,b24,k24,q24⟩
  have D25 : Dn l.prog w K mg base "_law_small" ["_law_pot_here","_law_most"] 3 (spSmallM) := ⟨_,_,ok_smallm F25 B D16 D17,b25,k25,q25⟩
  have D26 : Dn l.prog w K mg base "_law_box" ["_law_cells","_law_x","_law_y","_law_wide","_law_high","_law_sign"] 1 (spBox) := ⟨_,_,ok_box F26 B,b26,k26,q26⟩
  have D27 : Dn l.prog w K mg base "_law_painted" ["_law_told","_law_cells","_law_x","_law_y","_law_wide","_law_high","_law_tree_here"] 13 (spPaintL 11) := ⟨_,_,ok_paintlN F27 B D26 (fun n h => ⟨_,_,h,b27,k27,q27⟩) 11,b27,k27,q27⟩
  have D28 : Dn l.prog w K mg base "_law_rows" ["_law_told","_law_wide","_law_high","_law_tree_here"] 14 (spRowsL) := ⟨_,_,ok_rowsl F28 B D27,b28,k28,q28⟩
  have D29 : Dn l.prog w K mg base "_law_listed" ["_law_thing"] 13 (spListed 12) := ⟨_,_,ok_listedN F29 B (fun n h => ⟨_,_,h,b29,k29,q29⟩) 12,b29,k29,q29⟩
  exact ok_law F30 B D15 D16 D25 D20 D29 D28 D24 DS
theorem walk {l : PySem.W.OpenLaw} {q : Program} {loose : List Str} {XP : (Str → Option Value) → Heap → Prop} {YP : World → Heap → Prop} {d : DefRec} {K : Params → PySem.W.Frag} (hn : l.most = some 63) (hdf : d.params.defaults = [])
    (hY : ∀ (w : World) (h : Heap),YP w h → (K w.params).In h)
    (F : ∀ (w : World) (mg : Str → Option Value) (fa : Addr) (h : Heap),(K w.params).In h → h.Ns mainGlobals mg → mg d.name = some (.ref fa) →
      ∃ fd : FuncData,(∀ (s : Shared) (u : Value),BindsTo s fd ⟨[u],[]⟩ [("_law_script",u)]) ∧ ∀ base : Heap,(K w.params).In base → base.Ns mainGlobals mg → FnOk l.prog w (K w.params) mg base CX0 15 fa fd ["_law_script"] (spLaw (K w.params))) :
    PySem.W.WalkO q loose XP YP l.row.toRowW d [] (fun f vs => PySem.call f vs) :=
  L2.walk_of (n := 63) (k := 15) (x := "_law_script") (CX := fun _ => CX0) (sp := fun w => spLaw (K w.params)) hn (by decide) hdf ⟨rfl,by decide,by decide,rfl⟩ hY F (fun _ _ a ns hl _ hS => ⟨a,ns,rfl,hS,hl,fun _ => rfl⟩) fun _ _ _ _ _ z => z
end Pc
namespace Pc
open PySem L2
section
open PySem.W
noncomputable def kE (P : Params) (n : Str) (t : Nat) (v : Value) : DictEntry := ⟨PyData.keyHash P n,.str n t,v⟩
noncomputable def kO3 (P : Params) : Obj := ⟨(.type "dict"),none,(.dict #[kE P "__name__" 165 (.str "law_platecuts_k91_whole_pictures" 658),kE P "__doc__" 166 .none,kE P "__package__" 167 .none,kE P "__loader__" 168 (.builtin "__main__.__loader__#opaque"),kE P "__spec__" 169 .none,kE P "__annotations__" 170 (.ref 6),kE P "__builtins__" 171 (.ref 4),kE P "__file__" 173 (.str "/claim/cut.py" 172),kE P "__cached__" 174 .none,kE P "_wall" 193 (.ref 21),kE P "PlateError" 213 (.ref 31),kE P "NoBlade" 229 (.ref 44),kE P "NoKinds" 245 (.ref 56),kE P "NoKind" 261 (.ref 68),kE P "NoLying" 277 (.ref 80),kE P "NoPlate" 293 (.ref 92),kE P "NoTree" 309 (.ref 104),kE P "TooLarge" 325 (.ref 116),kE P "is_whole" 335 (.ref 125),kE P "is_truth" 342 (.ref 132),kE P "is_row" 349 (.ref 139),kE P "check_plate" 357 (.ref 146),kE P "check_sides" 366 (.ref 153),kE P "DOWN" 370 (.str "down" 369),kE P "ACROSS" 372 (.str "across" 371),kE P "WAYS" 373 (.ref 154),kE P "lies_in" 388 (.ref 161),kE P "cut_parts" 400 (.ref 168),kE P "REST" 404 (.str "rest" 403),kE P "PIECE" 406 (.str "piece" 405),kE P "THINGS_OF_A_REST" 408 (.int (1) 407),kE P "THINGS_OF_A_PIECE" 410 (.int (5) 409),kE P "THINGS_OF_A_CUT" 412 (.int (4) 411),kE P "begins_with" 421 (.ref 175),kE P "is_cut" 432 (.ref 182),kE P "is_leaf" 445 (.ref 189),kE P "spots_behind" 469 (.ref 196),kE P "is_tree" 482 (.ref 203),kE P "check_tree" 492 (.ref 210),kE P "leaves_of" 505 (.ref 217),kE P "MOST_SIDE" 509 (.int (60) 508),kE P "LETTERS" 511 (.str "abcdefgh" 510),kE P "REST_SIGN" 513 (.str "." 512),kE P "MARGIN_SIGN" 515 (.str "," 514),kE P "BLADE_SIGN" 517 (.str "+" 516),kE P "fill" 533 (.ref 224),kE P "fill_leaf" 552 (.ref 231),kE P "picture" 558 (.ref 236),kE P "MOST_KINDS" 562 (.int (8) 561),kE P "THINGS_OF_A_KIND" 564 (.int (5) 563),kE P "is_kind" 576 (.ref 243),kE P "can_lie_turned" 583 (.ref 250),kE P "Shop" 657 (.ref 305),kE P "_law_pot" 668 (.ref 316),kE P "_law_draw" 677 (.ref 323),kE P "_law_number" 686 (.ref 330),kE P "_law_fitting" 692 (.ref 335),kE P "_law_leaf" 707 (.ref 342),kE P "_law_tree" 724 (.ref 349),kE P "_law_listed" 730 (.ref 354),kE P "_law_small" 742 (.ref 361),kE P "_law_box" 756 (.ref 368),kE P "_law_painted" 772 (.ref 375),kE P "_law_rows" 778 (.ref 380),kE P "law" 796 (.ref 387)] 65),#[]⟩
noncomputable def kO20 (P : Params) : Obj := ⟨(.type "code"),none,(.fields #[(.str "_wall" 187),(.str "_wall" 188),(.str "/claim/cut.py" 189),(.int (1) 0),(.int (1) 0),(.int (0) 0),(.int (0) 0),(.int (3) 0),(.ref 15),(.bool true),(.int (181) 0),(.ref 16),.none,(.ref 17),(.ref 18),(.ref 19),(.int (191) 0),(.int (1) 0),(.str "/claim/cut.py" 192)]),#[]⟩
noncomputable def kO21 (P : Params) : Obj := ⟨(.type "function"),none,(.func (fnOf "_wall" "_wall" (defArgs sWall) (defBody sWall) (defScope sWall) .none .none .none (.str "__main__" 164) none (.ref 20) .none)),#[]⟩
noncomputable def kO30 (P : Params) : Obj := ⟨(.type "dict"),none,(.dict #[kE P "__module__" 203 (.str "platecuts.errors" 194),kE P "__firstlineno__" 207 (.int (5) 206),kE P "__static_attributes__" 208 (.ref 29),kE P "__weakref__" 210 (.ref 32),kE P "__doc__" 211 .none] 3),#[]⟩
noncomputable def kO31 (P : Params) : Obj := ⟨(.type "type"),none,(.cls ⟨"PlateError",[(.type "ValueError")],[(.ref 31),(.type "ValueError"),(.type "Exception"),(.type "BaseException"),(.type "object")],30,"PlateError",true,[],[(.ref 44),(.ref 56),(.ref 68),(.ref 80),(.ref 92),(.ref 104),(.ref 116)],false,none,false⟩),#[(some (.ref 22)),none,(some (.str "PlateError" 196)),(some (.str "PlateError" 204)),(some (.builtin "ValueError.__new__")),(some (.bool true))]⟩
noncomputable def kO43 (P : Params) : Obj := ⟨(.type "dict"),none,(.dict #[kE P "__module__" 221 (.str "platecuts.errors" 194),kE P "__firstlineno__" 225 (.int (7) 224),kE P "__static_attributes__" 226 (.ref 42),kE P "__doc__" 227 .none] 2),#[]⟩
noncomputable def kO44 (P : Params) : Obj := ⟨(.type "type"),none,(.cls ⟨"NoBlade",[(.ref 31)],[(.ref 44),(.ref 31),(.type "ValueError"),(.type "Exception"),(.type "BaseException"),(.type "object")],43,"NoBlade",true,[],[],false,none,false⟩),#[(some (.ref 35)),none,(some (.str "NoBlade" 214)),(some (.str "NoBlade" 222)),(some (.builtin "ValueError.__new__")),(some (.bool true))]⟩
noncomputable def kO55 (P : Params) : Obj := ⟨(.type "dict"),none,(.dict #[kE P "__module__" 237 (.str "platecuts.errors" 194),kE P "__firstlineno__" 241 (.int (9) 240),kE P "__static_attributes__" 242 (.ref 54),kE P "__doc__" 243 .none] 2),#[]⟩
noncomputable def kO56 (P : Params) : Obj := ⟨(.type "type"),none,(.cls ⟨"NoKinds",[(.ref 31)],[(.ref 56),(.ref 31),(.type "ValueError"),(.type "Exception"),(.type "BaseException"),(.type "object")],55,"NoKinds",true,[],[],false,none,false⟩),#[(some (.ref 47)),none,(some (.str "NoKinds" 230)),(some (.str "NoKinds" 238)),(some (.builtin "ValueError.__new__")),(some (.bool true))]⟩
noncomputable def kO67 (P : Params) : Obj := ⟨(.type "dict"),none,(.dict #[kE P "__module__" 253 (.str "platecuts.errors" 194),kE P "__firstlineno__" 257 (.int (11) 256),kE P "__static_attributes__" 258 (.ref 66),kE P "__doc__" 259 .none] 2),#[]⟩
noncomputable def kO68 (P : Params) : Obj := ⟨(.type "type"),none,(.cls ⟨"NoKind",[(.ref 31)],[(.ref 68),(.ref 31),(.type "ValueError"),(.type "Exception"),(.type "BaseException"),(.type "object")],67,"NoKind",true,[],[],false,none,false⟩),#[(some (.ref 59)),none,(some (.str "NoKind" 246)),(some (.str "NoKind" 254)),(some (.builtin "ValueError.__new__")),(some (.bool true))]⟩
noncomputable def kO79 (P : Params) : Obj := ⟨(.type "dict"),none,(.dict #[kE P "__module__" 269 (.str "platecuts.errors" 194),kE P "__firstlineno__" 273 (.int (13) 272),kE P "__static_attributes__" 274 (.ref 78),kE P "__doc__" 275 .none] 2),#[]⟩
noncomputable def kO80 (P : Params) : Obj := ⟨(.type "type"),none,(.cls ⟨"NoLying",[(.ref 31)],[(.ref 80),(.ref 31),(.type "ValueError"),(.type "Exception"),(.type "BaseException"),(.type "object")],79,"NoLying",true,[],[],false,none,false⟩),#[(some (.ref 71)),none,(some (.str "NoLying" 262)),(some (.str "NoLying" 270)),(some (.builtin "ValueError.__new__")),(some (.bool true))]⟩
noncomputable def kO91 (P : Params) : Obj := ⟨(.type "dict"),none,(.dict #[kE P "__module__" 285 (.str "platecuts.errors" 194),kE P "__firstlineno__" 289 (.int (15) 288),kE P "__static_attributes__" 290 (.ref 90),kE P "__doc__" 291 .none] 2),#[]⟩
noncomputable def kO92 (P : Params) : Obj := ⟨(.type "type"),none,(.cls ⟨"NoPlate",[(.ref 31)],[(.ref 92),(.ref 31),(.type "ValueError"),(.type "Exception"),(.type "BaseException"),(.type "object")],91,"NoPlate",true,[],[],false,none,false⟩),#[(some (.ref 83)),none,(some (.str "NoPlate" 278)),(some (.str "NoPlate" 286)),(some (.builtin "ValueError.__new__")),(some (.bool true))]⟩
noncomputable def kO103 (P : Params) : Obj := ⟨(.type "dict"),none,(.dict #[kE P "__module__" 301 (.str "platecuts.errors" 194),kE P "__firstlineno__" 305 (.int (17) 304),kE P "__static_attributes__" 306 (.ref 102),kE P "__doc__" 307 .none] 2),#[]⟩
noncomputable def kO104 (P : Params) : Obj := ⟨(.type "type"),none,(.cls ⟨"NoTree",[(.ref 31)],[(.ref 104),(.ref 31),(.type "ValueError"),(.type "Exception"),(.type "BaseException"),(.type "object")],103,"NoTree",true,[],[],false,none,false⟩),#[(some (.ref 95)),none,(some (.str "NoTree" 294)),(some (.str "NoTree" 302)),(some (.builtin "ValueError.__new__")),(some (.bool true))]⟩
noncomputable def kO115 (P : Params) : Obj := ⟨(.type "dict"),none,(.dict #[kE P "__module__" 317 (.str "platecuts.errors" 194),kE P "__firstlineno__" 321 (.int (19) 320),kE P "__static_attributes__" 322 (.ref 114),kE P "__doc__" 323 .none] 2),#[]⟩
noncomputable def kO116 (P : Params) : Obj := ⟨(.type "type"),none,(.cls ⟨"TooLarge",[(.ref 31)],[(.ref 116),(.ref 31),(.type "ValueError"),(.type "Exception"),(.type "BaseException"),(.type "object")],115,"TooLarge",true,[],[],false,none,false⟩),#[(some (.ref 107)),none,(some (.str "TooLarge" 310)),(some (.str "TooLarge" 318)),(some (.builtin "ValueError.__new__")),(some (.bool true))]⟩
noncomputable def kO124 (P : Params) : Obj := ⟨(.type "code"),none,(.fields #[(.str "is_whole" 328),(.str "is_whole" 329),(.str "/claim/cut.py" 330),(.int (22) 0),(.int (2) 0),(.int (0) 0),(.int (0) 0),(.int (3) 0),(.ref 119),(.bool true),(.int (181) 0),(.ref 120),.none,(.ref 121),(.ref 122),(.ref 123),(.int (333) 0),(.int (22) 0),(.str "/claim/cut.py" 334)]),#[]⟩
noncomputable def kO125 (P : Params) : Obj := ⟨(.type "function"),none,(.func (fnOf "is_whole" "is_whole" (defArgs sWhole) (defBody sWhole) (defScope sWhole) .none .none .none (.str "platecuts.checks" 326) none (.ref 124) .none)),#[]⟩
noncomputable def kO131 (P : Params) : Obj := ⟨(.type "code"),none,(.fields #[(.str "is_truth" 336),(.str "is_truth" 337),(.str "/claim/cut.py" 338),(.int (24) 0),(.int (1) 0),(.int (0) 0),(.int (0) 0),(.int (3) 0),(.ref 126),(.bool true),(.int (181) 0),(.ref 127),.none,(.ref 128),(.ref 129),(.ref 130),(.int (340) 0),(.int (24) 0),(.str "/claim/cut.py" 341)]),#[]⟩
noncomputable def kO132 (P : Params) : Obj := ⟨(.type "function"),none,(.func (fnOf "is_truth" "is_truth" (defArgs sTruth) (defBody sTruth) (defScope sTruth) .none .none .none (.str "platecuts.checks" 326) none (.ref 131) .none)),#[]⟩
noncomputable def kO138 (P : Params) : Obj := ⟨(.type "code"),none,(.fields #[(.str "is_row" 343),(.str "is_row" 344),(.str "/claim/cut.py" 345),(.int (26) 0),(.int (1) 0),(.int (0) 0),(.int (0) 0),(.int (3) 0),(.ref 133),(.bool true),(.int (181) 0),(.ref 134),.none,(.ref 135),(.ref 136),(.ref 137),(.int (347) 0),(.int (26) 0),(.str "/claim/cut.py" 348)]),#[]⟩
noncomputable def kO139 (P : Params) : Obj := ⟨(.type "function"),none,(.func (fnOf "is_row" "is_row" (defArgs sRow) (defBody sRow) (defScope sRow) .none .none .none (.str "platecuts.checks" 326) none (.ref 138) .none)),#[]⟩
noncomputable def kO145 (P : Params) : Obj := ⟨(.type "code"),none,(.fields #[(.str "check_plate" 350),(.str "check_plate" 351),(.str "/claim/cut.py" 352),(.int (28) 0),(.int (2) 0),(.int (0) 0),(.int (0) 0),(.int (3) 0),(.ref 140),(.bool true),(.int (181) 0),(.ref 141),.none,(.ref 142),(.ref 143),(.ref 144),(.int (355) 0),(.int (28) 0),(.str "/claim/cut.py" 356)]),#[]⟩
noncomputable def kO146 (P : Params) : Obj := ⟨(.type "function"),none,(.func (fnOf "check_plate" "check_plate" (defArgs sCheckPlate) (defBody sCheckPlate) (defScope sCheckPlate) .none .none .none (.str "platecuts.checks" 326) none (.ref 145) .none)),#[]⟩
noncomputable def kO152 (P : Params) : Obj := ⟨(.type "code"),none,(.fields #[(.str "check_sides" 358),(.str "check_sides" 359),(.str "/claim/cut.py" 360),(.int (31) 0),(.int (3) 0),(.int (0) 0),(.int (0) 0),(.int (3) 0),(.ref 147),(.bool true),(.int (181) 0),(.ref 148),.none,(.ref 149),(.ref 150),(.ref 151),(.int (364) 0),(.int (31) 0),(.str "/claim/cut.py" 365)]),#[]⟩
noncomputable def kO153 (P : Params) : Obj := ⟨(.type "function"),none,(.func (fnOf "check_sides" "check_sides" (defArgs sCheckSides) (defBody sCheckSides) (defScope sCheckSides) .none .none .none (.str "platecuts.checks" 326) none (.ref 152) .none)),#[]⟩
noncomputable def kO154 (P : Params) : Obj := ⟨(.type "tuple"),none,(.seq #[(.str "down" 369),(.str "across" 371)] 0),#[]⟩
noncomputable def kO160 (P : Params) : Obj := ⟨(.type "code"),none,(.fields #[(.str "lies_in" 374),(.str "lies_in" 375),(.str "/claim/cut.py" 376),(.int (38) 0),(.int (7) 0),(.int (0) 0),(.int (0) 0),(.int (3) 0),(.ref 155),(.bool true),(.int (181) 0),(.ref 156),.none,(.ref 157),(.ref 158),(.ref 159),(.int (386) 0),(.int (38) 0),(.str "/claim/cut.py" 387)]),#[]⟩
noncomputable def kO161 (P : Params) : Obj := ⟨(.type "function"),none,(.func (fnOf "lies_in" "lies_in" (defArgs sLiesIn) (defBody sLiesIn) (defScope sLiesIn) .none .none .none (.str "platecuts.parts" 367) none (.ref 160) .none)),#[]⟩
noncomputable def kO167 (P : Params) : Obj := ⟨(.type "code"),none,(.fields #[(.str "cut_parts" 389),(.str "cut_parts" 390),(.str "/claim/cut.py" 391),(.int (43) 0),(.int (4) 0),(.int (0) 0),(.int (0) 0),(.int (3) 0),(.ref 162),(.bool true),(.int (181) 0),(.ref 163),.none,(.ref 164),(.ref 165),(.ref 166),(.int (398) 0),(.int (43) 0),(.str "/claim/cut.py" 399)]),#[]⟩
noncomputable def kO168 (P : Params) : Obj := ⟨(.type "function"),none,(.func (fnOf "cut_parts" "cut_parts" (defArgs sCutParts) (defBody sCutParts) (defScope sCutParts) .none .none .none (.str "platecuts.parts" 367) none (.ref 167) .none)),#[]⟩
noncomputable def kO174 (P : Params) : Obj := ⟨(.type "code"),none,(.fields #[(.str "begins_with" 413),(.str "begins_with" 414),(.str "/claim/cut.py" 415),(.int (54) 0),(.int (3) 0),(.int (0) 0),(.int (0) 0),(.int (3) 0),(.ref 169),(.bool true),(.int (181) 0),(.ref 170),.none,(.ref 171),(.ref 172),(.ref 173),(.int (419) 0),(.int (54) 0),(.str "/claim/cut.py" 420)]),#[]⟩
noncomputable def kO175 (P : Params) : Obj := ⟨(.type "function"),none,(.func (fnOf "begins_with" "begins_with" (defArgs sBeginsWith) (defBody sBeginsWith) (defScope sBeginsWith) .none .none .none (.str "platecuts.trees" 401) none (.ref 174) .none)),#[]⟩
noncomputable def kO181 (P : Params) : Obj := ⟨(.type "code"),none,(.fields #[(.str "is_cut" 422),(.str "is_cut" 423),(.str "/claim/cut.py" 424),(.int (58) 0),(.int (2) 0),(.int (0) 0),(.int (0) 0),(.int (3) 0),(.ref 176),(.bool true),(.int (181) 0),(.ref 177),.none,(.ref 178),(.ref 179),(.ref 180),(.int (430) 0),(.int (58) 0),(.str "/claim/cut.py" 431)]),#[]⟩
noncomputable def kO182 (P : Params) : Obj := ⟨(.type "function"),none,(.func (fnOf "is_cut" "is_cut" (defArgs sIsCut) (defBody sIsCut) (defScope sIsCut) .none .none .none (.str "platecuts.trees" 401) none (.ref 181) .none)),#[]⟩
noncomputable def kO188 (P : Params) : Obj := ⟨(.type "code"),none,(.fields #[(.str "is_leaf" 433),(.str "is_leaf" 434),(.str "/claim/cut.py" 435),(.int (65) 0),(.int (2) 0),(.int (0) 0),(.int (0) 0),(.int (3) 0),(.ref 183),(.bool true),(.int (181) 0),(.ref 184),.none,(.ref 185),(.ref 186),(.ref 187),(.int (443) 0),(.int (65) 0),(.str "/claim/cut.py" 444)]),#[]⟩
noncomputable def kO189 (P : Params) : Obj := ⟨(.type "function"),none,(.func (fnOf "is_leaf" "is_leaf" (defArgs sIsLeaf) (defBody sIsLeaf) (defScope sIsLeaf) .none .none .none (.str "platecuts.trees" 401) none (.ref 188) .none)),#[]⟩
noncomputable def kO195 (P : Params) : Obj := ⟨(.type "code"),none,(.fields #[(.str "spots_behind" 446),(.str "spots_behind" 447),(.str "/claim/cut.py" 448),(.int (70) 0),(.int (2) 0),(.int (0) 0),(.int (0) 0),(.int (3) 0),(.ref 190),(.bool true),(.int (181) 0),(.ref 191),.none,(.ref 192),(.ref 193),(.ref 194),(.int (467) 0),(.int (70) 0),(.str "/claim/cut.py" 468)]),#[]⟩
noncomputable def kO196 (P : Params) : Obj := ⟨(.type "function"),none,(.func (fnOf "spots_behind" "spots_behind" (defArgs sSpotsBehind) (defBody sSpotsBehind) (defScope sSpotsBehind) .none .none .none (.str "platecuts.trees" 401) none (.ref 195) .none)),#[]⟩
noncomputable def kO202 (P : Params) : Obj := ⟨(.type "code"),none,(.fields #[(.str "is_tree" 470),(.str "is_tree" 471),(.str "/claim/cut.py" 472),(.int (77) 0),(.int (4) 0),(.int (0) 0),(.int (0) 0),(.int (3) 0),(.ref 197),(.bool true),(.int (181) 0),(.ref 198),.none,(.ref 199),(.ref 200),(.ref 201),(.int (480) 0),(.int (77) 0),(.str "/claim/cut.py" 481)]),#[]⟩
noncomputable def kO203 (P : Params) : Obj := ⟨(.type "function"),none,(.func (fnOf "is_tree" "is_tree" (defArgs sIsTree) (defBody sIsTree) (defScope sIsTree) .none .none .none (.str "platecuts.trees" 401) none (.ref 202) .none)),#[]⟩
noncomputable def kO209 (P : Params) : Obj := ⟨(.type "code"),none,(.fields #[(.str "check_tree" 483),(.str "check_tree" 484),(.str "/claim/cut.py" 485),(.int (88) 0),(.int (4) 0),(.int (0) 0),(.int (0) 0),(.int (3) 0),(.ref 204),(.bool true),(.int (181) 0),(.ref 205),.none,(.ref 206),(.ref 207),(.ref 208),(.int (490) 0),(.int (88) 0),(.str "/claim/cut.py" 491)]),#[]⟩
noncomputable def kO210 (P : Params) : Obj := ⟨(.type "function"),none,(.func (fnOf "check_tree" "check_tree" (defArgs sCheckTree) (defBody sCheckTree) (defScope sCheckTree) .none .none .none (.str "platecuts.trees" 401) none (.ref 209) .none)),#[]⟩
noncomputable def kO216 (P : Params) : Obj := ⟨(.type "code"),none,(.fields #[(.str "leaves_of" 493),(.str "leaves_of" 494),(.str "/claim/cut.py" 495),(.int (91) 0),(.int (4) 0),(.int (0) 0),(.int (0) 0),(.int (3) 0),(.ref 211),(.bool true),(.int (181) 0),(.ref 212),.none,(.ref 213),(.ref 214),(.ref 215),(.int (503) 0),(.int (91) 0),(.str "/claim/cut.py" 504)]),#[]⟩
noncomputable def kO217 (P : Params) : Obj := ⟨(.type "function"),none,(.func (fnOf "leaves_of" "leaves_of" (defArgs sLeavesOf) (defBody sLeavesOf) (defScope sLeavesOf) .none .none .none (.str "platecuts.trees" 401) none (.ref 216) .none)),#[]⟩
noncomputable def kO223 (P : Params) : Obj := ⟨(.type "code"),none,(.fields #[(.str "fill" 518),(.str "fill" 519),(.str "/claim/cut.py" 520),(.int (107) 0),(.int (4) 0),(.int (0) 0),(.int (0) 0),(.int (3) 0),(.ref 218),(.bool true),(.int (181) 0),(.ref 219),.none,(.ref 220),(.ref 221),(.ref 222),(.int (531) 0),(.int (107) 0),(.str "/claim/cut.py" 532)]),#[]⟩
noncomputable def kO224 (P : Params) : Obj := ⟨(.type "function"),none,(.func (fnOf "fill" "fill" (defArgs sFill) (defBody sFill) (defScope sFill) .none .none .none (.str "platecuts.pictures" 506) none (.ref 223) .none)),#[]⟩
noncomputable def kO230 (P : Params) : Obj := ⟨(.type "code"),none,(.fields #[(.str "fill_leaf" 534),(.str "fill_leaf" 535),(.str "/claim/cut.py" 536),(.int (113) 0),(.int (3) 0),(.int (0) 0),(.int (0) 0),(.int (3) 0),(.ref 225),(.bool true),(.int (181) 0),(.ref 226),.none,(.ref 227),(.ref 228),(.ref 229),(.int (550) 0),(.int (113) 0),(.str "/claim/cut.py" 551)]),#[]⟩
noncomputable def kO231 (P : Params) : Obj := ⟨(.type "function"),none,(.func (fnOf "fill_leaf" "fill_leaf" (defArgs sFillLeaf) (defBody sFillLeaf) (defScope sFillLeaf) .none .none .none (.str "platecuts.pictures" 506) none (.ref 230) .none)),#[]⟩
noncomputable def kO235 (P : Params) : Obj := ⟨(.type "code"),none,(.fields #[(.str "picture" 553),(.str "picture" 554),(.str "/claim/cut.py" 555),(.int (121) 0),(.int (4) 0),(.int (0) 0),(.int (0) 0),(.int (3) 0),(.ref 232),(.bool true),(.int (181) 0),(.ref 233),.none,.none,.none,(.ref 234),(.int (556) 0),(.int (121) 0),(.str "/claim/cut.py" 557)]),#[]⟩
noncomputable def kO236 (P : Params) : Obj := ⟨(.type "function"),none,(.func (fnOf "picture" "picture" (defArgs sPicture) (defBody sPicture) (defScope sPicture) .none .none .none (.str "platecuts.pictures" 506) none (.ref 235) .none)),#[]⟩
noncomputable def kO242 (P : Params) : Obj := ⟨(.type "code"),none,(.fields #[(.str "is_kind" 565),(.str "is_kind" 566),(.str "/claim/cut.py" 567),(.int (132) 0),(.int (1) 0),(.int (0) 0),(.int (0) 0),(.int (3) 0),(.ref 237),(.bool true),(.int (181) 0),(.ref 238),.none,(.ref 239),(.ref 240),(.ref 241),(.int (574) 0),(.int (132) 0),(.str "/claim/cut.py" 575)]),#[]⟩
noncomputable def kO243 (P : Params) : Obj := ⟨(.type "function"),none,(.func (fnOf "is_kind" "is_kind" (defArgs sIsKind) (defBody sIsKind) (defScope sIsKind) .none .none .none (.str "platecuts.shops" 559) none (.ref 242) .none)),#[]⟩
noncomputable def kO249 (P : Params) : Obj := ⟨(.type "code"),none,(.fields #[(.str "can_lie_turned" 577),(.str "can_lie_turned" 578),(.str "/claim/cut.py" 579),(.int (139) 0),(.int (1) 0),(.int (0) 0),(.int (0) 0),(.int (3) 0),(.ref 244),(.bool true),(.int (181) 0),(.ref 245),.none,(.ref 246),(.ref 247),(.ref 248),(.int (581) 0),(.int (139) 0),(.str "/claim/cut.py" 582)]),#[]⟩
noncomputable def kO250 (P : Params) : Obj := ⟨(.type "function"),none,(.func (fnOf "can_lie_turned" "can_lie_turned" (defArgs sTurned) (defBody sTurned) (defScope sTurned) .none .none .none (.str "platecuts.shops" 559) none (.ref 249) .none)),#[]⟩
noncomputable def kO261 (P : Params) : Obj := ⟨(.type "code"),none,(.fields #[(.str "__init__" 596),(.str "Shop.__init__" 597),(.str "/claim/cut.py" 598),(.int (143) 0),(.int (3) 0),(.int (0) 0),(.int (0) 0),(.int (3) 0),(.ref 258),(.bool true),(.int (181) 0),(.ref 259),.none,.none,.none,(.ref 260),(.int (599) 0),(.int (143) 0),(.str "/claim/cut.py" 600)]),#[]⟩
noncomputable def kO262 (P : Params) : Obj := ⟨(.type "function"),none,(.func (fnOf "__init__" "Shop.__init__" (defArgs sShopInit) (defBody sShopInit) (defScope sShopInit) .none .none .none (.str "platecuts.shops" 559) none (.ref 261) .none)),#[]⟩
noncomputable def kO268 (P : Params) : Obj := ⟨(.type "code"),none,(.fields #[(.str "blade" 602),(.str "Shop.blade" 603),(.str "/claim/cut.py" 604),(.int (154) 0),(.int (1) 0),(.int (0) 0),(.int (0) 0),(.int (3) 0),(.ref 263),(.bool true),(.int (181) 0),(.ref 264),.none,(.ref 265),(.ref 266),(.ref 267),(.int (606) 0),(.int (154) 0),(.str "/claim/cut.py" 607)]),#[]⟩
noncomputable def kO269 (P : Params) : Obj := ⟨(.type "function"),none,(.func (fnOf "blade" "Shop.blade" (defArgs sShopBlade) (defBody sShopBlade) (defScope sShopBlade) .none .none .none (.str "platecuts.shops" 559) none (.ref 268) .none)),#[]⟩
noncomputable def kO275 (P : Params) : Obj := ⟨(.type "code"),none,(.fields #[(.str "kinds" 609),(.str "Shop.kinds" 610),(.str "/claim/cut.py" 611),(.int (157) 0),(.int (1) 0),(.int (0) 0),(.int (0) 0),(.int (3) 0),(.ref 270),(.bool true),(.int (181) 0),(.ref 271),.none,(.ref 272),(.ref 273),(.ref 274),(.int (613) 0),(.int (157) 0),(.str "/claim/cut.py" 614)]),#[]⟩
noncomputable def kO276 (P : Params) : Obj := ⟨(.type "function"),none,(.func (fnOf "kinds" "Shop.kinds" (defArgs sShopKinds) (defBody sShopKinds) (defScope sShopKinds) .none .none .none (.str "platecuts.shops" 559) none (.ref 275) .none)),#[]⟩
noncomputable def kO280 (P : Params) : Obj := ⟨(.type "code"),none,(.fields #[(.str "wanted" 616),(.str "Shop.wanted" 617),(.str "/claim/cut.py" 618),(.int (160) 0),(.int (1) 0),(.int (0) 0),(.int (0) 0),(.int (3) 0),(.ref 277),(.bool true),(.int (181) 0),(.ref 278),.none,.none,.none,(.ref 279),(.int (619) 0),(.int (160) 0),(.str "/claim/cut.py" 620)]),#[]⟩
noncomputable def kO281 (P : Params) : Obj := ⟨(.type "function"),none,(.func (fnOf "wanted" "Shop.wanted" (defArgs sShopWanted) (defBody sShopWanted) (defScope sShopWanted) .none .none .none (.str "platecuts.shops" 559) none (.ref 280) .none)),#[]⟩
noncomputable def kO287 (P : Params) : Obj := ⟨(.type "code"),none,(.fields #[(.str "lyings" 622),(.str "Shop.lyings" 623),(.str "/claim/cut.py" 624),(.int (163) 0),(.int (1) 0),(.int (0) 0),(.int (0) 0),(.int (3) 0),(.ref 282),(.bool true),(.int (181) 0),(.ref 283),.none,(.ref 284),(.ref 285),(.ref 286),(.int (626) 0),(.int (163) 0),(.str "/claim/cut.py" 627)]),#[]⟩
noncomputable def kO288 (P : Params) : Obj := ⟨(.type "function"),none,(.func (fnOf "lyings" "Shop.lyings" (defArgs sShopLyings) (defBody sShopLyings) (defScope sShopLyings) .none .none .none (.str "platecuts.shops" 559) none (.ref 287) .none)),#[]⟩
noncomputable def kO294 (P : Params) : Obj := ⟨(.type "code"),none,(.fields #[(.str "is_lying" 629),(.str "Shop.is_lying" 630),(.str "/claim/cut.py" 631),(.int (166) 0),(.int (3) 0),(.int (0) 0),(.int (0) 0),(.int (3) 0),(.ref 289),(.bool true),(.int (181) 0),(.ref 290),.none,(.ref 291),(.ref 292),(.ref 293),(.int (635) 0),(.int (166) 0),(.str "/claim/cut.py" 636)]),#[]⟩
noncomputable def kO295 (P : Params) : Obj := ⟨(.type "function"),none,(.func (fnOf "is_lying" "Shop.is_lying" (defArgs sShopIsLying) (defBody sShopIsLying) (defScope sShopIsLying) .none .none .none (.str "platecuts.shops" 559) none (.ref 294) .none)),#[]⟩
noncomputable def kO301 (P : Params) : Obj := ⟨(.type "code"),none,(.fields #[(.str "sides" 638),(.str "Shop.sides" 639),(.str "/claim/cut.py" 640),(.int (171) 0),(.int (3) 0),(.int (0) 0),(.int (0) 0),(.int (3) 0),(.ref 296),(.bool true),(.int (181) 0),(.ref 297),.none,(.ref 298),(.ref 299),(.ref 300),(.int (645) 0),(.int (171) 0),(.str "/claim/cut.py" 646)]),#[]⟩
noncomputable def kO302 (P : Params) : Obj := ⟨(.type "function"),none,(.func (fnOf "sides" "Shop.sides" (defArgs sShopSides) (defBody sShopSides) (defScope sShopSides) .none .none .none (.str "platecuts.shops" 559) none (.ref 301) .none)),#[]⟩
noncomputable def kO304 (P : Params) : Obj := ⟨(.type "dict"),none,(.dict #[kE P "__module__" 591 (.str "platecuts.shops" 559),kE P "__firstlineno__" 595 (.int (141) 594),kE P "__init__" 601 (.ref 262),kE P "blade" 608 (.ref 269),kE P "kinds" 615 (.ref 276),kE P "wanted" 621 (.ref 281),kE P "lyings" 628 (.ref 288),kE P "is_lying" 637 (.ref 295),kE P "sides" 647 (.ref 302),kE P "__static_attributes__" 650 (.ref 303),kE P "__dict__" 652 (.ref 306),kE P "__weakref__" 654 (.ref 307),kE P "__doc__" 655 .none] 4),#[]⟩
noncomputable def kO305 (P : Params) : Obj := ⟨(.type "type"),none,(.cls ⟨"Shop",[(.type "object")],[(.ref 305),(.type "object")],304,"Shop",true,[],[],false,none,false⟩),#[none,none,(some (.str "Shop" 584)),(some (.str "Shop" 592)),(some (.builtin "object.__new__")),(some (.bool true))]⟩
noncomputable def kO315 (P : Params) : Obj := ⟨(.type "code"),none,(.fields #[(.str "_law_pot" 660),(.str "_law_pot" 661),(.str "/claim/cut.py" 662),(.int (179) 0),(.int (2) 0),(.int (0) 0),(.int (0) 0),(.int (3) 0),(.ref 310),(.bool true),(.int (181) 0),(.ref 311),.none,(.ref 312),(.ref 313),(.ref 314),(.int (666) 0),(.int (179) 0),(.str "/claim/cut.py" 667)]),#[]⟩
noncomputable def kO316 (P : Params) : Obj := ⟨(.type "function"),none,(.func (fnOf "_law_pot" "_law_pot" (defArgs sPot) (defBody sPot) (defScope sPot) .none .none .none (.str "law_platecuts_k91_whole_pictures" 658) none (.ref 315) .none)),#[]⟩
noncomputable def kO322 (P : Params) : Obj := ⟨(.type "code"),none,(.fields #[(.str "_law_draw" 669),(.str "_law_draw" 670),(.str "/claim/cut.py" 671),(.int (184) 0),(.int (2) 0),(.int (0) 0),(.int (0) 0),(.int (3) 0),(.ref 317),(.bool true),(.int (181) 0),(.ref 318),.none,(.ref 319),(.ref 320),(.ref 321),(.int (675) 0),(.int (184) 0),(.str "/claim/cut.py" 676)]),#[]⟩
noncomputable def kO323 (P : Params) : Obj := ⟨(.type "function"),none,(.func (fnOf "_law_draw" "_law_draw" (defArgs sDraw) (defBody sDraw) (defScope sDraw) .none .none .none (.str "law_platecuts_k91_whole_pictures" 658) none (.ref 322) .none)),#[]⟩
noncomputable def kO329 (P : Params) : Obj := ⟨(.type "code"),none,(.fields #[(.str "_law_number" 678),(.str "_law_number" 679),(.str "/claim/cut.py" 680),(.int (191) 0),(.int (2) 0),(.int (0) 0),(.int (0) 0),(.int (3) 0),(.ref 324),(.bool true),(.int (181) 0),(.ref 325),.none,(.ref 326),(.ref 327),(.ref 328),(.int (684) 0),(.int (191) 0),(.str "/claim/cut.py" 685)]),#[]⟩
noncomputable def kO330 (P : Params) : Obj := ⟨(.type "function"),none,(.func (fnOf "_law_number" "_law_number" (defArgs sNumber) (defBody sNumber) (defScope sNumber) .none .none .none (.str "law_platecuts_k91_whole_pictures" 658) none (.ref 329) .none)),#[]⟩
noncomputable def kO334 (P : Params) : Obj := ⟨(.type "code"),none,(.fields #[(.str "_law_fitting" 687),(.str "_law_fitting" 688),(.str "/claim/cut.py" 689),(.int (198) 0),(.int (3) 0),(.int (0) 0),(.int (0) 0),(.int (3) 0),(.ref 331),(.bool true),(.int (181) 0),(.ref 332),.none,.none,.none,(.ref 333),(.int (690) 0),(.int (198) 0),(.str "/claim/cut.py" 691)]),#[]⟩
noncomputable def kO335 (P : Params) : Obj := ⟨(.type "function"),none,(.func (fnOf "_law_fitting" "_law_fitting" (defArgs sFitting) (defBody sFitting) (defScope sFitting) .none .none .none (.str "law_platecuts_k91_whole_pictures" 658) none (.ref 334) .none)),#[]⟩
noncomputable def kO341 (P : Params) : Obj := ⟨(.type "code"),none,(.fields #[(.str "_law_leaf" 693),(.str "_law_leaf" 694),(.str "/claim/cut.py" 695),(.int (206) 0),(.int (4) 0),(.int (0) 0),(.int (0) 0),(.int (3) 0),(.ref 336),(.bool true),(.int (181) 0),(.ref 337),.none,(.ref 338),(.ref 339),(.ref 340),(.int (705) 0),(.int (206) 0),(.str "/claim/cut.py" 706)]),#[]⟩
noncomputable def kO342 (P : Params) : Obj := ⟨(.type "function"),none,(.func (fnOf "_law_leaf" "_law_leaf" (defArgs sLeaf) (defBody sLeaf) (defScope sLeaf) .none .none .none (.str "law_platecuts_k91_whole_pictures" 658) none (.ref 341) .none)),#[]⟩
noncomputable def kO348 (P : Params) : Obj := ⟨(.type "code"),none,(.fields #[(.str "_law_tree" 708),(.str "_law_tree" 709),(.str "/claim/cut.py" 710),(.int (212) 0),(.int (6) 0),(.int (0) 0),(.int (0) 0),(.int (3) 0),(.ref 343),(.bool true),(.int (181) 0),(.ref 344),.none,(.ref 345),(.ref 346),(.ref 347),(.int (722) 0),(.int (212) 0),(.str "/claim/cut.py" 723)]),#[]⟩
noncomputable def kO349 (P : Params) : Obj := ⟨(.type "function"),none,(.func (fnOf "_law_tree" "_law_tree" (defArgs sTree) (defBody sTree) (defScope sTree) .none .none .none (.str "law_platecuts_k91_whole_pictures" 658) none (.ref 348) .none)),#[]⟩
noncomputable def kO353 (P : Params) : Obj := ⟨(.type "code"),none,(.fields #[(.str "_law_listed" 725),(.str "_law_listed" 726),(.str "/claim/cut.py" 727),(.int (225) 0),(.int (1) 0),(.int (0) 0),(.int (0) 0),(.int (3) 0),(.ref 350),(.bool true),(.int (181) 0),(.ref 351),.none,.none,.none,(.ref 352),(.int (728) 0),(.int (225) 0),(.str "/claim/cut.py" 729)]),#[]⟩
noncomputable def kO354 (P : Params) : Obj := ⟨(.type "function"),none,(.func (fnOf "_law_listed" "_law_listed" (defArgs sListed) (defBody sListed) (defScope sListed) .none .none .none (.str "law_platecuts_k91_whole_pictures" 658) none (.ref 353) .none)),#[]⟩
noncomputable def kO360 (P : Params) : Obj := ⟨(.type "code"),none,(.fields #[(.str "_law_small" 731),(.str "_law_small" 732),(.str "/claim/cut.py" 733),(.int (229) 0),(.int (2) 0),(.int (0) 0),(.int (0) 0),(.int (3) 0),(.ref 355),(.bool true),(.int (181) 0),(.ref 356),.none,(.ref 357),(.ref 358),(.ref 359),(.int (740) 0),(.int (229) 0),(.str "/claim/cut.py" 741)]),#[]⟩
noncomputable def kO361 (P : Params) : Obj := ⟨(.type "function"),none,(.func (fnOf "_law_small" "_law_small" (defArgs sSmall) (defBody sSmall) (defScope sSmall) .none .none .none (.str "law_platecuts_k91_whole_pictures" 658) none (.ref 360) .none)),#[]⟩
noncomputable def kO367 (P : Params) : Obj := ⟨(.type "code"),none,(.fields #[(.str "_law_box" 743),(.str "_law_box" 744),(.str "/claim/cut.py" 745),(.int (236) 0),(.int (6) 0),(.int (0) 0),(.int (0) 0),(.int (3) 0),(.ref 362),(.bool true),(.int (181) 0),(.ref 363),.none,(.ref 364),(.ref 365),(.ref 366),(.int (754) 0),(.int (236) 0),(.str "/claim/cut.py" 755)]),#[]⟩
noncomputable def kO368 (P : Params) : Obj := ⟨(.type "function"),none,(.func (fnOf "_law_box" "_law_box" (defArgs sBox) (defBody sBox) (defScope sBox) .none .none .none (.str "law_platecuts_k91_whole_pictures" 658) none (.ref 367) .none)),#[]⟩
noncomputable def kO374 (P : Params) : Obj := ⟨(.type "code"),none,(.fields #[(.str "_law_painted" 757),(.str "_law_painted" 758),(.str "/claim/cut.py" 759),(.int (240) 0),(.int (7) 0),(.int (0) 0),(.int (0) 0),(.int (3) 0),(.ref 369),(.bool true),(.int (181) 0),(.ref 370),.none,(.ref 371),(.ref 372),(.ref 373),(.int (770) 0),(.int (240) 0),(.str "/claim/cut.py" 771)]),#[]⟩
noncomputable def kO375 (P : Params) : Obj := ⟨(.type "function"),none,(.func (fnOf "_law_painted" "_law_painted" (defArgs sPainted) (defBody sPainted) (defScope sPainted) .none .none .none (.str "law_platecuts_k91_whole_pictures" 658) none (.ref 374) .none)),#[]⟩
noncomputable def kO379 (P : Params) : Obj := ⟨(.type "code"),none,(.fields #[(.str "_law_rows" 773),(.str "_law_rows" 774),(.str "/claim/cut.py" 775),(.int (259) 0),(.int (4) 0),(.int (0) 0),(.int (0) 0),(.int (3) 0),(.ref 376),(.bool true),(.int (181) 0),(.ref 377),.none,.none,.none,(.ref 378),(.int (776) 0),(.int (259) 0),(.str "/claim/cut.py" 777)]),#[]⟩
noncomputable def kO380 (P : Params) : Obj := ⟨(.type "function"),none,(.func (fnOf "_law_rows" "_law_rows" (defArgs sRows) (defBody sRows) (defScope sRows) .none .none .none (.str "law_platecuts_k91_whole_pictures" 658) none (.ref 379) .none)),#[]⟩
noncomputable def kO386 (P : Params) : Obj := ⟨(.type "code"),none,(.fields #[(.str "law" 779),(.str "law" 780),(.str "/claim/cut.py" 781),(.int (266) 0),(.int (1) 0),(.int (0) 0),(.int (0) 0),(.int (3) 0),(.ref 381),(.bool true),(.int (181) 0),(.ref 382),.none,(.ref 383),(.ref 384),(.ref 385),(.int (794) 0),(.int (266) 0),(.str "/claim/cut.py" 795)]),#[]⟩
noncomputable def kO387 (P : Params) : Obj := ⟨(.type "function"),none,(.func (fnOf "law" "law" (defArgs sLaw) (defBody sLaw) (defScope sLaw) .none .none .none (.str "law_platecuts_k91_whole_pictures" 658) none (.ref 386) .none)),#[]⟩
noncomputable def kK : Params → Frag := fun P => (nat_lit 3,kO3 P) :: (nat_lit 20,kO20 P) :: (nat_lit 21,kO21 P) :: (nat_lit 30,kO30 P) :: (nat_lit 31,kO31 P) :: (nat_lit 43,kO43 P) :: (nat_lit 44,kO44 P) :: (nat_lit 55,kO55 P) :: (nat_lit 56,kO56 P) :: (nat_lit 67,kO67 P) :: (nat_lit 68,kO68 P) :: (nat_lit 79,kO79 P) :: (nat_lit 80,kO80 P) :: (nat_lit 91,kO91 P) :: (nat_lit 92,kO92 P) :: (nat_lit 103,kO103 P) :: (nat_lit 104,kO104 P) :: (nat_lit 115,kO115 P) :: (nat_lit 116,kO116 P) :: (nat_lit 124,kO124 P) :: (nat_lit 125,kO125 P) :: (nat_lit 131,kO131 P) :: (nat_lit 132,kO132 P) :: (nat_lit 138,kO138 P) :: (nat_lit 139,kO139 P) :: (nat_lit 145,kO145 P) :: (nat_lit 146,kO146 P) :: (nat_lit 152,kO152 P) :: (nat_lit 153,kO153 P) :: (nat_lit 154,kO154 P) :: (nat_lit 160,kO160 P) :: (nat_lit 161,kO161 P) :: (nat_lit 167,kO167 P) :: (nat_lit 168,kO168 P) :: (nat_lit 174,kO174 P) :: (nat_lit 175,kO175 P) :: (nat_lit 181,kO181 P) :: (nat_lit 182,kO182 P) :: (nat_lit 188,kO188 P) :: (nat_lit 189,kO189 P) :: (nat_lit 195,kO195 P) :: (nat_lit 196,kO196 P) :: (nat_lit 202,kO202 P) :: (nat_lit 203,kO203 P) :: (nat_lit 209,kO209 P) :: (nat_lit 210,kO210 P) :: (nat_lit 216,kO216 P) :: (nat_lit 217,kO217 P) :: (nat_lit 223,kO223 P) :: (nat_lit 224,kO224 P) :: (nat_lit 230,kO230 P) :: (nat_lit 231,kO231 P) :: (nat_lit 235,kO235 P) :: (nat_lit 236,kO236 P) :: (nat_lit 242,kO242 P) :: (nat_lit 243,kO243 P) :: (nat_lit 249,kO249 P) :: (nat_lit 250,kO250 P) :: (nat_lit 261,kO261 P) :: (nat_lit 262,kO262 P) :: (nat_lit 268,kO268 P) :: (nat_lit 269,kO269 P) :: (nat_lit 275,kO275 P) :: (nat_lit 276,kO276 P) :: (nat_lit 280,kO280 P) :: (nat_lit 281,kO281 P) :: (nat_lit 287,kO287 P) :: (nat_lit 288,kO288 P) :: (nat_lit 294,kO294 P) :: (nat_lit 295,kO295 P) :: (nat_lit 301,kO301 P) :: (nat_lit 302,kO302 P) :: (nat_lit 304,kO304 P) :: (nat_lit 305,kO305 P) :: (nat_lit 315,kO315 P) :: (nat_lit 316,kO316 P) :: (nat_lit 322,kO322 P) :: (nat_lit 323,kO323 P) :: (nat_lit 329,kO329 P) :: (nat_lit 330,kO330 P) :: (nat_lit 334,kO334 P) :: (nat_lit 335,kO335 P) :: (nat_lit 341,kO341 P) :: (nat_lit 342,kO342 P) :: (nat_lit 348,kO348 P) :: (nat_lit 349,kO349 P) :: (nat_lit 353,kO353 P) :: (nat_lit 354,kO354 P) :: (nat_lit 360,kO360 P) :: (nat_lit 361,kO361 P) :: (nat_lit 367,kO367 P) :: (nat_lit 368,kO368 P) :: (nat_lit 374,kO374 P) :: (nat_lit 375,kO375 P) :: (nat_lit 379,kO379 P) :: (nat_lit 380,kO380 P) :: (nat_lit 386,kO386 P) :: (nat_lit 387,kO387 P) :: []
end
end Pc
set_option maxHeartbeats 0
lay_quick PySem.Challenge.pw_platecuts_k91_whole_pictures
namespace Hd
open PySem PySem.W
noncomputable def S0 : Str := ⟨⟨[95,95,110,97,109,101,95,95]⟩⟩
noncomputable def S2 : Str := ⟨⟨[95,95,100,111,99,95,95]⟩⟩
noncomputable def S3 : Str := ⟨⟨[95,95,112,97,99,107,97,103,101,95,95]⟩⟩
noncomputable def S4 : Str := ⟨⟨[95,95,108,111,97,100,101,114,95,95]⟩⟩
noncomputable def S5 : Str := ⟨⟨[95,95,115,112,101,99,95,95]⟩⟩
noncomputable def S160 : Str := ⟨⟨[95,95,109,97,105,110,95,95]⟩⟩
noncomputable def S161 : Str := ⟨⟨[95,95,97,110,110,111,116,97,116,105,111,110,115,95,95]⟩⟩
noncomputable def S162 : Str := ⟨⟨[95,95,98,117,105,108,116,105,110,115,95,95]⟩⟩
noncomputable def S163 : Str := ⟨⟨[95,95,102,105,108,101,95,95]⟩⟩
noncomputable def S164 : Str := ⟨⟨[47,99,108,97,105,109,47,99,117,116,46,112,121]⟩⟩
noncomputable def S165 : Str := ⟨⟨[95,95,99,97,99,104,101,100,95,95]⟩⟩
noncomputable def S166 : Str := ⟨⟨[60,109,111,100,117,108,101,62]⟩⟩
noncomputable def S167 : Str := ⟨⟨[112,108,97,116,101,99,117,116,115,46,116,114,101,101,115]⟩⟩
noncomputable def S168 : Str := ⟨⟨[95,119,97,108,108]⟩⟩
noncomputable def S169 : Str := ⟨⟨[80,108,97,116,101,69,114,114,111,114]⟩⟩
noncomputable def S170 : Str := ⟨⟨[78,111,66,108,97,100,101]⟩⟩
noncomputable def S171 : Str := ⟨⟨[78,111,75,105,110,100,115]⟩⟩
noncomputable def S172 : Str := ⟨⟨[78,111,75,105,110,100]⟩⟩
noncomputable def S173 : Str := ⟨⟨[78,111,76,121,105,110,103]⟩⟩
noncomputable def S174 : Str := ⟨⟨[78,111,80,108,97,116,101]⟩⟩
noncomputable def S175 : Str := ⟨⟨[78,111,84,114,101,101]⟩⟩
noncomputable def S176 : Str := ⟨⟨[84,111,111,76,97,114,103,101]⟩⟩
noncomputable def S177 : Str := ⟨⟨[105,115,95,119,104,111,108,101]⟩⟩
noncomputable def S178 : Str := ⟨⟨[105,115,95,116,114,117,116,104]⟩⟩
noncomputable def S179 : Str := ⟨⟨[105,115,95,114,111,119]⟩⟩
noncomputable def S180 : Str := ⟨⟨[99,104,101,99,107,95,112,108,97,116,101]⟩⟩
noncomputable def S181 : Str := ⟨⟨[99,104,101,99,107,95,115,105,100,101,115]⟩⟩
noncomputable def S182 : Str := ⟨⟨[68,79,87,78]⟩⟩
noncomputable def S183 : Str := ⟨⟨[100,111,119,110]⟩⟩
noncomputable def S184 : Str := ⟨⟨[65,67,82,79,83,83]⟩⟩
noncomputable def S185 : Str := ⟨⟨[97,99,114,111,115,115]⟩⟩
noncomputable def S186 : Str := ⟨⟨[87,65,89,83]⟩⟩
noncomputable def S187 : Str := ⟨⟨[108,105,101,115,95,105,110]⟩⟩
noncomputable def S188 : Str := ⟨⟨[99,117,116,95,112,97,114,116,115]⟩⟩
noncomputable def S189 : Str := ⟨⟨[107]⟩⟩
noncomputable def S190 : Str := ⟨⟨[95,95,109,111,100,117,108,101,95,95]⟩⟩
noncomputable def S191 : Str := ⟨⟨[112,108,97,116,101,99,117,116,115,46,101,114,114,111,114,115]⟩⟩
noncomputable def S192 : Str := ⟨⟨[95,95,113,117,97,108,110,97,109,101,95,95]⟩⟩
noncomputable def S193 : Str := ⟨⟨[95,95,102,105,114,115,116,108,105,110,101,110,111,95,95]⟩⟩
noncomputable def S194 : Str := ⟨⟨[95,95,115,116,97,116,105,99,95,97,116,116,114,105,98,117,116,101,115,95,95]⟩⟩
noncomputable def S195 : Str := ⟨⟨[95,95,119,101,97,107,114,101,102,95,95]⟩⟩
noncomputable def S196 : Str := ⟨⟨[116,104,105,110,103]⟩⟩
noncomputable def S197 : Str := ⟨⟨[108,101,97,115,116]⟩⟩
noncomputable def S198 : Str := ⟨⟨[112,108,97,116,101,99,117,116,115,46,99,104,101,99,107,115]⟩⟩
noncomputable def S199 : Str := ⟨⟨[119,105,100,101]⟩⟩
noncomputable def S200 : Str := ⟨⟨[104,105,103,104]⟩⟩
noncomputable def S201 : Str := ⟨⟨[109,111,115,116]⟩⟩
noncomputable def S202 : Str := ⟨⟨[115,104,111,112]⟩⟩
noncomputable def S203 : Str := ⟨⟨[107,105,110,100]⟩⟩
noncomputable def S204 : Str := ⟨⟨[116,117,114,110,101,100]⟩⟩
noncomputable def S205 : Str := ⟨⟨[120]⟩⟩
noncomputable def S206 : Str := ⟨⟨[121]⟩⟩
noncomputable def S207 : Str := ⟨⟨[112,105,101,99,101,95,119,105,100,101]⟩⟩
noncomputable def S208 : Str := ⟨⟨[112,105,101,99,101,95,104,105,103,104]⟩⟩
noncomputable def S209 : Str := ⟨⟨[112,108,97,116,101,99,117,116,115,46,112,97,114,116,115]⟩⟩
noncomputable def S210 : Str := ⟨⟨[98,108,97,100,101]⟩⟩
noncomputable def S211 : Str := ⟨⟨[112,97,114,116]⟩⟩
noncomputable def S212 : Str := ⟨⟨[119,97,121]⟩⟩
noncomputable def S213 : Str := ⟨⟨[112]⟩⟩
noncomputable def S214 : Str := ⟨⟨[108,97,119,95,112,108,97,116,101,99,117,116,115,95,107,57,49,95,119,104,111,108,101,95,112,105,99,116,117,114,101,115]⟩⟩
noncomputable def S215 : Str := ⟨⟨[82,69,83,84]⟩⟩
noncomputable def S216 : Str := ⟨⟨[114,101,115,116]⟩⟩
noncomputable def S217 : Str := ⟨⟨[80,73,69,67,69]⟩⟩
noncomputable def S218 : Str := ⟨⟨[112,105,101,99,101]⟩⟩
noncomputable def S219 : Str := ⟨⟨[84,72,73,78,71,83,95,79,70,95,65,95,82,69,83,84]⟩⟩
noncomputable def S220 : Str := ⟨⟨[84,72,73,78,71,83,95,79,70,95,65,95,80,73,69,67,69]⟩⟩
noncomputable def S221 : Str := ⟨⟨[84,72,73,78,71,83,95,79,70,95,65,95,67,85,84]⟩⟩
noncomputable def S222 : Str := ⟨⟨[98,101,103,105,110,115,95,119,105,116,104]⟩⟩
noncomputable def S223 : Str := ⟨⟨[105,115,95,99,117,116]⟩⟩
noncomputable def S224 : Str := ⟨⟨[105,115,95,108,101,97,102]⟩⟩
noncomputable def S225 : Str := ⟨⟨[115,112,111,116,115,95,98,101,104,105,110,100]⟩⟩
noncomputable def S226 : Str := ⟨⟨[105,115,95,116,114,101,101]⟩⟩
noncomputable def S227 : Str := ⟨⟨[99,104,101,99,107,95,116,114,101,101]⟩⟩
noncomputable def S228 : Str := ⟨⟨[108,101,97,118,101,115,95,111,102]⟩⟩
noncomputable def S229 : Str := ⟨⟨[77,79,83,84,95,83,73,68,69]⟩⟩
noncomputable def S230 : Str := ⟨⟨[76,69,84,84,69,82,83]⟩⟩
noncomputable def S231 : Str := ⟨⟨[97,98,99,100,101,102,103,104]⟩⟩
noncomputable def S232 : Str := ⟨⟨[82,69,83,84,95,83,73,71,78]⟩⟩
noncomputable def S233 : Str := ⟨⟨[46]⟩⟩
noncomputable def S234 : Str := ⟨⟨[77,65,82,71,73,78,95,83,73,71,78]⟩⟩
noncomputable def S235 : Str := ⟨⟨[44]⟩⟩
noncomputable def S236 : Str := ⟨⟨[66,76,65,68,69,95,83,73,71,78]⟩⟩
noncomputable def S237 : Str := ⟨⟨[43]⟩⟩
noncomputable def S238 : Str := ⟨⟨[102,105,108,108]⟩⟩
noncomputable def S239 : Str := ⟨⟨[102,105,108,108,95,108,101,97,102]⟩⟩
noncomputable def S240 : Str := ⟨⟨[112,105,99,116,117,114,101]⟩⟩
noncomputable def S241 : Str := ⟨⟨[77,79,83,84,95,75,73,78,68,83]⟩⟩
noncomputable def S242 : Str := ⟨⟨[84,72,73,78,71,83,95,79,70,95,65,95,75,73,78,68]⟩⟩
noncomputable def S243 : Str := ⟨⟨[105,115,95,107,105,110,100]⟩⟩
noncomputable def S244 : Str := ⟨⟨[99,97,110,95,108,105,101,95,116,117,114,110,101,100]⟩⟩
noncomputable def S245 : Str := ⟨⟨[83,104,111,112]⟩⟩
noncomputable def S246 : Str := ⟨⟨[95,108,97,119,95,112,111,116]⟩⟩
noncomputable def S247 : Str := ⟨⟨[95,108,97,119,95,100,114,97,119]⟩⟩
noncomputable def S248 : Str := ⟨⟨[95,108,97,119,95,110,117,109,98,101,114]⟩⟩
noncomputable def S249 : Str := ⟨⟨[95,108,97,119,95,102,105,116,116,105,110,103]⟩⟩
noncomputable def S250 : Str := ⟨⟨[95,108,97,119,95,108,101,97,102]⟩⟩
noncomputable def S251 : Str := ⟨⟨[95,108,97,119,95,116,114,101,101]⟩⟩
noncomputable def S252 : Str := ⟨⟨[95,108,97,119,95,108,105,115,116,101,100]⟩⟩
noncomputable def S253 : Str := ⟨⟨[95,108,97,119,95,115,109,97,108,108]⟩⟩
noncomputable def S254 : Str := ⟨⟨[95,108,97,119,95,98,111,120]⟩⟩
noncomputable def S255 : Str := ⟨⟨[95,108,97,119,95,112,97,105,110,116,101,100]⟩⟩
noncomputable def S256 : Str := ⟨⟨[95,108,97,119,95,114,111,119,115]⟩⟩
noncomputable def S257 : Str := ⟨⟨[108,97,119]⟩⟩
noncomputable def S258 : Str := ⟨⟨[119,111,114,100]⟩⟩
noncomputable def S259 : Str := ⟨⟨[109,97,110,121]⟩⟩
noncomputable def S260 : Str := ⟨⟨[115,112,111,116]⟩⟩
noncomputable def S261 : Str := ⟨⟨[116,114,101,101]⟩⟩
noncomputable def S262 : Str := ⟨⟨[115,105,100,101]⟩⟩
noncomputable def S263 : Str := ⟨⟨[102,105,114,115,116]⟩⟩
noncomputable def S264 : Str := ⟨⟨[115,101,99,111,110,100]⟩⟩
noncomputable def S265 : Str := ⟨⟨[119,105,100,101,95,97,104,101,97,100]⟩⟩
noncomputable def S266 : Str := ⟨⟨[104,105,103,104,95,97,104,101,97,100]⟩⟩
noncomputable def S267 : Str := ⟨⟨[119,105,100,101,95,98,101,104,105,110,100]⟩⟩
noncomputable def S268 : Str := ⟨⟨[104,105,103,104,95,98,101,104,105,110,100]⟩⟩
noncomputable def S269 : Str := ⟨⟨[115,116,101,112]⟩⟩
noncomputable def S270 : Str := ⟨⟨[102,97,114,95,120]⟩⟩
noncomputable def S271 : Str := ⟨⟨[102,97,114,95,121]⟩⟩
noncomputable def S272 : Str := ⟨⟨[119,97,105,116,105,110,103]⟩⟩
noncomputable def S273 : Str := ⟨⟨[108,101,97,118,101,115]⟩⟩
noncomputable def S274 : Str := ⟨⟨[114,111,119,115]⟩⟩
noncomputable def S275 : Str := ⟨⟨[99,111,114,110,101,114]⟩⟩
noncomputable def S276 : Str := ⟨⟨[115,105,100,101,115]⟩⟩
noncomputable def S277 : Str := ⟨⟨[115,105,103,110]⟩⟩
noncomputable def S278 : Str := ⟨⟨[117,112]⟩⟩
noncomputable def S279 : Str := ⟨⟨[114,105,103,104,116]⟩⟩
noncomputable def S280 : Str := ⟨⟨[112,108,97,116,101,99,117,116,115,46,112,105,99,116,117,114,101,115]⟩⟩
noncomputable def S281 : Str := ⟨⟨[108,101,97,102]⟩⟩
noncomputable def S282 : Str := ⟨⟨[112,105,101,99,101,95,120]⟩⟩
noncomputable def S283 : Str := ⟨⟨[112,105,101,99,101,95,121]⟩⟩
noncomputable def S284 : Str := ⟨⟨[119,111,114,116,104]⟩⟩
noncomputable def S285 : Str := ⟨⟨[119,97,110,116,101,100]⟩⟩
noncomputable def S286 : Str := ⟨⟨[116,117,114,110,115]⟩⟩
noncomputable def S287 : Str := ⟨⟨[112,108,97,116,101,99,117,116,115,46,115,104,111,112,115]⟩⟩
noncomputable def S288 : Str := ⟨⟨[95,95,105,110,105,116,95,95]⟩⟩
noncomputable def S289 : Str := ⟨⟨[107,105,110,100,115]⟩⟩
noncomputable def S290 : Str := ⟨⟨[108,121,105,110,103,115]⟩⟩
noncomputable def S291 : Str := ⟨⟨[105,115,95,108,121,105,110,103]⟩⟩
noncomputable def S292 : Str := ⟨⟨[83,104,111,112,46,95,95,105,110,105,116,95,95]⟩⟩
noncomputable def S293 : Str := ⟨⟨[115,101,108,102]⟩⟩
noncomputable def S294 : Str := ⟨⟨[83,104,111,112,46,98,108,97,100,101]⟩⟩
noncomputable def S295 : Str := ⟨⟨[83,104,111,112,46,107,105,110,100,115]⟩⟩
noncomputable def S296 : Str := ⟨⟨[83,104,111,112,46,119,97,110,116,101,100]⟩⟩
noncomputable def S297 : Str := ⟨⟨[83,104,111,112,46,108,121,105,110,103,115]⟩⟩
noncomputable def S298 : Str := ⟨⟨[83,104,111,112,46,105,115,95,108,121,105,110,103]⟩⟩
noncomputable def S299 : Str := ⟨⟨[114,111,119]⟩⟩
noncomputable def S300 : Str := ⟨⟨[83,104,111,112,46,115,105,100,101,115]⟩⟩
noncomputable def S301 : Str := ⟨⟨[98,108,97,100,101,95,119,105,100,116,104]⟩⟩
noncomputable def S302 : Str := ⟨⟨[107,105,110,100,95,114,111,119,115]⟩⟩
noncomputable def S303 : Str := ⟨⟨[95,95,100,105,99,116,95,95]⟩⟩
noncomputable def S304 : Str := ⟨⟨[95,108,97,119,95,115,99,114,105,112,116]⟩⟩
noncomputable def S305 : Str := ⟨⟨[95,108,97,119,95,112,108,97,99,101]⟩⟩
noncomputable def S306 : Str := ⟨⟨[95,108,97,119,95,99,101,108,108]⟩⟩
noncomputable def S307 : Str := ⟨⟨[95,108,97,119,95,112,111,116,95,104,101,114,101]⟩⟩
noncomputable def S308 : Str := ⟨⟨[95,108,97,119,95,109,97,110,121]⟩⟩
noncomputable def S309 : Str := ⟨⟨[95,108,97,119,95,102,111,117,110,100]⟩⟩
noncomputable def S310 : Str := ⟨⟨[95,108,97,119,95,108,101,97,115,116]⟩⟩
noncomputable def S311 : Str := ⟨⟨[95,108,97,119,95,119,97,121]⟩⟩
noncomputable def S312 : Str := ⟨⟨[95,108,97,119,95,107,105,110,100,115]⟩⟩
noncomputable def S313 : Str := ⟨⟨[95,108,97,119,95,119,105,100,101]⟩⟩
noncomputable def S314 : Str := ⟨⟨[95,108,97,119,95,104,105,103,104]⟩⟩
noncomputable def S315 : Str := ⟨⟨[95,108,97,119,95,115,111,109,101]⟩⟩
noncomputable def S316 : Str := ⟨⟨[95,108,97,119,95,110,117,109,98,101,114,95,104,101,114,101]⟩⟩
noncomputable def S317 : Str := ⟨⟨[95,108,97,119,95,116,117,114,110,101,100]⟩⟩
noncomputable def S318 : Str := ⟨⟨[95,108,97,119,95,97]⟩⟩
noncomputable def S319 : Str := ⟨⟨[95,108,97,119,95,98]⟩⟩
noncomputable def S320 : Str := ⟨⟨[95,108,97,119,95,115,104,111,112]⟩⟩
noncomputable def S321 : Str := ⟨⟨[95,108,97,119,95,108,101,102,116]⟩⟩
noncomputable def S322 : Str := ⟨⟨[95,108,97,119,95,100,101,101,112]⟩⟩
noncomputable def S323 : Str := ⟨⟨[95,108,97,119,95,100,111,119,110]⟩⟩
noncomputable def S324 : Str := ⟨⟨[95,108,97,119,95,114,111,111,109]⟩⟩
noncomputable def S325 : Str := ⟨⟨[95,108,97,119,95,98,101,104,105,110,100]⟩⟩
noncomputable def S326 : Str := ⟨⟨[95,108,97,119,95,102,105,114,115,116]⟩⟩
noncomputable def S327 : Str := ⟨⟨[95,108,97,119,95,109,111,115,116]⟩⟩
noncomputable def S328 : Str := ⟨⟨[95,108,97,119,95,107]⟩⟩
noncomputable def S329 : Str := ⟨⟨[95,108,97,119,95,99,101,108,108,115]⟩⟩
noncomputable def S330 : Str := ⟨⟨[95,108,97,119,95,120]⟩⟩
noncomputable def S331 : Str := ⟨⟨[95,108,97,119,95,121]⟩⟩
noncomputable def S332 : Str := ⟨⟨[95,108,97,119,95,115,105,103,110]⟩⟩
noncomputable def S333 : Str := ⟨⟨[95,108,97,119,95,99,111,108,117,109,110]⟩⟩
noncomputable def S334 : Str := ⟨⟨[95,108,97,119,95,114,111,119]⟩⟩
noncomputable def S335 : Str := ⟨⟨[95,108,97,119,95,116,111,108,100]⟩⟩
noncomputable def S336 : Str := ⟨⟨[95,108,97,119,95,116,114,101,101,95,104,101,114,101]⟩⟩
noncomputable def S337 : Str := ⟨⟨[95,108,97,119,95,100,117,101]⟩⟩
noncomputable def S338 : Str := ⟨⟨[95,108,97,119,95,108,105,115,116,101,100,95,104,101,114,101]⟩⟩
noncomputable abbrev HK : Hook := kHook Pc.kK [nat_lit 3,nat_lit 20,nat_lit 21,nat_lit 30,nat_lit 31,nat_lit 43,nat_lit 44,nat_lit 55,nat_lit 56,nat_lit 67,nat_lit 68,nat_lit 79,nat_lit 80,nat_lit 91,nat_lit 92,nat_lit 103,nat_lit 104,nat_lit 115,nat_lit 116,nat_lit 124,nat_lit 125,nat_lit 131,nat_lit 132,nat_lit 138,nat_lit 139,nat_lit 145,nat_lit 146,nat_lit 152,nat_lit 153,nat_lit 154,nat_lit 160,nat_lit 161,nat_lit 167,nat_lit 168,nat_lit 174,nat_lit 175,nat_lit 181,nat_lit 182,nat_lit 188,nat_lit 189,nat_lit 195,nat_lit 196,nat_lit 202,nat_lit 203,nat_lit 209,nat_lit 210,nat_lit 216,nat_lit 217,nat_lit 223,nat_lit 224,nat_lit 230,nat_lit 231,nat_lit 235,nat_lit 236,nat_lit 242,nat_lit 243,nat_lit 249,nat_lit 250,nat_lit 261,nat_lit 262,nat_lit 268,nat_lit 269,nat_lit 275,nat_lit 276,nat_lit 280,nat_lit 281,nat_lit 287,nat_lit 288,nat_lit 294,nat_lit 295,nat_lit 301,nat_lit 302,nat_lit 304,nat_lit 305,nat_lit 315,nat_lit 316,nat_lit 322,nat_lit 323,nat_lit 329,nat_lit 330,nat_lit 334,nat_lit 335,nat_lit 341,nat_lit 342,nat_lit 348,nat_lit 349,nat_lit 353,nat_lit 354,nat_lit 360,nat_lit 361,nat_lit 367,nat_lit 368,nat_lit 374,nat_lit 375,nat_lit 379,nat_lit 380,nat_lit 386,nat_lit 387] (fun _ => by kernel_rfl)
noncomputable abbrev pt : Program := PySem.W.Fast.tw17149534140828640503
theorem pt_eq : PySem.Challenge.pw_platecuts_k91_whole_pictures = pt := PySem.W.Fast.te17149534140828640503
noncomputable def tp (i : Nat) : Stmt := pt.main.body.getD i (.Pass ⟨0,0,0,0⟩)
noncomputable abbrev f (o : Params → Obj) (l r : Params → BT) : Params → BT := fun P => .node (o P) (l P) (r P)
noncomputable abbrev z : Params → BT := fun _ => .nil
noncomputable abbrev e (P : Params) (n : Str) (t : Nat) (v : Value) : DictEntry := ⟨PyData.keyHash P n,.str n t,v⟩
noncomputable abbrev m0 : Nat := nat_lit 11
noncomputable abbrev an : Option Value := (some (.ref 6))
noncomputable abbrev en : Env := { scope := pt.main.scope,locals := mainNs,globals := mainNs,cells := [],code := (.ref 13),frame := some 14 }
noncomputable abbrev cE : Code := .body (behindTheImports pt) en
noncomputable abbrev qP : Pos := ⟨0,0,0,0⟩
noncomputable abbrev B : List Frame := [topFrame qP]
noncomputable abbrev L0 : String := PySem.W.SL.s14018661285674007319x4
noncomputable abbrev L1 : String := PySem.W.SL.s11665532747177232413x24
noncomputable abbrev L2 : String := PySem.W.SL.s15183661809925369436x15
noncomputable abbrev L3 : String := PySem.W.SL.s13915890719876406383x10
noncomputable abbrev L4 : String := PySem.W.SL.s13459172003223722735x3
noncomputable abbrev L5 : String := PySem.W.SL.s10557405761357834076x3
noncomputable abbrev L6 : String := PySem.W.SL.s4233737765568776869x3
noncomputable abbrev L7 : String := PySem.W.SL.s2508922471967985374x5
noncomputable abbrev L8 : String := PySem.W.SL.s15574269061696679450x3
noncomputable abbrev L9 : String := PySem.W.SL.s6016482663378992977x10
noncomputable abbrev L10 : String := PySem.W.SL.s5596568736180474577x8
noncomputable abbrev L11 : String := PySem.W.SL.s2839554839881490554x3
noncomputable abbrev L12 : String := PySem.W.SL.s725004073602090463x7
noncomputable abbrev L13 : String := PySem.W.SL.s9436932552931045734x7
noncomputable abbrev L14 : String := PySem.W.SL.s2754603736356183583x3
noncomputable abbrev L15 : String := PySem.W.SL.s15185746759980889043x6
noncomputable abbrev L16 : String := PySem.W.SL.s8192189862530294059x4
noncomputable abbrev L17 : String := PySem.W.SL.s7038307821325472102x4
noncomputable abbrev L18 : String := PySem.W.SL.s5662562618415449548x6
noncomputable abbrev L19 : String := PySem.W.SL.s15281542589158584767x7
noncomputable abbrev L20 : String := PySem.W.SL.s17651547275483570877x7
noncomputable abbrev L21 : String := PySem.W.SL.s4036449017235975746x7
noncomputable abbrev L22 : String := PySem.W.SL.s8879979712987360175x4
noncomputable abbrev L23 : String := PySem.W.SL.s1801250619170735830x3
noncomputable abbrev L24 : String := PySem.W.SL.s17659931425627118568x2
noncomputable abbrev L25 : String := PySem.W.SL.s6063217899685152688x5
noncomputable abbrev L26 : String := PySem.W.SL.s8008927332132565319x10
noncomputable abbrev L27 : String := PySem.W.SL.s3544116645089599534x10
noncomputable abbrev L28 : String := PySem.W.SL.s13761710972054866084x4
noncomputable abbrev L29 : String := PySem.W.SL.s12896375587409280029x5
noncomputable abbrev L30 : String := PySem.W.SL.s13014049009108672802x3
noncomputable abbrev L31 : String := PySem.W.SL.s13935586738268321596x6
noncomputable abbrev L32 : String := PySem.W.SL.s8200498257699607233x3
noncomputable abbrev L33 : String := PySem.W.SL.s14114244577727609259x3
noncomputable abbrev L34 : String := PySem.W.SL.s1499430450269397089x4
noncomputable abbrev L35 : String := PySem.W.SL.s8755793994789770505x5
noncomputable abbrev L36 : String := PySem.W.SL.s15725212667919936108x3
noncomputable abbrev L37 : String := PySem.W.SL.s15791221867095933363x3
noncomputable abbrev L38 : String := PySem.W.SL.s81309575031448614x3
noncomputable abbrev L39 : String := PySem.W.SL.s8069831620301644142x5
noncomputable abbrev L40 : String := PySem.W.SL.s10061844253413749634x4
noncomputable abbrev L41 : String := PySem.W.SL.s9496514870978017513x5
noncomputable abbrev L42 : String := PySem.W.SL.s8899691144933366716x7
noncomputable abbrev L43 : String := PySem.W.SL.s15201008993051130160x6
noncomputable abbrev L44 : String := PySem.W.SL.s741896355592496720x3
noncomputable abbrev L45 : String := PySem.W.SL.s17925004256654032244x4
noncomputable abbrev L46 : String := PySem.W.SL.s11695548795398191787x4
noncomputable abbrev L47 : String := PySem.W.SL.s4156966113859768872x10
noncomputable abbrev L48 : String := PySem.W.SL.s9501651726347032510x9
noncomputable abbrev L49 : String := PySem.W.SL.s15722918466584999320x5
noncomputable abbrev L50 : String := PySem.W.SL.s591115383303110208x11
noncomputable abbrev L51 : String := PySem.W.SL.s15721156781594690315x7
noncomputable abbrev L52 : String := PySem.W.SL.s14340494229221121180x9
noncomputable abbrev L53 : String := PySem.W.SL.s13429844117177748173x6
noncomputable abbrev L54 : String := PySem.W.SL.s16463266125957815391x5
noncomputable abbrev L55 : String := PySem.W.SL.s4922535414793169389x9
noncomputable abbrev L56 : String := PySem.W.SL.s8101838861749082086x8
noncomputable abbrev L57 : String := PySem.W.SL.s7066276694103001551x3
noncomputable abbrev L58 : String := PySem.W.SL.s9222952809800978799x4
noncomputable abbrev L59 : String := PySem.W.SL.s462964344163437139x3
noncomputable abbrev L60 : String := PySem.W.SL.s2742458400755230247x6
noncomputable abbrev L61 : String := PySem.W.SL.s1438033511350832697x5
noncomputable abbrev L62 : String := PySem.W.SL.s14365286008749172514x8
noncomputable abbrev L63 : String := PySem.W.SL.s3642769012341782148x3
noncomputable abbrev L64 : String := PySem.W.SL.s4674234679698826739x5
noncomputable abbrev L65 : String := PySem.W.SL.s16656946322747308186x12
noncomputable abbrev L66 : String := PySem.W.SL.s10796804682411823810x3
noncomputable abbrev L67 : String := PySem.W.SL.s4290257624100764138x5
noncomputable abbrev L68 : String := PySem.W.SL.s2766695959194262286x5
noncomputable abbrev L69 : String := PySem.W.SL.s17162191345867700912x4
noncomputable abbrev L70 : String := PySem.W.SL.s14339709457334898076x3
noncomputable abbrev L71 : String := PySem.W.SL.s4278001404047624695x13
noncomputable abbrev L72 : String := PySem.W.SL.s6585700554429387442x18
noncomputable abbrev L73 : String := PySem.W.SL.s5946037652744460706x9
noncomputable abbrev L74 : String := PySem.W.SL.s7410770068591931388x13
noncomputable abbrev L75 : String := PySem.W.SL.s11817881795495490833x17
noncomputable abbrev L76 : String := PySem.W.SL.s15679963881808890155x10
noncomputable abbrev L77 : String := PySem.W.SL.s3871700062485845797x15
noncomputable abbrev L78 : String := PySem.W.SL.s7689518266570723881x14
noncomputable abbrev L79 : String := PySem.W.SL.s9001593270443806431x14
noncomputable abbrev L80 : String := PySem.W.SL.s6882542574934516792x11
noncomputable abbrev L81 : String := PySem.W.SL.s14403400214490484960x8
noncomputable abbrev L82 : String := PySem.W.SL.s14457978657717015782x11
noncomputable abbrev L83 : String := PySem.W.SL.s1753610191782819921x11
noncomputable abbrev L84 : String := PySem.W.SL.s14119380538032626715x11
noncomputable abbrev L85 : String := PySem.W.SL.s11437920000406562045x9
noncomputable abbrev L86 : String := PySem.W.SL.s10852414792293593619x7
noncomputable abbrev L87 : String := PySem.W.SL.s14816307405966870543x14
noncomputable abbrev L88 : String := PySem.W.SL.s8682627914449686677x12
noncomputable abbrev L89 : String := PySem.W.SL.s4428170145600203450x18
noncomputable abbrev L90 : String := PySem.W.SL.s5991306692159431302x13
noncomputable abbrev L91 : String := PySem.W.SL.s16067994140765818257x11
noncomputable abbrev L92 : String := PySem.W.SL.s2327743974964600596x11
noncomputable abbrev L93 : String := PySem.W.SL.s2804747833354056582x9
noncomputable abbrev L94 : String := PySem.W.SL.s6070975301684473832x10
noncomputable abbrev L95 : String := PySem.W.SL.s14270485950484850486x7
noncomputable abbrev L96 : String := PySem.W.SL.s12041534306414923332x18
noncomputable abbrev L97 : String := PySem.W.SL.s2531307568338490285x13
noncomputable abbrev L98 : String := PySem.W.SL.s631175304937289666x17
noncomputable abbrev L99 : String := PySem.W.SL.s5144983644357021410x12
noncomputable abbrev L100 : String := PySem.W.SL.s18039099521571816885x18
noncomputable abbrev L101 : String := PySem.W.SL.s6011586214260557989x15
noncomputable abbrev L102 : String := PySem.W.SL.s5430567037509283100x13
noncomputable abbrev L103 : String := PySem.W.SL.s8117915138073963741x13
noncomputable abbrev L104 : String := PySem.W.SL.s3423317712779056401x25
noncomputable abbrev L105 : String := PySem.W.SL.s2007317383269046180x15
noncomputable abbrev L106 : String := PySem.W.SL.s17481586968713580700x14
noncomputable abbrev L107 : String := PySem.W.SL.s2450899226349176912x13
noncomputable abbrev L108 : String := PySem.W.SL.s16626165730633575011x14
noncomputable abbrev L109 : String := PySem.W.SL.s14288496050688921416x11
noncomputable abbrev L110 : String := PySem.W.SL.s5735081916595925998x15
noncomputable abbrev L111 : String := PySem.W.SL.s3865607918536308442x17
noncomputable abbrev L112 : String := PySem.W.SL.s13337502604062700212x15
noncomputable abbrev L113 : String := PySem.W.SL.s13114017843053701147x15
noncomputable abbrev L114 : String := PySem.W.SL.s17467278006356818441x17
noncomputable abbrev L115 : String := PySem.W.SL.s17722149559621369488x16
noncomputable abbrev L116 : String := PySem.W.SL.s7855274175708717672x17
noncomputable abbrev L117 : String := PySem.W.SL.s13351283678309829046x18
noncomputable abbrev L118 : String := PySem.W.SL.s6668348653404991179x15
noncomputable abbrev L119 : String := PySem.W.SL.s12913350958174193794x18
noncomputable abbrev L120 : String := PySem.W.SL.s16115879512475548326x12
noncomputable abbrev L121 : String := PySem.W.SL.s15920661018069861047x16
noncomputable abbrev L122 : String := PySem.W.SL.s10779130036587390575x21
noncomputable abbrev L123 : String := PySem.W.SL.s7801419657504700863x10
noncomputable abbrev L124 : String := PySem.W.SL.s1688129525768580628x8
noncomputable abbrev L125 : String := PySem.W.SL.s1031832959479892071x19
noncomputable abbrev L126 : String := PySem.W.SL.s8991790508128307865x19
noncomputable abbrev L127 : String := PySem.W.SL.s14539662485746970245x23
noncomputable abbrev L128 : String := PySem.W.SL.s11643622729373238714x14
noncomputable abbrev L129 : String := PySem.W.SL.s3386828779285465597x17
noncomputable abbrev L130 : String := PySem.W.SL.s13042696260734638735x12
noncomputable abbrev L131 : String := PySem.W.SL.s18239426817015966623x15
noncomputable abbrev L132 : String := PySem.W.SL.s1270395311379034370x22
noncomputable abbrev L133 : String := PySem.W.SL.s10696252587037064777x22
noncomputable abbrev L134 : String := PySem.W.SL.s7852717498200857586x20
noncomputable abbrev L135 : String := PySem.W.SL.s6377248116197321094x8
noncomputable abbrev L136 : String := PySem.W.SL.s3834378056692298002x18
noncomputable abbrev L137 : String := PySem.W.SL.s17586630440231065808x18
noncomputable abbrev L138 : String := PySem.W.SL.s15234114252648025395x21
noncomputable abbrev L139 : String := PySem.W.SL.s8496462677383758984x14
noncomputable abbrev L140 : String := PySem.W.SL.s16789243406116112673x4
noncomputable abbrev L141 : String := PySem.W.SL.s14400166428656793546x20
noncomputable abbrev L142 : String := PySem.W.SL.s5857708277339239366x20
noncomputable abbrev L143 : String := PySem.W.SL.s7804999707787243718x20
noncomputable abbrev L144 : String := PySem.W.SL.s7097527257260152453x26
noncomputable abbrev L145 : String := PySem.W.SL.s6658869562736209489x6
noncomputable abbrev L146 : String := PySem.W.SL.s5856160107412720595x4
noncomputable abbrev L147 : String := PySem.W.SL.s658472552662922059x5
noncomputable abbrev sZ (w : World) (os : OsState) : Shared := ⟨boot_heap w.params,Array.mk [],boot_drawn,boot_toks,os⟩
noncomputable def o11 (P : Params) : Obj := ⟨(.type L68),none,(.seq #[] 0),#[]⟩
noncomputable def o12 (P : Params) : Obj := ⟨.none,none,(.fields #[]),#[]⟩
noncomputable def o13 (P : Params) : Obj := ⟨(.type L146),none,(.fields #[.str S166 182,.str S166 183,.str S164 184,.int 1 0,.int 0 0,.int 0 0,.int 0 0,.int 0 0,.ref 11,.bool false,.int 181 0,.ref 12,.none,.none,.none,.none,.int 185 0,.int 1 0,.str S164 186]),#[]⟩
noncomputable def o14 (P : Params) : Obj := ⟨(.type L147),none,.plain,#[some (.ref 13),some (.ref 3),some (.ref 3),none,some (.str S160 164),none,some (.ref 0)]⟩
noncomputable def hA (P : Params) : Heap := ⟨⟨[boot_o_0 P,boot_o_1 P,boot_o_2 P,boot_o_3 P,boot_o_4 P,boot_o_5 P,boot_o_6 P,boot_o_7 P,boot_o_8 P,boot_o_9 P,boot_o_10 P,o11 P,o12 P,o13 P,o14 P]⟩,{ }⟩
noncomputable abbrev sA (w : World) (os : OsState) : Shared := ⟨hA w.params,(Array.mk []),⟨0,0,0,0⟩,187,os⟩
noncomputable abbrev pA : Pos := ⟨0,0,0,0⟩
theorem pre (w : World) : (fun os => topGo treeTable pt w m0 an 12 (sZ w os) (topStub pt)) = fun os => some (sA w os,(⟨denote treeTable cE,cE,pA,B⟩ : Thread)) := by
  rw [PySem.W.Fast.te15667345088766844465,PySem.W.Fast.te14364793385576792824,PySem.W.Fast.te11892475500146522536]; kernel_rfl
noncomputable def tB : Params → BT := (f boot_o_0 (f boot_o_1 (f boot_o_3 (f boot_o_7 z z) (f o11 z z)) (f boot_o_5 (f boot_o_9 z z) (f o13 z z))) (f boot_o_2 (f boot_o_4 (f boot_o_8 z z) (f o12 z z)) (f boot_o_6 (f boot_o_10 z z) (f o14 z z))))
noncomputable abbrev sB (w : World) (os : OsState) : SharedT := ⟨tB w.params,15,{ },(Array.mk []),⟨0,0,0,0⟩,187,os⟩
noncomputable abbrev pB : Pos := ⟨0,0,0,0⟩
theorem blk (w : World) : (fun os => segRun treeTable pt w m0 an 1 1 (sA w os) ⟨(blockStart (behindTheImports pt) en).wrap (fun _ => doneF .next) deadEnd id id,cE,pA,B⟩) = fun os => some (.next,(sB w os).abs,cE,pB) := by
  rw [PySem.W.Fast.te14374325043358763698,PySem.W.Fast.te14364793385576792824,PySem.W.Fast.te1066825118222455980]; kernel_rfl
noncomputable def o3v1 (P : Params) : Obj := ⟨(.type L0),none,(.dict #[e P S0 165 (.str S167 401),e P S2 166 .none,e P S3 167 .none,e P S4 168 (.builtin L144),e P S5 169 .none,e P S161 170 (.ref 6),e P S162 171 (.ref 4),e P S163 173 (.str S164 172),e P S165 174 .none,e P S168 193 (.ref 21),e P S169 213 (.ref 31),e P S170 229 (.ref 44),e P S171 245 (.ref 56),e P S172 261 (.ref 68),e P S173 277 (.ref 80),e P S174 293 (.ref 92),e P S175 309 (.ref 104),e P S176 325 (.ref 116),e P S177 335 (.ref 125),e P S178 342 (.ref 132),e P S179 349 (.ref 139),e P S180 357 (.ref 146),e P S181 366 (.ref 153),e P S182 370 (.str S183 369),e P S184 372 (.str S185 371),e P S186 373 (.ref 154),e P S187 388 (.ref 161),e P S188 400 (.ref 168)] 28),#[]⟩
noncomputable def o12v1 (P : Params) : Obj := ⟨.none,none,(.fields #[.int 1 0,.int 0 0,.ref 20,.int 5 0,.int 0 0,.ref 27,.int 7 0,.int 0 0,.ref 40,.int 9 0,.int 0 0,.ref 52,.int 11 0,.int 0 0,.ref 64,.int 13 0,.int 0 0,.ref 76,.int 15 0,.int 0 0,.ref 88,.int 17 0,.int 0 0,.ref 100,.int 19 0,.int 0 0,.ref 112,.int 22 0,.int 0 0,.ref 124,.int 24 0,.int 0 0,.ref 131,.int 26 0,.int 0 0,.ref 138,.int 28 0,.int 0 0,.ref 145,.int 31 0,.int 0 0,.ref 152,.int 38 0,.int 0 0,.ref 160,.int 43 0,.int 0 0,.ref 167]),#[]⟩
noncomputable def o15 (P : Params) : Obj := ⟨(.type L68),none,(.seq #[] 0),#[]⟩
noncomputable def o16 (P : Params) : Obj := ⟨.none,none,(.fields #[]),#[]⟩
noncomputable def o17 (P : Params) : Obj := ⟨(.type L68),none,(.seq #[.str S189 190] 0),#[]⟩
noncomputable def o18 (P : Params) : Obj := ⟨(.type L68),none,(.seq #[] 0),#[]⟩
noncomputable def o19 (P : Params) : Obj := ⟨.none,none,(.func ⟨S168,S168,L2.defArgs (tp 0),(.stmts (L2.defBody (tp 0))),L2.defScope (tp 0),0,[],.none,.none,.none,.none,none,.none,.none,0⟩),#[]⟩
noncomputable def o20 (P : Params) : Obj := ⟨(.type L146),none,(.fields #[.str S168 187,.str S168 188,.str S164 189,.int 1 0,.int 1 0,.int 0 0,.int 0 0,.int 3 0,.ref 15,.bool true,.int 181 0,.ref 16,.none,.ref 17,.ref 18,.ref 19,.int 191 0,.int 1 0,.str S164 192]),#[]⟩
noncomputable abbrev L148 : String := PySem.W.SL.s7174869446012820540x8
noncomputable def o21 (P : Params) : Obj := ⟨(.type L148),none,(.func ⟨S168,S168,L2.defArgs (tp 0),(.stmts (L2.defBody (tp 0))),L2.defScope (tp 0),3,[],.none,.none,.none,.str S160 164,none,.ref 20,.none,0⟩),#[]⟩
noncomputable def o22 (P : Params) : Obj := ⟨(.type L68),none,(.seq #[.type L94] 0),#[]⟩
noncomputable abbrev L149 : String := PySem.W.SL.s11030030927630378310x26
noncomputable abbrev L150 : String := PySem.W.SL.s10062305145149207511x16
noncomputable def o23 (P : Params) : Obj := ⟨(.type L149),none,(.fields #[.builtin L150,.type L69]),#[]⟩
noncomputable def o24 (P : Params) : Obj := ⟨(.type L0),none,(.dict #[e P S190 203 (.str S191 194),e P S192 205 (.str S169 204),e P S193 207 (.int 5 206),e P S194 208 (.ref 29)] 4),#[]⟩
noncomputable def o25 (P : Params) : Obj := ⟨(.type L68),none,(.seq #[] 0),#[]⟩
noncomputable def o26 (P : Params) : Obj := ⟨.none,none,(.fields #[]),#[]⟩
noncomputable def o27 (P : Params) : Obj := ⟨(.type L146),none,(.fields #[.str S169 198,.str S169 199,.str S164 200,.int 5 0,.int 0 0,.int 0 0,.int 0 0,.int 0 0,.ref 25,.bool false,.int 181 0,.ref 26,.none,.none,.none,.none,.int 201 0,.int 5 0,.str S164 202]),#[]⟩
noncomputable def o28 (P : Params) : Obj := ⟨(.type L147),none,.plain,#[some (.ref 27),some (.ref 3),some (.ref 24),none,some (.str S191 194),none,some (.ref 0)]⟩
noncomputable def o29 (P : Params) : Obj := ⟨(.type L68),none,(.seq #[] 0),#[]⟩
noncomputable def o30 (P : Params) : Obj := ⟨(.type L0),none,(.dict #[e P S190 203 (.str S191 194),e P S193 207 (.int 5 206),e P S194 208 (.ref 29),e P S195 210 (.ref 32),e P S2 211 .none] 3),#[]⟩
noncomputable abbrev L151 : String := PySem.W.SL.s4209523147560561109x18
noncomputable def o31 (P : Params) : Obj := ⟨(.type L69),none,(.cls ⟨S169,[.type L94],[.ref 31,.type L94,.type L73,.type L71,.type L60],30,S169,true,[],[.ref 44,.ref 56,.ref 68,.ref 80,.ref 92,.ref 104,.ref 116],false,none,false⟩),#[some (.ref 22),none,some (.str S169 196),some (.str S169 204),some (.builtin L151),some (.bool true)]⟩
noncomputable abbrev L152 : String := PySem.W.SL.s14755015743595814543x17
noncomputable abbrev L153 : String := PySem.W.SL.s10220274742760427390x26
noncomputable def o32 (P : Params) : Obj := ⟨(.type L152),none,(.fields #[.str S195 209,.ref 31,.builtin L153,.none]),#[]⟩
noncomputable def o33 (P : Params) : Obj := ⟨(.type L67),none,(.fields #[.ref 31,.ref 31,.ref 31]),#[]⟩
noncomputable abbrev L154 : String := PySem.W.SL.s4860613602091757760x24
noncomputable def o34 (P : Params) : Obj := ⟨(.type L149),none,(.fields #[.builtin L154,.ref 31]),#[]⟩
noncomputable def o35 (P : Params) : Obj := ⟨(.type L68),none,(.seq #[.ref 31] 0),#[]⟩
noncomputable def o36 (P : Params) : Obj := ⟨(.type L149),none,(.fields #[.builtin L150,.type L69]),#[]⟩
noncomputable def o37 (P : Params) : Obj := ⟨(.type L0),none,(.dict #[e P S190 221 (.str S191 194),e P S192 223 (.str S170 222),e P S193 225 (.int 7 224),e P S194 226 (.ref 42)] 4),#[]⟩
noncomputable def o38 (P : Params) : Obj := ⟨(.type L68),none,(.seq #[] 0),#[]⟩
noncomputable def o39 (P : Params) : Obj := ⟨.none,none,(.fields #[]),#[]⟩
noncomputable def o40 (P : Params) : Obj := ⟨(.type L146),none,(.fields #[.str S170 216,.str S170 217,.str S164 218,.int 7 0,.int 0 0,.int 0 0,.int 0 0,.int 0 0,.ref 38,.bool false,.int 181 0,.ref 39,.none,.none,.none,.none,.int 219 0,.int 7 0,.str S164 220]),#[]⟩
noncomputable def o41 (P : Params) : Obj := ⟨(.type L147),none,.plain,#[some (.ref 40),some (.ref 3),some (.ref 37),none,some (.str S191 194),none,some (.ref 0)]⟩
noncomputable def o42 (P : Params) : Obj := ⟨(.type L68),none,(.seq #[] 0),#[]⟩
noncomputable def o43 (P : Params) : Obj := ⟨(.type L0),none,(.dict #[e P S190 221 (.str S191 194),e P S193 225 (.int 7 224),e P S194 226 (.ref 42),e P S2 227 .none] 2),#[]⟩
noncomputable def o44 (P : Params) : Obj := ⟨(.type L69),none,(.cls ⟨S170,[.ref 31],[.ref 44,.ref 31,.type L94,.type L73,.type L71,.type L60],43,S170,true,[],[],false,none,false⟩),#[some (.ref 35),none,some (.str S170 214),some (.str S170 222),some (.builtin L151),some (.bool true)]⟩
noncomputable def o45 (P : Params) : Obj := ⟨(.type L67),none,(.fields #[.ref 44,.ref 44,.ref 44]),#[]⟩
noncomputable def o46 (P : Params) : Obj := ⟨(.type L149),none,(.fields #[.builtin L154,.ref 44]),#[]⟩
noncomputable def o47 (P : Params) : Obj := ⟨(.type L68),none,(.seq #[.ref 31] 0),#[]⟩
noncomputable def o48 (P : Params) : Obj := ⟨(.type L149),none,(.fields #[.builtin L150,.type L69]),#[]⟩
noncomputable def o49 (P : Params) : Obj := ⟨(.type L0),none,(.dict #[e P S190 237 (.str S191 194),e P S192 239 (.str S171 238),e P S193 241 (.int 9 240),e P S194 242 (.ref 54)] 4),#[]⟩
noncomputable def o50 (P : Params) : Obj := ⟨(.type L68),none,(.seq #[] 0),#[]⟩
noncomputable def o51 (P : Params) : Obj := ⟨.none,none,(.fields #[]),#[]⟩
noncomputable def o52 (P : Params) : Obj := ⟨(.type L146),none,(.fields #[.str S171 232,.str S171 233,.str S164 234,.int 9 0,.int 0 0,.int 0 0,.int 0 0,.int 0 0,.ref 50,.bool false,.int 181 0,.ref 51,.none,.none,.none,.none,.int 235 0,.int 9 0,.str S164 236]),#[]⟩
noncomputable def o53 (P : Params) : Obj := ⟨(.type L147),none,.plain,#[some (.ref 52),some (.ref 3),some (.ref 49),none,some (.str S191 194),none,some (.ref 0)]⟩
noncomputable def o54 (P : Params) : Obj := ⟨(.type L68),none,(.seq #[] 0),#[]⟩
noncomputable def o55 (P : Params) : Obj := ⟨(.type L0),none,(.dict #[e P S190 237 (.str S191 194),e P S193 241 (.int 9 240),e P S194 242 (.ref 54),e P S2 243 .none] 2),#[]⟩
noncomputable def o56 (P : Params) : Obj := ⟨(.type L69),none,(.cls ⟨S171,[.ref 31],[.ref 56,.ref 31,.type L94,.type L73,.type L71,.type L60],55,S171,true,[],[],false,none,false⟩),#[some (.ref 47),none,some (.str S171 230),some (.str S171 238),some (.builtin L151),some (.bool true)]⟩
noncomputable def o57 (P : Params) : Obj := ⟨(.type L67),none,(.fields #[.ref 56,.ref 56,.ref 56]),#[]⟩
noncomputable def o58 (P : Params) : Obj := ⟨(.type L149),none,(.fields #[.builtin L154,.ref 56]),#[]⟩
noncomputable def o59 (P : Params) : Obj := ⟨(.type L68),none,(.seq #[.ref 31] 0),#[]⟩
noncomputable def o60 (P : Params) : Obj := ⟨(.type L149),none,(.fields #[.builtin L150,.type L69]),#[]⟩
noncomputable def o61 (P : Params) : Obj := ⟨(.type L0),none,(.dict #[e P S190 253 (.str S191 194),e P S192 255 (.str S172 254),e P S193 257 (.int 11 256),e P S194 258 (.ref 66)] 4),#[]⟩
noncomputable def o62 (P : Params) : Obj := ⟨(.type L68),none,(.seq #[] 0),#[]⟩
noncomputable def o63 (P : Params) : Obj := ⟨.none,none,(.fields #[]),#[]⟩
noncomputable def o64 (P : Params) : Obj := ⟨(.type L146),none,(.fields #[.str S172 248,.str S172 249,.str S164 250,.int 11 0,.int 0 0,.int 0 0,.int 0 0,.int 0 0,.ref 62,.bool false,.int 181 0,.ref 63,.none,.none,.none,.none,.int 251 0,.int 11 0,.str S164 252]),#[]⟩
noncomputable def o65 (P : Params) : Obj := ⟨(.type L147),none,.plain,#[some (.ref 64),some (.ref 3),some (.ref 61),none,some (.str S191 194),none,some (.ref 0)]⟩
noncomputable def o66 (P : Params) : Obj := ⟨(.type L68),none,(.seq #[] 0),#[]⟩
noncomputable def o67 (P : Params) : Obj := ⟨(.type L0),none,(.dict #[e P S190 253 (.str S191 194),e P S193 257 (.int 11 256),e P S194 258 (.ref 66),e P S2 259 .none] 2),#[]⟩
noncomputable def o68 (P : Params) : Obj := ⟨(.type L69),none,(.cls ⟨S172,[.ref 31],[.ref 68,.ref 31,.type L94,.type L73,.type L71,.type L60],67,S172,true,[],[],false,none,false⟩),#[some (.ref 59),none,some (.str S172 246),some (.str S172 254),some (.builtin L151),some (.bool true)]⟩
noncomputable def o69 (P : Params) : Obj := ⟨(.type L67),none,(.fields #[.ref 68,.ref 68,.ref 68]),#[]⟩
noncomputable def o70 (P : Params) : Obj := ⟨(.type L149),none,(.fields #[.builtin L154,.ref 68]),#[]⟩
noncomputable def o71 (P : Params) : Obj := ⟨(.type L68),none,(.seq #[.ref 31] 0),#[]⟩
noncomputable def o72 (P : Params) : Obj := ⟨(.type L149),none,(.fields #[.builtin L150,.type L69]),#[]⟩
noncomputable def o73 (P : Params) : Obj := ⟨(.type L0),none,(.dict #[e P S190 269 (.str S191 194),e P S192 271 (.str S173 270),e P S193 273 (.int 13 272),e P S194 274 (.ref 78)] 4),#[]⟩
noncomputable def o74 (P : Params) : Obj := ⟨(.type L68),none,(.seq #[] 0),#[]⟩
noncomputable def o75 (P : Params) : Obj := ⟨.none,none,(.fields #[]),#[]⟩
noncomputable def o76 (P : Params) : Obj := ⟨(.type L146),none,(.fields #[.str S173 264,.str S173 265,.str S164 266,.int 13 0,.int 0 0,.int 0 0,.int 0 0,.int 0 0,.ref 74,.bool false,.int 181 0,.ref 75,.none,.none,.none,.none,.int 267 0,.int 13 0,.str S164 268]),#[]⟩
noncomputable def o77 (P : Params) : Obj := ⟨(.type L147),none,.plain,#[some (.ref 76),some (.ref 3),some (.ref 73),none,some (.str S191 194),none,some (.ref 0)]⟩
noncomputable def o78 (P : Params) : Obj := ⟨(.type L68),none,(.seq #[] 0),#[]⟩
noncomputable def o79 (P : Params) : Obj := ⟨(.type L0),none,(.dict #[e P S190 269 (.str S191 194),e P S193 273 (.int 13 272),e P S194 274 (.ref 78),e P S2 275 .none] 2),#[]⟩
noncomputable def o80 (P : Params) : Obj := ⟨(.type L69),none,(.cls ⟨S173,[.ref 31],[.ref 80,.ref 31,.type L94,.type L73,.type L71,.type L60],79,S173,true,[],[],false,none,false⟩),#[some (.ref 71),none,some (.str S173 262),some (.str S173 270),some (.builtin L151),some (.bool true)]⟩
noncomputable def o81 (P : Params) : Obj := ⟨(.type L67),none,(.fields #[.ref 80,.ref 80,.ref 80]),#[]⟩
noncomputable def o82 (P : Params) : Obj := ⟨(.type L149),none,(.fields #[.builtin L154,.ref 80]),#[]⟩
noncomputable def o83 (P : Params) : Obj := ⟨(.type L68),none,(.seq #[.ref 31] 0),#[]⟩
noncomputable def o84 (P : Params) : Obj := ⟨(.type L149),none,(.fields #[.builtin L150,.type L69]),#[]⟩
noncomputable def o85 (P : Params) : Obj := ⟨(.type L0),none,(.dict #[e P S190 285 (.str S191 194),e P S192 287 (.str S174 286),e P S193 289 (.int 15 288),e P S194 290 (.ref 90)] 4),#[]⟩
noncomputable def o86 (P : Params) : Obj := ⟨(.type L68),none,(.seq #[] 0),#[]⟩
noncomputable def o87 (P : Params) : Obj := ⟨.none,none,(.fields #[]),#[]⟩
noncomputable def o88 (P : Params) : Obj := ⟨(.type L146),none,(.fields #[.str S174 280,.str S174 281,.str S164 282,.int 15 0,.int 0 0,.int 0 0,.int 0 0,.int 0 0,.ref 86,.bool false,.int 181 0,.ref 87,.none,.none,.none,.none,.int 283 0,.int 15 0,.str S164 284]),#[]⟩
noncomputable def o89 (P : Params) : Obj := ⟨(.type L147),none,.plain,#[some (.ref 88),some (.ref 3),some (.ref 85),none,some (.str S191 194),none,some (.ref 0)]⟩
noncomputable def o90 (P : Params) : Obj := ⟨(.type L68),none,(.seq #[] 0),#[]⟩
noncomputable def o91 (P : Params) : Obj := ⟨(.type L0),none,(.dict #[e P S190 285 (.str S191 194),e P S193 289 (.int 15 288),e P S194 290 (.ref 90),e P S2 291 .none] 2),#[]⟩
noncomputable def o92 (P : Params) : Obj := ⟨(.type L69),none,(.cls ⟨S174,[.ref 31],[.ref 92,.ref 31,.type L94,.type L73,.type L71,.type L60],91,S174,true,[],[],false,none,false⟩),#[some (.ref 83),none,some (.str S174 278),some (.str S174 286),some (.builtin L151),some (.bool true)]⟩
noncomputable def o93 (P : Params) : Obj := ⟨(.type L67),none,(.fields #[.ref 92,.ref 92,.ref 92]),#[]⟩
noncomputable def o94 (P : Params) : Obj := ⟨(.type L149),none,(.fields #[.builtin L154,.ref 92]),#[]⟩
noncomputable def o95 (P : Params) : Obj := ⟨(.type L68),none,(.seq #[.ref 31] 0),#[]⟩
noncomputable def o96 (P : Params) : Obj := ⟨(.type L149),none,(.fields #[.builtin L150,.type L69]),#[]⟩
noncomputable def o97 (P : Params) : Obj := ⟨(.type L0),none,(.dict #[e P S190 301 (.str S191 194),e P S192 303 (.str S175 302),e P S193 305 (.int 17 304),e P S194 306 (.ref 102)] 4),#[]⟩
noncomputable def o98 (P : Params) : Obj := ⟨(.type L68),none,(.seq #[] 0),#[]⟩
noncomputable def o99 (P : Params) : Obj := ⟨.none,none,(.fields #[]),#[]⟩
noncomputable def o100 (P : Params) : Obj := ⟨(.type L146),none,(.fields #[.str S175 296,.str S175 297,.str S164 298,.int 17 0,.int 0 0,.int 0 0,.int 0 0,.int 0 0,.ref 98,.bool false,.int 181 0,.ref 99,.none,.none,.none,.none,.int 299 0,.int 17 0,.str S164 300]),#[]⟩
noncomputable def o101 (P : Params) : Obj := ⟨(.type L147),none,.plain,#[some (.ref 100),some (.ref 3),some (.ref 97),none,some (.str S191 194),none,some (.ref 0)]⟩
noncomputable def o102 (P : Params) : Obj := ⟨(.type L68),none,(.seq #[] 0),#[]⟩
noncomputable def o103 (P : Params) : Obj := ⟨(.type L0),none,(.dict #[e P S190 301 (.str S191 194),e P S193 305 (.int 17 304),e P S194 306 (.ref 102),e P S2 307 .none] 2),#[]⟩
noncomputable def o104 (P : Params) : Obj := ⟨(.type L69),none,(.cls ⟨S175,[.ref 31],[.ref 104,.ref 31,.type L94,.type L73,.type L71,.type L60],103,S175,true,[],[],false,none,false⟩),#[some (.ref 95),none,some (.str S175 294),some (.str S175 302),some (.builtin L151),some (.bool true)]⟩
noncomputable def o105 (P : Params) : Obj := ⟨(.type L67),none,(.fields #[.ref 104,.ref 104,.ref 104]),#[]⟩
noncomputable def o106 (P : Params) : Obj := ⟨(.type L149),none,(.fields #[.builtin L154,.ref 104]),#[]⟩
noncomputable def o107 (P : Params) : Obj := ⟨(.type L68),none,(.seq #[.ref 31] 0),#[]⟩
noncomputable def o108 (P : Params) : Obj := ⟨(.type L149),none,(.fields #[.builtin L150,.type L69]),#[]⟩
noncomputable def o109 (P : Params) : Obj := ⟨(.type L0),none,(.dict #[e P S190 317 (.str S191 194),e P S192 319 (.str S176 318),e P S193 321 (.int 19 320),e P S194 322 (.ref 114)] 4),#[]⟩
noncomputable def o110 (P : Params) : Obj := ⟨(.type L68),none,(.seq #[] 0),#[]⟩
noncomputable def o111 (P : Params) : Obj := ⟨.none,none,(.fields #[]),#[]⟩
noncomputable def o112 (P : Params) : Obj := ⟨(.type L146),none,(.fields #[.str S176 312,.str S176 313,.str S164 314,.int 19 0,.int 0 0,.int 0 0,.int 0 0,.int 0 0,.ref 110,.bool false,.int 181 0,.ref 111,.none,.none,.none,.none,.int 315 0,.int 19 0,.str S164 316]),#[]⟩
noncomputable def o113 (P : Params) : Obj := ⟨(.type L147),none,.plain,#[some (.ref 112),some (.ref 3),some (.ref 109),none,some (.str S191 194),none,some (.ref 0)]⟩
noncomputable def o114 (P : Params) : Obj := ⟨(.type L68),none,(.seq #[] 0),#[]⟩
noncomputable def o115 (P : Params) : Obj := ⟨(.type L0),none,(.dict #[e P S190 317 (.str S191 194),e P S193 321 (.int 19 320),e P S194 322 (.ref 114),e P S2 323 .none] 2),#[]⟩
noncomputable def o116 (P : Params) : Obj := ⟨(.type L69),none,(.cls ⟨S176,[.ref 31],[.ref 116,.ref 31,.type L94,.type L73,.type L71,.type L60],115,S176,true,[],[],false,none,false⟩),#[some (.ref 107),none,some (.str S176 310),some (.str S176 318),some (.builtin L151),some (.bool true)]⟩
noncomputable def o117 (P : Params) : Obj := ⟨(.type L67),none,(.fields #[.ref 116,.ref 116,.ref 116]),#[]⟩
noncomputable def o118 (P : Params) : Obj := ⟨(.type L149),none,(.fields #[.builtin L154,.ref 116]),#[]⟩
noncomputable def o119 (P : Params) : Obj := ⟨(.type L68),none,(.seq #[] 0),#[]⟩
noncomputable def o120 (P : Params) : Obj := ⟨.none,none,(.fields #[]),#[]⟩
noncomputable def o121 (P : Params) : Obj := ⟨(.type L68),none,(.seq #[.str S196 331,.str S197 332] 0),#[]⟩
noncomputable def o122 (P : Params) : Obj := ⟨(.type L68),none,(.seq #[] 0),#[]⟩
noncomputable def o123 (P : Params) : Obj := ⟨.none,none,(.func ⟨S177,S177,L2.defArgs (tp 11),(.stmts (L2.defBody (tp 11))),L2.defScope (tp 11),0,[],.none,.none,.none,.none,none,.none,.none,0⟩),#[]⟩
noncomputable def o124 (P : Params) : Obj := ⟨(.type L146),none,(.fields #[.str S177 328,.str S177 329,.str S164 330,.int 22 0,.int 2 0,.int 0 0,.int 0 0,.int 3 0,.ref 119,.bool true,.int 181 0,.ref 120,.none,.ref 121,.ref 122,.ref 123,.int 333 0,.int 22 0,.str S164 334]),#[]⟩
noncomputable def o125 (P : Params) : Obj := ⟨(.type L148),none,(.func ⟨S177,S177,L2.defArgs (tp 11),(.stmts (L2.defBody (tp 11))),L2.defScope (tp 11),3,[],.none,.none,.none,.str S198 326,none,.ref 124,.none,0⟩),#[]⟩
noncomputable def o126 (P : Params) : Obj := ⟨(.type L68),none,(.seq #[] 0),#[]⟩
noncomputable def o127 (P : Params) : Obj := ⟨.none,none,(.fields #[]),#[]⟩
noncomputable def o128 (P : Params) : Obj := ⟨(.type L68),none,(.seq #[.str S196 339] 0),#[]⟩
noncomputable def o129 (P : Params) : Obj := ⟨(.type L68),none,(.seq #[] 0),#[]⟩
noncomputable def o130 (P : Params) : Obj := ⟨.none,none,(.func ⟨S178,S178,L2.defArgs (tp 12),(.stmts (L2.defBody (tp 12))),L2.defScope (tp 12),0,[],.none,.none,.none,.none,none,.none,.none,0⟩),#[]⟩
noncomputable def o131 (P : Params) : Obj := ⟨(.type L146),none,(.fields #[.str S178 336,.str S178 337,.str S164 338,.int 24 0,.int 1 0,.int 0 0,.int 0 0,.int 3 0,.ref 126,.bool true,.int 181 0,.ref 127,.none,.ref 128,.ref 129,.ref 130,.int 340 0,.int 24 0,.str S164 341]),#[]⟩
noncomputable def o132 (P : Params) : Obj := ⟨(.type L148),none,(.func ⟨S178,S178,L2.defArgs (tp 12),(.stmts (L2.defBody (tp 12))),L2.defScope (tp 12),3,[],.none,.none,.none,.str S198 326,none,.ref 131,.none,0⟩),#[]⟩
noncomputable def o133 (P : Params) : Obj := ⟨(.type L68),none,(.seq #[] 0),#[]⟩
noncomputable def o134 (P : Params) : Obj := ⟨.none,none,(.fields #[]),#[]⟩
noncomputable def o135 (P : Params) : Obj := ⟨(.type L68),none,(.seq #[.str S196 346] 0),#[]⟩
noncomputable def o136 (P : Params) : Obj := ⟨(.type L68),none,(.seq #[] 0),#[]⟩
noncomputable def o137 (P : Params) : Obj := ⟨.none,none,(.func ⟨S179,S179,L2.defArgs (tp 13),(.stmts (L2.defBody (tp 13))),L2.defScope (tp 13),0,[],.none,.none,.none,.none,none,.none,.none,0⟩),#[]⟩
noncomputable def o138 (P : Params) : Obj := ⟨(.type L146),none,(.fields #[.str S179 343,.str S179 344,.str S164 345,.int 26 0,.int 1 0,.int 0 0,.int 0 0,.int 3 0,.ref 133,.bool true,.int 181 0,.ref 134,.none,.ref 135,.ref 136,.ref 137,.int 347 0,.int 26 0,.str S164 348]),#[]⟩
noncomputable def o139 (P : Params) : Obj := ⟨(.type L148),none,(.func ⟨S179,S179,L2.defArgs (tp 13),(.stmts (L2.defBody (tp 13))),L2.defScope (tp 13),3,[],.none,.none,.none,.str S198 326,none,.ref 138,.none,0⟩),#[]⟩
noncomputable def o140 (P : Params) : Obj := ⟨(.type L68),none,(.seq #[] 0),#[]⟩
noncomputable def o141 (P : Params) : Obj := ⟨.none,none,(.fields #[]),#[]⟩
noncomputable def o142 (P : Params) : Obj := ⟨(.type L68),none,(.seq #[.str S199 353,.str S200 354] 0),#[]⟩
noncomputable def o143 (P : Params) : Obj := ⟨(.type L68),none,(.seq #[] 0),#[]⟩
noncomputable def o144 (P : Params) : Obj := ⟨.none,none,(.func ⟨S180,S180,L2.defArgs (tp 14),(.stmts (L2.defBody (tp 14))),L2.defScope (tp 14),0,[],.none,.none,.none,.none,none,.none,.none,0⟩),#[]⟩
noncomputable def o145 (P : Params) : Obj := ⟨(.type L146),none,(.fields #[.str S180 350,.str S180 351,.str S164 352,.int 28 0,.int 2 0,.int 0 0,.int 0 0,.int 3 0,.ref 140,.bool true,.int 181 0,.ref 141,.none,.ref 142,.ref 143,.ref 144,.int 355 0,.int 28 0,.str S164 356]),#[]⟩
noncomputable def o146 (P : Params) : Obj := ⟨(.type L148),none,(.func ⟨S180,S180,L2.defArgs (tp 14),(.stmts (L2.defBody (tp 14))),L2.defScope (tp 14),3,[],.none,.none,.none,.str S198 326,none,.ref 145,.none,0⟩),#[]⟩
noncomputable def o147 (P : Params) : Obj := ⟨(.type L68),none,(.seq #[] 0),#[]⟩
noncomputable def o148 (P : Params) : Obj := ⟨.none,none,(.fields #[]),#[]⟩
noncomputable def o149 (P : Params) : Obj := ⟨(.type L68),none,(.seq #[.str S199 361,.str S200 362,.str S201 363] 0),#[]⟩
noncomputable def o150 (P : Params) : Obj := ⟨(.type L68),none,(.seq #[] 0),#[]⟩
noncomputable def o151 (P : Params) : Obj := ⟨.none,none,(.func ⟨S181,S181,L2.defArgs (tp 15),(.stmts (L2.defBody (tp 15))),L2.defScope (tp 15),0,[],.none,.none,.none,.none,none,.none,.none,0⟩),#[]⟩
noncomputable def o152 (P : Params) : Obj := ⟨(.type L146),none,(.fields #[.str S181 358,.str S181 359,.str S164 360,.int 31 0,.int 3 0,.int 0 0,.int 0 0,.int 3 0,.ref 147,.bool true,.int 181 0,.ref 148,.none,.ref 149,.ref 150,.ref 151,.int 364 0,.int 31 0,.str S164 365]),#[]⟩
noncomputable def o153 (P : Params) : Obj := ⟨(.type L148),none,(.func ⟨S181,S181,L2.defArgs (tp 15),(.stmts (L2.defBody (tp 15))),L2.defScope (tp 15),3,[],.none,.none,.none,.str S198 326,none,.ref 152,.none,0⟩),#[]⟩
noncomputable def o154 (P : Params) : Obj := ⟨(.type L68),none,(.seq #[.str S183 369,.str S185 371] 0),#[]⟩
noncomputable def o155 (P : Params) : Obj := ⟨(.type L68),none,(.seq #[] 0),#[]⟩
noncomputable def o156 (P : Params) : Obj := ⟨.none,none,(.fields #[]),#[]⟩
noncomputable def o157 (P : Params) : Obj := ⟨(.type L68),none,(.seq #[.str S202 377,.str S199 378,.str S200 379,.str S203 380,.str S204 381,.str S205 382,.str S206 383,.str S207 384,.str S208 385] 0),#[]⟩
noncomputable def o158 (P : Params) : Obj := ⟨(.type L68),none,(.seq #[] 0),#[]⟩
noncomputable def o159 (P : Params) : Obj := ⟨.none,none,(.func ⟨S187,S187,L2.defArgs (tp 20),(.stmts (L2.defBody (tp 20))),L2.defScope (tp 20),0,[],.none,.none,.none,.none,none,.none,.none,0⟩),#[]⟩
noncomputable def o160 (P : Params) : Obj := ⟨(.type L146),none,(.fields #[.str S187 374,.str S187 375,.str S164 376,.int 38 0,.int 7 0,.int 0 0,.int 0 0,.int 3 0,.ref 155,.bool true,.int 181 0,.ref 156,.none,.ref 157,.ref 158,.ref 159,.int 386 0,.int 38 0,.str S164 387]),#[]⟩
noncomputable def o161 (P : Params) : Obj := ⟨(.type L148),none,(.func ⟨S187,S187,L2.defArgs (tp 20),(.stmts (L2.defBody (tp 20))),L2.defScope (tp 20),3,[],.none,.none,.none,.str S209 367,none,.ref 160,.none,0⟩),#[]⟩
noncomputable def o162 (P : Params) : Obj := ⟨(.type L68),none,(.seq #[] 0),#[]⟩
noncomputable def o163 (P : Params) : Obj := ⟨.none,none,(.fields #[]),#[]⟩
noncomputable def o164 (P : Params) : Obj := ⟨(.type L68),none,(.seq #[.str S210 392,.str S211 393,.str S212 394,.str S213 395,.str S199 396,.str S200 397] 0),#[]⟩
noncomputable def o165 (P : Params) : Obj := ⟨(.type L68),none,(.seq #[] 0),#[]⟩
noncomputable def o166 (P : Params) : Obj := ⟨.none,none,(.func ⟨S188,S188,L2.defArgs (tp 21),(.stmts (L2.defBody (tp 21))),L2.defScope (tp 21),0,[],.none,.none,.none,.none,none,.none,.none,0⟩),#[]⟩
noncomputable def o167 (P : Params) : Obj := ⟨(.type L146),none,(.fields #[.str S188 389,.str S188 390,.str S164 391,.int 43 0,.int 4 0,.int 0 0,.int 0 0,.int 3 0,.ref 162,.bool true,.int 181 0,.ref 163,.none,.ref 164,.ref 165,.ref 166,.int 398 0,.int 43 0,.str S164 399]),#[]⟩
noncomputable def o168 (P : Params) : Obj := ⟨(.type L148),none,(.func ⟨S188,S188,L2.defArgs (tp 21),(.stmts (L2.defBody (tp 21))),L2.defScope (tp 21),3,[],.none,.none,.none,.str S209 367,none,.ref 167,.none,0⟩),#[]⟩
noncomputable def t0 : Params → BT := (f boot_o_0 (f boot_o_1 (f o3v1 (f boot_o_7 (f o15 (f o31 (f o63 (f o127 z z) z) (f o95 (f o159 z z) z)) (f o47 (f o79 (f o143 z z) z) (f o111 z z))) (f o23 (f o39 (f o71 (f o135 z z) z) (f o103 (f o167 z z) z)) (f o55 (f o87 (f o151 z z) z) (f o119 z z)))) (f o11 (f o19 (f o35 (f o67 (f o131 z z) z) (f o99 (f o163 z z) z)) (f o51 (f o83 (f o147 z z) z) (f o115 z z))) (f o27 (f o43 (f o75 (f o139 z z) z) (f o107 z z)) (f o59 (f o91 (f o155 z z) z) (f o123 z z))))) (f boot_o_5 (f boot_o_9 (f o17 (f o33 (f o65 (f o129 z z) z) (f o97 (f o161 z z) z)) (f o49 (f o81 (f o145 z z) z) (f o113 z z))) (f o25 (f o41 (f o73 (f o137 z z) z) (f o105 z z)) (f o57 (f o89 (f o153 z z) z) (f o121 z z)))) (f o13 (f o21 (f o37 (f o69 (f o133 z z) z) (f o101 (f o165 z z) z)) (f o53 (f o85 (f o149 z z) z) (f o117 z z))) (f o29 (f o45 (f o77 (f o141 z z) z) (f o109 z z)) (f o61 (f o93 (f o157 z z) z) (f o125 z z)))))) (f boot_o_2 (f boot_o_4 (f boot_o_8 (f o16 (f o32 (f o64 (f o128 z z) z) (f o96 (f o160 z z) z)) (f o48 (f o80 (f o144 z z) z) (f o112 z z))) (f o24 (f o40 (f o72 (f o136 z z) z) (f o104 (f o168 z z) z)) (f o56 (f o88 (f o152 z z) z) (f o120 z z)))) (f o12v1 (f o20 (f o36 (f o68 (f o132 z z) z) (f o100 (f o164 z z) z)) (f o52 (f o84 (f o148 z z) z) (f o116 z z))) (f o28 (f o44 (f o76 (f o140 z z) z) (f o108 z z)) (f o60 (f o92 (f o156 z z) z) (f o124 z z))))) (f boot_o_6 (f boot_o_10 (f o18 (f o34 (f o66 (f o130 z z) z) (f o98 (f o162 z z) z)) (f o50 (f o82 (f o146 z z) z) (f o114 z z))) (f o26 (f o42 (f o74 (f o138 z z) z) (f o106 z z)) (f o58 (f o90 (f o154 z z) z) (f o122 z z)))) (f o14 (f o22 (f o38 (f o70 (f o134 z z) z) (f o102 (f o166 z z) z)) (f o54 (f o86 (f o150 z z) z) (f o118 z z))) (f o30 (f o46 (f o78 (f o142 z z) z) (f o110 z z)) (f o62 (f o94 (f o158 z z) z) (f o126 z z)))))))
noncomputable abbrev s0 (w : World) (os : OsState) : SharedT := ⟨t0 w.params,169,{ },(Array.mk []),⟨0,0,0,0⟩,403,os⟩
noncomputable abbrev p0 : Pos := ⟨48,0,48,8⟩
noncomputable abbrev st0 : List Stmt := (pt.main.body.drop 0).take 23
theorem q0 (w : World) : (fun os => segRunT treeTable pt w m0 an 1 1995 (sB w os) ⟨(execs st0 en).wrap doneF deadEnd id id,cE,pB,B⟩) = fun os => some (.next,s0 w os,cE,p0) := by
  rw [PySem.W.Fast.te10110043849684766642,PySem.W.Fast.te14364793385576792824,PySem.W.Fast.te12563942051412417395]; kernel_rfl
noncomputable def o3v2 (P : Params) : Obj := ⟨(.type L0),none,(.dict #[e P S0 165 (.str S214 658),e P S2 166 .none,e P S3 167 .none,e P S4 168 (.builtin L144),e P S5 169 .none,e P S161 170 (.ref 6),e P S162 171 (.ref 4),e P S163 173 (.str S164 172),e P S165 174 .none,e P S168 193 (.ref 21),e P S169 213 (.ref 31),e P S170 229 (.ref 44),e P S171 245 (.ref 56),e P S172 261 (.ref 68),e P S173 277 (.ref 80),e P S174 293 (.ref 92),e P S175 309 (.ref 104),e P S176 325 (.ref 116),e P S177 335 (.ref 125),e P S178 342 (.ref 132),e P S179 349 (.ref 139),e P S180 357 (.ref 146),e P S181 366 (.ref 153),e P S182 370 (.str S183 369),e P S184 372 (.str S185 371),e P S186 373 (.ref 154),e P S187 388 (.ref 161),e P S188 400 (.ref 168),e P S215 404 (.str S216 403),e P S217 406 (.str S218 405),e P S219 408 (.int 1 407),e P S220 410 (.int 5 409),e P S221 412 (.int 4 411),e P S222 421 (.ref 175),e P S223 432 (.ref 182),e P S224 445 (.ref 189),e P S225 469 (.ref 196),e P S226 482 (.ref 203),e P S227 492 (.ref 210),e P S228 505 (.ref 217),e P S229 509 (.int 60 508),e P S230 511 (.str S231 510),e P S232 513 (.str S233 512),e P S234 515 (.str S235 514),e P S236 517 (.str S237 516),e P S238 533 (.ref 224),e P S239 552 (.ref 231),e P S240 558 (.ref 236),e P S241 562 (.int 8 561),e P S242 564 (.int 5 563),e P S243 576 (.ref 243),e P S244 583 (.ref 250),e P S245 657 (.ref 305),e P S246 668 (.ref 316),e P S247 677 (.ref 323),e P S248 686 (.ref 330),e P S249 692 (.ref 335),e P S250 707 (.ref 342),e P S251 724 (.ref 349),e P S252 730 (.ref 354),e P S253 742 (.ref 361),e P S254 756 (.ref 368),e P S255 772 (.ref 375),e P S256 778 (.ref 380),e P S257 796 (.ref 387)] 65),#[]⟩
noncomputable def o12v2 (P : Params) : Obj := ⟨.none,none,(.fields #[.int 1 0,.int 0 0,.ref 20,.int 5 0,.int 0 0,.ref 27,.int 7 0,.int 0 0,.ref 40,.int 9 0,.int 0 0,.ref 52,.int 11 0,.int 0 0,.ref 64,.int 13 0,.int 0 0,.ref 76,.int 15 0,.int 0 0,.ref 88,.int 17 0,.int 0 0,.ref 100,.int 19 0,.int 0 0,.ref 112,.int 22 0,.int 0 0,.ref 124,.int 24 0,.int 0 0,.ref 131,.int 26 0,.int 0 0,.ref 138,.int 28 0,.int 0 0,.ref 145,.int 31 0,.int 0 0,.ref 152,.int 38 0,.int 0 0,.ref 160,.int 43 0,.int 0 0,.ref 167,.int 54 0,.int 0 0,.ref 174,.int 58 0,.int 0 0,.ref 181,.int 65 0,.int 0 0,.ref 188,.int 70 0,.int 0 0,.ref 195,.int 77 0,.int 0 0,.ref 202,.int 88 0,.int 0 0,.ref 209,.int 91 0,.int 0 0,.ref 216,.int 107 0,.int 0 0,.ref 223,.int 113 0,.int 0 0,.ref 230,.int 121 0,.int 0 0,.ref 235,.int 132 0,.int 0 0,.ref 242,.int 139 0,.int 0 0,.ref 249,.int 141 0,.int 0 0,.ref 256,.int 179 0,.int 0 0,.ref 315,.int 184 0,.int 0 0,.ref 322,.int 191 0,.int 0 0,.ref 329,.int 198 0,.int 0 0,.ref 334,.int 206 0,.int 0 0,.ref 341,.int 212 0,.int 0 0,.ref 348,.int 225 0,.int 0 0,.ref 353,.int 229 0,.int 0 0,.ref 360,.int 236 0,.int 0 0,.ref 367,.int 240 0,.int 0 0,.ref 374,.int 259 0,.int 0 0,.ref 379,.int 266 0,.int 0 0,.ref 386]),#[]⟩
noncomputable def o169 (P : Params) : Obj := ⟨(.type L68),none,(.seq #[] 0),#[]⟩
noncomputable def o170 (P : Params) : Obj := ⟨.none,none,(.fields #[]),#[]⟩
noncomputable def o171 (P : Params) : Obj := ⟨(.type L68),none,(.seq #[.str S196 416,.str S258 417,.str S259 418] 0),#[]⟩
noncomputable def o172 (P : Params) : Obj := ⟨(.type L68),none,(.seq #[] 0),#[]⟩
noncomputable def o173 (P : Params) : Obj := ⟨.none,none,(.func ⟨S222,S222,L2.defArgs (tp 28),(.stmts (L2.defBody (tp 28))),L2.defScope (tp 28),0,[],.none,.none,.none,.none,none,.none,.none,0⟩),#[]⟩
noncomputable def o174 (P : Params) : Obj := ⟨(.type L146),none,(.fields #[.str S222 413,.str S222 414,.str S164 415,.int 54 0,.int 3 0,.int 0 0,.int 0 0,.int 3 0,.ref 169,.bool true,.int 181 0,.ref 170,.none,.ref 171,.ref 172,.ref 173,.int 419 0,.int 54 0,.str S164 420]),#[]⟩
noncomputable def o175 (P : Params) : Obj := ⟨(.type L148),none,(.func ⟨S222,S222,L2.defArgs (tp 28),(.stmts (L2.defBody (tp 28))),L2.defScope (tp 28),3,[],.none,.none,.none,.str S167 401,none,.ref 174,.none,0⟩),#[]⟩
noncomputable def o176 (P : Params) : Obj := ⟨(.type L68),none,(.seq #[] 0),#[]⟩
noncomputable def o177 (P : Params) : Obj := ⟨.none,none,(.fields #[]),#[]⟩
noncomputable def o178 (P : Params) : Obj := ⟨(.type L68),none,(.seq #[.str S210 425,.str S260 426,.str S261 427,.str S212 428,.str S262 429] 0),#[]⟩
noncomputable def o179 (P : Params) : Obj := ⟨(.type L68),none,(.seq #[] 0),#[]⟩
noncomputable def o180 (P : Params) : Obj := ⟨.none,none,(.func ⟨S223,S223,L2.defArgs (tp 29),(.stmts (L2.defBody (tp 29))),L2.defScope (tp 29),0,[],.none,.none,.none,.none,none,.none,.none,0⟩),#[]⟩
noncomputable def o181 (P : Params) : Obj := ⟨(.type L146),none,(.fields #[.str S223 422,.str S223 423,.str S164 424,.int 58 0,.int 2 0,.int 0 0,.int 0 0,.int 3 0,.ref 176,.bool true,.int 181 0,.ref 177,.none,.ref 178,.ref 179,.ref 180,.int 430 0,.int 58 0,.str S164 431]),#[]⟩
noncomputable def o182 (P : Params) : Obj := ⟨(.type L148),none,(.func ⟨S223,S223,L2.defArgs (tp 29),(.stmts (L2.defBody (tp 29))),L2.defScope (tp 29),3,[],.none,.none,.none,.str S167 401,none,.ref 181,.none,0⟩),#[]⟩
noncomputable def o183 (P : Params) : Obj := ⟨(.type L68),none,(.seq #[] 0),#[]⟩
noncomputable def o184 (P : Params) : Obj := ⟨.none,none,(.fields #[]),#[]⟩
noncomputable def o185 (P : Params) : Obj := ⟨(.type L68),none,(.seq #[.str S202 436,.str S260 437,.str S205 438,.str S206 439,.str S199 440,.str S200 441,.str S261 442] 0),#[]⟩
noncomputable def o186 (P : Params) : Obj := ⟨(.type L68),none,(.seq #[] 0),#[]⟩
noncomputable def o187 (P : Params) : Obj := ⟨.none,none,(.func ⟨S224,S224,L2.defArgs (tp 30),(.stmts (L2.defBody (tp 30))),L2.defScope (tp 30),0,[],.none,.none,.none,.none,none,.none,.none,0⟩),#[]⟩
noncomputable def o188 (P : Params) : Obj := ⟨(.type L146),none,(.fields #[.str S224 433,.str S224 434,.str S164 435,.int 65 0,.int 2 0,.int 0 0,.int 0 0,.int 3 0,.ref 183,.bool true,.int 181 0,.ref 184,.none,.ref 185,.ref 186,.ref 187,.int 443 0,.int 65 0,.str S164 444]),#[]⟩
noncomputable def o189 (P : Params) : Obj := ⟨(.type L148),none,(.func ⟨S224,S224,L2.defArgs (tp 30),(.stmts (L2.defBody (tp 30))),L2.defScope (tp 30),3,[],.none,.none,.none,.str S167 401,none,.ref 188,.none,0⟩),#[]⟩
noncomputable def o190 (P : Params) : Obj := ⟨(.type L68),none,(.seq #[] 0),#[]⟩
noncomputable def o191 (P : Params) : Obj := ⟨.none,none,(.fields #[]),#[]⟩
noncomputable def o192 (P : Params) : Obj := ⟨(.type L68),none,(.seq #[.str S210 449,.str S260 450,.str S205 451,.str S206 452,.str S199 453,.str S200 454,.str S261 455,.str S212 456,.str S213 457,.str S263 458,.str S264 459,.str S265 460,.str S266 461,.str S267 462,.str S268 463,.str S269 464,.str S270 465,.str S271 466] 0),#[]⟩
noncomputable def o193 (P : Params) : Obj := ⟨(.type L68),none,(.seq #[] 0),#[]⟩
noncomputable def o194 (P : Params) : Obj := ⟨.none,none,(.func ⟨S225,S225,L2.defArgs (tp 31),(.stmts (L2.defBody (tp 31))),L2.defScope (tp 31),0,[],.none,.none,.none,.none,none,.none,.none,0⟩),#[]⟩
noncomputable def o195 (P : Params) : Obj := ⟨(.type L146),none,(.fields #[.str S225 446,.str S225 447,.str S164 448,.int 70 0,.int 2 0,.int 0 0,.int 0 0,.int 3 0,.ref 190,.bool true,.int 181 0,.ref 191,.none,.ref 192,.ref 193,.ref 194,.int 467 0,.int 70 0,.str S164 468]),#[]⟩
noncomputable def o196 (P : Params) : Obj := ⟨(.type L148),none,(.func ⟨S225,S225,L2.defArgs (tp 31),(.stmts (L2.defBody (tp 31))),L2.defScope (tp 31),3,[],.none,.none,.none,.str S167 401,none,.ref 195,.none,0⟩),#[]⟩
noncomputable def o197 (P : Params) : Obj := ⟨(.type L68),none,(.seq #[] 0),#[]⟩
noncomputable def o198 (P : Params) : Obj := ⟨.none,none,(.fields #[]),#[]⟩
noncomputable def o199 (P : Params) : Obj := ⟨(.type L68),none,(.seq #[.str S202 473,.str S199 474,.str S200 475,.str S196 476,.str S210 477,.str S272 478,.str S260 479] 0),#[]⟩
noncomputable def o200 (P : Params) : Obj := ⟨(.type L68),none,(.seq #[] 0),#[]⟩
noncomputable def o201 (P : Params) : Obj := ⟨.none,none,(.func ⟨S226,S226,L2.defArgs (tp 32),(.stmts (L2.defBody (tp 32))),L2.defScope (tp 32),0,[],.none,.none,.none,.none,none,.none,.none,0⟩),#[]⟩
noncomputable def o202 (P : Params) : Obj := ⟨(.type L146),none,(.fields #[.str S226 470,.str S226 471,.str S164 472,.int 77 0,.int 4 0,.int 0 0,.int 0 0,.int 3 0,.ref 197,.bool true,.int 181 0,.ref 198,.none,.ref 199,.ref 200,.ref 201,.int 480 0,.int 77 0,.str S164 481]),#[]⟩
noncomputable def o203 (P : Params) : Obj := ⟨(.type L148),none,(.func ⟨S226,S226,L2.defArgs (tp 32),(.stmts (L2.defBody (tp 32))),L2.defScope (tp 32),3,[],.none,.none,.none,.str S167 401,none,.ref 202,.none,0⟩),#[]⟩
noncomputable def o204 (P : Params) : Obj := ⟨(.type L68),none,(.seq #[] 0),#[]⟩
noncomputable def o205 (P : Params) : Obj := ⟨.none,none,(.fields #[]),#[]⟩
noncomputable def o206 (P : Params) : Obj := ⟨(.type L68),none,(.seq #[.str S202 486,.str S199 487,.str S200 488,.str S196 489] 0),#[]⟩
noncomputable def o207 (P : Params) : Obj := ⟨(.type L68),none,(.seq #[] 0),#[]⟩
noncomputable def o208 (P : Params) : Obj := ⟨.none,none,(.func ⟨S227,S227,L2.defArgs (tp 33),(.stmts (L2.defBody (tp 33))),L2.defScope (tp 33),0,[],.none,.none,.none,.none,none,.none,.none,0⟩),#[]⟩
noncomputable def o209 (P : Params) : Obj := ⟨(.type L146),none,(.fields #[.str S227 483,.str S227 484,.str S164 485,.int 88 0,.int 4 0,.int 0 0,.int 0 0,.int 3 0,.ref 204,.bool true,.int 181 0,.ref 205,.none,.ref 206,.ref 207,.ref 208,.int 490 0,.int 88 0,.str S164 491]),#[]⟩
noncomputable def o210 (P : Params) : Obj := ⟨(.type L148),none,(.func ⟨S227,S227,L2.defArgs (tp 33),(.stmts (L2.defBody (tp 33))),L2.defScope (tp 33),3,[],.none,.none,.none,.str S167 401,none,.ref 209,.none,0⟩),#[]⟩
noncomputable def o211 (P : Params) : Obj := ⟨(.type L68),none,(.seq #[] 0),#[]⟩
noncomputable def o212 (P : Params) : Obj := ⟨.none,none,(.fields #[]),#[]⟩
noncomputable def o213 (P : Params) : Obj := ⟨(.type L68),none,(.seq #[.str S202 496,.str S199 497,.str S200 498,.str S261 499,.str S273 500,.str S272 501,.str S260 502] 0),#[]⟩
noncomputable def o214 (P : Params) : Obj := ⟨(.type L68),none,(.seq #[] 0),#[]⟩
noncomputable def o215 (P : Params) : Obj := ⟨.none,none,(.func ⟨S228,S228,L2.defArgs (tp 34),(.stmts (L2.defBody (tp 34))),L2.defScope (tp 34),0,[],.none,.none,.none,.none,none,.none,.none,0⟩),#[]⟩
noncomputable def o216 (P : Params) : Obj := ⟨(.type L146),none,(.fields #[.str S228 493,.str S228 494,.str S164 495,.int 91 0,.int 4 0,.int 0 0,.int 0 0,.int 3 0,.ref 211,.bool true,.int 181 0,.ref 212,.none,.ref 213,.ref 214,.ref 215,.int 503 0,.int 91 0,.str S164 504]),#[]⟩
noncomputable def o217 (P : Params) : Obj := ⟨(.type L148),none,(.func ⟨S228,S228,L2.defArgs (tp 34),(.stmts (L2.defBody (tp 34))),L2.defScope (tp 34),3,[],.none,.none,.none,.str S167 401,none,.ref 216,.none,0⟩),#[]⟩
noncomputable def o218 (P : Params) : Obj := ⟨(.type L68),none,(.seq #[] 0),#[]⟩
noncomputable def o219 (P : Params) : Obj := ⟨.none,none,(.fields #[]),#[]⟩
noncomputable def o220 (P : Params) : Obj := ⟨(.type L68),none,(.seq #[.str S274 521,.str S275 522,.str S276 523,.str S277 524,.str S205 525,.str S206 526,.str S199 527,.str S200 528,.str S278 529,.str S279 530] 0),#[]⟩
noncomputable def o221 (P : Params) : Obj := ⟨(.type L68),none,(.seq #[] 0),#[]⟩
noncomputable def o222 (P : Params) : Obj := ⟨.none,none,(.func ⟨S238,S238,L2.defArgs (tp 41),(.stmts (L2.defBody (tp 41))),L2.defScope (tp 41),0,[],.none,.none,.none,.none,none,.none,.none,0⟩),#[]⟩
noncomputable def o223 (P : Params) : Obj := ⟨(.type L146),none,(.fields #[.str S238 518,.str S238 519,.str S164 520,.int 107 0,.int 4 0,.int 0 0,.int 0 0,.int 3 0,.ref 218,.bool true,.int 181 0,.ref 219,.none,.ref 220,.ref 221,.ref 222,.int 531 0,.int 107 0,.str S164 532]),#[]⟩
noncomputable def o224 (P : Params) : Obj := ⟨(.type L148),none,(.func ⟨S238,S238,L2.defArgs (tp 41),(.stmts (L2.defBody (tp 41))),L2.defScope (tp 41),3,[],.none,.none,.none,.str S280 506,none,.ref 223,.none,0⟩),#[]⟩
noncomputable def o225 (P : Params) : Obj := ⟨(.type L68),none,(.seq #[] 0),#[]⟩
noncomputable def o226 (P : Params) : Obj := ⟨.none,none,(.fields #[]),#[]⟩
noncomputable def o227 (P : Params) : Obj := ⟨(.type L68),none,(.seq #[.str S202 537,.str S274 538,.str S260 539,.str S205 540,.str S206 541,.str S199 542,.str S200 543,.str S281 544,.str S258 545,.str S203 546,.str S204 547,.str S282 548,.str S283 549] 0),#[]⟩
noncomputable def o228 (P : Params) : Obj := ⟨(.type L68),none,(.seq #[] 0),#[]⟩
noncomputable def o229 (P : Params) : Obj := ⟨.none,none,(.func ⟨S239,S239,L2.defArgs (tp 42),(.stmts (L2.defBody (tp 42))),L2.defScope (tp 42),0,[],.none,.none,.none,.none,none,.none,.none,0⟩),#[]⟩
noncomputable def o230 (P : Params) : Obj := ⟨(.type L146),none,(.fields #[.str S239 534,.str S239 535,.str S164 536,.int 113 0,.int 3 0,.int 0 0,.int 0 0,.int 3 0,.ref 225,.bool true,.int 181 0,.ref 226,.none,.ref 227,.ref 228,.ref 229,.int 550 0,.int 113 0,.str S164 551]),#[]⟩
noncomputable def o231 (P : Params) : Obj := ⟨(.type L148),none,(.func ⟨S239,S239,L2.defArgs (tp 42),(.stmts (L2.defBody (tp 42))),L2.defScope (tp 42),3,[],.none,.none,.none,.str S280 506,none,.ref 230,.none,0⟩),#[]⟩
noncomputable def o232 (P : Params) : Obj := ⟨(.type L68),none,(.seq #[] 0),#[]⟩
noncomputable def o233 (P : Params) : Obj := ⟨.none,none,(.fields #[]),#[]⟩
noncomputable def o234 (P : Params) : Obj := ⟨.none,none,(.func ⟨S240,S240,L2.defArgs (tp 43),(.stmts (L2.defBody (tp 43))),L2.defScope (tp 43),0,[],.none,.none,.none,.none,none,.none,.none,0⟩),#[]⟩
noncomputable def o235 (P : Params) : Obj := ⟨(.type L146),none,(.fields #[.str S240 553,.str S240 554,.str S164 555,.int 121 0,.int 4 0,.int 0 0,.int 0 0,.int 3 0,.ref 232,.bool true,.int 181 0,.ref 233,.none,.none,.none,.ref 234,.int 556 0,.int 121 0,.str S164 557]),#[]⟩
noncomputable def o236 (P : Params) : Obj := ⟨(.type L148),none,(.func ⟨S240,S240,L2.defArgs (tp 43),(.stmts (L2.defBody (tp 43))),L2.defScope (tp 43),3,[],.none,.none,.none,.str S280 506,none,.ref 235,.none,0⟩),#[]⟩
noncomputable def o237 (P : Params) : Obj := ⟨(.type L68),none,(.seq #[] 0),#[]⟩
noncomputable def o238 (P : Params) : Obj := ⟨.none,none,(.fields #[]),#[]⟩
noncomputable def o239 (P : Params) : Obj := ⟨(.type L68),none,(.seq #[.str S196 568,.str S199 569,.str S200 570,.str S284 571,.str S285 572,.str S286 573] 0),#[]⟩
noncomputable def o240 (P : Params) : Obj := ⟨(.type L68),none,(.seq #[] 0),#[]⟩
noncomputable def o241 (P : Params) : Obj := ⟨.none,none,(.func ⟨S243,S243,L2.defArgs (tp 47),(.stmts (L2.defBody (tp 47))),L2.defScope (tp 47),0,[],.none,.none,.none,.none,none,.none,.none,0⟩),#[]⟩
noncomputable def o242 (P : Params) : Obj := ⟨(.type L146),none,(.fields #[.str S243 565,.str S243 566,.str S164 567,.int 132 0,.int 1 0,.int 0 0,.int 0 0,.int 3 0,.ref 237,.bool true,.int 181 0,.ref 238,.none,.ref 239,.ref 240,.ref 241,.int 574 0,.int 132 0,.str S164 575]),#[]⟩
noncomputable def o243 (P : Params) : Obj := ⟨(.type L148),none,(.func ⟨S243,S243,L2.defArgs (tp 47),(.stmts (L2.defBody (tp 47))),L2.defScope (tp 47),3,[],.none,.none,.none,.str S287 559,none,.ref 242,.none,0⟩),#[]⟩
noncomputable def o244 (P : Params) : Obj := ⟨(.type L68),none,(.seq #[] 0),#[]⟩
noncomputable def o245 (P : Params) : Obj := ⟨.none,none,(.fields #[]),#[]⟩
noncomputable def o246 (P : Params) : Obj := ⟨(.type L68),none,(.seq #[.str S203 580] 0),#[]⟩
noncomputable def o247 (P : Params) : Obj := ⟨(.type L68),none,(.seq #[] 0),#[]⟩
noncomputable def o248 (P : Params) : Obj := ⟨.none,none,(.func ⟨S244,S244,L2.defArgs (tp 48),(.stmts (L2.defBody (tp 48))),L2.defScope (tp 48),0,[],.none,.none,.none,.none,none,.none,.none,0⟩),#[]⟩
noncomputable def o249 (P : Params) : Obj := ⟨(.type L146),none,(.fields #[.str S244 577,.str S244 578,.str S164 579,.int 139 0,.int 1 0,.int 0 0,.int 0 0,.int 3 0,.ref 244,.bool true,.int 181 0,.ref 245,.none,.ref 246,.ref 247,.ref 248,.int 581 0,.int 139 0,.str S164 582]),#[]⟩
noncomputable def o250 (P : Params) : Obj := ⟨(.type L148),none,(.func ⟨S244,S244,L2.defArgs (tp 48),(.stmts (L2.defBody (tp 48))),L2.defScope (tp 48),3,[],.none,.none,.none,.str S287 559,none,.ref 249,.none,0⟩),#[]⟩
noncomputable def o251 (P : Params) : Obj := ⟨(.type L68),none,(.seq #[] 0),#[]⟩
noncomputable def o252 (P : Params) : Obj := ⟨(.type L149),none,(.fields #[.builtin L150,.type L69]),#[]⟩
noncomputable def o253 (P : Params) : Obj := ⟨(.type L0),none,(.dict #[e P S190 591 (.str S287 559),e P S192 593 (.str S245 592),e P S193 595 (.int 141 594),e P S288 601 (.ref 262),e P S210 608 (.ref 269),e P S289 615 (.ref 276),e P S285 621 (.ref 281),e P S290 628 (.ref 288),e P S291 637 (.ref 295),e P S276 647 (.ref 302),e P S194 650 (.ref 303)] 11),#[]⟩
noncomputable def o254 (P : Params) : Obj := ⟨(.type L68),none,(.seq #[] 0),#[]⟩
noncomputable def o255 (P : Params) : Obj := ⟨.none,none,(.fields #[.int 143 0,.int 4 0,.ref 261,.int 154 0,.int 4 0,.ref 268,.int 157 0,.int 4 0,.ref 275,.int 160 0,.int 4 0,.ref 280,.int 163 0,.int 4 0,.ref 287,.int 166 0,.int 4 0,.ref 294,.int 171 0,.int 4 0,.ref 301]),#[]⟩
noncomputable def o256 (P : Params) : Obj := ⟨(.type L146),none,(.fields #[.str S245 586,.str S245 587,.str S164 588,.int 141 0,.int 0 0,.int 0 0,.int 0 0,.int 0 0,.ref 254,.bool false,.int 181 0,.ref 255,.none,.none,.none,.none,.int 589 0,.int 141 0,.str S164 590]),#[]⟩
noncomputable def o257 (P : Params) : Obj := ⟨(.type L147),none,.plain,#[some (.ref 256),some (.ref 3),some (.ref 253),none,some (.str S287 559),none,some (.ref 0)]⟩
noncomputable def o258 (P : Params) : Obj := ⟨(.type L68),none,(.seq #[] 0),#[]⟩
noncomputable def o259 (P : Params) : Obj := ⟨.none,none,(.fields #[]),#[]⟩
noncomputable def o260 (P : Params) : Obj := ⟨.none,none,(.func ⟨S288,S292,L2.defArgs (L2.inClass (tp 49) 0),(.stmts (L2.defBody (L2.inClass (tp 49) 0))),L2.defScope (L2.inClass (tp 49) 0),0,[],.none,.none,.none,.none,none,.none,.none,0⟩),#[]⟩
noncomputable def o261 (P : Params) : Obj := ⟨(.type L146),none,(.fields #[.str S288 596,.str S292 597,.str S164 598,.int 143 0,.int 3 0,.int 0 0,.int 0 0,.int 3 0,.ref 258,.bool true,.int 181 0,.ref 259,.none,.none,.none,.ref 260,.int 599 0,.int 143 0,.str S164 600]),#[]⟩
noncomputable def o262 (P : Params) : Obj := ⟨(.type L148),none,(.func ⟨S288,S292,L2.defArgs (L2.inClass (tp 49) 0),(.stmts (L2.defBody (L2.inClass (tp 49) 0))),L2.defScope (L2.inClass (tp 49) 0),3,[],.none,.none,.none,.str S287 559,none,.ref 261,.none,0⟩),#[]⟩
noncomputable def o263 (P : Params) : Obj := ⟨(.type L68),none,(.seq #[] 0),#[]⟩
noncomputable def o264 (P : Params) : Obj := ⟨.none,none,(.fields #[]),#[]⟩
noncomputable def o265 (P : Params) : Obj := ⟨(.type L68),none,(.seq #[.str S293 605] 0),#[]⟩
noncomputable def o266 (P : Params) : Obj := ⟨(.type L68),none,(.seq #[] 0),#[]⟩
noncomputable def o267 (P : Params) : Obj := ⟨.none,none,(.func ⟨S210,S294,L2.defArgs (L2.inClass (tp 49) 1),(.stmts (L2.defBody (L2.inClass (tp 49) 1))),L2.defScope (L2.inClass (tp 49) 1),0,[],.none,.none,.none,.none,none,.none,.none,0⟩),#[]⟩
noncomputable def o268 (P : Params) : Obj := ⟨(.type L146),none,(.fields #[.str S210 602,.str S294 603,.str S164 604,.int 154 0,.int 1 0,.int 0 0,.int 0 0,.int 3 0,.ref 263,.bool true,.int 181 0,.ref 264,.none,.ref 265,.ref 266,.ref 267,.int 606 0,.int 154 0,.str S164 607]),#[]⟩
noncomputable def o269 (P : Params) : Obj := ⟨(.type L148),none,(.func ⟨S210,S294,L2.defArgs (L2.inClass (tp 49) 1),(.stmts (L2.defBody (L2.inClass (tp 49) 1))),L2.defScope (L2.inClass (tp 49) 1),3,[],.none,.none,.none,.str S287 559,none,.ref 268,.none,0⟩),#[]⟩
noncomputable def o270 (P : Params) : Obj := ⟨(.type L68),none,(.seq #[] 0),#[]⟩
noncomputable def o271 (P : Params) : Obj := ⟨.none,none,(.fields #[]),#[]⟩
noncomputable def o272 (P : Params) : Obj := ⟨(.type L68),none,(.seq #[.str S293 612] 0),#[]⟩
noncomputable def o273 (P : Params) : Obj := ⟨(.type L68),none,(.seq #[] 0),#[]⟩
noncomputable def o274 (P : Params) : Obj := ⟨.none,none,(.func ⟨S289,S295,L2.defArgs (L2.inClass (tp 49) 2),(.stmts (L2.defBody (L2.inClass (tp 49) 2))),L2.defScope (L2.inClass (tp 49) 2),0,[],.none,.none,.none,.none,none,.none,.none,0⟩),#[]⟩
noncomputable def o275 (P : Params) : Obj := ⟨(.type L146),none,(.fields #[.str S289 609,.str S295 610,.str S164 611,.int 157 0,.int 1 0,.int 0 0,.int 0 0,.int 3 0,.ref 270,.bool true,.int 181 0,.ref 271,.none,.ref 272,.ref 273,.ref 274,.int 613 0,.int 157 0,.str S164 614]),#[]⟩
noncomputable def o276 (P : Params) : Obj := ⟨(.type L148),none,(.func ⟨S289,S295,L2.defArgs (L2.inClass (tp 49) 2),(.stmts (L2.defBody (L2.inClass (tp 49) 2))),L2.defScope (L2.inClass (tp 49) 2),3,[],.none,.none,.none,.str S287 559,none,.ref 275,.none,0⟩),#[]⟩
noncomputable def o277 (P : Params) : Obj := ⟨(.type L68),none,(.seq #[] 0),#[]⟩
noncomputable def o278 (P : Params) : Obj := ⟨.none,none,(.fields #[]),#[]⟩
noncomputable def o279 (P : Params) : Obj := ⟨.none,none,(.func ⟨S285,S296,L2.defArgs (L2.inClass (tp 49) 3),(.stmts (L2.defBody (L2.inClass (tp 49) 3))),L2.defScope (L2.inClass (tp 49) 3),0,[],.none,.none,.none,.none,none,.none,.none,0⟩),#[]⟩
noncomputable def o280 (P : Params) : Obj := ⟨(.type L146),none,(.fields #[.str S285 616,.str S296 617,.str S164 618,.int 160 0,.int 1 0,.int 0 0,.int 0 0,.int 3 0,.ref 277,.bool true,.int 181 0,.ref 278,.none,.none,.none,.ref 279,.int 619 0,.int 160 0,.str S164 620]),#[]⟩
noncomputable def o281 (P : Params) : Obj := ⟨(.type L148),none,(.func ⟨S285,S296,L2.defArgs (L2.inClass (tp 49) 3),(.stmts (L2.defBody (L2.inClass (tp 49) 3))),L2.defScope (L2.inClass (tp 49) 3),3,[],.none,.none,.none,.str S287 559,none,.ref 280,.none,0⟩),#[]⟩
noncomputable def o282 (P : Params) : Obj := ⟨(.type L68),none,(.seq #[] 0),#[]⟩
noncomputable def o283 (P : Params) : Obj := ⟨.none,none,(.fields #[]),#[]⟩
noncomputable def o284 (P : Params) : Obj := ⟨(.type L68),none,(.seq #[.str S293 625] 0),#[]⟩
noncomputable def o285 (P : Params) : Obj := ⟨(.type L68),none,(.seq #[] 0),#[]⟩
noncomputable def o286 (P : Params) : Obj := ⟨.none,none,(.func ⟨S290,S297,L2.defArgs (L2.inClass (tp 49) 4),(.stmts (L2.defBody (L2.inClass (tp 49) 4))),L2.defScope (L2.inClass (tp 49) 4),0,[],.none,.none,.none,.none,none,.none,.none,0⟩),#[]⟩
noncomputable def o287 (P : Params) : Obj := ⟨(.type L146),none,(.fields #[.str S290 622,.str S297 623,.str S164 624,.int 163 0,.int 1 0,.int 0 0,.int 0 0,.int 3 0,.ref 282,.bool true,.int 181 0,.ref 283,.none,.ref 284,.ref 285,.ref 286,.int 626 0,.int 163 0,.str S164 627]),#[]⟩
noncomputable def o288 (P : Params) : Obj := ⟨(.type L148),none,(.func ⟨S290,S297,L2.defArgs (L2.inClass (tp 49) 4),(.stmts (L2.defBody (L2.inClass (tp 49) 4))),L2.defScope (L2.inClass (tp 49) 4),3,[],.none,.none,.none,.str S287 559,none,.ref 287,.none,0⟩),#[]⟩
noncomputable def o289 (P : Params) : Obj := ⟨(.type L68),none,(.seq #[] 0),#[]⟩
noncomputable def o290 (P : Params) : Obj := ⟨.none,none,(.fields #[]),#[]⟩
noncomputable def o291 (P : Params) : Obj := ⟨(.type L68),none,(.seq #[.str S293 632,.str S203 633,.str S204 634] 0),#[]⟩
noncomputable def o292 (P : Params) : Obj := ⟨(.type L68),none,(.seq #[] 0),#[]⟩
noncomputable def o293 (P : Params) : Obj := ⟨.none,none,(.func ⟨S291,S298,L2.defArgs (L2.inClass (tp 49) 5),(.stmts (L2.defBody (L2.inClass (tp 49) 5))),L2.defScope (L2.inClass (tp 49) 5),0,[],.none,.none,.none,.none,none,.none,.none,0⟩),#[]⟩
noncomputable def o294 (P : Params) : Obj := ⟨(.type L146),none,(.fields #[.str S291 629,.str S298 630,.str S164 631,.int 166 0,.int 3 0,.int 0 0,.int 0 0,.int 3 0,.ref 289,.bool true,.int 181 0,.ref 290,.none,.ref 291,.ref 292,.ref 293,.int 635 0,.int 166 0,.str S164 636]),#[]⟩
noncomputable def o295 (P : Params) : Obj := ⟨(.type L148),none,(.func ⟨S291,S298,L2.defArgs (L2.inClass (tp 49) 5),(.stmts (L2.defBody (L2.inClass (tp 49) 5))),L2.defScope (L2.inClass (tp 49) 5),3,[],.none,.none,.none,.str S287 559,none,.ref 294,.none,0⟩),#[]⟩
noncomputable def o296 (P : Params) : Obj := ⟨(.type L68),none,(.seq #[] 0),#[]⟩
noncomputable def o297 (P : Params) : Obj := ⟨.none,none,(.fields #[]),#[]⟩
noncomputable def o298 (P : Params) : Obj := ⟨(.type L68),none,(.seq #[.str S293 641,.str S203 642,.str S204 643,.str S299 644] 0),#[]⟩
noncomputable def o299 (P : Params) : Obj := ⟨(.type L68),none,(.seq #[] 0),#[]⟩
noncomputable def o300 (P : Params) : Obj := ⟨.none,none,(.func ⟨S276,S300,L2.defArgs (L2.inClass (tp 49) 6),(.stmts (L2.defBody (L2.inClass (tp 49) 6))),L2.defScope (L2.inClass (tp 49) 6),0,[],.none,.none,.none,.none,none,.none,.none,0⟩),#[]⟩
noncomputable def o301 (P : Params) : Obj := ⟨(.type L146),none,(.fields #[.str S276 638,.str S300 639,.str S164 640,.int 171 0,.int 3 0,.int 0 0,.int 0 0,.int 3 0,.ref 296,.bool true,.int 181 0,.ref 297,.none,.ref 298,.ref 299,.ref 300,.int 645 0,.int 171 0,.str S164 646]),#[]⟩
noncomputable def o302 (P : Params) : Obj := ⟨(.type L148),none,(.func ⟨S276,S300,L2.defArgs (L2.inClass (tp 49) 6),(.stmts (L2.defBody (L2.inClass (tp 49) 6))),L2.defScope (L2.inClass (tp 49) 6),3,[],.none,.none,.none,.str S287 559,none,.ref 301,.none,0⟩),#[]⟩
noncomputable def o303 (P : Params) : Obj := ⟨(.type L68),none,(.seq #[.str S301 648,.str S302 649] 0),#[]⟩
noncomputable def o304 (P : Params) : Obj := ⟨(.type L0),none,(.dict #[e P S190 591 (.str S287 559),e P S193 595 (.int 141 594),e P S288 601 (.ref 262),e P S210 608 (.ref 269),e P S289 615 (.ref 276),e P S285 621 (.ref 281),e P S290 628 (.ref 288),e P S291 637 (.ref 295),e P S276 647 (.ref 302),e P S194 650 (.ref 303),e P S303 652 (.ref 306),e P S195 654 (.ref 307),e P S2 655 .none] 4),#[]⟩
noncomputable abbrev L155 : String := PySem.W.SL.s11443829558043349243x14
noncomputable def o305 (P : Params) : Obj := ⟨(.type L69),none,(.cls ⟨S245,[.type L60],[.ref 305,.type L60],304,S245,true,[],[],false,none,false⟩),#[none,none,some (.str S245 584),some (.str S245 592),some (.builtin L155),some (.bool true)]⟩
noncomputable abbrev L156 : String := PySem.W.SL.s6511155373996960695x17
noncomputable abbrev L157 : String := PySem.W.SL.s12411053484034534018x21
noncomputable def o306 (P : Params) : Obj := ⟨(.type L152),none,(.fields #[.str S303 651,.ref 305,.builtin L156,.builtin L157]),#[]⟩
noncomputable def o307 (P : Params) : Obj := ⟨(.type L152),none,(.fields #[.str S195 653,.ref 305,.builtin L153,.none]),#[]⟩
noncomputable def o308 (P : Params) : Obj := ⟨(.type L67),none,(.fields #[.ref 305,.ref 305,.ref 305]),#[]⟩
noncomputable def o309 (P : Params) : Obj := ⟨(.type L149),none,(.fields #[.builtin L154,.ref 305]),#[]⟩
noncomputable def o310 (P : Params) : Obj := ⟨(.type L68),none,(.seq #[] 0),#[]⟩
noncomputable def o311 (P : Params) : Obj := ⟨.none,none,(.fields #[]),#[]⟩
noncomputable def o312 (P : Params) : Obj := ⟨(.type L68),none,(.seq #[.str S304 663,.str S305 664,.str S306 665] 0),#[]⟩
noncomputable def o313 (P : Params) : Obj := ⟨(.type L68),none,(.seq #[] 0),#[]⟩
noncomputable def o314 (P : Params) : Obj := ⟨.none,none,(.func ⟨S246,S246,L2.defArgs (tp 51),(.stmts (L2.defBody (tp 51))),L2.defScope (tp 51),0,[],.none,.none,.none,.none,none,.none,.none,0⟩),#[]⟩
noncomputable def o315 (P : Params) : Obj := ⟨(.type L146),none,(.fields #[.str S246 660,.str S246 661,.str S164 662,.int 179 0,.int 2 0,.int 0 0,.int 0 0,.int 3 0,.ref 310,.bool true,.int 181 0,.ref 311,.none,.ref 312,.ref 313,.ref 314,.int 666 0,.int 179 0,.str S164 667]),#[]⟩
noncomputable def o316 (P : Params) : Obj := ⟨(.type L148),none,(.func ⟨S246,S246,L2.defArgs (tp 51),(.stmts (L2.defBody (tp 51))),L2.defScope (tp 51),3,[],.none,.none,.none,.str S214 658,none,.ref 315,.none,0⟩),#[]⟩
noncomputable def o317 (P : Params) : Obj := ⟨(.type L68),none,(.seq #[] 0),#[]⟩
noncomputable def o318 (P : Params) : Obj := ⟨.none,none,(.fields #[]),#[]⟩
noncomputable def o319 (P : Params) : Obj := ⟨(.type L68),none,(.seq #[.str S307 672,.str S308 673,.str S309 674] 0),#[]⟩
noncomputable def o320 (P : Params) : Obj := ⟨(.type L68),none,(.seq #[] 0),#[]⟩
noncomputable def o321 (P : Params) : Obj := ⟨.none,none,(.func ⟨S247,S247,L2.defArgs (tp 52),(.stmts (L2.defBody (tp 52))),L2.defScope (tp 52),0,[],.none,.none,.none,.none,none,.none,.none,0⟩),#[]⟩
noncomputable def o322 (P : Params) : Obj := ⟨(.type L146),none,(.fields #[.str S247 669,.str S247 670,.str S164 671,.int 184 0,.int 2 0,.int 0 0,.int 0 0,.int 3 0,.ref 317,.bool true,.int 181 0,.ref 318,.none,.ref 319,.ref 320,.ref 321,.int 675 0,.int 184 0,.str S164 676]),#[]⟩
noncomputable def o323 (P : Params) : Obj := ⟨(.type L148),none,(.func ⟨S247,S247,L2.defArgs (tp 52),(.stmts (L2.defBody (tp 52))),L2.defScope (tp 52),3,[],.none,.none,.none,.str S214 658,none,.ref 322,.none,0⟩),#[]⟩
noncomputable def o324 (P : Params) : Obj := ⟨(.type L68),none,(.seq #[] 0),#[]⟩
noncomputable def o325 (P : Params) : Obj := ⟨.none,none,(.fields #[]),#[]⟩
noncomputable def o326 (P : Params) : Obj := ⟨(.type L68),none,(.seq #[.str S307 681,.str S310 682,.str S311 683] 0),#[]⟩
noncomputable def o327 (P : Params) : Obj := ⟨(.type L68),none,(.seq #[] 0),#[]⟩
noncomputable def o328 (P : Params) : Obj := ⟨.none,none,(.func ⟨S248,S248,L2.defArgs (tp 53),(.stmts (L2.defBody (tp 53))),L2.defScope (tp 53),0,[],.none,.none,.none,.none,none,.none,.none,0⟩),#[]⟩
noncomputable def o329 (P : Params) : Obj := ⟨(.type L146),none,(.fields #[.str S248 678,.str S248 679,.str S164 680,.int 191 0,.int 2 0,.int 0 0,.int 0 0,.int 3 0,.ref 324,.bool true,.int 181 0,.ref 325,.none,.ref 326,.ref 327,.ref 328,.int 684 0,.int 191 0,.str S164 685]),#[]⟩
noncomputable def o330 (P : Params) : Obj := ⟨(.type L148),none,(.func ⟨S248,S248,L2.defArgs (tp 53),(.stmts (L2.defBody (tp 53))),L2.defScope (tp 53),3,[],.none,.none,.none,.str S214 658,none,.ref 329,.none,0⟩),#[]⟩
noncomputable def o331 (P : Params) : Obj := ⟨(.type L68),none,(.seq #[] 0),#[]⟩
noncomputable def o332 (P : Params) : Obj := ⟨.none,none,(.fields #[]),#[]⟩
noncomputable def o333 (P : Params) : Obj := ⟨.none,none,(.func ⟨S249,S249,L2.defArgs (tp 54),(.stmts (L2.defBody (tp 54))),L2.defScope (tp 54),0,[],.none,.none,.none,.none,none,.none,.none,0⟩),#[]⟩
noncomputable def o334 (P : Params) : Obj := ⟨(.type L146),none,(.fields #[.str S249 687,.str S249 688,.str S164 689,.int 198 0,.int 3 0,.int 0 0,.int 0 0,.int 3 0,.ref 331,.bool true,.int 181 0,.ref 332,.none,.none,.none,.ref 333,.int 690 0,.int 198 0,.str S164 691]),#[]⟩
noncomputable def o335 (P : Params) : Obj := ⟨(.type L148),none,(.func ⟨S249,S249,L2.defArgs (tp 54),(.stmts (L2.defBody (tp 54))),L2.defScope (tp 54),3,[],.none,.none,.none,.str S214 658,none,.ref 334,.none,0⟩),#[]⟩
noncomputable def o336 (P : Params) : Obj := ⟨(.type L68),none,(.seq #[] 0),#[]⟩
noncomputable def o337 (P : Params) : Obj := ⟨.none,none,(.fields #[]),#[]⟩
noncomputable def o338 (P : Params) : Obj := ⟨(.type L68),none,(.seq #[.str S307 696,.str S312 697,.str S313 698,.str S314 699,.str S315 700,.str S316 701,.str S317 702,.str S318 703,.str S319 704] 0),#[]⟩
noncomputable def o339 (P : Params) : Obj := ⟨(.type L68),none,(.seq #[] 0),#[]⟩
noncomputable def o340 (P : Params) : Obj := ⟨.none,none,(.func ⟨S250,S250,L2.defArgs (tp 55),(.stmts (L2.defBody (tp 55))),L2.defScope (tp 55),0,[],.none,.none,.none,.none,none,.none,.none,0⟩),#[]⟩
noncomputable def o341 (P : Params) : Obj := ⟨(.type L146),none,(.fields #[.str S250 693,.str S250 694,.str S164 695,.int 206 0,.int 4 0,.int 0 0,.int 0 0,.int 3 0,.ref 336,.bool true,.int 181 0,.ref 337,.none,.ref 338,.ref 339,.ref 340,.int 705 0,.int 206 0,.str S164 706]),#[]⟩
noncomputable def o342 (P : Params) : Obj := ⟨(.type L148),none,(.func ⟨S250,S250,L2.defArgs (tp 55),(.stmts (L2.defBody (tp 55))),L2.defScope (tp 55),3,[],.none,.none,.none,.str S214 658,none,.ref 341,.none,0⟩),#[]⟩
noncomputable def o343 (P : Params) : Obj := ⟨(.type L68),none,(.seq #[] 0),#[]⟩
noncomputable def o344 (P : Params) : Obj := ⟨.none,none,(.fields #[]),#[]⟩
noncomputable def o345 (P : Params) : Obj := ⟨(.type L68),none,(.seq #[.str S307 711,.str S320 712,.str S313 713,.str S314 714,.str S321 715,.str S322 716,.str S323 717,.str S324 718,.str S305 719,.str S325 720,.str S326 721] 0),#[]⟩
noncomputable def o346 (P : Params) : Obj := ⟨(.type L68),none,(.seq #[] 0),#[]⟩
noncomputable def o347 (P : Params) : Obj := ⟨.none,none,(.func ⟨S251,S251,L2.defArgs (tp 56),(.stmts (L2.defBody (tp 56))),L2.defScope (tp 56),0,[],.none,.none,.none,.none,none,.none,.none,0⟩),#[]⟩
noncomputable def o348 (P : Params) : Obj := ⟨(.type L146),none,(.fields #[.str S251 708,.str S251 709,.str S164 710,.int 212 0,.int 6 0,.int 0 0,.int 0 0,.int 3 0,.ref 343,.bool true,.int 181 0,.ref 344,.none,.ref 345,.ref 346,.ref 347,.int 722 0,.int 212 0,.str S164 723]),#[]⟩
noncomputable def o349 (P : Params) : Obj := ⟨(.type L148),none,(.func ⟨S251,S251,L2.defArgs (tp 56),(.stmts (L2.defBody (tp 56))),L2.defScope (tp 56),3,[],.none,.none,.none,.str S214 658,none,.ref 348,.none,0⟩),#[]⟩
noncomputable def o350 (P : Params) : Obj := ⟨(.type L68),none,(.seq #[] 0),#[]⟩
noncomputable def o351 (P : Params) : Obj := ⟨.none,none,(.fields #[]),#[]⟩
noncomputable def o352 (P : Params) : Obj := ⟨.none,none,(.func ⟨S252,S252,L2.defArgs (tp 57),(.stmts (L2.defBody (tp 57))),L2.defScope (tp 57),0,[],.none,.none,.none,.none,none,.none,.none,0⟩),#[]⟩
noncomputable def o353 (P : Params) : Obj := ⟨(.type L146),none,(.fields #[.str S252 725,.str S252 726,.str S164 727,.int 225 0,.int 1 0,.int 0 0,.int 0 0,.int 3 0,.ref 350,.bool true,.int 181 0,.ref 351,.none,.none,.none,.ref 352,.int 728 0,.int 225 0,.str S164 729]),#[]⟩
noncomputable def o354 (P : Params) : Obj := ⟨(.type L148),none,(.func ⟨S252,S252,L2.defArgs (tp 57),(.stmts (L2.defBody (tp 57))),L2.defScope (tp 57),3,[],.none,.none,.none,.str S214 658,none,.ref 353,.none,0⟩),#[]⟩
noncomputable def o355 (P : Params) : Obj := ⟨(.type L68),none,(.seq #[] 0),#[]⟩
noncomputable def o356 (P : Params) : Obj := ⟨.none,none,(.fields #[]),#[]⟩
noncomputable def o357 (P : Params) : Obj := ⟨(.type L68),none,(.seq #[.str S307 734,.str S327 735,.str S312 736,.str S328 737,.str S313 738,.str S314 739] 0),#[]⟩
noncomputable def o358 (P : Params) : Obj := ⟨(.type L68),none,(.seq #[] 0),#[]⟩
noncomputable def o359 (P : Params) : Obj := ⟨.none,none,(.func ⟨S253,S253,L2.defArgs (tp 58),(.stmts (L2.defBody (tp 58))),L2.defScope (tp 58),0,[],.none,.none,.none,.none,none,.none,.none,0⟩),#[]⟩
noncomputable def o360 (P : Params) : Obj := ⟨(.type L146),none,(.fields #[.str S253 731,.str S253 732,.str S164 733,.int 229 0,.int 2 0,.int 0 0,.int 0 0,.int 3 0,.ref 355,.bool true,.int 181 0,.ref 356,.none,.ref 357,.ref 358,.ref 359,.int 740 0,.int 229 0,.str S164 741]),#[]⟩
noncomputable def o361 (P : Params) : Obj := ⟨(.type L148),none,(.func ⟨S253,S253,L2.defArgs (tp 58),(.stmts (L2.defBody (tp 58))),L2.defScope (tp 58),3,[],.none,.none,.none,.str S214 658,none,.ref 360,.none,0⟩),#[]⟩
noncomputable def o362 (P : Params) : Obj := ⟨(.type L68),none,(.seq #[] 0),#[]⟩
noncomputable def o363 (P : Params) : Obj := ⟨.none,none,(.fields #[]),#[]⟩
noncomputable def o364 (P : Params) : Obj := ⟨(.type L68),none,(.seq #[.str S329 746,.str S330 747,.str S331 748,.str S313 749,.str S314 750,.str S332 751,.str S333 752,.str S334 753] 0),#[]⟩
noncomputable def o365 (P : Params) : Obj := ⟨(.type L68),none,(.seq #[] 0),#[]⟩
noncomputable def o366 (P : Params) : Obj := ⟨.none,none,(.func ⟨S254,S254,L2.defArgs (tp 59),(.stmts (L2.defBody (tp 59))),L2.defScope (tp 59),0,[],.none,.none,.none,.none,none,.none,.none,0⟩),#[]⟩
noncomputable def o367 (P : Params) : Obj := ⟨(.type L146),none,(.fields #[.str S254 743,.str S254 744,.str S164 745,.int 236 0,.int 6 0,.int 0 0,.int 0 0,.int 3 0,.ref 362,.bool true,.int 181 0,.ref 363,.none,.ref 364,.ref 365,.ref 366,.int 754 0,.int 236 0,.str S164 755]),#[]⟩
noncomputable def o368 (P : Params) : Obj := ⟨(.type L148),none,(.func ⟨S254,S254,L2.defArgs (tp 59),(.stmts (L2.defBody (tp 59))),L2.defScope (tp 59),3,[],.none,.none,.none,.str S214 658,none,.ref 367,.none,0⟩),#[]⟩
noncomputable def o369 (P : Params) : Obj := ⟨(.type L68),none,(.seq #[] 0),#[]⟩
noncomputable def o370 (P : Params) : Obj := ⟨.none,none,(.fields #[]),#[]⟩
noncomputable def o371 (P : Params) : Obj := ⟨(.type L68),none,(.seq #[.str S335 760,.str S329 761,.str S330 762,.str S331 763,.str S313 764,.str S314 765,.str S336 766,.str S318 767,.str S319 768,.str S325 769] 0),#[]⟩
noncomputable def o372 (P : Params) : Obj := ⟨(.type L68),none,(.seq #[] 0),#[]⟩
noncomputable def o373 (P : Params) : Obj := ⟨.none,none,(.func ⟨S255,S255,L2.defArgs (tp 60),(.stmts (L2.defBody (tp 60))),L2.defScope (tp 60),0,[],.none,.none,.none,.none,none,.none,.none,0⟩),#[]⟩
noncomputable def o374 (P : Params) : Obj := ⟨(.type L146),none,(.fields #[.str S255 757,.str S255 758,.str S164 759,.int 240 0,.int 7 0,.int 0 0,.int 0 0,.int 3 0,.ref 369,.bool true,.int 181 0,.ref 370,.none,.ref 371,.ref 372,.ref 373,.int 770 0,.int 240 0,.str S164 771]),#[]⟩
noncomputable def o375 (P : Params) : Obj := ⟨(.type L148),none,(.func ⟨S255,S255,L2.defArgs (tp 60),(.stmts (L2.defBody (tp 60))),L2.defScope (tp 60),3,[],.none,.none,.none,.str S214 658,none,.ref 374,.none,0⟩),#[]⟩
noncomputable def o376 (P : Params) : Obj := ⟨(.type L68),none,(.seq #[] 0),#[]⟩
noncomputable def o377 (P : Params) : Obj := ⟨.none,none,(.fields #[]),#[]⟩
noncomputable def o378 (P : Params) : Obj := ⟨.none,none,(.func ⟨S256,S256,L2.defArgs (tp 61),(.stmts (L2.defBody (tp 61))),L2.defScope (tp 61),0,[],.none,.none,.none,.none,none,.none,.none,0⟩),#[]⟩
noncomputable def o379 (P : Params) : Obj := ⟨(.type L146),none,(.fields #[.str S256 773,.str S256 774,.str S164 775,.int 259 0,.int 4 0,.int 0 0,.int 0 0,.int 3 0,.ref 376,.bool true,.int 181 0,.ref 377,.none,.none,.none,.ref 378,.int 776 0,.int 259 0,.str S164 777]),#[]⟩
noncomputable def o380 (P : Params) : Obj := ⟨(.type L148),none,(.func ⟨S256,S256,L2.defArgs (tp 61),(.stmts (L2.defBody (tp 61))),L2.defScope (tp 61),3,[],.none,.none,.none,.str S214 658,none,.ref 379,.none,0⟩),#[]⟩
noncomputable def o381 (P : Params) : Obj := ⟨(.type L68),none,(.seq #[] 0),#[]⟩
noncomputable def o382 (P : Params) : Obj := ⟨.none,none,(.fields #[]),#[]⟩
noncomputable def o383 (P : Params) : Obj := ⟨(.type L68),none,(.seq #[.str S304 782,.str S307 783,.str S335 784,.str S320 785,.str S305 786,.str S327 787,.str S313 788,.str S314 789,.str S336 790,.str S337 791,.str S309 792,.str S338 793] 0),#[]⟩
noncomputable def o384 (P : Params) : Obj := ⟨(.type L68),none,(.seq #[] 0),#[]⟩
noncomputable def o385 (P : Params) : Obj := ⟨.none,none,(.func ⟨S257,S257,L2.defArgs (tp 62),(.stmts (L2.defBody (tp 62))),L2.defScope (tp 62),0,[],.none,.none,.none,.none,none,.none,.none,0⟩),#[]⟩
noncomputable def o386 (P : Params) : Obj := ⟨(.type L146),none,(.fields #[.str S257 779,.str S257 780,.str S164 781,.int 266 0,.int 1 0,.int 0 0,.int 0 0,.int 3 0,.ref 381,.bool true,.int 181 0,.ref 382,.none,.ref 383,.ref 384,.ref 385,.int 794 0,.int 266 0,.str S164 795]),#[]⟩
noncomputable def o387 (P : Params) : Obj := ⟨(.type L148),none,(.func ⟨S257,S257,L2.defArgs (tp 62),(.stmts (L2.defBody (tp 62))),L2.defScope (tp 62),3,[],.none,.none,.none,.str S214 658,none,.ref 386,.none,0⟩),#[]⟩
noncomputable def t1 : Params → BT := (f boot_o_0 (f boot_o_1 (f o3v2 (f boot_o_7 (f o15 (f o31 (f o63 (f o127 (f o255 z z) (f o383 z z)) (f o191 (f o319 z z) z)) (f o95 (f o159 (f o287 z z) z) (f o223 (f o351 z z) z))) (f o47 (f o79 (f o143 (f o271 z z) z) (f o207 (f o335 z z) z)) (f o111 (f o175 (f o303 z z) z) (f o239 (f o367 z z) z)))) (f o23 (f o39 (f o71 (f o135 (f o263 z z) z) (f o199 (f o327 z z) z)) (f o103 (f o167 (f o295 z z) z) (f o231 (f o359 z z) z))) (f o55 (f o87 (f o151 (f o279 z z) z) (f o215 (f o343 z z) z)) (f o119 (f o183 (f o311 z z) z) (f o247 (f o375 z z) z))))) (f o11 (f o19 (f o35 (f o67 (f o131 (f o259 z z) (f o387 z z)) (f o195 (f o323 z z) z)) (f o99 (f o163 (f o291 z z) z) (f o227 (f o355 z z) z))) (f o51 (f o83 (f o147 (f o275 z z) z) (f o211 (f o339 z z) z)) (f o115 (f o179 (f o307 z z) z) (f o243 (f o371 z z) z)))) (f o27 (f o43 (f o75 (f o139 (f o267 z z) z) (f o203 (f o331 z z) z)) (f o107 (f o171 (f o299 z z) z) (f o235 (f o363 z z) z))) (f o59 (f o91 (f o155 (f o283 z z) z) (f o219 (f o347 z z) z)) (f o123 (f o187 (f o315 z z) z) (f o251 (f o379 z z) z)))))) (f boot_o_5 (f boot_o_9 (f o17 (f o33 (f o65 (f o129 (f o257 z z) (f o385 z z)) (f o193 (f o321 z z) z)) (f o97 (f o161 (f o289 z z) z) (f o225 (f o353 z z) z))) (f o49 (f o81 (f o145 (f o273 z z) z) (f o209 (f o337 z z) z)) (f o113 (f o177 (f o305 z z) z) (f o241 (f o369 z z) z)))) (f o25 (f o41 (f o73 (f o137 (f o265 z z) z) (f o201 (f o329 z z) z)) (f o105 (f o169 (f o297 z z) z) (f o233 (f o361 z z) z))) (f o57 (f o89 (f o153 (f o281 z z) z) (f o217 (f o345 z z) z)) (f o121 (f o185 (f o313 z z) z) (f o249 (f o377 z z) z))))) (f o13 (f o21 (f o37 (f o69 (f o133 (f o261 z z) z) (f o197 (f o325 z z) z)) (f o101 (f o165 (f o293 z z) z) (f o229 (f o357 z z) z))) (f o53 (f o85 (f o149 (f o277 z z) z) (f o213 (f o341 z z) z)) (f o117 (f o181 (f o309 z z) z) (f o245 (f o373 z z) z)))) (f o29 (f o45 (f o77 (f o141 (f o269 z z) z) (f o205 (f o333 z z) z)) (f o109 (f o173 (f o301 z z) z) (f o237 (f o365 z z) z))) (f o61 (f o93 (f o157 (f o285 z z) z) (f o221 (f o349 z z) z)) (f o125 (f o189 (f o317 z z) z) (f o253 (f o381 z z) z))))))) (f boot_o_2 (f boot_o_4 (f boot_o_8 (f o16 (f o32 (f o64 (f o128 (f o256 z z) (f o384 z z)) (f o192 (f o320 z z) z)) (f o96 (f o160 (f o288 z z) z) (f o224 (f o352 z z) z))) (f o48 (f o80 (f o144 (f o272 z z) z) (f o208 (f o336 z z) z)) (f o112 (f o176 (f o304 z z) z) (f o240 (f o368 z z) z)))) (f o24 (f o40 (f o72 (f o136 (f o264 z z) z) (f o200 (f o328 z z) z)) (f o104 (f o168 (f o296 z z) z) (f o232 (f o360 z z) z))) (f o56 (f o88 (f o152 (f o280 z z) z) (f o216 (f o344 z z) z)) (f o120 (f o184 (f o312 z z) z) (f o248 (f o376 z z) z))))) (f o12v2 (f o20 (f o36 (f o68 (f o132 (f o260 z z) z) (f o196 (f o324 z z) z)) (f o100 (f o164 (f o292 z z) z) (f o228 (f o356 z z) z))) (f o52 (f o84 (f o148 (f o276 z z) z) (f o212 (f o340 z z) z)) (f o116 (f o180 (f o308 z z) z) (f o244 (f o372 z z) z)))) (f o28 (f o44 (f o76 (f o140 (f o268 z z) z) (f o204 (f o332 z z) z)) (f o108 (f o172 (f o300 z z) z) (f o236 (f o364 z z) z))) (f o60 (f o92 (f o156 (f o284 z z) z) (f o220 (f o348 z z) z)) (f o124 (f o188 (f o316 z z) z) (f o252 (f o380 z z) z)))))) (f boot_o_6 (f boot_o_10 (f o18 (f o34 (f o66 (f o130 (f o258 z z) (f o386 z z)) (f o194 (f o322 z z) z)) (f o98 (f o162 (f o290 z z) z) (f o226 (f o354 z z) z))) (f o50 (f o82 (f o146 (f o274 z z) z) (f o210 (f o338 z z) z)) (f o114 (f o178 (f o306 z z) z) (f o242 (f o370 z z) z)))) (f o26 (f o42 (f o74 (f o138 (f o266 z z) z) (f o202 (f o330 z z) z)) (f o106 (f o170 (f o298 z z) z) (f o234 (f o362 z z) z))) (f o58 (f o90 (f o154 (f o282 z z) z) (f o218 (f o346 z z) z)) (f o122 (f o186 (f o314 z z) z) (f o250 (f o378 z z) z))))) (f o14 (f o22 (f o38 (f o70 (f o134 (f o262 z z) z) (f o198 (f o326 z z) z)) (f o102 (f o166 (f o294 z z) z) (f o230 (f o358 z z) z))) (f o54 (f o86 (f o150 (f o278 z z) z) (f o214 (f o342 z z) z)) (f o118 (f o182 (f o310 z z) z) (f o246 (f o374 z z) z)))) (f o30 (f o46 (f o78 (f o142 (f o270 z z) z) (f o206 (f o334 z z) z)) (f o110 (f o174 (f o302 z z) z) (f o238 (f o366 z z) z))) (f o62 (f o94 (f o158 (f o286 z z) z) (f o222 (f o350 z z) z)) (f o126 (f o190 (f o318 z z) z) (f o254 (f o382 z z) z))))))))
noncomputable abbrev s1 (w : World) (os : OsState) : SharedT := ⟨t1 w.params,388,{ },(Array.mk []),⟨0,0,0,0⟩,797,os⟩
noncomputable abbrev p1 : Pos := ⟨266,0,286,15⟩
noncomputable abbrev st1 : List Stmt := (pt.main.body.drop 23).take 40
theorem q1 (w : World) : (fun os => segRunT treeTable pt w m0 an 1 1353 (s0 w os) ⟨(execs st1 en).wrap doneF deadEnd id id,cE,p0,B⟩) = fun os => some (.next,s1 w os,cE,p1) := by
  rw [PySem.W.Fast.te10110043849684766642,PySem.W.Fast.te14364793385576792824,PySem.W.Fast.te12563942051412417395]; kernel_rfl
noncomputable def hF (P : Params) : Heap := ⟨⟨[boot_o_0 P,boot_o_1 P,boot_o_2 P,o3v2 P,boot_o_4 P,boot_o_5 P,boot_o_6 P,boot_o_7 P,boot_o_8 P,boot_o_9 P,boot_o_10 P,o11 P,o12v2 P,o13 P,o14 P,o15 P,o16 P,o17 P,o18 P,o19 P,o20 P,o21 P,o22 P,o23 P,o24 P,o25 P,o26 P,o27 P,o28 P,o29 P,o30 P,o31 P,o32 P,o33 P,o34 P,o35 P,o36 P,o37 P,o38 P,o39 P,o40 P,o41 P,o42 P,o43 P,o44 P,o45 P,o46 P,o47 P,o48 P,o49 P,o50 P,o51 P,o52 P,o53 P,o54 P,o55 P,o56 P,o57 P,o58 P,o59 P,o60 P,o61 P,o62 P,o63 P,o64 P,o65 P,o66 P,o67 P,o68 P,o69 P,o70 P,o71 P,o72 P,o73 P,o74 P,o75 P,o76 P,o77 P,o78 P,o79 P,o80 P,o81 P,o82 P,o83 P,o84 P,o85 P,o86 P,o87 P,o88 P,o89 P,o90 P,o91 P,o92 P,o93 P,o94 P,o95 P,o96 P,o97 P,o98 P,o99 P,o100 P,o101 P,o102 P,o103 P,o104 P,o105 P,o106 P,o107 P,o108 P,o109 P,o110 P,o111 P,o112 P,o113 P,o114 P,o115 P,o116 P,o117 P,o118 P,o119 P,o120 P,o121 P,o122 P,o123 P,o124 P,o125 P,o126 P,o127 P,o128 P,o129 P,o130 P,o131 P,o132 P,o133 P,o134 P,o135 P,o136 P,o137 P,o138 P,o139 P,o140 P,o141 P,o142 P,o143 P,o144 P,o145 P,o146 P,o147 P,o148 P,o149 P,o150 P,o151 P,o152 P,o153 P,o154 P,o155 P,o156 P,o157 P,o158 P,o159 P,o160 P,o161 P,o162 P,o163 P,o164 P,o165 P,o166 P,o167 P,o168 P,o169 P,o170 P,o171 P,o172 P,o173 P,o174 P,o175 P,o176 P,o177 P,o178 P,o179 P,o180 P,o181 P,o182 P,o183 P,o184 P,o185 P,o186 P,o187 P,o188 P,o189 P,o190 P,o191 P,o192 P,o193 P,o194 P,o195 P,o196 P,o197 P,o198 P,o199 P,o200 P,o201 P,o202 P,o203 P,o204 P,o205 P,o206 P,o207 P,o208 P,o209 P,o210 P,o211 P,o212 P,o213 P,o214 P,o215 P,o216 P,o217 P,o218 P,o219 P,o220 P,o221 P,o222 P,o223 P,o224 P,o225 P,o226 P,o227 P,o228 P,o229 P,o230 P,o231 P,o232 P,o233 P,o234 P,o235 P,o236 P,o237 P,o238 P,o239 P,o240 P,o241 P,o242 P,o243 P,o244 P,o245 P,o246 P,o247 P,o248 P,o249 P,o250 P,o251 P,o252 P,o253 P,o254 P,o255 P,o256 P,o257 P,o258 P,o259 P,o260 P,o261 P,o262 P,o263 P,o264 P,o265 P,o266 P,o267 P,o268 P,o269 P,o270 P,o271 P,o272 P,o273 P,o274 P,o275 P,o276 P,o277 P,o278 P,o279 P,o280 P,o281 P,o282 P,o283 P,o284 P,o285 P,o286 P,o287 P,o288 P,o289 P,o290 P,o291 P,o292 P,o293 P,o294 P,o295 P,o296 P,o297 P,o298 P,o299 P,o300 P,o301 P,o302 P,o303 P,o304 P,o305 P,o306 P,o307 P,o308 P,o309 P,o310 P,o311 P,o312 P,o313 P,o314 P,o315 P,o316 P,o317 P,o318 P,o319 P,o320 P,o321 P,o322 P,o323 P,o324 P,o325 P,o326 P,o327 P,o328 P,o329 P,o330 P,o331 P,o332 P,o333 P,o334 P,o335 P,o336 P,o337 P,o338 P,o339 P,o340 P,o341 P,o342 P,o343 P,o344 P,o345 P,o346 P,o347 P,o348 P,o349 P,o350 P,o351 P,o352 P,o353 P,o354 P,o355 P,o356 P,o357 P,o358 P,o359 P,o360 P,o361 P,o362 P,o363 P,o364 P,o365 P,o366 P,o367 P,o368 P,o369 P,o370 P,o371 P,o372 P,o373 P,o374 P,o375 P,o376 P,o377 P,o378 P,o379 P,o380 P,o381 P,o382 P,o383 P,o384 P,o385 P,o386 P,o387 P]⟩,{ }⟩
noncomputable abbrev sF (w : World) (os : OsState) : Shared := ⟨hF w.params,(Array.mk []),⟨0,0,0,0⟩,797,os⟩
theorem fin (w : World) : (fun os => topRun treeTable pt w m0 an 2 (s1 w os).abs ⟨doneF .next,cE,p1,B⟩) = fun os => some (sF w os) := by
  rw [PySem.W.Fast.te14082659384304107361,PySem.W.Fast.te14364793385576792824]; kernel_rfl
theorem body_eq : behindTheImports pt = st0 ++ (st1 ++ ([])) := by kernel_rfl
noncomputable abbrev MM : Nat := 12 + (1 + (1995 + (1353 + 2)))
theorem run_eq (w : World) (os : OsState) : topRun treeTable pt w m0 an MM (sZ w os) (topStub pt) = some (sF w os) :=
  go_top (congrFun (pre w) os) (piece_block (congrFun (blk w) os) (body_eq ▸ (piece_app (l := st0) (segRun_of (congrFun (q0 w) os)) (piece_app (l := st1) (segRun_of (congrFun (q1 w) os)) (piece_nil (congrFun (fin w) os))))))
noncomputable def loose : List Str := [S168,S169,S170,S171,S172,S173,S174,S175,S176,S177,S178,S179,S180,S181,S182,S184,S186,S187,S188,S215,S217,S219,S220,S221,S222,S223,S224,S225,S226,S227,S228,S229,S230,S232,S234,S236,S238,S239,S240,S241,S242,S243,S244,S245,S246,S247,S248,S249,S250,S251,S252,S253,S254,S255,S256]
noncomputable abbrev NN : Nat := 6818
noncomputable abbrev q : Program := view pt [62]
noncomputable abbrev Xt : Shared → Bool := fun s => xlAt q [] s && recOk [] s
theorem size (w : World) : ((boot_heap w.params).isNs mainGlobals && (Array.mk [] : Array GenState).size == 0,(boot_heap w.params).objs.size,(boot_heap w.params).nsMap mainGlobals "__annotations__") = (true,m0,an) := by
  rw [PySem.W.Fast.te8920871248978507458]; kernel_rfl
theorem looks (w : World) : (fun os => ((staticsOk (importedModules pt.main.body) (boot_heap w.params) (hF w.params) && namesBound pt (hF w.params) && gensDone (sF w os) && laidKept (boot_heap w.params) (hF w.params)),openSeen q loose (importedModules pt.main.body) Xt true (sF w os),HK.obs (sF w os))) = fun _ => (true,openGood q loose,HK.val w) := by
  rw [PySem.W.Fast.te4187177175401517315,PySem.W.Fast.te5923862056798008813]; kernel_rfl
theorem left : LeftO pt q loose Xt HK.obs HK.val NN true := LeftO.of_pieces (boot_open (by kernel_rfl) (by decide) (fun s => rfl)) size run_eq (by decide) looks
end Hd
open PySem PySem.W PyProof.Rows
set_option maxRecDepth 100000 in
set_option maxHeartbeats 0 in
theorem PySem.Challenge.cw_platecuts_k91_whole_pictures_holds : PySem.Challenge.rw_platecuts_k91_whole_pictures.Holds := by
  w_on; o_law
  refine holds_open (q := view PySem.Challenge.pw_platecuts_k91_whole_pictures [62]) (loose := Hd.loose) (Xt := fun s => xlAt (view PySem.Challenge.pw_platecuts_k91_whole_pictures [62]) [] s && recOk [] s) (XP := XL (view PySem.Challenge.pw_platecuts_k91_whole_pictures [62]) []) (Yf := Hook.obs Hd.HK) (Ya := Hook.val Hd.HK) (YP := InK Pc.kK) (N := Hd.NN) ?hl (Hook.of Hd.HK) (Hook.keeps Hd.HK) (fun s e => xl_of s (Bool.and_eq_true_iff.mp e).1) XL.keeps (by rfl) (by rfl) (by rfl) (fun s e => recFacts_of (Bool.and_eq_true_iff.mp e).2) (by rfl) (by first | assumption | decide +kernel) (by decide +kernel) ⟨rfl,rfl,rfl,rfl,rfl,by decide +kernel⟩ ?hw ?hc
  case hl => exact Hd.pt_eq ▸ Hd.left
  case hw => w_witness2
  k_fill
  refine Pc.walk (l := PySem.Challenge.rw_platecuts_k91_whole_pictures) rfl rfl (fun w h Y => Y) ?F
  case F =>
    intro w mg fa h KX G hmg
    refine' Pc.all_mk KX G hmg ?a0 ?l0 ?c0 ?k0 ?a1 ?l1 ?c1 ?k1 ?a2 ?l2 ?c2 ?k2 ?a3 ?l3 ?c3 ?k3 ?a4 ?l4 ?c4 ?k4 ?a5 ?l5 ?c5 ?k5 ?a6 ?l6 ?c6 ?k6 ?a7 ?l7 ?c7 ?k7 ?a8 ?l8 ?c8 ?k8 ?a9 ?l9 ?c9 ?k9 ?a10 ?l10 ?c10 ?k10 ?a11 ?l11 ?c11 ?k11 ?a12 ?l12 ?c12 ?k12 ?a13 ?l13 ?c13 ?k13 ?a14 ?l14 ?c14 ?k14 ?a15 ?l15 ?c15 ?k15 ?a16 ?l16 ?c16 ?k16 ?a17 ?l17 ?c17 ?k17 ?a18 ?l18 ?c18 ?k18 ?a19 ?l19 ?c19 ?k19 ?a20 ?l20 ?c20 ?k20 ?a21 ?l21 ?c21 ?k21 ?a22 ?l22 ?c22 ?k22 ?a23 ?l23 ?c23 ?k23 ?a24 ?l24 ?c24 ?k24 ?a25 ?l25 ?c25 ?k25 ?a26 ?l26 ?c26 ?k26 ?a27 ?l27 ?c27 ?k27 ?a28 ?l28 ?c28 ?k28 ?a29 ?l29 ?c29 ?k29 ?a30 ?l30 ?c30 ?k30 ?aC ?am0 ?im0 ?lm0 ?cm0 ?km0 ?am1 ?im1 ?lm1 ?cm1 ?km1 ?am2 ?im2 ?lm2 ?cm2 ?km2 ?am3 ?im3 ?lm3 ?cm3 ?km3 ?am4 ?im4 ?lm4 ?cm4 ?km4 ?pg ?hd ?po ?sa ?mk ?kc ?n0 ?n1 ?eNoLying ?eWAYS ?cNoLying ?lWAYS ?z0 ?z1 ?z2 ?z3 ?z4 ?z5 ?z6 ?z7 ?z8 ?z9 ?z10 ?z11 ?z12 ?z13 ?z14 ?z15 ?z16 ?z17 ?z18 ?uc0 ?uc1 ?uc2 ?uc3 ?uc4 ?uc5 ?uc6 ?uc7 ?uc8 ?uc9 ?uc10 ?uc11 ?uc12
    (case a0 => k_is)
    (case l0 => k_is)
    (case c0 => k_is)
    (case k0 => k_is)
    (case a1 => k_is)
    (case l1 => k_is)
    (case c1 => k_is)
    (case k1 => k_is)
    (case a2 => k_is)
    (case l2 => k_is)
    (case c2 => k_is)
    (case k2 => k_is)
    (case a3 => k_is)
    (case l3 => k_is)
    (case c3 => k_is)
    (case k3 => k_is)
    (case a4 => k_is)
    (case l4 => k_is)
    (case c4 => k_is)
    (case k4 => k_is)
    (case a5 => k_is)
    (case l5 => k_is)
    (case c5 => k_is)
    (case k5 => k_is)
    (case a6 => k_is)
    (case l6 => k_is)
    (case c6 => k_is)
    (case k6 => k_is)
    (case a7 => k_is)
    (case l7 => k_is)
    (case c7 => k_is)
    (case k7 => k_is)
    (case a8 => k_is)
    (case l8 => k_is)
    (case c8 => k_is)
    (case k8 => k_is)
    (case a9 => k_is)
    (case l9 => k_is)
    (case c9 => k_is)
    (case k9 => k_is)
    (case a10 => k_is)
    (case l10 => k_is)
    (case c10 => k_is)
    (case k10 => k_is)
    (case a11 => k_is)
    (case l11 => k_is)
    (case c11 => k_is)
    (case k11 => k_is)
    (case a12 => k_is)
    (case l12 => k_is)
    (case c12 => k_is)
    (case k12 => k_is)
    (case a13 => k_is)
    (case l13 => k_is)
    (case c13 => k_is)
    (case k13 => k_is)
    (case a14 => k_is)
    (case l14 => k_is)
    (case c14 => k_is)
    (case k14 => k_is)
    (case a15 => k_is)
    (case l15 => k_is)
    (case c15 => k_is)
    (case k15 => k_is)
    (case a16 => k_is)
    (case l16 => k_is)
    (case c16 => k_is)
    (case k16 => k_is)
    (case a17 => k_is)
    (case l17 => k_is)
    (case c17 => k_is)
    (case k17 => k_is)
    (case a18 => k_is)
    (case l18 => k_is)
    (case c18 => k_is)
    (case k18 => k_is)
    (case a19 => k_is)
    (case l19 => k_is)
    (case c19 => k_is)
    (case k19 => k_is)
    (case a20 => k_is)
    (case l20 => k_is)
    (case c20 => k_is)
    (case k20 => k_is)
    (case a21 => k_is)
    (case l21 => k_is)
    (case c21 => k_is)
    (case k21 => k_is)
    (case a22 => k_is)
    (case l22 => k_is)
    (case c22 => k_is)
    (case k22 => k_is)
    (case a23 => k_is)
    (case l23 => k_is)
    (case c23 => k_is)
    (case k23 => k_is)
    (case a24 => k_is)
    (case l24 => k_is)
    (case c24 => k_is)
    (case k24 => k_is)
    (case a25 => k_is)
    (case l25 => k_is)
    (case c25 => k_is)
    (case k25 => k_is)
    (case a26 => k_is)
    (case l26 => k_is)
    (case c26 => k_is)
    (case k26 => k_is)
    (case a27 => k_is)
    (case l27 => k_is)
    (case c27 => k_is)
    (case k27 => k_is)
    (case a28 => k_is)
    (case l28 => k_is)
    (case c28 => k_is)
    (case k28 => k_is)
    (case a29 => k_is)
    (case l29 => k_is)
    (case c29 => k_is)
    (case k29 => k_is)
    (case a30 => k_is)
    (case l30 => k_is)
    (case c30 => k_is)
    (case k30 => k_is)
    (case aC => k_is)
    (case am0 => k_is)
    (case im0 => k_is)
    (case lm0 => k_is)
    (case cm0 => k_is)
    (case km0 => k_is)
    (case am1 => k_is)
    (case im1 => k_is)
    (case lm1 => k_is)
    (case cm1 => k_is)
    (case km1 => k_is)
    (case am2 => k_is)
    (case im2 => k_is)
    (case lm2 => k_is)
    (case cm2 => k_is)
    (case km2 => k_is)
    (case am3 => k_is)
    (case im3 => k_is)
    (case lm3 => k_is)
    (case cm3 => k_is)
    (case km3 => k_is)
    (case am4 => k_is)
    (case im4 => k_is)
    (case lm4 => k_is)
    (case cm4 => k_is)
    (case km4 => k_is)
    (case pg => k_is)
    (case hd => k_is)
    (case po => k_is)
    (case sa => k_is)
    (case mk => k_is)
    (case kc => k_is)
    (case n0 => k_is)
    (case n1 => k_is)
    (case eNoLying => k_is)
    (case eWAYS => k_is)
    (case cNoLying => k_exc)
    (case lWAYS => exact ⟨_,_,_,rfl,rfl,rfl,by decide,.cons ⟨_,rfl⟩ (.cons ⟨_,rfl⟩ .nil)⟩)
    (case z0 => k_is)
    (case z1 => k_is)
    (case z2 => k_is)
    (case z3 => k_is)
    (case z4 => k_is)
    (case z5 => k_is)
    (case z6 => k_is)
    (case z7 => k_is)
    (case z8 => k_is)
    (case z9 => k_is)
    (case z10 => k_is)
    (case z11 => k_is)
    (case z12 => k_is)
    (case z13 => k_is)
    (case z14 => k_is)
    (case z15 => k_is)
    (case z16 => k_is)
    (case z17 => k_is)
    (case z18 => k_is)
    (case uc0 => k_is)
    (case uc1 => k_is)
    (case uc2 => k_is)
    (case uc3 => k_is)
    (case uc4 => k_is)
    (case uc5 => k_is)
    (case uc6 => k_is)
    (case uc7 => k_is)
    (case uc8 => k_is)
    (case uc9 => k_is)
    (case uc10 => k_is)
    (case uc11 => k_is)
    (case uc12 => k_is)